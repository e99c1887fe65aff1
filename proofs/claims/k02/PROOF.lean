import PyProof.Rows.All
import Wide.All
import OpenK.AllK
import Wide.FinOn
import HandS.ForMost
import HandS.Defaults
import HandS.MakeKwOnly
import HandS.OwnEq
import HandS.IsInst
import HandS.DictComp
import HandS.SortInts
import HandS.WideMore
import HandS.Walk
import HandS.Head0
import HandS.Head1
import HandS.Head2
import HandS.HeadEnd
import HandS.HeadHook1
import HandS.HeadHook2
import HandS.HeadHook3
import HandS.HeadHook4
import KE.KStateDown
import HandS.NoneIn
import HandS.TupMul
import HandS.TupAny
import HandS.ExcInit
import HandS.FStr
import KE.KExcIs
import HandS.Style
import PySem.Challenge.RW_spikehold_k02_plain_objects
set_option Elab.async false
set_option linter.all false
set_option maxRecDepth 100000
namespace Y
open PySem L2

/-! ### facts that grow with the heap -/
def Gw (H H' : Hp) : Prop := ∀ a o, H a = some o → H' a = some o
theorem Gw.refl (H : Hp) : Gw H H := fun _ _ h => h
theorem Gw.trans {H H1 H2 : Hp} (a : Gw H H1) (b : Gw H1 H2) : Gw H H2 := fun x o h => b x o (a x o h)
theorem Gw.new {H : Hp} {p : Addr} {o : HO} (h : H p = none) : Gw H (upd H p o) := fun a u e => by
  rw [upd_ne (ne_of_none e h)]
  exact e
theorem Gw.mut {H H' : Hp} {p : Addr} {o : HO} (e : Gw H H') (h : H p = none) : Gw H (upd H' p o) := fun a u ha => by
  rw [upd_ne (ne_of_none ha h)]
  exact e a u ha
theorem Gw.free {H H' : Hp} {p : Addr} (e : Gw H H') (h : H' p = none) : H p = none := by
  cases h1 : H p with
  | none => rfl
  | some o =>
    rw [e p o h1] at h
    cases h

/-- what a value is, by a heap that only grows -/
structure Pr where
  p : Hp → V → Prop
  m : ∀ {H H' : Hp} {v : V}, Gw H H' → p H v → p H' v
def pI (i : Int) : Pr := ⟨fun _ v => v = .int i, fun _ h => h⟩
def pB (b : Bool) : Pr := ⟨fun _ v => v = .bl b, fun _ h => h⟩
def pS (s : Str) : Pr := ⟨fun _ v => v = .str s, fun _ h => h⟩
def pN : Pr := ⟨fun _ v => v = .non, fun _ h => h⟩
def pOpt {α : Type} (r : α → Pr) : Option α → Pr
  | none => pN
  | some a => r a
/-- values one by one -/
def Sat (H : Hp) : List V → List Pr → Prop
  | [], [] => True
  | v :: vs, P :: Ps => P.p H v ∧ Sat H vs Ps
  | _, _ => False
theorem Sat.m {H H' : Hp} (e : Gw H H') : ∀ {vs : List V} {Ps : List Pr}, Sat H vs Ps → Sat H' vs Ps
  | [], [], _ => trivial
  | _ :: _, P :: _, h => ⟨P.m e h.1, Sat.m e h.2⟩
  | [], _ :: _, h => h.elim
  | _ :: _, [], h => h.elim
theorem Sat.len {H : Hp} : ∀ {vs : List V} {Ps : List Pr}, Sat H vs Ps → vs.length = Ps.length
  | [], [], _ => rfl
  | _ :: _, _ :: _, h => congrArg Nat.succ (Sat.len h.2)
  | [], _ :: _, h => h.elim
  | _ :: _, [], h => h.elim
theorem Sat.get {H : Hp} : ∀ {vs : List V} {Ps : List Pr} {i : Nat} {P : Pr}, Sat H vs Ps → Ps[i]? = some P → ∃ v, vs[i]? = some v ∧ P.p H v
  | [], [], _, _, _, e => by simp at e
  | v :: _, P :: _, 0, _, h, e => by
    simp at e
    subst e
    exact ⟨v, rfl, h.1⟩
  | v :: vs, P :: Ps, i + 1, _, h, e => by
    obtain ⟨w, h1, h2⟩ := Sat.get (i := i) h.2 (by simpa using e)
    exact ⟨w, by simpa using h1, h2⟩
  | [], _ :: _, _, _, h, _ => h.elim
  | _ :: _, [], _, _, h, _ => h.elim
theorem Sat.getv {H : Hp} {vs : List V} {Ps : List Pr} {i : Nat} {v : V} (h : Sat H vs Ps) (e : vs[i]? = some v) : ∃ P, Ps[i]? = some P ∧ P.p H v := by
  have hi : i < vs.length := (List.getElem?_eq_some_iff.mp e).1
  have hj : i < Ps.length := h.len ▸ hi
  obtain ⟨w, h1, h2⟩ := h.get (List.getElem?_eq_getElem hj)
  rw [e] at h1
  cases h1
  exact ⟨_, List.getElem?_eq_getElem hj, h2⟩
theorem Sat.app {H : Hp} : ∀ {vs : List V} {Ps : List Pr} {ws : List V} {Qs : List Pr}, Sat H vs Ps → Sat H ws Qs → Sat H (vs ++ ws) (Ps ++ Qs)
  | [], [], _, _, _, q => q
  | _ :: _, _ :: _, _, _, h, q => ⟨h.1, Sat.app h.2 q⟩
  | [], _ :: _, _, _, h, _ => h.elim
  | _ :: _, [], _, _, h, _ => h.elim
theorem Sat.snoc {H : Hp} {vs : List V} {Ps : List Pr} {v : V} {P : Pr} (h : Sat H vs Ps) (q : P.p H v) : Sat H (vs ++ [v]) (Ps ++ [P]) := h.app ⟨q, trivial⟩
theorem Sat.set {H : Hp} {v : V} {P : Pr} (q : P.p H v) : ∀ {vs : List V} {Ps : List Pr} (i : Nat), Sat H vs Ps → Sat H (vs.set i v) (Ps.set i P)
  | [], [], _, h => h
  | _ :: _, _ :: _, 0, h => ⟨q, h.2⟩
  | _ :: _, _ :: _, i + 1, h => ⟨h.1, Sat.set q i h.2⟩
  | [], _ :: _, _, h => h.elim
  | _ :: _, [], _, h => h.elim
theorem Sat.drop {H : Hp} : ∀ {vs : List V} {Ps : List Pr} (n : Nat), Sat H vs Ps → Sat H (vs.drop n) (Ps.drop n)
  | _, _, 0, h => h
  | [], [], _ + 1, h => h
  | _ :: _, _ :: _, n + 1, h => Sat.drop n h.2
  | [], _ :: _, _ + 1, h => h.elim
  | _ :: _, [], _ + 1, h => h.elim
theorem Sat.take {H : Hp} : ∀ {vs : List V} {Ps : List Pr} (n : Nat), Sat H vs Ps → Sat H (vs.take n) (Ps.take n)
  | _, _, 0, _ => trivial
  | [], [], _ + 1, h => h
  | _ :: _, _ :: _, n + 1, h => ⟨h.1, Sat.take n h.2⟩
  | [], _ :: _, _ + 1, h => h.elim
  | _ :: _, [], _ + 1, h => h.elim
theorem Sat.erase {H : Hp} : ∀ {vs : List V} {Ps : List Pr} (i : Nat), Sat H vs Ps → Sat H (vs.eraseIdx i) (Ps.eraseIdx i)
  | [], [], _, h => h
  | _ :: _, _ :: _, 0, h => h.2
  | _ :: _, _ :: _, i + 1, h => ⟨h.1, Sat.erase i h.2⟩
  | [], _ :: _, _, h => h.elim
  | _ :: _, [], _, h => h.elim

/-! ### what owns a region: the value, the addresses -/
structure Ow where
  p : Hp → Hp → V → List Addr → Prop
  m : ∀ {G G' H H' : Hp} {v : V} {L : List Addr}, Gw G G' → (∀ a ∈ L, H' a = H a) → p G H v L → p G' H' v L
/-- one object -/
def oW (W : Hp → HO → Prop) (m : ∀ {G G' : Hp} {o : HO}, Gw G G' → W G o → W G' o) : Ow :=
  ⟨fun G H v L => ∃ a o, v = .ref a ∧ L = [a] ∧ H a = some o ∧ W G o, fun e k ⟨a, o, h1, h2, h3, h4⟩ => ⟨a, o, h1, h2, by rw [k a (by rw [h2]; exact List.mem_singleton.mpr rfl)]; exact h3, m e h4⟩⟩
def wL (Ps : List Pr) (G : Hp) (o : HO) : Prop := ∃ vs, o = .lst vs ∧ Sat G vs Ps ∧ vs.length ≤ sizeLine
def wO (C : Addr) (ns : List Str) (Ps : List Pr) (G : Hp) (o : HO) : Prop := ∃ dx vs, o = .ins C dx (ns.zip vs) ∧ Sat G vs Ps
theorem wL.m {Ps : List Pr} {G G' : Hp} {o : HO} (e : Gw G G') : wL Ps G o → wL Ps G' o := fun ⟨vs, h1, h2, h3⟩ => ⟨vs, h1, h2.m e, h3⟩
theorem wO.m {C : Addr} {ns : List Str} {Ps : List Pr} {G G' : Hp} {o : HO} (e : Gw G G') : wO C ns Ps G o → wO C ns Ps G' o := fun ⟨dx, vs, h1, h2⟩ => ⟨dx, vs, h1, h2.m e⟩
/-- a dict of ints and texts -/
def SatK (H : Hp) : List (Key × V) → List (Key × Pr) → Prop
  | [], [] => True
  | v :: vs, P :: Ps => v.1 = P.1 ∧ P.2.p H v.2 ∧ SatK H vs Ps
  | _, _ => False
theorem SatK.m {H H' : Hp} (e : Gw H H') : ∀ {vs : List (Key × V)} {Ps : List (Key × Pr)}, SatK H vs Ps → SatK H' vs Ps
  | [], [], _ => trivial
  | _ :: _, P :: _, h => ⟨h.1, P.2.m e h.2.1, SatK.m e h.2.2⟩
  | [], _ :: _, h => h.elim
  | _ :: _, [], h => h.elim
def wD (Ps : List (Key × Pr)) (G : Hp) (o : HO) : Prop := ∃ vs, o = .dK vs ∧ SatK G vs Ps
theorem wD.m {Ps : List (Key × Pr)} {G G' : Hp} {o : HO} (e : Gw G G') : wD Ps G o → wD Ps G' o := fun ⟨vs, h1, h2⟩ => ⟨vs, h1, h2.m e⟩
def oL (Ps : List Pr) : Ow := oW (wL Ps) wL.m
def oO (C : Addr) (ns : List Str) (Ps : List Pr) : Ow := oW (wO C ns Ps) wO.m
def oD (Ps : List (Key × Pr)) : Ow := oW (wD Ps) wD.m
/-- an object that no one changes -/
def pW (W : Hp → HO → Prop) (m : ∀ {G G' : Hp} {o : HO}, Gw G G' → W G o → W G' o) : Pr := ⟨fun H v => ∃ a o, v = .ref a ∧ H a = some o ∧ W H o, fun e ⟨a, o, h1, h2, h3⟩ => ⟨a, o, h1, e _ _ h2, m e h3⟩⟩
/-- a list; a tuple; an object of the class at C; a dict -/
def pL (Ps : List Pr) : Pr := pW (wL Ps) wL.m
def pO (C : Addr) (ns : List Str) (Ps : List Pr) : Pr := pW (wO C ns Ps) wO.m
def pD (Ps : List (Key × Pr)) : Pr := pW (wD Ps) wD.m
def pT (Ps : List Pr) : Pr := ⟨fun H v => ∃ a vs, v = .ref a ∧ H a = some (.tup vs) ∧ Sat H vs Ps, fun e ⟨a, vs, h1, h2, h3⟩ => ⟨a, vs, h1, e _ _ h2, h3.m e⟩⟩
/-- the script: a list that the caller froze -/
def pScr (K : PySem.W.Frag) (ns : List Int) : Pr := ⟨fun H v => ∃ a, v = .ref a ∧ SqL K H a (ns.map V.int) ∧ ns.length ≤ 63, fun e ⟨a, h1, h2, h3⟩ => ⟨a, h1, Same.seq e h2, h3⟩⟩

/-! ### slots -/
inductive Slot where
  | any
  | val (P : Pr)
  | own (W : Ow)
abbrev Ctx := List Slot
def SlotOk (G H : Hp) (L : List Addr) : Slot → Option (Option V) → Prop
  | .any, _ => True
  | .val P, some (some v) => P.p G v
  | .own W, some (some v) => W.p G H v L
  | _, _ => False
/-- growth: G what no one changes, H the whole -/
structure Gr (G H G' H' : Hp) : Prop where
  g : Gw G G'
  h : Gw H H'
  s : Gw G' H'
  f : ∀ a, H a ≠ none → G a = none → G' a = none
theorem Gr.refl {G H : Hp} (s : Gw G H) : Gr G H G H := ⟨Gw.refl G, Gw.refl H, s, fun _ _ h => h⟩
theorem Gr.trans {G H G1 H1 G2 H2 : Hp} (a : Gr G H G1 H1) (b : Gr G1 H1 G2 H2) : Gr G H G2 H2 :=
  ⟨a.g.trans b.g, a.h.trans b.h, b.s, fun x hx gx => b.f x (fun z => hx (a.h.free z)) (a.f x hx gx)⟩
theorem gw_upd {G H : Hp} {p : Addr} {o : HO} (s : Gw G H) : Gw (upd G p o) (upd H p o) := fun a u e => by
  by_cases z : a = p
  · subst z
    rw [upd_same] at e ⊢
    exact e
  · rw [upd_ne z] at e ⊢
    exact s a u e
/-- a new object that no one will change -/
theorem Gr.new {G H : Hp} {p : Addr} {o : HO} (s : Gw G H) (hp : H p = none) : Gr G H (upd G p o) (upd H p o) :=
  ⟨Gw.new (s.free hp), Gw.new hp, gw_upd s, fun a ha ga => by
    have z : a ≠ p := fun z => ha (z ▸ hp)
    rw [upd_ne z]
    exact ga⟩
/-- a new object, tracked alone -/
theorem Gr.lay {G H : Hp} {p : Addr} {o : HO} (s : Gw G H) (hp : H p = none) : Gr G H G (upd H p o) := ⟨Gw.refl G, Gw.new hp, s.trans (Gw.new hp), fun _ _ h => h⟩
/-- where a body stands: the heaps at its entry, what else is known -/
structure Fm where
  G : Hp
  H : Hp
  X : Hp → Prop
  m : ∀ {H H' : Hp}, Gw H H' → X H → X H'
structure EOk1 (F : Fm) (Γ : Ctx) (σ : St) (G H : Hp) (Ls : Nat → List Addr) : Prop where
  gr : Gr F.G F.H G H
  x : F.X G
  len : σ.length = Γ.length
  at_ : ∀ (i : Nat) (sl : Slot), Γ[i]? = some sl → SlotOk G H (Ls i) sl σ[i]?
  fr : ∀ (i : Nat) (W : Ow), Γ[i]? = some (.own W) → ∀ a ∈ Ls i, G a = none ∧ F.H a = none ∧ H a ≠ none
  dis : ∀ (i j : Nat) (W W' : Ow), Γ[i]? = some (.own W) → Γ[j]? = some (.own W') → i ≠ j → ∀ a ∈ Ls i, a ∉ Ls j
def EOk (F : Fm) (Γ : Ctx) (σ : St) (G H : Hp) : Prop := ∃ Ls, EOk1 F Γ σ G H Ls
theorem SlotOk.val_ {G H : Hp} {L : List Addr} {P : Pr} {o : Option (Option V)} (h : SlotOk G H L (.val P) o) : ∃ v, o = some (some v) ∧ P.p G v := by
  cases o with
  | none => exact h.elim
  | some v =>
    cases v with
    | none => exact h.elim
    | some v => exact ⟨v, rfl, h⟩
theorem SlotOk.own_ {G H : Hp} {L : List Addr} {W : Ow} {o : Option (Option V)} (h : SlotOk G H L (.own W) o) : ∃ v, o = some (some v) ∧ W.p G H v L := by
  cases o with
  | none => exact h.elim
  | some v =>
    cases v with
    | none => exact h.elim
    | some v => exact ⟨v, rfl, h⟩
/-- G grows, H stays on L -/
theorem SlotOk.go {G H G' H' : Hp} {L : List Addr} {sl : Slot} {o : Option (Option V)} (g : Gw G G') (k : ∀ W, sl = .own W → ∀ a ∈ L, H' a = H a) (h : SlotOk G H L sl o) : SlotOk G' H' L sl o := by
  cases sl with
  | any => trivial
  | val P =>
    obtain ⟨v, rfl, q⟩ := h.val_
    exact P.m g q
  | own W =>
    obtain ⟨v, rfl, q⟩ := h.own_
    exact W.m g (k W rfl) q
theorem Gw.at {H H' : Hp} (e : Gw H H') {a : Addr} (h : H a ≠ none) : H' a = H a := by
  cases z : H a with
  | none => exact absurd z h
  | some o => exact e a o z
section
variable {F : Fm} {Γ : Ctx} {σ : St} {G H G' H' : Hp} {Ls : Nat → List Addr} {i : Nat} {P : Pr} {W W' : Ow} {v : V}
theorem EOk.grow (e : EOk F Γ σ G H) (g : Gr G H G' H') : EOk F Γ σ G' H' := by
  obtain ⟨Ls, e⟩ := e
  exact ⟨Ls, e.gr.trans g, F.m g.g e.x, e.len, fun i sl h => (e.at_ i sl h).go g.g (fun W hW a ha => g.h.at (e.fr i W (hW ▸ h) a ha).2.2),
    fun i W h a ha => ⟨g.f a (e.fr i W h a ha).2.2 (e.fr i W h a ha).1, (e.fr i W h a ha).2.1, fun z => (e.fr i W h a ha).2.2 (g.h.free z)⟩, e.dis⟩
theorem EOk.s (e : EOk F Γ σ G H) : Gw G H := let ⟨_, e⟩ := e; e.gr.s
theorem EOk.len (e : EOk F Γ σ G H) : σ.length = Γ.length := let ⟨_, e⟩ := e; e.len
theorem EOk.val (e : EOk F Γ σ G H) (h : Γ[i]? = some (.val P)) : ∃ v, σ[i]? = some (some v) ∧ P.p G v := by
  obtain ⟨Ls, e⟩ := e
  exact (e.at_ i _ h).val_
theorem set_get {α : Type} {l : List α} {i j : Nat} {x y : α} (h : (l.set i x)[j]? = some y) : (i = j ∧ i < l.length ∧ y = x) ∨ (i ≠ j ∧ l[j]? = some y) := by
  by_cases z : i = j
  · subst z
    by_cases hi : i < l.length
    · rw [List.getElem?_set_self hi] at h
      exact .inl ⟨rfl, hi, (Option.some.inj h).symm⟩
    · rw [List.getElem?_eq_none (by rw [List.length_set]; omega)] at h
      cases h
  · rw [List.getElem?_set_ne z] at h
    exact .inr ⟨z, h⟩
theorem lt_of_get {α : Type} {l : List α} {i : Nat} {x : α} (h : l[i]? = some x) : i < l.length := (List.getElem?_eq_some_iff.mp h).1
/-- slot i gets a value -/
theorem EOk.set (e : EOk F Γ σ G H) (h : P.p G v) (hi : i < Γ.length) : EOk F (Γ.set i (.val P)) (σ.set i (some v)) G H := by
  obtain ⟨Ls, e⟩ := e
  have hi2 : i < σ.length := e.len ▸ hi
  have bk : ∀ {j : Nat} {W : Ow}, (Γ.set i (.val P))[j]? = some (.own W) → Γ[j]? = some (.own W) := fun {j W} hj => by
    rcases set_get hj with ⟨_, _, z⟩ | ⟨_, z⟩
    · cases z
    · exact z
  refine ⟨Ls, e.gr, e.x, by rw [List.length_set, List.length_set, e.len], fun j sl hj => ?_, fun j W hj => e.fr j W (bk hj), fun j k W W' hj hk => e.dis j k W W' (bk hj) (bk hk)⟩
  rcases set_get hj with ⟨rfl, _, rfl⟩ | ⟨z, hj⟩
  · rw [List.getElem?_set_self hi2]
    exact h
  · rw [List.getElem?_set_ne z]
    exact e.at_ j sl hj
/-- slot i gets a region of its own -/
theorem EOk.setOwn {L : List Addr} (e : EOk F Γ σ G H) (g : Gr G H G' H') (hL : ∀ a ∈ L, H a = none ∧ G' a = none ∧ H' a ≠ none) (hw : W.p G' H' v L) (hi : i < Γ.length) : EOk F (Γ.set i (.own W)) (σ.set i (some v)) G' H' := by
  have e' := e.grow g
  obtain ⟨Ls, e⟩ := e
  have hi2 : i < σ.length := e.len ▸ hi
  have em : ∀ {j : Nat} {sl : Slot}, Γ[j]? = some sl → SlotOk G' H' (Ls j) sl σ[j]? := fun {j sl} h => (e.at_ j sl h).go g.g (fun W hW a ha => g.h.at (e.fr j W (hW ▸ h) a ha).2.2)
  have fm : ∀ {j : Nat} {W : Ow}, Γ[j]? = some (.own W) → ∀ a ∈ Ls j, G' a = none ∧ F.H a = none ∧ H' a ≠ none := fun {j W} h a ha =>
    ⟨g.f a (e.fr j W h a ha).2.2 (e.fr j W h a ha).1, (e.fr j W h a ha).2.1, fun z => (e.fr j W h a ha).2.2 (g.h.free z)⟩
  refine ⟨fun j => if j = i then L else Ls j, e.gr.trans g, F.m g.g e.x, by rw [List.length_set, List.length_set, e.len], fun j sl hj => ?_, fun j W1 hj a ha => ?_, fun j k W1 W2 hj hk ne a ha => ?_⟩
  · rcases set_get hj with ⟨rfl, _, rfl⟩ | ⟨z, hj⟩
    · rw [List.getElem?_set_self hi2, if_pos rfl]
      exact hw
    · rw [List.getElem?_set_ne z, if_neg (Ne.symm z)]
      exact em hj
  · rcases set_get hj with ⟨rfl, _, _⟩ | ⟨z, hj⟩
    · rw [if_pos rfl] at ha
      exact ⟨(hL a ha).2.1, e.gr.h.free (hL a ha).1, (hL a ha).2.2⟩
    · rw [if_neg (Ne.symm z)] at ha
      exact fm hj a ha
  · rcases set_get hj with ⟨rfl, _, _⟩ | ⟨z, hj⟩
    · rw [if_pos rfl] at ha
      rw [if_neg (Ne.symm ne)]
      rcases set_get hk with ⟨e1, _, _⟩ | ⟨_, hk⟩
      · exact absurd e1 ne
      · exact fun q => (e.fr k W2 hk a q).2.2 (hL a ha).1
    · rw [if_neg (Ne.symm z)] at ha
      rcases set_get hk with ⟨rfl, _, _⟩ | ⟨z2, hk⟩
      · rw [if_pos rfl]
        exact fun q => (e.fr j W1 hj a ha).2.2 (hL a q).1
      · rw [if_neg (Ne.symm z2)]
        exact e.dis j k W1 W2 hj hk ne a ha
/-- the region of slot i has changed -/
theorem EOk1.mut {L : List Addr} (e : EOk1 F Γ σ G H Ls) (hi : Γ[i]? = some (.own W)) (hσ : σ[i]? = some (some v)) (ho : ∀ a, a ∉ Ls i → H a ≠ none → H' a = H a) (hw : W'.p G H' v L) (hL : ∀ a ∈ L, a ∈ Ls i ∨ H a = none) (hn : ∀ a ∈ L, H' a ≠ none) :
    EOk F (Γ.set i (.own W')) σ G H' := by
  have hi1 : i < Γ.length := lt_of_get hi
  have off : ∀ {a : Addr}, H a ≠ none → (a ∈ Ls i → False) → H' a = H a := fun {a} h n => ho a n h
  have sG : Gw G H' := fun a o h => by
    have h1 := e.gr.s a o h
    rw [off (by rw [h1]; exact fun z => nomatch z) (fun q => by rw [(e.fr i W hi a q).1] at h; cases h)]
    exact h1
  have sH : Gw F.H H' := fun a o h => by
    have h1 := e.gr.h a o h
    rw [off (by rw [h1]; exact fun z => nomatch z) (fun q => by rw [(e.fr i W hi a q).2.1] at h; cases h)]
    exact h1
  refine ⟨fun j => if j = i then L else Ls j, ⟨e.gr.g, sH, sG, e.gr.f⟩, e.x, by rw [List.length_set, e.len], fun j sl hj => ?_, fun j W1 hj a ha => ?_, fun j k W1 W2 hj hk ne a ha => ?_⟩
  · rcases set_get hj with ⟨rfl, _, rfl⟩ | ⟨z, hj⟩
    · rw [hσ, if_pos rfl]
      exact hw
    · rw [if_neg (Ne.symm z)]
      exact (e.at_ j sl hj).go (Gw.refl G) (fun W2 hW a ha => off (e.fr j W2 (hW ▸ hj) a ha).2.2 (fun q => e.dis j i W2 W (hW ▸ hj) hi (Ne.symm z) a ha q))
  · rcases set_get hj with ⟨rfl, _, _⟩ | ⟨z, hj⟩
    · rw [if_pos rfl] at ha
      rcases hL a ha with q | q
      · exact ⟨(e.fr _ W hi a q).1, (e.fr _ W hi a q).2.1, hn a ha⟩
      · exact ⟨e.gr.s.free q, e.gr.h.free q, hn a ha⟩
    · rw [if_neg (Ne.symm z)] at ha
      have f := e.fr j W1 hj a ha
      exact ⟨f.1, f.2.1, by rw [off f.2.2 (fun q => e.dis j i W1 W hj hi (Ne.symm z) a ha q)]; exact f.2.2⟩
  · rcases set_get hj with ⟨rfl, _, _⟩ | ⟨z, hj⟩
    · rw [if_pos rfl] at ha
      rw [if_neg (Ne.symm ne)]
      rcases set_get hk with ⟨e1, _, _⟩ | ⟨_, hk⟩
      · exact absurd e1 ne
      · rcases hL a ha with q | q
        · exact e.dis _ k W W2 hi hk ne a q
        · exact fun q2 => (e.fr k W2 hk a q2).2.2 q
    · rw [if_neg (Ne.symm z)] at ha
      rcases set_get hk with ⟨rfl, _, _⟩ | ⟨z2, hk⟩
      · rw [if_pos rfl]
        intro q
        rcases hL a q with q | q
        · exact e.dis j _ W1 W hj hi ne a ha q
        · exact (e.fr j W1 hj a ha).2.2 q
      · rw [if_neg (Ne.symm z2)]
        exact e.dis j k W1 W2 hj hk ne a ha
/-- a region that will not change any more -/
def Frz (W : Ow) (P : Pr) : Prop := ∀ (G H : Hp) (v : V) (L : List Addr), Gw G H → (∀ a ∈ L, G a = none) → W.p G H v L → ∃ G', Gw G G' ∧ Gw G' H ∧ (∀ a, a ∉ L → G' a = G a) ∧ P.p G' v
theorem frz_W {w : Hp → HO → Prop} {m : ∀ {G G' : Hp} {o : HO}, Gw G G' → w G o → w G' o} : Frz (oW w m) (pW w m) := fun G H v L s hL ⟨a, o, h1, h2, h3, h4⟩ => by
  subst h2
  have ga : G a = none := hL a (List.mem_singleton.mpr rfl)
  refine ⟨upd G a o, Gw.new ga, fun b u hb => ?_, fun b hb => upd_ne (fun z => hb (List.mem_singleton.mpr z)), a, o, h1, upd_same, m (Gw.new ga) h4⟩
  by_cases z : b = a
  · subst z
    rw [upd_same] at hb
    cases hb
    exact h3
  · rw [upd_ne z] at hb
    exact s b u hb
theorem frz_L {Ps : List Pr} : Frz (oL Ps) (pL Ps) := frz_W
theorem frz_O {C : Addr} {ns : List Str} {Ps : List Pr} : Frz (oO C ns Ps) (pO C ns Ps) := frz_W
theorem frz_D {Ps : List (Key × Pr)} : Frz (oD Ps) (pD Ps) := frz_W
theorem EOk.frz (e : EOk F Γ σ G H) (f : Frz W P) (hi : Γ[i]? = some (.own W)) : ∃ G', Gw G G' ∧ EOk F (Γ.set i (.val P)) σ G' H := by
  obtain ⟨Ls, e⟩ := e
  obtain ⟨v, s1, hw⟩ := (e.at_ i _ hi).own_
  obtain ⟨G', g1, g2, g3, hp⟩ := f G H v (Ls i) e.gr.s (fun a ha => (e.fr i W hi a ha).1) hw
  have bk : ∀ {j : Nat} {W1 : Ow}, (Γ.set i (.val P))[j]? = some (.own W1) → i ≠ j ∧ Γ[j]? = some (.own W1) := fun {j W1} hj => by
    rcases set_get hj with ⟨_, _, z⟩ | ⟨z, h⟩
    · cases z
    · exact ⟨z, h⟩
  have off : ∀ {a : Addr}, (a ∈ Ls i → False) → G' a = G a := fun {a} n => g3 a n
  refine ⟨G', g1, Ls, ⟨e.gr.g.trans g1, e.gr.h, g2, fun a ha ga => ?_⟩, F.m g1 e.x, by rw [List.length_set, e.len], fun j sl hj => ?_, fun j W1 hj a ha => ?_, fun j k W1 W2 hj hk => e.dis j k W1 W2 (bk hj).2 (bk hk).2⟩
  · rw [off (fun q => ha (e.fr i W hi a q).2.1)]
    exact e.gr.f a ha ga
  · rcases set_get hj with ⟨rfl, _, rfl⟩ | ⟨z, hj⟩
    · rw [s1]
      exact hp
    · exact (e.at_ j sl hj).go g1 (fun _ _ _ _ => rfl)
  · obtain ⟨z, hj⟩ := bk hj
    have f := e.fr j W1 hj a ha
    exact ⟨by rw [off (fun q => e.dis j i W1 W hj hi (Ne.symm z) a ha q)]; exact f.1, f.2⟩
/-- less is said of slot i -/
theorem EOk.drop (e : EOk F Γ σ G H) (i : Nat) : EOk F (Γ.set i .any) σ G H := by
  obtain ⟨Ls, e⟩ := e
  have bk : ∀ {j : Nat} {W1 : Ow}, (Γ.set i .any)[j]? = some (.own W1) → Γ[j]? = some (.own W1) := fun {j W1} hj => by
    rcases set_get hj with ⟨_, _, z⟩ | ⟨z, h⟩
    · cases z
    · exact h
  refine ⟨Ls, e.gr, e.x, by rw [List.length_set, e.len], fun j sl hj => ?_, fun j W1 hj => e.fr j W1 (bk hj), fun j k W1 W2 hj hk => e.dis j k W1 W2 (bk hj) (bk hk)⟩
  rcases set_get hj with ⟨rfl, _, rfl⟩ | ⟨z, hj⟩
  · trivial
  · exact e.at_ j sl hj
/-- slot i forgotten, in both -/
theorem EOk.wipe1 (e : EOk F Γ σ G H) (i : Nat) : EOk F (Γ.set i .any) (σ.set i none) G H := by
  obtain ⟨Ls, e⟩ := e.drop i
  refine ⟨Ls, e.gr, e.x, by rw [List.length_set]; exact e.len, fun j sl hj => ?_, e.fr, e.dis⟩
  have q := e.at_ j sl hj
  rcases set_get hj with ⟨rfl, _, rfl⟩ | ⟨z, _⟩
  · trivial
  · rw [List.getElem?_set_ne z]
    exact q
theorem EOk.more {X' : Hp → Prop} {m' : ∀ {H H' : Hp}, Gw H H' → X' H → X' H'} (e : EOk F Γ σ G H) (h : X' G) : EOk ⟨F.G, F.H, fun H => F.X H ∧ X' H, fun g q => ⟨F.m g q.1, m' g q.2⟩⟩ Γ σ G H := by
  obtain ⟨Ls, e⟩ := e
  exact ⟨Ls, e.gr, ⟨e.x, h⟩, e.len, e.at_, e.fr, e.dis⟩
theorem EOk.less {X' : Hp → Prop} {m' : ∀ {H H' : Hp}, Gw H H' → (F.X H ∧ X' H) → (F.X H' ∧ X' H')} (e : EOk ⟨F.G, F.H, fun H => F.X H ∧ X' H, m'⟩ Γ σ G H) : EOk F Γ σ G H ∧ X' G := by
  obtain ⟨Ls, e⟩ := e
  exact ⟨⟨Ls, e.gr, e.x.1, e.len, e.at_, e.fr, e.dis⟩, e.x.2⟩
end
def wipeC (Γ : Ctx) : List Nat → Ctx
  | [] => Γ
  | v :: vs => (wipeC Γ vs).set v .any
theorem EOk.wipe {F : Fm} {Γ : Ctx} {σ : St} {G H : Hp} (e : EOk F Γ σ G H) : ∀ vs : List Nat, EOk F (wipeC Γ vs) (L2.wipe σ vs) G H
  | [] => e
  | v :: vs => (EOk.wipe e vs).wipe1 v
end Y

set_option Elab.async false
set_option linter.all false
set_option maxRecDepth 100000
namespace Y
open PySem L2
section
variable {K : PySem.W.Frag} {Γ : Ctx} {te ta tb ti : TE} {t u : TT} {P P1 P2 Q1 : Pr} {Ps Qs : List Pr} {W : Ow} {i j : Int} {n : Nat}
/-! ### what an expression is -/
def EvE (te : TE) (Γ : Ctx) (P : Pr) : Prop := ∀ (F : Fm) (σ : St) (G H : Hp), EOk F Γ σ G H → ∀ Q : VK, (∀ v G' H', Gr G H G' H' → P.p G' v → Q v H') → te σ H Q
/-- a new region -/
def EvW (te : TE) (Γ : Ctx) (W : Ow) : Prop := ∀ (F : Fm) (σ : St) (G H : Hp), EOk F Γ σ G H → ∀ Q : VK, (∀ v L G' H', Gr G H G' H' → (∀ a ∈ L, H a = none ∧ G' a = none ∧ H' a ≠ none) → W.p G' H' v L → Q v H') → te σ H Q
/-- a list to be read -/
def EvR (K : PySem.W.Frag) (te : TE) (Γ : Ctx) (Ps : List Pr) : Prop := ∀ (F : Fm) (σ : St) (G H : Hp), EOk F Γ σ G H → ∀ Q : VK, (∀ a vs G' H', Gr G H G' H' → SqL K H' a vs → Sat G' vs Ps → vs.length ≤ sizeLine → Q (.ref a) H') → te σ H Q
/-- .. that is tracked -/
def EvS (te : TE) (Γ : Ctx) (Ps : List Pr) : Prop := ∀ (F : Fm) (σ : St) (G H : Hp), EOk F Γ σ G H → ∀ Q : VK, (∀ a vs G' H', Gr G H G' H' → H' a = some (.lst vs) → Sat G' vs Ps → vs.length ≤ sizeLine → Q (.ref a) H') → te σ H Q
def EvT (t : TT) (Γ : Ctx) (b : Bool) : Prop := ∀ (F : Fm) (σ : St) (G H : Hp), EOk F Γ σ G H → ∀ Q : Bool → Hp → Prop, (∀ G' H', Gr G H G' H' → Q b H') → t σ H Q
def EvA (ta : TA) (Γ : Ctx) (Ps : List Pr) : Prop := ∀ (F : Fm) (σ : St) (G H : Hp), EOk F Γ σ G H → ∀ Q : List V → Hp → Prop, (∀ vs G' H', Gr G H G' H' → Sat G' vs Ps → Q vs H') → ta σ H Q
def EvO (to : TO) (Γ : Ctx) (o : Option Int) : Prop := ∀ (F : Fm) (σ : St) (G H : Hp), EOk F Γ σ G H → ∀ Q : Option Int → Hp → Prop, (∀ G' H', Gr G H G' H' → Q o H') → to σ H Q

theorem e_to {P' : Pr} (h : EvE te Γ P) (e : P = P') : EvE te Γ P' := e ▸ h
theorem t_to {b b' : Bool} (h : EvT t Γ b) (e : b = b') : EvT t Γ b' := e ▸ h
theorem e_var {i : Nat} (h : Γ[i]? = some (.val P)) : EvE (tVar i) Γ P := fun F σ G H e Q q => by
  obtain ⟨v, h1, h2⟩ := e.val h
  exact ⟨v, h1, q v G H (Gr.refl e.s) h2⟩
theorem e_int : EvE (tC (.int i)) Γ (pI i) := fun F σ G H e Q q => q _ G H (Gr.refl e.s) rfl
theorem e_bl {b : Bool} : EvE (tC (.bl b)) Γ (pB b) := fun F σ G H e Q q => q _ G H (Gr.refl e.s) rfl
theorem e_non : EvE (tC .non) Γ pN := fun F σ G H e Q q => q _ G H (Gr.refl e.s) rfl
theorem e_str {s : Str} : EvE (tC (.str s)) Γ (pS s) := fun F σ G H e Q q => q _ G H (Gr.refl e.s) rfl
theorem e_frz (f : Frz W P) (h : EvW te Γ W) : EvE te Γ P := fun F σ G H e Q q => h F σ G H e Q fun v L G' H' g hL hw => by
  obtain ⟨G2, g1, g2, g3, hp⟩ := f G' H' v L g.s (fun a ha => (hL a ha).2.1) hw
  refine q v G2 H' ⟨g.g.trans g1, g.h, g2, fun a ha ga => ?_⟩ hp
  rw [g3 a (fun z => ha (hL a z).1)]
  exact g.f a ha ga
theorem e_L (h : EvW te Γ (oL Ps)) : EvE te Γ (pL Ps) := e_frz frz_L h
theorem sL_E (h : EvE te Γ (pL Ps)) : EvS te Γ Ps := fun F σ G H e Q q => h F σ G H e Q fun v G' H' g ⟨a, o, h1, h2, vs, h3, h4, h5⟩ => by
  subst h1 h3
  exact q a vs G' H' g (g.s _ _ h2) h4 h5
theorem sL_W (h : EvW te Γ (oL Ps)) : EvS te Γ Ps := sL_E (e_L h)
theorem sL_O {i : Nat} (h : Γ[i]? = some (.own (oL Ps))) : EvS (tVar i) Γ Ps := fun F σ G H e Q q => by
  obtain ⟨Ls, e1⟩ := e
  obtain ⟨v, h1, a, o, h2, h3, h4, vs, h5, h6, h7⟩ := (e1.at_ i _ h).own_
  subst h2 h5
  exact ⟨_, h1, q a vs G H (Gr.refl e1.gr.s) h4 h6 h7⟩
theorem r_S (h : EvS te Γ Ps) : EvR K te Γ Ps := fun F σ G H e Q q => h F σ G H e Q fun a vs G' H' g h1 h2 h3 => q a vs G' H' g (SqL.of h1) h2 h3
theorem r_E (h : EvE te Γ (pL Ps)) : EvR K te Γ Ps := r_S (sL_E h)
theorem r_W (h : EvW te Γ (oL Ps)) : EvR K te Γ Ps := r_S (sL_W h)
theorem r_O {i : Nat} (h : Γ[i]? = some (.own (oL Ps))) : EvR K (tVar i) Γ Ps := r_S (sL_O h)
theorem sat_ints {H : Hp} : ∀ ns : List Int, Sat H (ns.map V.int) (ns.map pI)
  | [] => trivial
  | _ :: r => ⟨rfl, sat_ints r⟩
theorem r_scr {ns : List Int} (h : EvE te Γ (pScr K ns)) : EvR K te Γ (ns.map pI) := fun F σ G H e Q q => h F σ G H e Q fun v G' H' g ⟨a, h1, h2, h3⟩ => by
  subst h1
  refine q a _ G' H' g (Same.seq g.s h2) (sat_ints ns) ?_
  rw [List.length_map]
  exact Nat.le_trans h3 (by decide)
theorem r_to {Ps' : List Pr} (h : EvR K te Γ Ps) (e : Ps = Ps') : EvR K te Γ Ps' := e ▸ h

/-! ### operators -/
def RR (r : R2) (P1 P2 P : Pr) : Prop := ∀ (G H : Hp) (x y : V) (Q : VK), Gw G H → P1.p G x → P2.p G y → (∀ v G' H', Gr G H G' H' → P.p G' v → Q v H') → r x y H Q
theorem e_op {r : R2} (hr : RR r P1 P2 P) (ha : EvE ta Γ P1) (hb : EvE tb Γ P2) : EvE (tOp r ta tb) Γ P := fun F σ G H e Q q =>
  ha F σ G H e _ fun x G1 H1 g1 p1 => hb F σ G1 H1 (e.grow g1) _ fun y G2 H2 g2 p2 => hr G2 H2 x y Q g2.s (P1.m g2.g p1) p2 fun v G3 H3 g3 p3 => q v G3 H3 ((g1.trans g2).trans g3) p3
theorem rr_I {C : Int → Int → Prop} {g : Int → Int → Int} (h : C i j) : RR (rI C fun i j => .int (g i j)) (pI i) (pI j) (pI (g i j)) := fun G H x y Q s hx hy q => ⟨i, j, hx, hy, h, q _ G H (Gr.refl s) rfl⟩
theorem rr_I0 {g : Int → Int → Int} : RR (rI0 fun i j => .int (g i j)) (pI i) (pI j) (pI (g i j)) := fun G H x y Q s hx hy q => ⟨i, j, hx, hy, q _ G H (Gr.refl s) rfl⟩
theorem rr_B0 {g : Int → Int → Bool} : RR (rI0 fun i j => .bl (g i j)) (pI i) (pI j) (pB (g i j)) := fun G H x y Q s hx hy q => ⟨i, j, hx, hy, q _ G H (Gr.refl s) rfl⟩
theorem rr_eqI : RR rEq (pI i) (pI j) (pB (decide (i = j))) := fun G H x y Q s hx hy q => by
  cases hx
  cases hy
  refine ⟨rfl, ?_⟩
  refine q _ G H (Gr.refl s) ?_
  show V.bl _ = V.bl _
  rw [dec_int] <;> rfl
theorem rr_neI : RR rNe (pI i) (pI j) (pB (!decide (i = j))) := fun G H x y Q s hx hy q => by
  cases hx
  cases hy
  refine ⟨rfl, ?_⟩
  refine q _ G H (Gr.refl s) ?_
  show V.bl _ = V.bl _
  rw [dec_int] <;> rfl
theorem rr_eqB {a b : Bool} : RR rEq (pB a) (pB b) (pB (a == b)) := fun G H x y Q s hx hy q => by
  cases hx
  cases hy
  refine ⟨rfl, ?_⟩
  refine q _ G H (Gr.refl s) ?_
  show V.bl _ = V.bl _
  rw [dec_bl]
theorem rr_neB {a b : Bool} : RR rNe (pB a) (pB b) (pB (!(a == b))) := fun G H x y Q s hx hy q => by
  cases hx
  cases hy
  refine ⟨rfl, ?_⟩
  refine q _ G H (Gr.refl s) ?_
  show V.bl _ = V.bl _
  rw [dec_bl]
theorem rr_eqS {a b : Str} : RR rEq (pS a) (pS b) (pB (a == b)) := fun G H x y Q s hx hy q => by
  cases hx
  cases hy
  refine ⟨rfl, ?_⟩
  refine q _ G H (Gr.refl s) ?_
  show V.bl _ = V.bl _
  rw [dec_str]
theorem rr_neS {a b : Str} : RR rNe (pS a) (pS b) (pB (!(a == b))) := fun G H x y Q s hx hy q => by
  cases hx
  cases hy
  refine ⟨rfl, ?_⟩
  refine q _ G H (Gr.refl s) ?_
  show V.bl _ = V.bl _
  rw [dec_str]
/-- None or an int, compared -/
theorem rr_eqOI {a b : Option Int} : RR rEq (pOpt pI a) (pOpt pI b) (pB (a == b)) := fun G H x y Q s hx hy q => by
  cases a <;> cases b <;> cases hx <;> cases hy <;> refine ⟨rfl, q _ G H (Gr.refl s) ?_⟩
  · rfl
  · rfl
  · rfl
  · show V.bl _ = V.bl _
    rw [dec_int] <;> rfl
theorem rr_neOI {a b : Option Int} : RR rNe (pOpt pI a) (pOpt pI b) (pB (!(a == b))) := fun G H x y Q s hx hy q => by
  cases a <;> cases b <;> cases hx <;> cases hy <;> refine ⟨rfl, q _ G H (Gr.refl s) ?_⟩
  · rfl
  · rfl
  · rfl
  · show V.bl _ = V.bl _
    rw [dec_int] <;> rfl
/-- is None -/
def NN {α : Type} (r : α → Pr) : Prop := ∀ (a : α) (H : Hp), ¬ (r a).p H .non
theorem nn_I : NN pI := fun _ _ h => nomatch (show V.non = V.int _ from h)
theorem nn_S : NN pS := fun _ _ h => nomatch (show V.non = V.str _ from h)
theorem nn_B : NN pB := fun _ _ h => nomatch (show V.non = V.bl _ from h)
theorem nn_W {α : Type} {W : α → Hp → HO → Prop} {m : ∀ a, ∀ {G G' : Hp} {o : HO}, Gw G G' → W a G o → W a G' o} : NN (fun a => pW (W a) (m a)) := fun _ _ ⟨_, _, h, _⟩ => nomatch h
theorem nn_T {α : Type} {f : α → List Pr} : NN (fun a => pT (f a)) := fun _ _ ⟨_, _, h, _⟩ => nomatch h
abbrev rIsN : R2 := fun x y H Q => y = .non ∧ Q (.bl (decide (x = .non))) H
abbrev rNotN : R2 := fun x y H Q => y = .non ∧ Q (.bl (!decide (x = .non))) H
theorem opt_non {α : Type} {r : α → Pr} (hn : NN r) {o : Option α} {G : Hp} {x : V} (h : (pOpt r o).p G x) : decide (x = .non) = o.isNone := by
  cases o with
  | none => exact decide_eq_true h
  | some a => exact decide_eq_false fun z => hn a G (z ▸ h)
theorem rr_isN {α : Type} {r : α → Pr} (hn : NN r) {o : Option α} : RR rIsN (pOpt r o) pN (pB o.isNone) := fun G H x y Q s hx hy q => ⟨hy, q _ G H (Gr.refl s) (congrArg V.bl (opt_non hn hx))⟩
theorem rr_notN {α : Type} {r : α → Pr} (hn : NN r) {o : Option α} : RR rNotN (pOpt r o) pN (pB o.isSome) := fun G H x y Q s hx hy q => ⟨hy, q _ G H (Gr.refl s) (congrArg V.bl (by rw [opt_non hn hx]; cases o <;> rfl))⟩
/-- texts -/
abbrev rCatS : R2 := fun x y H Q => ∃ i j, x = .str i ∧ y = .str j ∧ i.length + j.length ≤ sizeLine ∧ Q (.str (i ++ j)) H
theorem rr_catS {a b : Str} (h : a.length + b.length ≤ sizeLine) : RR rCatS (pS a) (pS b) (pS (a ++ b)) := fun G H x y Q s hx hy q => ⟨a, b, hx, hy, h, q _ G H (Gr.refl s) rfl⟩
/-- one operand -/
def RU (r : V → Hp → VK → Prop) (P1 P : Pr) : Prop := ∀ (G H : Hp) (x : V) (Q : VK), Gw G H → P1.p G x → (∀ v G' H', Gr G H G' H' → P.p G' v → Q v H') → r x H Q
theorem e_un {r : V → Hp → VK → Prop} (hr : RU r P1 P) (ha : EvE ta Γ P1) : EvE (tUn r ta) Γ P := fun F σ G H e Q q =>
  ha F σ G H e _ fun x G1 H1 g1 p1 => hr G1 H1 x Q g1.s p1 fun v G2 H2 g2 p2 => q v G2 H2 (g1.trans g2) p2
theorem ru_I {g : Int → Int} : RU (rU fun i => .int (g i)) (pI i) (pI (g i)) := fun G H x Q s hx q => ⟨i, hx, q _ G H (Gr.refl s) rfl⟩

/-! ### lists -/
theorem sat_atI {H : Hp} {vs : List V} {k : Int} (s : Sat H vs Ps) (h : atI Ps k = some P) : ∃ v, atI vs k = some v ∧ P.p H v := by
  unfold atI at h ⊢
  rw [← s.len] at h
  cases z : ixN vs.length k with
  | none =>
    rw [z] at h
    cases h
  | some m =>
    rw [z] at h
    exact s.get h
theorem e_ixL {k : Int} (hl : EvR K ta Γ Ps) (hi : EvE tb Γ (pI k)) (h : atI Ps k = some P) : EvE (tOp (rIxL K) ta tb) Γ P := fun F σ G H e Q q =>
  hl F σ G H e _ fun a vs G1 H1 g1 s1 s2 _ => hi F σ G1 H1 (e.grow g1) _ fun y G2 H2 g2 p2 => by
    obtain ⟨v, h1, h2⟩ := sat_atI (s2.m g2.g) h
    exact ⟨a, vs, k, v, rfl, p2, Same.seq g2.h s1, h1, q v G2 H2 (g1.trans g2) h2⟩
theorem e_ixT {k : Int} (hl : EvE ta Γ (pT Ps)) (hi : EvE tb Γ (pI k)) (h : atI Ps k = some P) : EvE (tOp (rIxT K) ta tb) Γ P := fun F σ G H e Q q =>
  hl F σ G H e _ fun x G1 H1 g1 ⟨a, vs, e1, s1, s2⟩ => hi F σ G1 H1 (e.grow g1) _ fun y G2 H2 g2 p2 => by
    obtain ⟨v, h1, h2⟩ := sat_atI (s2.m g2.g) h
    exact ⟨a, vs, k, v, e1, p2, SqT.of (g2.s _ _ (g2.g _ _ s1)), h1, q v G2 H2 (g1.trans g2) h2⟩
abbrev rLenS (K : PySem.W.Frag) : List V → Hp → VK → Prop := fun xs H Q => ∃ p ys, xs = [.ref p] ∧ (SqL K H p ys ∨ SqT K H p ys) ∧ Q (.int ys.length) H
theorem e_len (hl : EvR K ta Γ Ps) : EvE (tCB (rLenS K) (tCons ta tNil)) Γ (pI (Ps.length : Int)) := fun F σ G H e Q q =>
  hl F σ G H e _ fun a vs G1 H1 g1 s1 s2 _ => ⟨a, vs, rfl, .inl s1, q _ G1 H1 g1 (by rw [s2.len] <;> rfl)⟩
theorem e_lenT (hl : EvE ta Γ (pT Ps)) : EvE (tCB (rLenS K) (tCons ta tNil)) Γ (pI (Ps.length : Int)) := fun F σ G H e Q q =>
  hl F σ G H e _ fun x G1 H1 g1 ⟨a, vs, e1, s1, s2⟩ => ⟨a, vs, by rw [e1], .inr (SqT.of (g1.s _ _ s1)), q _ G1 H1 g1 (by rw [s2.len] <;> rfl)⟩
/-- new lists -/
theorem Gr.layL {G H : Hp} {p : Addr} {vs : List V} (s : Gw G H) (hp : H p = none) (hs : Sat G vs Ps) (hl : vs.length ≤ sizeLine) : (∀ a ∈ [p], H a = none ∧ G a = none ∧ (upd H p (.lst vs)) a ≠ none) ∧ (oL Ps).p G (upd H p (.lst vs)) (.ref p) [p] := by
  refine ⟨fun a ha => ?_, p, .lst vs, rfl, rfl, upd_same, vs, rfl, hs, hl⟩
  have z : a = p := List.mem_singleton.mp ha
  subst z
  exact ⟨hp, s.free hp, by rw [upd_same]; exact fun z => nomatch z⟩
/-- behind a growth -/
theorem lay_back {G H G1 H1 : Hp} {p : Addr} {vs : List V} (g : Gr G H G1 H1) (hp : H1 p = none) (hs : Sat G1 vs Ps) (hl : vs.length ≤ sizeLine) :
    Gr G H G1 (upd H1 p (.lst vs)) ∧ (∀ a ∈ [p], H a = none ∧ G1 a = none ∧ (upd H1 p (.lst vs)) a ≠ none) ∧ (oL Ps).p G1 (upd H1 p (.lst vs)) (.ref p) [p] := by
  have q := Gr.layL g.s hp hs hl
  refine ⟨g.trans (Gr.lay g.s hp), fun a ha => ⟨g.h.free (q.1 a ha).1, (q.1 a ha).2⟩, q.2⟩
abbrev rListS (K : PySem.W.Frag) : List V → Hp → VK → Prop := fun xs H Q => ∃ p ys, xs = [.ref p] ∧ (SqL K H p ys ∨ SqT K H p ys) ∧ ∀ l, H l = none → Q (.ref l) (upd H l (.lst ys))
theorem w_list (hl : EvR K ta Γ Ps) : EvW (tCB (rListS K) (tCons ta tNil)) Γ (oL Ps) := fun F σ G H e Q q =>
  hl F σ G H e _ fun a vs G1 H1 g1 s1 s2 s3 => ⟨a, vs, rfl, .inl s1, fun l hl => by
    obtain ⟨g2, k1, k2⟩ := lay_back g1 hl s2 s3
    exact q _ _ _ _ g2 k1 k2⟩
theorem w_lst {ts : TA} (h : EvA ts Γ Ps) (hn : Ps.length ≤ 1000) : EvW (tLst ts) Γ (oL Ps) := fun F σ G H e Q q =>
  h F σ G H e _ fun vs G1 H1 g1 s1 => by
    have hz : vs.length ≤ sizeLine := s1.len ▸ Nat.le_trans hn (by decide)
    exact ⟨hz, fun l hl => by
      obtain ⟨g2, k1, k2⟩ := lay_back g1 hl s1 hz
      exact q _ _ _ _ g2 k1 k2⟩
theorem e_tup {ts : TA} (h : EvA ts Γ Ps) (hn : Ps.length ≤ 1000) : EvE (tTup ts) Γ (pT Ps) := fun F σ G H e Q q =>
  h F σ G H e _ fun vs G1 H1 g1 s1 => by
    have hz : vs.length ≤ sizeLine := s1.len ▸ Nat.le_trans hn (by decide)
    exact ⟨hz, fun l hl => q _ _ _ (g1.trans (Gr.new g1.s hl)) ⟨l, vs, rfl, upd_same, s1.m (Gr.new (o := .tup vs) g1.s hl).g⟩⟩
theorem w_cat (ha : EvS ta Γ Ps) (hb : EvS tb Γ Qs) (hn : Ps.length + Qs.length ≤ sizeLine) : EvW (tOp rCat ta tb) Γ (oL (Ps ++ Qs)) := fun F σ G H e Q q =>
  ha F σ G H e _ fun a vs G1 H1 g1 h1 s1 _ => hb F σ G1 H1 (e.grow g1) _ fun b ws G2 H2 g2 h2 s2 _ => by
    have hz : (vs ++ ws).length ≤ sizeLine := by
      rw [List.length_append, s1.len, s2.len]
      exact hn
    refine ⟨a, b, vs, ws, rfl, rfl, g2.h _ _ h1, h2, by rw [s1.len, s2.len]; exact hn, fun l hl => ?_⟩
    obtain ⟨g3, k1, k2⟩ := lay_back (g1.trans g2) hl ((s1.m g2.g).app s2) hz
    exact q _ _ _ _ g3 k1 k2
theorem sat_rep {H : Hp} {vs : List V} (s : Sat H vs Ps) : ∀ n : Nat, Sat H (List.replicate n vs).flatten (List.replicate n Ps).flatten
  | 0 => trivial
  | n + 1 => by
    rw [List.replicate_succ, List.replicate_succ, List.flatten_cons, List.flatten_cons]
    exact s.app (sat_rep s n)
theorem w_rep {k : Int} (ha : EvS ta Γ Ps) (hb : EvE tb Γ (pI k)) (hk : -(2 ^ 63) ≤ k ∧ k < 2 ^ 63) (hn : Ps.length * k.toNat ≤ sizeLine) : EvW (tOp rRep ta tb) Γ (oL (List.replicate k.toNat Ps).flatten) := fun F σ G H e Q q =>
  ha F σ G H e _ fun a vs G1 H1 g1 h1 s1 _ => hb F σ G1 H1 (e.grow g1) _ fun y G2 H2 g2 p2 => by
    have hs := sat_rep (s1.m g2.g) k.toNat
    have hz : (List.replicate k.toNat vs).flatten.length ≤ sizeLine := by
      rw [List.length_flatten, List.map_replicate, List.sum_replicate_nat, s1.len, Nat.mul_comm]
      exact hn
    refine ⟨a, k, vs, rfl, p2, g2.h _ _ h1, hk.1, hk.2, by rw [s1.len]; exact hn, fun l hl => ?_⟩
    obtain ⟨g3, k1, k2⟩ := lay_back (g1.trans g2) hl hs hz
    exact q _ _ _ _ g3 k1 k2
def cutP {α : Type} (xs : List α) (lo hi : Option Int) : List α := (xs.drop (HT.sIx xs.length 0 lo)).take (HT.sIx xs.length xs.length hi - HT.sIx xs.length 0 lo)
theorem o_none : EvO tNoPart Γ none := fun F σ G H e Q q => q G H (Gr.refl e.s)
theorem o_some (h : EvE te Γ (pI i)) : EvO (tPart te) Γ (some i) := fun F σ G H e Q q => h F σ G H e _ fun v G' H' g p => ⟨i, p, q G' H' g⟩
theorem w_slice {tl th : TO} {lo hi : Option Int} (hx : EvR K ta Γ Ps) (hl : EvO tl Γ lo) (hh : EvO th Γ hi) : EvW (tSl (rSlL K) ta tl th) Γ (oL (cutP Ps lo hi)) := fun F σ G H e Q q =>
  hx F σ G H e _ fun a vs G1 H1 g1 s1 s2 s3 => hl F σ G1 H1 (e.grow g1) _ fun G2 H2 g2 => hh F σ G2 H2 ((e.grow g1).grow g2) _ fun G3 H3 g3 => by
    have s4 : Sat G3 (cutV vs lo hi) (cutP Ps lo hi) := by
      unfold cutV cutP
      rw [← s2.len]
      exact ((s2.m (g2.g.trans g3.g)).drop _).take _
    have hz : (cutV vs lo hi).length ≤ sizeLine := by
      unfold cutV
      rw [List.length_take, List.length_drop]
      omega
    refine ⟨a, vs, rfl, Same.seq (g2.h.trans g3.h) s1, fun l hl => ?_⟩
    obtain ⟨g4, k1, k2⟩ := lay_back ((g1.trans g2).trans g3) hl s4 hz
    exact q _ _ _ _ g4 k1 k2
/-- x in xs, ints -/
theorem any_eqV (x : Int) : ∀ {H : Hp} {vs : List V} {xs : List Int}, Sat H vs (xs.map pI) → vs.all flatV = true ∧ inV (.int x) vs = decide (x ∈ xs)
  | _, [], [], _ => ⟨rfl, rfl⟩
  | _, v :: vs, y :: ys, h => by
    obtain ⟨h1, h2⟩ := h
    have h1' : v = .int y := h1
    subst h1'
    obtain ⟨a, b⟩ := any_eqV x h2
    refine ⟨by rw [List.all_cons, a] <;> rfl, ?_⟩
    unfold inV at b ⊢
    rw [List.any_cons, b]
    by_cases z : x = y
    · subst z
      simp [eqV]
    · have : (eqV (V.int y) (V.int x)) = false := by
        show (y == x) = false
        exact beq_eq_false_iff_ne.mpr (Ne.symm z)
      rw [this]
      simp [z]
  | _, [], _ :: _, h => h.elim
  | _, _ :: _, [], h => h.elim
theorem e_inL {x : Int} {xs : List Int} (ha : EvE ta Γ (pI x)) (hb : EvR K tb Γ (xs.map pI)) : EvE (tOp (rIn K false) ta tb) Γ (pB (decide (x ∈ xs))) := fun F σ G H e Q q =>
  ha F σ G H e _ fun y G1 H1 g1 p1 => hb F σ G1 H1 (e.grow g1) _ fun a vs G2 H2 g2 s1 s2 _ => by
    have p1' : y = .int x := p1
    subst p1'
    obtain ⟨k1, k2⟩ := any_eqV x s2
    refine ⟨a, vs, rfl, .inl s1, rfl, k1, q _ G2 H2 (g1.trans g2) ?_⟩
    show V.bl _ = V.bl _
    rw [if_neg Bool.false_ne_true, k2]
theorem e_notInL {x : Int} {xs : List Int} (ha : EvE ta Γ (pI x)) (hb : EvR K tb Γ (xs.map pI)) : EvE (tOp (rIn K true) ta tb) Γ (pB (!decide (x ∈ xs))) := fun F σ G H e Q q =>
  ha F σ G H e _ fun y G1 H1 g1 p1 => hb F σ G1 H1 (e.grow g1) _ fun a vs G2 H2 g2 s1 s2 _ => by
    have p1' : y = .int x := p1
    subst p1'
    obtain ⟨k1, k2⟩ := any_eqV x s2
    refine ⟨a, vs, rfl, .inl s1, rfl, k1, q _ G2 H2 (g1.trans g2) ?_⟩
    show V.bl _ = V.bl _
    rw [if_pos rfl, k2]

/-! ### fields -/
theorem lookup_zip {f : Str} : ∀ {ns : List Str} {vs : List V} {i : Nat} {v : V}, ns.Nodup → ns[i]? = some f → vs[i]? = some v → (ns.zip vs).lookup f = some v
  | [], _, _, _, _, h, _ => by simp at h
  | _ :: _, [], _, _, _, _, h => by simp at h
  | n :: ns, w :: vs, 0, v, nd, h1, h2 => by
    simp at h1 h2
    subst h1 h2
    simp [List.lookup]
  | n :: ns, w :: vs, i + 1, v, nd, h1, h2 => by
    have h1' : ns[i]? = some f := by simpa using h1
    have h2' : vs[i]? = some v := by simpa using h2
    have ne : (f == n) = false := by
      refine beq_eq_false_iff_ne.mpr fun z => (List.nodup_cons.mp nd).1 ?_
      rw [← z]
      exact List.mem_of_getElem? h1'
    rw [List.zip_cons_cons, List.lookup_cons, ne]
    exact lookup_zip (List.nodup_cons.mp nd).2 h1' h2'
theorem e_fld {C : Addr} {ns : List Str} {f : Str} {i : Nat} (c : Cls K C) (n : NoAttr K C f) (nd : ns.Nodup) (hi : ns[i]? = some f) (hP : Ps[i]? = some P) (h : EvE ta Γ (pO C ns Ps)) : EvE (tFld K ta f) Γ P := fun F σ G H e Q q =>
  h F σ G H e _ fun v G1 H1 g1 ⟨a, o, e1, e2, dx, vs, e3, s⟩ => by
    subst e1 e3
    obtain ⟨w, h1, h2⟩ := s.get hP
    exact ⟨a, C, dx, _, w, rfl, g1.s _ _ e2, c, n, lookup_zip nd hi h1, q w G1 H1 g1 h2⟩
/-- of an object that is one's own -/
theorem e_fldO {C : Addr} {ns : List Str} {f : Str} {i s : Nat} (c : Cls K C) (n : NoAttr K C f) (nd : ns.Nodup) (hi : ns[i]? = some f) (hP : Ps[i]? = some P) (h : Γ[s]? = some (.own (oO C ns Ps))) : EvE (tFld K (tVar s) f) Γ P := fun F σ G H e Q q => by
  obtain ⟨Ls, e1⟩ := e
  obtain ⟨v, h1, a, o, h2, h3, h4, dx, vs, h5, h6⟩ := (e1.at_ s _ h).own_
  subst h2 h5
  obtain ⟨w, k1, k2⟩ := h6.get hP
  exact ⟨_, h1, a, C, dx, _, w, rfl, h4, c, n, lookup_zip nd hi k1, q w G H (Gr.refl e1.gr.s) k2⟩

/-! ### arguments -/
theorem a_nil : EvA tNil Γ [] := fun F σ G H e Q q => q [] G H (Gr.refl e.s) trivial
theorem a_cons {tr : TA} (h : EvE te Γ P) (hr : EvA tr Γ Ps) : EvA (tCons te tr) Γ (P :: Ps) := fun F σ G H e Q q =>
  h F σ G H e _ fun v G1 H1 g1 p1 => hr F σ G1 H1 (e.grow g1) _ fun vs G2 H2 g2 s2 => q _ G2 H2 (g1.trans g2) ⟨P.m g2.g p1, s2⟩
/-! ### calls of built-ins by values -/
def RC (r : List V → Hp → VK → Prop) (Ps : List Pr) (P : Pr) : Prop := ∀ (G H : Hp) (vs : List V) (Q : VK), Gw G H → Sat G vs Ps → (∀ v G' H', Gr G H G' H' → P.p G' v → Q v H') → r vs H Q
theorem e_cb {r : List V → Hp → VK → Prop} {ts : TA} (hr : RC r Ps P) (h : EvA ts Γ Ps) : EvE (tCB r ts) Γ P := fun F σ G H e Q q =>
  h F σ G H e _ fun vs G1 H1 g1 s1 => hr G1 H1 vs Q g1.s s1 fun v G2 H2 g2 p2 => q v G2 H2 (g1.trans g2) p2
theorem sat1 {H : Hp} {vs : List V} (s : Sat H vs [P]) : ∃ v, vs = [v] ∧ P.p H v := by
  match vs, s with
  | [v], s => exact ⟨v, rfl, s.1⟩
  | _ :: _ :: _, s => exact s.2.elim
theorem sat2 {H : Hp} {vs : List V} (s : Sat H vs [P1, P2]) : ∃ v w, vs = [v, w] ∧ P1.p H v ∧ P2.p H w := by
  match vs, s with
  | [v, w], s => exact ⟨v, w, rfl, s.1, s.2.1⟩
  | [_], s => exact s.2.elim
  | _ :: _ :: _ :: _, s => exact s.2.2.elim
abbrev rMax2 : List V → Hp → VK → Prop := fun xs H Q => ∃ i j, xs = [.int i, .int j] ∧ Q (.int (if j > i then j else i)) H
abbrev rMin2 : List V → Hp → VK → Prop := fun xs H Q => ∃ i j, xs = [.int i, .int j] ∧ Q (.int (if j < i then j else i)) H
theorem rc_max2 : RC rMax2 [pI i, pI j] (pI (max i j)) := fun G H vs Q s st q => by
  obtain ⟨v, w, rfl, h1, h2⟩ := sat2 st
  cases h1
  cases h2
  refine ⟨i, j, rfl, q _ G H (Gr.refl s) ?_⟩
  show V.int _ = V.int _
  congr 1
  by_cases z : j > i
  · rw [if_pos z]; omega
  · rw [if_neg z]; omega
theorem rc_min2 : RC rMin2 [pI i, pI j] (pI (min i j)) := fun G H vs Q s st q => by
  obtain ⟨v, w, rfl, h1, h2⟩ := sat2 st
  cases h1
  cases h2
  refine ⟨i, j, rfl, q _ G H (Gr.refl s) ?_⟩
  show V.int _ = V.int _
  congr 1
  by_cases z : j < i
  · rw [if_pos z]; omega
  · rw [if_neg z]; omega
abbrev rAbs : List V → Hp → VK → Prop := fun xs H Q => ∃ i, xs = [.int i] ∧ Q (.int (if i < 0 then -i else i)) H
theorem rc_abs : RC rAbs [pI i] (pI (i.natAbs : Int)) := fun G H vs Q s st q => by
  obtain ⟨v, rfl, h1⟩ := sat1 st
  cases h1
  refine ⟨i, rfl, q _ G H (Gr.refl s) ?_⟩
  show V.int _ = V.int _
  congr 1
  by_cases z : i < 0
  · rw [if_pos z]; omega
  · rw [if_neg z]; omega
abbrev rInt1 : List V → Hp → VK → Prop := fun xs H Q => (∃ i, xs = [.int i] ∧ Q (.int i) H) ∨ ∃ k, xs = [.bl k] ∧ Q (.int (if k then 1 else 0)) H
theorem rc_intI : RC rInt1 [pI i] (pI i) := fun G H vs Q s st q => by
  obtain ⟨v, rfl, h1⟩ := sat1 st
  cases h1
  exact .inl ⟨i, rfl, q _ G H (Gr.refl s) rfl⟩
theorem rc_intB {b : Bool} : RC rInt1 [pB b] (pI (if b then 1 else 0)) := fun G H vs Q s st q => by
  obtain ⟨v, rfl, h1⟩ := sat1 st
  cases h1
  exact .inr ⟨b, rfl, q _ G H (Gr.refl s) rfl⟩

/-! ### tests -/
theorem t_test {b : Bool} (h : EvE te Γ (pB b)) : EvT (tTest te) Γ b := fun F σ G H e Q q => h F σ G H e _ fun v G' H' g p => ⟨b, p, q G' H' g⟩
theorem t_B {b : Bool} (h : EvE te Γ (pB b)) : EvT (tB te) Γ b := fun F σ G H e Q q => h F σ G H e _ fun v G' H' g p => ⟨b, p, q G' H' g⟩
theorem t_not {b : Bool} (h : EvT t Γ b) : EvT (tNot t) Γ (!b) := fun F σ G H e Q q => h F σ G H e _ fun G' H' g => q G' H' g
theorem t_and {a b c : Bool} (h1 : EvT t Γ a) (h2 : a = true → EvT u Γ b) (h : c = (a && b)) : EvT (tAnd t u) Γ c := fun F σ G H e Q q => h1 F σ G H e _ fun G' H' g => by
  subst h
  cases a with
  | true => exact h2 rfl F σ G' H' (e.grow g) Q fun G2 H2 g2 => q G2 H2 (g.trans g2)
  | false => exact q G' H' g
theorem t_or {a b c : Bool} (h1 : EvT t Γ a) (h2 : a = false → EvT u Γ b) (h : c = (a || b)) : EvT (tOr t u) Γ c := fun F σ G H e Q q => h1 F σ G H e _ fun G' H' g => by
  subst h
  cases a with
  | true => exact q G' H' g
  | false => exact h2 rfl F σ G' H' (e.grow g) Q fun G2 H2 g2 => q G2 H2 (g.trans g2)
/-- with parts that may have no value -/
theorem t_andM {a c : Bool} {m : Option Bool} (h1 : EvT t Γ a) (h2 : ∀ b, a = true → m = some b → EvT u Γ b) (h : (if a then m else some false) = some c) : EvT (tAnd t u) Γ c := by
  cases a with
  | true =>
    rw [if_pos rfl] at h
    exact t_and h1 (fun z => h2 c z h) rfl
  | false =>
    rw [if_neg Bool.false_ne_true] at h
    cases h
    exact t_and (b := false) h1 (fun z => nomatch z) rfl
theorem t_orM {a c : Bool} {m : Option Bool} (h1 : EvT t Γ a) (h2 : ∀ b, a = false → m = some b → EvT u Γ b) (h : (if a then some true else m) = some c) : EvT (tOr t u) Γ c := by
  cases a with
  | true =>
    rw [if_pos rfl] at h
    cases h
    exact t_or (b := true) h1 (fun z => nomatch z) rfl
  | false =>
    rw [if_neg Bool.false_ne_true] at h
    exact t_or h1 (fun z => h2 c z h) rfl
/-- .. as values -/
theorem e_and {a b c : Bool} (h1 : EvE ta Γ (pB a)) (h2 : a = true → EvE tb Γ (pB b)) (h : c = (a && b)) : EvE (tAndV ta tb) Γ (pB c) := fun F σ G H e Q q => h1 F σ G H e _ fun v G' H' g p => ⟨a, p, by
  subst h
  cases a with
  | true => exact h2 rfl F σ G' H' (e.grow g) Q fun w G2 H2 g2 p2 => q w G2 H2 (g.trans g2) p2
  | false => exact q _ G' H' g rfl⟩
theorem e_or {a b c : Bool} (h1 : EvE ta Γ (pB a)) (h2 : a = false → EvE tb Γ (pB b)) (h : c = (a || b)) : EvE (tOrV ta tb) Γ (pB c) := fun F σ G H e Q q => h1 F σ G H e _ fun v G' H' g p => ⟨a, p, by
  subst h
  cases a with
  | true => exact q _ G' H' g rfl
  | false => exact h2 rfl F σ G' H' (e.grow g) Q fun w G2 H2 g2 p2 => q w G2 H2 (g.trans g2) p2⟩
theorem e_andM {a c : Bool} {m : Option Bool} (h1 : EvE ta Γ (pB a)) (h2 : ∀ b, a = true → m = some b → EvE tb Γ (pB b)) (h : (if a then m else some false) = some c) : EvE (tAndV ta tb) Γ (pB c) := by
  cases a with
  | true =>
    rw [if_pos rfl] at h
    exact e_and h1 (fun z => h2 c z h) rfl
  | false =>
    rw [if_neg Bool.false_ne_true] at h
    cases h
    exact e_and (b := false) h1 (fun z => nomatch z) rfl
theorem e_orM {a c : Bool} {m : Option Bool} (h1 : EvE ta Γ (pB a)) (h2 : ∀ b, a = false → m = some b → EvE tb Γ (pB b)) (h : (if a then some true else m) = some c) : EvE (tOrV ta tb) Γ (pB c) := by
  cases a with
  | true =>
    rw [if_pos rfl] at h
    cases h
    exact e_or (b := true) h1 (fun z => nomatch z) rfl
  | false =>
    rw [if_neg Bool.false_ne_true] at h
    exact e_or h1 (fun z => h2 c z h) rfl
theorem e_not {b : Bool} (h : EvE te Γ (pB b)) : EvE (tNotV te) Γ (pB (!b)) := fun F σ G H e Q q => h F σ G H e _ fun v G' H' g p => ⟨b, p, q _ G' H' g rfl⟩
theorem e_if {b : Bool} {α : Type} {r : α → Pr} {m1 m2 : Option α} {c : α} (h : EvT t Γ b) (h1 : ∀ x, b = true → m1 = some x → EvE ta Γ (r x)) (h2 : ∀ x, b = false → m2 = some x → EvE tb Γ (r x)) (hc : (if b then m1 else m2) = some c) : EvE (tIf t ta tb) Γ (r c) := fun F σ G H e Q q => h F σ G H e _ fun G' H' g => by
  cases b with
  | true =>
    rw [if_pos rfl] at hc
    exact h1 c rfl hc F σ G' H' (e.grow g) Q fun w G2 H2 g2 p2 => q w G2 H2 (g.trans g2) p2
  | false =>
    rw [if_neg Bool.false_ne_true] at hc
    exact h2 c rfl hc F σ G' H' (e.grow g) Q fun w G2 H2 g2 p2 => q w G2 H2 (g.trans g2) p2
end
end Y

set_option Elab.async false
set_option linter.all false
set_option maxRecDepth 100000
namespace Y
open PySem L2
/-! ### what a statement comes to -/
inductive Out where
  | nx (Γ : Ctx)
  | rt (P : Pr)
  | bk (Γ : Ctx)
  | ct (Γ : Ctx)
  | nc (Γ : Ctx)
  | ru (k : Nat) (W : Ow) (P : Pr)
  | rn (k : Nat) (W : Ow) (P : Pr)
  | rw (W : Ow)
def Goal (F : Fm) (D : Ends) : Out → Prop
  | .nx Γ => ∀ σ G H, EOk F Γ σ G H → D.nx σ H
  | .rt P => ∀ v G H, Gr F.G F.H G H → P.p G v → D.rt v H
  | .bk Γ => ∀ σ G H, EOk F Γ σ G H → D.bk σ H
  | .ct Γ => ∀ σ G H, EOk F Γ σ G H → D.ct σ H
  | .nc Γ => ∀ σ G H, EOk F Γ σ G H → D.nx σ H ∧ D.ct σ H
  | .ru k W P => ∀ v σ G H Γ, EOk F Γ σ G H → Γ[k]? = some (.own W) → P.p G v → D.rt v H
  | .rn k W P => (∀ v σ G H Γ, EOk F Γ σ G H → Γ[k]? = some (.own W) → P.p G v → D.rt v H) ∧ (P = pN → ∀ σ G H Γ, EOk F Γ σ G H → Γ[k]? = some (.own W) → D.nx σ H)
  | .rw W => ∀ v L G H, Gr F.G F.H G H → (∀ a ∈ L, F.H a = none ∧ G a = none ∧ H a ≠ none) → W.p G H v L → D.rt v H
def StS (ts : TS) (Γ : Ctx) (o : Out) : Prop := ∀ (F : Fm) (σ : St) (G H : Hp) (D : Ends), EOk F Γ σ G H → Goal F D o → ts D σ H
section
variable {K : PySem.W.Frag} {Γ Γ1 Γ2 : Ctx} {te ta tb ti tl : TE} {t : TT} {P P1 P2 : Pr} {Ps Qs : List Pr} {W : Ow} {ts us ws : TS} {o : Out} {i j : Nat}
theorem s_seq (h1 : StS ts Γ (.nx Γ1)) (h2 : StS us Γ1 o) : StS (tSeq ts us) Γ o := fun F σ G H D e g =>
  h1 F σ G H { D with nx := us D } e fun σ' G' H' e' => h2 F σ' G' H' D e' g
theorem s_seqR (h1 : StS ts Γ (.rt P)) : StS (tSeq ts us) Γ (.rt P) := fun F σ G H D e g => h1 F σ G H { D with nx := us D } e g
theorem s_seqB (h1 : StS ts Γ (.bk Γ1)) : StS (tSeq ts us) Γ (.bk Γ1) := fun F σ G H D e g => h1 F σ G H { D with nx := us D } e g
theorem s_seqC (h1 : StS ts Γ (.ct Γ1)) : StS (tSeq ts us) Γ (.ct Γ1) := fun F σ G H D e g => h1 F σ G H { D with nx := us D } e g
theorem s_nx : StS tNext Γ (.nx Γ) := fun F σ G H D e g => g σ G H e
theorem s_bk : StS tBreak Γ (.bk Γ) := fun F σ G H D e g => g σ G H e
theorem s_ct : StS tCont Γ (.ct Γ) := fun F σ G H D e g => g σ G H e
theorem s_ncN (h : StS ts Γ (.nx Γ1)) : StS ts Γ (.nc Γ1) := fun F σ G H D e g => h F σ G H D e fun σ' G' H' e' => (g σ' G' H' e').1
theorem s_ncC (h : StS ts Γ (.ct Γ1)) : StS ts Γ (.nc Γ1) := fun F σ G H D e g => h F σ G H D e fun σ' G' H' e' => (g σ' G' H' e').2
theorem s_asg (h : EvE te Γ P) (hi : i < Γ.length) : StS (tAsg te (gName i)) Γ (.nx (Γ.set i (.val P))) := fun F σ G H D e g =>
  h F σ G H e _ fun v G' H' gr p => g _ G' H' ((e.grow gr).set p hi)
theorem s_asgW (h : EvW te Γ W) (hi : i < Γ.length) : StS (tAsg te (gName i)) Γ (.nx (Γ.set i (.own W))) := fun F σ G H D e g =>
  h F σ G H e _ fun v L G' H' gr hL hw => g _ G' H' (e.setOwn gr hL hw hi)
theorem s_ret (h : EvE te Γ P) : StS (tRet te) Γ (.rt P) := fun F σ G H D e g =>
  h F σ G H e _ fun v G' H' gr p => g v G' H' (let ⟨_, e'⟩ := e.grow gr; e'.gr) p
theorem s_retN : StS tRetN Γ (.rt pN) := fun F σ G H D e g => g _ G H (let ⟨_, e'⟩ := e; e'.gr) rfl
theorem s_if {b : Bool} (h : EvT t Γ b) (h1 : b = true → StS us Γ o) (h2 : b = false → StS ws Γ o) : StS (tIfS t us ws) Γ o := fun F σ G H D e g =>
  h F σ G H e _ fun G' H' gr => by
    cases b with
    | true => exact h1 rfl F σ G' H' D (e.grow gr) g
    | false => exact h2 rfl F σ G' H' D (e.grow gr) g
theorem s_expr (h : EvE te Γ P) : StS (tDrop te) Γ (.nx Γ) := fun F σ G H D e g => h F σ G H e _ fun v G' H' gr p => g σ G' H' (e.grow gr)
theorem s_frz (hi : Γ[i]? = some (.own W)) (f : Frz W P) (h : StS ts (Γ.set i (.val P)) o) : StS ts Γ o := fun F σ G H D e g => by
  obtain ⟨G', _, e'⟩ := e.frz f hi
  exact h F σ G' H D e' g
theorem s_drop (i : Nat) (h : StS ts (Γ.set i .any) o) : StS ts Γ o := fun F σ G H D e g => h F σ G H D (e.drop i) g
/-- behind a statement some slots are forgotten -/
def mask : List Nat → Ctx → Ctx
  | [], Γ => Γ
  | i :: is, Γ => mask is (Γ.set i .any)
theorem EOk.mask {F : Fm} {σ : St} {G H : Hp} : ∀ {is : List Nat} {Γ : Ctx}, EOk F Γ σ G H → EOk F (mask is Γ) σ G H
  | [], _, e => e
  | i :: is, _, e => EOk.mask (is := is) (e.drop i)
theorem s_mask (is : List Nat) (h : StS ts Γ (.nx Γ1)) : StS ts Γ (.nx (mask is Γ1)) := fun F σ G H D e g => h F σ G H D e fun σ' G' H' e' => g σ' G' H' e'.mask
theorem s_maskC (is : List Nat) (h : StS ts Γ (.ct Γ1)) : StS ts Γ (.ct (mask is Γ1)) := fun F σ G H D e g => h F σ G H D e fun σ' G' H' e' => g σ' G' H' e'.mask
theorem s_maskB (is : List Nat) (h : StS ts Γ (.bk Γ1)) : StS ts Γ (.bk (mask is Γ1)) := fun F σ G H D e g => h F σ G H D e fun σ' G' H' e' => g σ' G' H' e'.mask
/-- behind a statement a slot is frozen -/
theorem s_frzN (h : StS ts Γ (.nx Γ1)) (hi : Γ1[i]? = some (.own W)) (f : Frz W P) : StS ts Γ (.nx (Γ1.set i (.val P))) := fun F σ G H D e g => h F σ G H D e fun σ' G' H' e' => by
  obtain ⟨G2, _, e2⟩ := e'.frz f hi
  exact g σ' G2 H' e2
theorem s_to {o' : Out} (h : StS ts Γ o) (e : o = o') : StS ts Γ o' := e ▸ h
theorem s_from {Γ' : Ctx} (h : StS ts Γ' o) (e : Γ = Γ') : StS ts Γ o := e ▸ h
/-- x += e, ints -/
theorem s_aug {f : Int → Int → Int} {a b : Int} (hx : Γ[i]? = some (.val (pI a))) (h : EvE te Γ (pI b)) : StS (tAug i te (ipI f)) Γ (.nx (Γ.set i (.val (pI (f a b))))) := fun F σ G H D e g => by
  obtain ⟨v, h1, h2⟩ := e.val hx
  refine ⟨v, h1, h F σ G H e _ fun w G' H' gr p => ⟨a, b, h2, p, g _ G' H' ((e.grow gr).set (P := pI (f a b)) rfl (lt_of_get hx))⟩⟩
/-- what a list of one's own becomes -/
theorem own_list {F : Fm} {σ : St} {G H : Hp} (e : EOk F Γ σ G H) (hi : Γ[i]? = some (.own (oL Ps))) : ∃ a vs, σ[i]? = some (some (.ref a)) ∧ H a = some (.lst vs) ∧ Sat G vs Ps ∧ vs.length ≤ sizeLine ∧
    ∀ ws Qs, Sat G ws Qs → ws.length ≤ sizeLine → EOk F (Γ.set i (.own (oL Qs))) σ G (upd H a (.lst ws)) := by
  obtain ⟨Ls, e1⟩ := e
  obtain ⟨v, h1, a, ob, h2, h3, h4, vs, h5, h6, h7⟩ := (e1.at_ i _ hi).own_
  subst h2 h5
  refine ⟨a, vs, h1, h4, h6, h7, fun ws Qs s l => ?_⟩
  refine e1.mut (L := [a]) hi h1 (fun b hb _ => upd_ne fun z => hb (by rw [h3, z]; exact List.mem_singleton.mpr rfl)) ⟨a, .lst ws, rfl, rfl, upd_same, ws, rfl, s, l⟩ (fun b hb => .inl (h3 ▸ hb)) (fun b hb => ?_)
  rw [List.mem_singleton.mp hb, upd_same]
  exact fun z => nomatch z
/-- xs.append(e) -/
theorem s_app (hi : Γ[i]? = some (.own (oL Ps))) (h : EvE te Γ P) (hz : Ps.length < sizeLine) : StS (tDrop (tBM K "list" rAppend (tVar i) (tCons te tNil))) Γ (.nx (Γ.set i (.own (oL (Ps ++ [P]))))) := fun F σ G H D e g => by
  obtain ⟨a, vs, h1, h2, h3, h4, _⟩ := own_list e hi
  refine ⟨.ref a, h1, .inl ⟨rfl, vs, SqL.of h2⟩, h F σ G H e _ fun v G' H' gr p => ?_⟩
  obtain ⟨b, ws, k1, k2, k3, k4, k5⟩ := own_list (e.grow gr) hi
  rw [h1] at k1
  cases k1
  refine ⟨a, ws, v, rfl, rfl, k2, by rw [k3.len]; exact hz, g σ G' _ (k5 _ _ (k3.snoc p) ?_)⟩
  rw [List.length_append, k3.len]
  exact hz
/-- xs[k] = e -/
theorem s_setL {k : Int} {j : Nat} (hi : Γ[i]? = some (.own (oL Ps))) (h : EvE te Γ P) (hk : EvE ti Γ (pI k)) (hj : ixN Ps.length k = some j) : StS (tAsg te (gSub (tVar i) ti rSetL)) Γ (.nx (Γ.set i (.own (oL (Ps.set j P))))) := fun F σ G H D e g =>
  h F σ G H e _ fun v G1 H1 g1 p1 => by
    obtain ⟨a, vs, h1, _⟩ := own_list (e.grow g1) hi
    refine ⟨.ref a, h1, hk F σ G1 H1 (e.grow g1) _ fun y G2 H2 g2 p2 => ?_⟩
    obtain ⟨b, ws, k1, k2, k3, k4, k5⟩ := own_list ((e.grow g1).grow g2) hi
    rw [h1] at k1
    cases k1
    refine ⟨a, ws, k, j, rfl, p2, k2, by rw [k3.len]; exact hj, g σ G2 _ (k5 _ _ (Sat.set (P.m g2.g p1) j k3) ?_)⟩
    rw [List.length_set]
    exact k4
/-- xs[k] op= e, ints -/
theorem s_augL {f : Int → Int → Int} {k a b : Int} {j : Nat} (hi : Γ[i]? = some (.own (oL Ps))) (hk : EvE ti Γ (pI k)) (hj : ixN Ps.length k = some j) (ha : Ps[j]? = some (pI a)) (h : EvE te Γ (pI b)) :
    StS (tAugS (tVar i) ti te (rIxL K) (ipI f) rSetL) Γ (.nx (Γ.set i (.own (oL (Ps.set j (pI (f a b))))))) := fun F σ G H D e g => by
  obtain ⟨p, vs, h1, h2, h3, h4, _⟩ := own_list e hi
  refine ⟨.ref p, h1, hk F σ G H e _ fun y G1 H1 g1 p1 => ?_⟩
  obtain ⟨q, us, k1, k2, k3, k4, _⟩ := own_list (e.grow g1) hi
  rw [h1] at k1
  cases k1
  have hat : atI Ps k = some (pI a) := by
    unfold atI
    rw [hj]
    exact ha
  obtain ⟨x, x1, x2⟩ := sat_atI k3 hat
  refine ⟨p, us, k, x, rfl, p1, SqL.of k2, x1, h F σ G1 H1 (e.grow g1) _ fun z G2 H2 g2 p2 => ⟨a, b, x2, p2, ?_⟩⟩
  obtain ⟨q, ws, k1, l2, l3, l4, l5⟩ := own_list ((e.grow g1).grow g2) hi
  rw [h1] at k1
  cases k1
  refine ⟨p, ws, k, j, rfl, p1, l2, by rw [l3.len]; exact hj, g σ G2 _ (l5 _ _ (Sat.set (P := pI (f a b)) rfl j l3) ?_)⟩
  rw [List.length_set]
  exact l4
/-- xs.pop(0) .., the value kept in a slot -/
theorem s_popAt {k : Int} {n : Nat} (hi : Γ[i]? = some (.own (oL Ps))) (hk : EvE ti Γ (pI k)) (hb : -(2 ^ 63) ≤ k ∧ k < 2 ^ 63) (hn : seqIndex? k Ps.length = some n) (hP : Ps[n]? = some P) (hij : i ≠ j) (hj : j < Γ.length) :
    StS (tAsg (tBM K "list" rPopAt (tVar i) (tCons ti tNil)) (gName j)) Γ (.nx ((Γ.set i (.own (oL (Ps.eraseIdx n)))).set j (.val P))) := fun F σ G H D e g => by
  obtain ⟨a, vs, h1, h2, h3, h4, _⟩ := own_list e hi
  refine ⟨.ref a, h1, .inl ⟨rfl, vs, SqL.of h2⟩, hk F σ G H e _ fun v G' H' gr p => ?_⟩
  obtain ⟨b, ws, k1, k2, k3, k4, k5⟩ := own_list (e.grow gr) hi
  rw [h1] at k1
  cases k1
  obtain ⟨x, x1, x2⟩ := k3.get hP
  refine ⟨a, ws, k, n, x, rfl, by rw [show v = .int k from p], k2, hb.1, hb.2, by rw [k3.len]; exact hn, x1, g _ G' _ ?_⟩
  exact (k5 _ _ (k3.erase n) (Nat.le_trans (List.length_eraseIdx_le _ _) k4)).set x2 (by rw [List.length_set]; exact hj)

/-! ### loops -/
inductive Fl (S ρ : Type) where
  | go (s : S)
  | br (s : S)
  | rt (r : ρ)
def loopM {S ρ α : Type} (f : S → α → Option (Fl S ρ)) : S → List α → Option (Sum S ρ)
  | s, [] => some (.inl s)
  | s, x :: xs => match f s x with
    | none => none
    | some (.go s') => loopM f s' xs
    | some (.br s') => some (.inl s')
    | some (.rt r) => some (.inr r)
def outF {S ρ : Type} (Γs : S → Ctx) (R : ρ → Pr) : Fl S ρ → Out
  | .go s => .nc (Γs s)
  | .br s => .bk (Γs s)
  | .rt r => .rt (R r)
def outL {S ρ : Type} (Γs : S → Ctx) (R : ρ → Pr) : Sum S ρ → Out
  | .inl s => .nx (Γs s)
  | .inr r => .rt (R r)
/-- the loop's word, by what is still to come -/
theorem loop_step {S ρ α : Type} {f : S → α → Option (Fl S ρ)} {Γs : S → Ctx} {R : ρ → Pr} {out : Sum S ρ} {F' : Fm} {σ : St} {G H : Hp} {D : Ends} {x : α} {xs : List α} {s : S} {N : St → Hp → Prop} {Γx : Ctx}
    (hb : ∀ fl, f s x = some fl → StS ts Γx (outF Γs R fl)) (hm : loopM f s (x :: xs) = some out)
    (hN : ∀ s' σ' G' H', loopM f s' xs = some out → EOk F' (Γs s') σ' G' H' → N σ' H') (hD : ∀ s' σ' G' H', out = .inl s' → EOk F' (Γs s') σ' G' H' → D.nx σ' H') (hR : ∀ r v G' H', out = .inr r → Gr F'.G F'.H G' H' → (R r).p G' v → D.rt v H')
    (e : EOk F' Γx σ G H) : ts { D with nx := N, ct := N, bk := D.nx } σ H := by
  unfold loopM at hm
  cases hf : f s x with
  | none =>
    rw [hf] at hm
    cases hm
  | some fl =>
    rw [hf] at hm
    refine hb fl hf F' σ G H _ e ?_
    cases fl with
    | go s' => exact fun σ' G' H' e' => ⟨hN s' σ' G' H' hm e', hN s' σ' G' H' hm e'⟩
    | br s' => exact fun σ' G' H' e' => hD s' σ' G' H' (Option.some.inj hm).symm e'
    | rt r => exact fun v G' H' g p => hR r v G' H' (Option.some.inj hm).symm g p
theorem goal_inl {S ρ : Type} {Γs : S → Ctx} {R : ρ → Pr} {out : Sum S ρ} {F : Fm} {D : Ends} (g : Goal F D (outL Γs R out)) {s : S} (h : out = .inl s) {σ : St} {G H : Hp} (e : EOk F (Γs s) σ G H) : D.nx σ H := by
  subst h
  exact g σ G H e
theorem goal_inr {S ρ : Type} {Γs : S → Ctx} {R : ρ → Pr} {out : Sum S ρ} {F : Fm} {D : Ends} (g : Goal F D (outL Γs R out)) {r : ρ} (h : out = .inr r) {v : V} {G H : Hp} (gr : Gr F.G F.H G H) (p : (R r).p G v) : D.rt v H := by
  subst h
  exact g v G H gr p
/-- what is known of a list that stands through a loop -/
abbrev withL (F : Fm) (a : Addr) (vs : List V) (Ps : List Pr) : Fm := ⟨F.G, F.H, fun H => F.X H ∧ (H a = some (.lst vs) ∧ Sat H vs Ps), fun g q => ⟨F.m g q.1, g _ _ q.2.1, q.2.2.m g⟩⟩
theorem EOk.withL {F : Fm} {σ : St} {G H : Hp} {a : Addr} {vs : List V} (e : EOk F Γ σ G H) (h1 : G a = some (.lst vs)) (h2 : Sat G vs Ps) : EOk (withL F a vs Ps) Γ σ G H := by
  obtain ⟨Ls, e⟩ := e
  exact ⟨Ls, e.gr, ⟨e.x, h1, h2⟩, e.len, e.at_, e.fr, e.dis⟩
theorem EOk.noL {F : Fm} {σ : St} {G H : Hp} {a : Addr} {vs : List V} (e : EOk (Y.withL F a vs Ps) Γ σ G H) : EOk F Γ σ G H ∧ G a = some (.lst vs) ∧ Sat G vs Ps ∧ H a = some (.lst vs) := by
  obtain ⟨Ls, e⟩ := e
  exact ⟨⟨Ls, e.gr, e.x.1, e.len, e.at_, e.fr, e.dis⟩, e.x.2.1, e.x.2.2, e.gr.s _ _ e.x.2.1⟩
theorem drop_cons {α : Type} {xs : List α} {i : Nat} {x : α} (h : xs[i]? = some x) : xs.drop i = x :: xs.drop (i + 1) := by
  have hi := lt_of_get h
  rw [List.drop_eq_getElem_cons hi]
  congr 1
  rw [List.getElem?_eq_getElem hi] at h
  exact Option.some.inj h
theorem sat_map_get {α : Type} {H : Hp} {vs : List V} {r : α → Pr} {xs : List α} (s : Sat H vs (xs.map r)) {i : Nat} {v : V} (h : vs[i]? = some v) : ∃ x, xs[i]? = some x ∧ (r x).p H v := by
  obtain ⟨P, h1, h2⟩ := s.getv h
  rw [List.getElem?_map] at h1
  cases z : xs[i]? with
  | none =>
    rw [z] at h1
    cases h1
  | some x =>
    rw [z] at h1
    cases h1
    exact ⟨x, rfl, h2⟩
/-- for x in xs -/
theorem s_for {S ρ α : Type} {r : α → Pr} {xs : List α} (Γs : S → Ctx) (R : ρ → Pr) (f : S → α → Option (Fl S ρ)) (s0 : S) {out : Sum S ρ} (h : EvE tl (Γs s0) (pL (xs.map r))) (hj : ∀ s, j < (Γs s).length)
    (hb : ∀ s x fl, x ∈ xs → f s x = some fl → StS ts ((Γs s).set j (.val (r x))) (outF Γs R fl)) (hm : loopM f s0 xs = some out) : StS (tFor (iList K tl) (gName j) ts) (Γs s0) (outL Γs R out) := fun F σ G H D e g =>
  h F σ G H e _ fun v G1 H1 g1 ⟨a, ob, h1, h2, vs, h3, h4, h5⟩ => by
    subst h1 h3
    have lv : vs.length = xs.length := by rw [h4.len, List.length_map]
    refine ⟨a, rfl, ⟨vs, SqL.of (g1.s _ _ h2)⟩, for_list (K := K) (a := a) (xs := vs) (fun i σ' H' => ∃ s G', loopM f s (xs.drop i) = some out ∧ EOk (withL F a vs (xs.map r)) (Γs s) σ' G' H') ⟨s0, G1, hm, (e.grow g1).withL h2 h4⟩ ?_ ?_ ?_⟩
    · rintro i σ' H' _ ⟨s, G', _, e'⟩
      exact SqL.of e'.noL.2.2.2
    · rintro i x σ' H' hx ⟨s, G', hs, e'⟩
      obtain ⟨e1, k1, k2, k3⟩ := e'.noL
      obtain ⟨y, y1, y2⟩ := sat_map_get k2 hx
      rw [drop_cons y1] at hs
      exact loop_step (F' := withL F a vs (xs.map r)) (hb := fun fl hf => hb s y fl (List.mem_of_getElem? y1) hf) hs (fun s' σ2 G2 H2 m2 e2 => ⟨s', G2, m2, e2⟩) (fun s' σ2 G2 H2 eo e2 => goal_inl g eo e2.noL.1) (fun r' w G2 H2 eo gr p => goal_inr g eo gr p) (e'.set y2 (hj s))
    · rintro σ' H' ⟨s, G', hs, e'⟩
      rw [lv, List.drop_length] at hs
      exact goal_inl g (Option.some.inj hs).symm e'.noL.1
/-- the same, nothing leaves it ahead -/
theorem loop_fold {S α : Type} {f : S → α → Option S} : ∀ {xs : List α} {s : S} {out : S}, xs.foldlM f s = some out → loopM (ρ := Unit) (fun s x => (f s x).map Fl.go) s xs = some (.inl out)
  | [], s, out, h => by
    rw [List.foldlM_nil] at h
    cases h
    rfl
  | x :: xs, s, out, h => by
    rw [List.foldlM_cons] at h
    unfold loopM
    cases z : f s x with
    | none =>
      rw [z] at h
      cases h
    | some s' =>
      rw [z] at h
      exact loop_fold h
theorem s_forM {S α : Type} {r : α → Pr} {xs : List α} (Γs : S → Ctx) (f : S → α → Option S) (s0 : S) {out : S} (h : EvE tl (Γs s0) (pL (xs.map r))) (hj : ∀ s, j < (Γs s).length)
    (hb : ∀ s x s', x ∈ xs → f s x = some s' → StS ts ((Γs s).set j (.val (r x))) (.nc (Γs s'))) (hm : xs.foldlM f s0 = some out) : StS (tFor (iList K tl) (gName j) ts) (Γs s0) (.nx (Γs out)) :=
  s_for (ρ := Unit) Γs (fun _ => pN) (fun s x => (f s x).map Fl.go) s0 h hj (fun s x fl hx hf => by
    cases z : f s x with
    | none =>
      have hf' : (f s x).map Fl.go = some fl := hf
      rw [z] at hf'
      cases hf'
    | some s' =>
      have hf' : (f s x).map Fl.go = some fl := hf
      rw [z] at hf'
      cases hf'
      exact hb s x s' hx z) (loop_fold hm)
/-- for k in range(lo, hi) -/
def rangeI (lo : Int) (n : Nat) : List Int := (List.range n).map fun (k : Nat) => lo + (k : Int)
theorem rangeI_get {lo : Int} {n i : Nat} (h : i < n) : (rangeI lo n)[i]? = some (lo + (i : Int)) := by
  unfold rangeI
  rw [List.getElem?_map, List.getElem?_range h]
  rfl
theorem rangeI_len {lo : Int} {n : Nat} : (rangeI lo n).length = n := by
  unfold rangeI
  rw [List.length_map, List.length_range]
theorem for_rng {S ρ : Type} {lo : Int} {n : Nat} {Γs : S → Ctx} {R : ρ → Pr} {f : S → Int → Option (Fl S ρ)} {s0 : S} {out : Sum S ρ} {F : Fm} {σ : St} {G H : Hp} {D : Ends} (e : EOk F (Γs s0) σ G H) (g : Goal F D (outL Γs R out)) (hj : ∀ s, j < (Γs s).length)
    (hb : ∀ s x fl, x ∈ rangeI lo n → f s x = some fl → StS ts ((Γs s).set j (.val (pI x))) (outF Γs R fl)) (hm : loopM f s0 (rangeI lo n) = some out) :
    ∃ W : Nat → Nat → St → Hp → Prop, (∃ m, W 0 m σ H) ∧ ∀ i m σ H, W i m σ H → ((Itr lo n).stop i H ∧ D.nx σ H) ∨ ((Itr lo n).go i H ∧ ∃ N : St → Hp → Prop, (∀ σ' H', N σ' H' → ∃ m', m' < m ∧ W (i + 1) m' σ' H') ∧ ∀ x H', (Itr lo n).yld i H x H' → gName j x σ H' fun σ2 H2 => ts { D with nx := N, ct := N, bk := D.nx } σ2 H2) := by
  refine for_range (fun i σ' H' => ∃ s G', loopM f s ((rangeI lo n).drop i) = some out ∧ EOk F (Γs s) σ' G' H') ⟨s0, G, hm, e⟩ ?_ ?_
  · rintro i σ' H' hx ⟨s, G', hs, e'⟩
    have y1 := rangeI_get (lo := lo) hx
    rw [drop_cons y1] at hs
    exact loop_step (F' := F) (hb := fun fl hf => hb s _ fl (List.mem_of_getElem? y1) hf) hs (fun s' σ2 G2 H2 m2 e2 => ⟨s', G2, m2, e2⟩) (fun s' σ2 G2 H2 eo e2 => goal_inl g eo e2) (fun r' w G2 H2 eo gr p => goal_inr g eo gr p) (e'.set (P := pI _) rfl (hj s))
  · rintro σ' H' ⟨s, G', hs, e'⟩
    have : ((rangeI lo n).drop n) = [] := List.drop_eq_nil_of_le (by rw [rangeI_len]; exact Nat.le_refl _)
    rw [this] at hs
    exact goal_inl g (Option.some.inj hs).symm e'
theorem s_forR1 {S ρ : Type} {tas : TA} {n : Int} (Γs : S → Ctx) (R : ρ → Pr) (f : S → Int → Option (Fl S ρ)) (s0 : S) {out : Sum S ρ} (h : EvA tas (Γs s0) [pI n]) (hn : -(2 ^ 62) ≤ n ∧ n < 2 ^ 62) (hj : ∀ s, j < (Γs s).length)
    (hb : ∀ s x fl, x ∈ rangeI 0 n.toNat → f s x = some fl → StS ts ((Γs s).set j (.val (pI x))) (outF Γs R fl)) (hm : loopM f s0 (rangeI 0 n.toNat) = some out) : StS (tFor (iRng1 tas) (gName j) ts) (Γs s0) (outL Γs R out) := fun F σ G H D e g =>
  h F σ G H e _ fun vs G1 H1 g1 s1 => by
    obtain ⟨v, rfl, h1⟩ := sat1 s1
    cases h1
    exact ⟨n, rfl, hn.1, hn.2, for_rng (e.grow g1) g hj hb hm⟩
theorem s_forR2 {S ρ : Type} {tas : TA} {m n : Int} (Γs : S → Ctx) (R : ρ → Pr) (f : S → Int → Option (Fl S ρ)) (s0 : S) {out : Sum S ρ} (h : EvA tas (Γs s0) [pI m, pI n]) (hn : -(2 ^ 62) ≤ m ∧ m < 2 ^ 62 ∧ -(2 ^ 62) ≤ n ∧ n < 2 ^ 62) (hj : ∀ s, j < (Γs s).length)
    (hb : ∀ s x fl, x ∈ rangeI m (n - m).toNat → f s x = some fl → StS ts ((Γs s).set j (.val (pI x))) (outF Γs R fl)) (hm : loopM f s0 (rangeI m (n - m).toNat) = some out) : StS (tFor (iRng2 tas) (gName j) ts) (Γs s0) (outL Γs R out) := fun F σ G H D e g =>
  h F σ G H e _ fun vs G1 H1 g1 s1 => by
    obtain ⟨v, w, rfl, h1, h2⟩ := sat2 s1
    cases h1
    cases h2
    exact ⟨m, n, rfl, hn, for_rng (e.grow g1) g hj hb hm⟩
theorem fold_body {S α : Type} {f : S → α → Option S} {s : S} {x : α} {Γs : S → Ctx} {fl : Fl S Unit} (hb : ∀ s', f s x = some s' → StS ts Γ (.nc (Γs s'))) (hf : (f s x).map Fl.go = some fl) : StS ts Γ (outF Γs (fun _ => pN) fl) := by
  cases z : f s x with
  | none =>
    rw [z] at hf
    cases hf
  | some s' =>
    rw [z] at hf
    cases hf
    exact hb s' z
theorem s_forR1M {S : Type} {tas : TA} {n : Int} (Γs : S → Ctx) (f : S → Int → Option S) (s0 : S) {out : S} (h : EvA tas (Γs s0) [pI n]) (hn : -(2 ^ 62) ≤ n ∧ n < 2 ^ 62) (hj : ∀ s, j < (Γs s).length)
    (hb : ∀ s x s', x ∈ rangeI 0 n.toNat → f s x = some s' → StS ts ((Γs s).set j (.val (pI x))) (.nc (Γs s'))) (hm : (rangeI 0 n.toNat).foldlM f s0 = some out) : StS (tFor (iRng1 tas) (gName j) ts) (Γs s0) (.nx (Γs out)) :=
  s_forR1 (ρ := Unit) Γs (fun _ => pN) (fun s x => (f s x).map Fl.go) s0 h hn hj (fun s x fl hx hf => fold_body (fun s' h' => hb s x s' hx h') hf) (loop_fold hm)
theorem s_forR2M {S : Type} {tas : TA} {m n : Int} (Γs : S → Ctx) (f : S → Int → Option S) (s0 : S) {out : S} (h : EvA tas (Γs s0) [pI m, pI n]) (hn : -(2 ^ 62) ≤ m ∧ m < 2 ^ 62 ∧ -(2 ^ 62) ≤ n ∧ n < 2 ^ 62) (hj : ∀ s, j < (Γs s).length)
    (hb : ∀ s x s', x ∈ rangeI m (n - m).toNat → f s x = some s' → StS ts ((Γs s).set j (.val (pI x))) (.nc (Γs s'))) (hm : (rangeI m (n - m).toNat).foldlM f s0 = some out) : StS (tFor (iRng2 tas) (gName j) ts) (Γs s0) (.nx (Γs out)) :=
  s_forR2 (ρ := Unit) Γs (fun _ => pN) (fun s x => (f s x).map Fl.go) s0 h hn hj (fun s x fl hx hf => fold_body (fun s' h' => hb s x s' hx h') hf) (loop_fold hm)
end
end Y

set_option Elab.async false
set_option linter.all false
set_option maxRecDepth 100000
namespace Y
open PySem L2
/-! ### the regions held fixed -/
section
variable {F : Fm} {Γ : Ctx} {σ : St} {G H G' H' : Hp} {Ls : Nat → List Addr} {i : Nat} {P : Pr} {W : Ow} {v : V}
theorem EOk1.grow (e : EOk1 F Γ σ G H Ls) (g : Gr G H G' H') : EOk1 F Γ σ G' H' Ls :=
  ⟨e.gr.trans g, F.m g.g e.x, e.len, fun i sl h => (e.at_ i sl h).go g.g (fun W hW a ha => g.h.at (e.fr i W (hW ▸ h) a ha).2.2),
    fun i W h a ha => ⟨g.f a (e.fr i W h a ha).2.2 (e.fr i W h a ha).1, (e.fr i W h a ha).2.1, fun z => (e.fr i W h a ha).2.2 (g.h.free z)⟩, e.dis⟩
theorem EOk1.set (e : EOk1 F Γ σ G H Ls) (h : P.p G v) (hi : i < Γ.length) : EOk1 F (Γ.set i (.val P)) (σ.set i (some v)) G H Ls := by
  have hi2 : i < σ.length := e.len ▸ hi
  have bk : ∀ {j : Nat} {W : Ow}, (Γ.set i (.val P))[j]? = some (.own W) → Γ[j]? = some (.own W) := fun {j W} hj => by
    rcases set_get hj with ⟨_, _, z⟩ | ⟨_, z⟩
    · cases z
    · exact z
  refine ⟨e.gr, e.x, by rw [List.length_set, List.length_set, e.len], fun j sl hj => ?_, fun j W hj => e.fr j W (bk hj), fun j k W W' hj hk => e.dis j k W W' (bk hj) (bk hk)⟩
  rcases set_get hj with ⟨rfl, _, rfl⟩ | ⟨z, hj⟩
  · rw [List.getElem?_set_self hi2]
    exact h
  · rw [List.getElem?_set_ne z]
    exact e.at_ j sl hj
theorem EOk1.drop1 (e : EOk1 F Γ σ G H Ls) (i : Nat) : EOk1 F (Γ.set i .any) σ G H Ls := by
  have bk : ∀ {j : Nat} {W1 : Ow}, (Γ.set i .any)[j]? = some (.own W1) → Γ[j]? = some (.own W1) := fun {j W1} hj => by
    rcases set_get hj with ⟨_, _, z⟩ | ⟨z, h⟩
    · cases z
    · exact h
  refine ⟨e.gr, e.x, by rw [List.length_set, e.len], fun j sl hj => ?_, fun j W1 hj => e.fr j W1 (bk hj), fun j k W1 W2 hj hk => e.dis j k W1 W2 (bk hj) (bk hk)⟩
  rcases set_get hj with ⟨rfl, _, rfl⟩ | ⟨z, hj⟩
  · trivial
  · exact e.at_ j sl hj
theorem EOk1.wipe1 (e : EOk1 F Γ σ G H Ls) (i : Nat) : EOk1 F (Γ.set i .any) (σ.set i none) G H Ls := by
  have e := e.drop1 i
  refine ⟨e.gr, e.x, by rw [List.length_set]; exact e.len, fun j sl hj => ?_, e.fr, e.dis⟩
  have q := e.at_ j sl hj
  rcases set_get hj with ⟨rfl, _, rfl⟩ | ⟨z, _⟩
  · trivial
  · rw [List.getElem?_set_ne z]
    exact q
theorem EOk1.wipe (e : EOk1 F Γ σ G H Ls) : ∀ vs : List Nat, EOk1 F (wipeC Γ vs) (L2.wipe σ vs) G H Ls
  | [] => e
  | v :: vs => (EOk1.wipe e vs).wipe1 v
/-- the regions told only where there is one -/
theorem EOk1.norm (e : EOk1 F Γ σ G H Ls) : ∃ Ls', EOk1 F Γ σ G H Ls' ∧ ∀ i a, a ∈ Ls' i → H a ≠ none := by
  refine ⟨fun i => match Γ[i]? with | some (.own _) => Ls i | _ => [], ⟨e.gr, e.x, e.len, fun i sl h => ?_, fun i W h a ha => ?_, fun i j W W' h h' ne a ha => ?_⟩, fun i a ha => ?_⟩
  · have q := e.at_ i sl h
    cases sl with
    | any => trivial
    | val P =>
      obtain ⟨v, h1, h2⟩ := q.val_
      rw [h1]
      exact h2
    | own W =>
      simp only [h]
      exact q
  · simp only [h] at ha
    exact e.fr i W h a ha
  · simp only [h] at ha
    simp only [h']
    exact e.dis i j W W' h h' ne a ha
  · cases z : Γ[i]? with
    | none =>
      simp only [z] at ha
      cases ha
    | some sl =>
      cases sl with
      | own W =>
        simp only [z] at ha
        exact (e.fr i W z a ha).2.2
      | any =>
        simp only [z] at ha
        cases ha
      | val P =>
        simp only [z] at ha
        cases ha
theorem EOk1.updD {D : Addr} {ob : HO} (e : EOk1 F Γ σ G H Ls) (hL : ∀ i a, a ∈ Ls i → a ≠ D) (hG : G D = none) (h0 : F.H D = none) : EOk1 F Γ σ G (upd H D ob) Ls := by
  refine ⟨⟨e.gr.g, Gw.mut e.gr.h h0, Gw.mut e.gr.s hG, e.gr.f⟩, e.x, e.len, fun i sl h => (e.at_ i sl h).go (Gw.refl G) (fun W hW a ha => upd_ne (hL i a ha)), fun i W h a ha => ?_, e.dis⟩
  have f := e.fr i W h a ha
  exact ⟨f.1, f.2.1, by rw [upd_ne (hL i a ha)]; exact f.2.2⟩
end
/-! ### slots forgotten and set again -/
theorem wipe_set_ne (y : Option V) {j : Nat} : ∀ {vs : List Nat} {σ : St}, j ∉ vs → L2.wipe (σ.set j y) vs = (L2.wipe σ vs).set j y
  | [], _, _ => rfl
  | v :: vs, σ, h => by
    have h1 : j ≠ v := fun z => h (z ▸ List.mem_cons_self)
    have h2 : j ∉ vs := fun z => h (List.mem_cons_of_mem _ z)
    show (L2.wipe (σ.set j y) vs).set v none = ((L2.wipe σ vs).set v none).set j y
    rw [wipe_set_ne y h2, List.set_comm _ _ h1]
theorem wipe_set (y : Option V) {j : Nat} : ∀ {vs : List Nat} {σ : St}, j ∈ vs → L2.wipe (σ.set j y) vs = L2.wipe σ vs
  | v :: vs, σ, h => by
    show (L2.wipe (σ.set j y) vs).set v none = (L2.wipe σ vs).set v none
    by_cases h2 : j ∈ vs
    · rw [wipe_set y h2]
    · have h1 : j = v := by
        rcases List.mem_cons.mp h with z | z
        · exact z
        · exact absurd z h2
      rw [wipe_set_ne y h2, h1, List.set_set]
theorem wipe_wipe (vs : List Nat) : ∀ {ws : List Nat} {σ : St}, (∀ x ∈ ws, x ∈ vs) → L2.wipe (L2.wipe σ ws) vs = L2.wipe σ vs
  | [], _, _ => rfl
  | w :: ws, σ, h => by
    show L2.wipe ((L2.wipe σ ws).set w none) vs = L2.wipe σ vs
    rw [wipe_set none (h w List.mem_cons_self), wipe_wipe vs (fun x hx => h x (List.mem_cons_of_mem _ hx))]
/-! ### targets -/
def EvG (g : TG) (js : List Nat) (Γ : Ctx) (P : Pr) (Γ' : Ctx) : Prop := ∀ (F : Fm) (σ : St) (G H : Hp) (Ls : Nat → List Addr) (v : V), EOk1 F Γ σ G H Ls → P.p G v → ∀ Q : St → Hp → Prop,
  (∀ σ', EOk1 F Γ' σ' G H Ls → (∀ vs : List Nat, (∀ j ∈ js, j ∈ vs) → L2.wipe σ' vs = L2.wipe σ vs) → Q σ' H) → g v σ H Q
section
variable {K : PySem.W.Frag} {Γ Γ1 : Ctx} {P P1 P2 : Pr} {i j k : Nat}
theorem g_name (hi : i < Γ.length) : EvG (gName i) [i] Γ P (Γ.set i (.val P)) := fun F σ G H Ls v e p Q q =>
  q _ (e.set p hi) fun vs h => wipe_set _ (h i (List.mem_singleton.mpr rfl))
theorem g_tup2 (hi : i < Γ.length) (hj : j < Γ.length) : EvG (gTup K 2 (gCons (gName i) (gCons (gName j) gNil))) [i, j] Γ (pT [P1, P2]) ((Γ.set i (.val P1)).set j (.val P2)) := fun F σ G H Ls v e ⟨a, vs, h1, h2, h3⟩ Q q => by
  obtain ⟨x, y, rfl, p1, p2⟩ := sat2 h3
  refine ⟨a, [x, y], h1, SqT.of (e.gr.s _ _ h2), rfl, x, [y], rfl, y, [], rfl, rfl, ?_⟩
  refine q _ ((e.set p1 hi).set p2 (by rw [List.length_set]; exact hj)) fun ws h => ?_
  rw [wipe_set _ (h j (by simp)), wipe_set _ (h i (by simp))]
theorem g_tup3 {P3 : Pr} (hi : i < Γ.length) (hj : j < Γ.length) (hk : k < Γ.length) : EvG (gTup K 3 (gCons (gName i) (gCons (gName j) (gCons (gName k) gNil)))) [i, j, k] Γ (pT [P1, P2, P3]) (((Γ.set i (.val P1)).set j (.val P2)).set k (.val P3)) := fun F σ G H Ls v e ⟨a, vs, h1, h2, h3⟩ Q q => by
  match vs, h3 with
  | [x, y, z], h3 =>
    refine ⟨a, [x, y, z], h1, SqT.of (e.gr.s _ _ h2), rfl, x, [y, z], rfl, y, [z], rfl, z, [], rfl, rfl, ?_⟩
    refine q _ (((e.set h3.1 hi).set h3.2.1 (by rw [List.length_set]; exact hj)).set h3.2.2.1 (by rw [List.length_set, List.length_set]; exact hk)) fun ws h => ?_
    rw [wipe_set _ (h k (by simp)), wipe_set _ (h j (by simp)), wipe_set _ (h i (by simp))]
  | [], h3 => exact h3.elim
  | [_], h3 => exact h3.2.elim
  | [_, _], h3 => exact h3.2.2.elim
  | _ :: _ :: _ :: _ :: _, h3 => exact h3.2.2.2.elim
theorem g_to {g : TG} {js : List Nat} {Γ2 : Ctx} (h : EvG g js Γ P Γ1) (e : Γ1 = Γ2) : EvG g js Γ P Γ2 := e ▸ h
end
/-! ### what is walked -/
structure Wk {α : Type} (r : α → Pr) (xs : List α) (J : It) (X : Hp → Prop) : Prop where
  m : ∀ {H H' : Hp}, Gw H H' → X H → X H'
  ex : ∃ (Gc : Hp → Prop) (Y : Nat → Hp → V → Hp → Prop), Walk J xs.length Gc Y ∧ (∀ G H, X G → Gw G H → Gc H) ∧
    ∀ i G H v H', X G → Gw G H → i < xs.length → Y i H v H' → ∃ G' x, Gr G H G' H' ∧ xs[i]? = some x ∧ (r x).p G' v
def EvI {α : Type} (wi : TI) (Γ : Ctx) (r : α → Pr) (xs : List α) : Prop := ∀ (F : Fm) (σ : St) (G H : Hp), EOk F Γ σ G H → ∀ R : It → Hp → Prop, (∀ J X G' H', Gr G H G' H' → Wk r xs J X → X G' → R J H') → wi σ H R
section
variable {K : PySem.W.Frag} {Γ : Ctx} {α β : Type} {r : α → Pr} {rb : β → Pr} {xs : List α} {ys : List β} {tl : TE} {tas : TA}
theorem i_list (h : EvE tl Γ (pL (xs.map r))) : EvI (iList K tl) Γ r xs := fun F σ G H e R q =>
  h F σ G H e _ fun v G1 H1 g1 ⟨a, ob, h1, h2, vs, h3, h4, h5⟩ => by
    subst h1 h3
    have lv : vs.length = xs.length := by rw [h4.len, List.length_map]
    refine ⟨a, rfl, ⟨vs, SqL.of (g1.s _ _ h2)⟩, q _ (fun H => H a = some (.lst vs) ∧ Sat H vs (xs.map r)) G1 H1 g1 ⟨fun g q => ⟨g _ _ q.1, q.2.m g⟩, fun H => SqL K H a vs, YAt vs, lv ▸ walk_list, fun G H x s => SqL.of (s _ _ x.1), fun i G H v H' x s hi y => ?_⟩ ⟨h2, h4⟩⟩
    obtain ⟨rfl, y2⟩ := y
    obtain ⟨z, z1, z2⟩ := sat_map_get x.2 y2
    exact ⟨G, z, Gr.refl s, z1, z2⟩
theorem i_rng (lo : Int) (n : Nat) {r' : Int → Pr} (hr : ∀ i, r' i = pI i) : Wk r' (rangeI lo n) (Itr lo n) (fun _ => True) :=
  ⟨fun _ _ => trivial, fun _ => True, YFn fun i => .int (lo + i), by rw [rangeI_len]; exact walk_range, fun _ _ _ _ => trivial, fun i G H v H' _ s hi y => by
    obtain ⟨rfl, rfl⟩ := y
    rw [rangeI_len] at hi
    exact ⟨G, lo + i, Gr.refl s, rangeI_get hi, by rw [hr] <;> rfl⟩⟩
theorem i_rng1 {n : Int} (h : EvA tas Γ [pI n]) (hn : -(2 ^ 62) ≤ n ∧ n < 2 ^ 62) : EvI (iRng1 tas) Γ pI (rangeI 0 n.toNat) := fun F σ G H e R q =>
  h F σ G H e _ fun vs G1 H1 g1 s1 => by
    obtain ⟨v, rfl, h1⟩ := sat1 s1
    cases h1
    exact ⟨n, rfl, hn.1, hn.2, q _ _ G1 H1 g1 (i_rng 0 n.toNat fun _ => rfl) trivial⟩
theorem i_rng2 {m n : Int} (h : EvA tas Γ [pI m, pI n]) (hn : -(2 ^ 62) ≤ m ∧ m < 2 ^ 62 ∧ -(2 ^ 62) ≤ n ∧ n < 2 ^ 62) : EvI (iRng2 tas) Γ pI (rangeI m (n - m).toNat) := fun F σ G H e R q =>
  h F σ G H e _ fun vs G1 H1 g1 s1 => by
    obtain ⟨v, w, rfl, h1, h2⟩ := sat2 s1
    cases h1
    cases h2
    exact ⟨m, n, rfl, hn, q _ _ G1 H1 g1 (i_rng m (n - m).toNat fun _ => rfl) trivial⟩
/-- enumerate -/
def enumI (lo : Int) : List α → List (Int × α)
  | [] => []
  | x :: xs => (lo, x) :: enumI (lo + 1) xs
theorem enumI_len : ∀ {xs : List α} {lo : Int}, (enumI lo xs).length = xs.length
  | [], _ => rfl
  | _ :: xs, lo => congrArg Nat.succ (enumI_len (xs := xs))
theorem enumI_get : ∀ {xs : List α} {lo : Int} {i : Nat} {x : α}, xs[i]? = some x → (enumI lo xs)[i]? = some (lo + (i : Int), x)
  | [], _, _, _, h => by simp at h
  | y :: xs, lo, 0, x, h => by
    simp at h
    subst h
    simp [enumI]
  | y :: xs, lo, i + 1, x, h => by
    have := enumI_get (lo := lo + 1) (i := i) (x := x) (xs := xs) (by simpa using h)
    show (enumI (lo + 1) xs)[i]? = _
    rw [this]
    congr 2
    omega
abbrev r2 (r : α → Pr) (s : β → Pr) : α × β → Pr := fun p => pT [r p.1, s p.2]
theorem i_enum (h : EvA tas Γ [pL (xs.map r)]) : EvI (iEnum K tas) Γ (r2 pI r) (enumI 0 xs) := fun F σ G H e R q =>
  h F σ G H e _ fun vs G1 H1 g1 s1 => by
    obtain ⟨v, rfl, a, ob, h1, h2, vs, h3, h4, h5⟩ := sat1 s1
    subst h1 h3
    have lv : vs.length = xs.length := by rw [h4.len, List.length_map]
    refine ⟨a, vs, rfl, SqL.of (g1.s _ _ h2), q _ (fun H => H a = some (.lst vs) ∧ Sat H vs (xs.map r)) G1 H1 g1 ⟨fun g q => ⟨g _ _ q.1, q.2.m g⟩, fun H => SqL K H a vs, YPair (fun i => some (.int (i : Nat))) (fun i => vs[i]?), ?_, fun G H x s => SqL.of (s _ _ x.1), fun i G H v H' x s hi y => ?_⟩ ⟨h2, h4⟩⟩
    · rw [enumI_len, ← lv]
      exact walk_enum
    · obtain ⟨T, y1, y2, rfl, hT, rfl, k1, k2⟩ := y
      cases k1
      obtain ⟨z, z1, z2⟩ := sat_map_get x.2 k2
      refine ⟨upd G T (.tup [.int (i : Nat), y2]), ((0 : Int) + (i : Int), z), Gr.new s hT, enumI_get z1, T, _, rfl, upd_same, ?_⟩
      have g := (Gr.new (o := .tup [.int (i : Nat), y2]) s hT).g
      refine ⟨?_, (r z).m g z2, trivial⟩
      show V.int _ = V.int _
      rw [Int.zero_add]
theorem zip_get {xs : List α} {ys : List β} {i : Nat} {x : α} {y : β} (h1 : xs[i]? = some x) (h2 : ys[i]? = some y) : (xs.zip ys)[i]? = some (x, y) := List.getElem?_zip_eq_some.mpr ⟨h1, h2⟩
theorem i_zip (h : EvA tas Γ [pL (xs.map r), pL (ys.map rb)]) : EvI (iZip K tas) Γ (r2 r rb) (xs.zip ys) := fun F σ G H e R q =>
  h F σ G H e _ fun vs G1 H1 g1 s1 => by
    obtain ⟨v, w, rfl, ⟨a, ob, h1, h2, vs, h3, h4, h5⟩, ⟨b, ob', k1, k2, ws, k3, k4, k5⟩⟩ := sat2 s1
    subst h1 h3 k1 k3
    have lv : vs.length = xs.length := by rw [h4.len, List.length_map]
    have lw : ws.length = ys.length := by rw [k4.len, List.length_map]
    refine ⟨a, b, vs, ws, rfl, SqL.of (g1.s _ _ h2), SqL.of (g1.s _ _ k2), q _ (fun H => (H a = some (.lst vs) ∧ Sat H vs (xs.map r)) ∧ (H b = some (.lst ws) ∧ Sat H ws (ys.map rb))) G1 H1 g1
      ⟨fun g q => ⟨⟨g _ _ q.1.1, q.1.2.m g⟩, g _ _ q.2.1, q.2.2.m g⟩, fun H => SqL K H a vs ∧ SqL K H b ws, YPair (fun i => vs[i]?) (fun i => ws[i]?), ?_, fun G H x s => ⟨SqL.of (s _ _ x.1.1), SqL.of (s _ _ x.2.1)⟩, fun i G H v H' x s hi y => ?_⟩ ⟨⟨h2, h4⟩, k2, k4⟩⟩
    · refine walk_zip ?_
      rw [List.length_zip, lv, lw]
    · obtain ⟨T, y1, y2, rfl, hT, rfl, j1, j2⟩ := y
      obtain ⟨z, z1, z2⟩ := sat_map_get x.1.2 j1
      obtain ⟨z', z1', z2'⟩ := sat_map_get x.2.2 j2
      have g := (Gr.new (o := .tup [y1, y2]) s hT).g
      exact ⟨upd G T (.tup [y1, y2]), (z, z'), Gr.new s hT, zip_get z1 z1', T, _, rfl, upd_same, (r z).m g z2, (rb z').m g z2', trivial⟩
end
/-! ### for over what is walked -/
abbrev withX (F : Fm) (X : Hp → Prop) (m : ∀ {H H' : Hp}, Gw H H' → X H → X H') : Fm := ⟨F.G, F.H, fun H => F.X H ∧ X H, fun g q => ⟨F.m g q.1, m g q.2⟩⟩
section
variable {F : Fm} {Γ : Ctx} {σ : St} {G H : Hp} {Ls : Nat → List Addr} {X : Hp → Prop} {m : ∀ {H H' : Hp}, Gw H H' → X H → X H'}
theorem EOk1.withX (e : EOk1 F Γ σ G H Ls) (h : X G) : EOk1 (withX F X m) Γ σ G H Ls := ⟨e.gr, ⟨e.x, h⟩, e.len, e.at_, e.fr, e.dis⟩
theorem EOk1.noX (e : EOk1 (Y.withX F X m) Γ σ G H Ls) : EOk1 F Γ σ G H Ls := ⟨e.gr, e.x.1, e.len, e.at_, e.fr, e.dis⟩
end
section
variable {K : PySem.W.Frag} {Γ : Ctx} {α : Type} {r : α → Pr} {xs : List α} {wi : TI} {g : TG} {js : List Nat} {ts : TS}
theorem s_forI {S ρ : Type} (Γs : S → Ctx) (Γx : S → α → Ctx) (R : ρ → Pr) (f : S → α → Option (Fl S ρ)) (s0 : S) {out : Sum S ρ} (h : EvI wi (Γs s0) r xs) (hg : ∀ s x, EvG g js (Γs s) (r x) (Γx s x))
    (hb : ∀ s x fl, x ∈ xs → f s x = some fl → StS ts (Γx s x) (outF Γs R fl)) (hm : loopM f s0 xs = some out) : StS (tFor wi g ts) (Γs s0) (outL Γs R out) := fun F σ G H D e gl =>
  h F σ G H e _ fun J X G1 H1 g1 w x1 => by
    obtain ⟨Gc, Y, wk, k1, k2⟩ := w.ex
    obtain ⟨Ls, e1⟩ := e.grow g1
    refine for_it wk (fun i σ' H' => ∃ s G', loopM f s (xs.drop i) = some out ∧ EOk (withX F X w.m) (Γs s) σ' G' H') ⟨s0, G1, hm, Ls, e1.withX x1⟩ ?_ ?_ ?_
    · rintro i σ' H' _ ⟨s, G', _, Ls, e'⟩
      exact k1 G' H' e'.x.2 e'.gr.s
    · rintro i v σ' H' H2 hi ⟨s, G', hs, Ls, e'⟩ hy
      obtain ⟨G2, x, g2, xi, px⟩ := k2 i G' H' v H2 e'.x.2 e'.gr.s hi hy
      rw [drop_cons xi] at hs
      refine hg s x (withX F X w.m) σ' G2 H2 Ls v (e'.grow g2) px _ fun σ3 e3 _ => ?_
      exact loop_step (F' := withX F X w.m) (hb := fun fl hf => hb s x fl (List.mem_of_getElem? xi) hf) hs (fun s' σ2 G2 H2 m2 e2 => ⟨s', G2, m2, e2⟩) (fun s' σ2 G2 H2 eo ⟨Ls, e2⟩ => goal_inl gl eo ⟨Ls, e2.noX⟩) (fun r' w G2 H2 eo gr p => goal_inr gl eo gr p) ⟨Ls, e3⟩
    · rintro σ' H' ⟨s, G', hs, Ls, e'⟩
      rw [List.drop_length] at hs
      exact goal_inl gl (Option.some.inj hs).symm ⟨Ls, e'.noX⟩
theorem s_forIM {S : Type} (Γs : S → Ctx) (Γx : S → α → Ctx) (f : S → α → Option S) (s0 : S) {out : S} (h : EvI wi (Γs s0) r xs) (hg : ∀ s x, EvG g js (Γs s) (r x) (Γx s x))
    (hb : ∀ s x s', x ∈ xs → f s x = some s' → StS ts (Γx s x) (.nc (Γs s'))) (hm : xs.foldlM f s0 = some out) : StS (tFor wi g ts) (Γs s0) (.nx (Γs out)) :=
  s_forI (ρ := Unit) Γs Γx (fun _ => pN) (fun s x => (f s x).map Fl.go) s0 h hg (fun s x fl hx hf => fold_body (fun s' h' => hb s x s' hx h') hf) (loop_fold hm)
end
/-! ### comprehensions -/
def lcM {α β : Type} (fb : α → Option Bool) (fe : α → Option β) : List α → Option (List β)
  | [] => some []
  | x :: xs => match fb x with
    | none => none
    | some false => lcM fb fe xs
    | some true => match fe x with
      | none => none
      | some y => (lcM fb fe xs).map (y :: ·)
def mapO {α β : Type} (fe : α → Option β) : List α → Option (List β)
  | [] => some []
  | x :: xs => match fe x with
    | none => none
    | some y => (mapO fe xs).map (y :: ·)
theorem mapO_lc {α β : Type} {fe : α → Option β} : ∀ {xs : List α}, lcM (fun _ => some true) fe xs = mapO fe xs
  | [] => rfl
  | x :: xs => by
    unfold lcM mapO
    cases fe x with
    | none => rfl
    | some y =>
      show (lcM _ fe xs).map _ = _
      rw [mapO_lc]
theorem t_yes {Γ : Ctx} : EvT tYes Γ true := fun F σ G H e Q q => q G H (Gr.refl e.s)
section
variable {K : PySem.W.Frag} {Γ : Ctx} {α β : Type} {r : α → Pr} {rb : β → Pr} {xs : List α} {ys : List β} {wi : TI} {g : TG} {js vs : List Nat} {tt : TT} {te : TE}
theorem w_lc (Γx : α → Ctx) (fb : α → Option Bool) (fe : α → Option β) (h : EvI wi Γ r xs) (hz : xs.length ≤ sizeLine) (hg : ∀ x, EvG g js (wipeC Γ vs) (r x) (Γx x)) (hj : ∀ j ∈ js, j ∈ vs)
    (ht : ∀ x b, x ∈ xs → fb x = some b → EvT tt (Γx x) b) (he : ∀ x y, x ∈ xs → fb x = some true → fe x = some y → EvE te (Γx x) (rb y)) (hm : lcM fb fe xs = some ys) : EvW (tLc wi g tt te vs) Γ (oL (ys.map rb)) := fun F σ G H e Q q =>
  h F σ G H e _ fun J X G1 H1 g1 w x1 => fun D hD => by
    obtain ⟨Gc, Y, wk, k1, k2⟩ := w.ex
    obtain ⟨Ls0, e0⟩ := e.grow g1
    obtain ⟨Ls, e1, hLs⟩ := e0.norm
    have hLD : ∀ i a, a ∈ Ls i → a ≠ D := fun i a ha z => hLs i a ha (z ▸ hD)
    have hGD : G1 D = none := e1.gr.s.free hD
    have hFD : F.H D = none := e1.gr.h.free hD
    refine lc_it wk (fun i H' => ∃ G' acc zs, EOk1 (withX F X w.m) (wipeC Γ vs) (L2.wipe σ vs) G' H' Ls ∧ Gr G1 H1 G' H' ∧ G' D = none ∧ H' D = some (.lst acc) ∧ Sat G' acc (zs.map rb) ∧ acc.length ≤ i ∧ (lcM fb fe (xs.drop i)).map (zs ++ ·) = some ys)
      ⟨G1, [], [], ((e1.withX x1).wipe vs).updD hLD hGD hFD, Gr.lay g1.s hD, hGD, upd_same, (by show Sat G1 [] ([] : List Pr); trivial), Nat.le_refl _, by rw [List.drop_zero, hm] <;> rfl⟩ ?_ ?_ ?_
    · rintro i H' _ ⟨G', acc, zs, e', _⟩
      exact k1 G' H' e'.x.2 e'.gr.s
    · rintro i v H' H2 hi ⟨G', acc, zs, e', gr', hGD', hHD', hsat, hlen, hrem⟩ hy
      obtain ⟨G2, x, g2, xi, px⟩ := k2 i G' H' v H2 e'.x.2 e'.gr.s hi hy
      have hx : x ∈ xs := List.mem_of_getElem? xi
      rw [drop_cons xi] at hrem
      have hnn : H' D ≠ none := by rw [hHD']; exact fun z => nomatch z
      refine hg x (withX F X w.m) (L2.wipe σ vs) G2 H2 Ls v (e'.grow g2) px _ fun σ3 e3 hw => ⟨(hw vs hj).trans (wipe_wipe vs fun _ h => h), ?_⟩
      unfold lcM at hrem
      cases hfb : fb x with
      | none =>
        rw [hfb] at hrem
        cases hrem
      | some b =>
        refine ht x b hx hfb (withX F X w.m) σ3 G2 H2 ⟨Ls, e3⟩ _ fun G3 H3 g3 => ?_
        rw [hfb] at hrem
        have g23 := g2.trans g3
        cases b with
        | false =>
          show ∃ G' acc zs, _
          exact ⟨G3, acc, zs, e'.grow g23, gr'.trans g23, g23.f D hnn hGD', g23.h _ _ hHD', hsat.m g23.g, Nat.le_succ_of_le hlen, hrem⟩
        | true =>
          show te σ3 H3 _
          cases hfe : fe x with
          | none =>
            simp only [hfe] at hrem
            cases hrem
          | some y =>
            simp only [hfe] at hrem
            refine he x y hx hfb hfe (withX F X w.m) σ3 G3 H3 ⟨Ls, e3.grow g3⟩ _ fun z G4 H4 g4 pz => ?_
            have g24 := g23.trans g4
            have hG4 : G4 D = none := g24.f D hnn hGD'
            refine ⟨acc, g24.h _ _ hHD', Nat.lt_of_le_of_lt hlen (Nat.lt_of_lt_of_le hi hz), G4, acc ++ [z], zs ++ [y], (e'.grow g24).updD hLD hG4 hFD, ?_, hG4, upd_same, ?_, ?_, ?_⟩
            · have q1 := gr'.trans g24
              exact ⟨q1.g, Gw.mut q1.h hD, Gw.mut q1.s hG4, q1.f⟩
            · rw [List.map_append]
              exact (hsat.m g24.g).snoc pz
            · rw [List.length_append]
              exact Nat.succ_le_succ hlen
            · cases hrest : lcM fb fe (xs.drop (i + 1)) with
              | none =>
                rw [hrest] at hrem
                cases hrem
              | some zr =>
                rw [hrest] at hrem
                rw [← hrem]
                show some (zs ++ [y] ++ zr) = some (zs ++ (y :: zr))
                rw [List.append_assoc] <;> rfl
    · rintro H' ⟨G', acc, zs, e', gr', hGD', hHD', hsat, hlen, hrem⟩
      rw [List.drop_length] at hrem
      have ez : zs = ys := by
        have : some (zs ++ []) = some ys := hrem
        rw [List.append_nil] at this
        exact Option.some.inj this
      subst ez
      refine q (.ref D) [D] G' H' (g1.trans gr') (fun a ha => ?_) ⟨D, .lst acc, rfl, rfl, hHD', acc, rfl, hsat, Nat.le_trans hlen hz⟩
      rw [List.mem_singleton.mp ha]
      exact ⟨g1.h.free hD, hGD', by rw [hHD']; exact fun z => nomatch z⟩
theorem w_lcY (Γx : α → Ctx) (fe : α → Option β) (h : EvI wi Γ r xs) (hz : xs.length ≤ sizeLine) (hg : ∀ x, EvG g js (wipeC Γ vs) (r x) (Γx x)) (hj : ∀ j ∈ js, j ∈ vs)
    (he : ∀ x y, x ∈ xs → fe x = some y → EvE te (Γx x) (rb y)) (hm : mapO fe xs = some ys) : EvW (tLc wi g tYes te vs) Γ (oL (ys.map rb)) :=
  w_lc Γx (fun _ => some true) fe h hz hg hj (fun x b _ hb => by cases hb; exact t_yes) (fun x y hx _ hy => he x y hx hy) (by rw [mapO_lc]; exact hm)
end
end Y

set_option Elab.async false
set_option linter.all false
set_option maxRecDepth 100000
namespace Y
open PySem L2
/-! ### dicts -/
section
variable {ρ τ : Type}
def putT (kvs : List (Key × ρ)) (k : Key) (v : ρ) : List (Key × ρ) :=
  if (kvs.any fun kv => decide (kv.1 = k)) = true then kvs.map (fun kv => if kv.1 = k then (kv.1, v) else kv) else kvs ++ [(k, v)]
def valT (kvs : List (Key × ρ)) (k : Key) : Option ρ := (kvs.find? fun kv => decide (kv.1 = k)).map (·.2)
abbrev rK (r : ρ → Pr) : Key × ρ → Key × Pr := fun kv => (kv.1, r kv.2)
theorem valT_map (r : ρ → τ) (k : Key) : ∀ kvs : List (Key × ρ), valT (kvs.map fun kv => (kv.1, r kv.2)) k = (valT kvs k).map r
  | [] => rfl
  | p :: q => by
    unfold valT
    rw [List.map_cons, List.find?_cons, List.find?_cons]
    by_cases h : p.1 = k
    · rw [decide_eq_true h] <;> rfl
    · rw [decide_eq_false h]
      exact valT_map r k q
theorem any_map (r : ρ → τ) (k : Key) (kvs : List (Key × ρ)) : ((kvs.map fun kv => (kv.1, r kv.2)).any fun kv => decide (kv.1 = k)) = kvs.any fun kv => decide (kv.1 = k) := by
  rw [List.any_map] <;> rfl
theorem putT_map (r : ρ → τ) (kvs : List (Key × ρ)) (k : Key) (v : ρ) : (putT kvs k v).map (fun kv => (kv.1, r kv.2)) = putT (kvs.map fun kv => (kv.1, r kv.2)) k (r v) := by
  unfold putT
  rw [any_map]
  by_cases h : (kvs.any fun kv => decide (kv.1 = k)) = true
  · rw [if_pos h, if_pos h, List.map_map, List.map_map]
    refine List.map_congr_left fun p _ => ?_
    show _ = if p.1 = k then _ else _
    by_cases z : p.1 = k
    · rw [if_pos z]
      show (fun kv : Key × ρ => (kv.1, r kv.2)) (if p.1 = k then (p.1, v) else p) = _
      rw [if_pos z]
    · rw [if_neg z]
      show (fun kv : Key × ρ => (kv.1, r kv.2)) (if p.1 = k then (p.1, v) else p) = _
      rw [if_neg z]
  · rw [if_neg h, if_neg h, List.map_append] <;> rfl
end
section
variable {H : Hp}
theorem SatK.any {k : Key} : ∀ {vs : List (Key × V)} {Ps : List (Key × Pr)}, SatK H vs Ps → (vs.any fun kv => decide (kv.1 = k)) = Ps.any fun kv => decide (kv.1 = k)
  | [], [], _ => rfl
  | _ :: _, _ :: _, h => by
    rw [List.any_cons, List.any_cons, h.1, SatK.any h.2.2]
  | [], _ :: _, h => h.elim
  | _ :: _, [], h => h.elim
theorem SatK.rep {k : Key} {v : V} {P : Pr} (p : P.p H v) : ∀ {vs : List (Key × V)} {Ps : List (Key × Pr)}, SatK H vs Ps → SatK H (vs.map fun kv => if kv.1 = k then (kv.1, v) else kv) (Ps.map fun kv => if kv.1 = k then (kv.1, P) else kv)
  | [], [], h => h
  | x :: _, y :: _, h => by
    refine ⟨?_, ?_, SatK.rep p h.2.2⟩
    · show (if x.1 = k then (x.1, v) else x).1 = (if y.1 = k then (y.1, P) else y).1
      rw [h.1]
      by_cases z : y.1 = k
      · rw [if_pos z, if_pos z]
      · rw [if_neg z, if_neg z]
        exact h.1
    · show (if y.1 = k then (y.1, P) else y).2.p H (if x.1 = k then (x.1, v) else x).2
      rw [h.1]
      by_cases z : y.1 = k
      · rw [if_pos z, if_pos z]
        exact p
      · rw [if_neg z, if_neg z]
        exact h.2.1
  | [], _ :: _, h => h.elim
  | _ :: _, [], h => h.elim
theorem SatK.snoc {k : Key} {v : V} {P : Pr} (p : P.p H v) : ∀ {vs : List (Key × V)} {Ps : List (Key × Pr)}, SatK H vs Ps → SatK H (vs ++ [(k, v)]) (Ps ++ [(k, P)])
  | [], [], _ => ⟨rfl, p, trivial⟩
  | _ :: _, _ :: _, h => ⟨h.1, h.2.1, SatK.snoc p h.2.2⟩
  | [], _ :: _, h => h.elim
  | _ :: _, [], h => h.elim
theorem SatK.put {k : Key} {v : V} {P : Pr} {vs : List (Key × V)} {Ps : List (Key × Pr)} (h : SatK H vs Ps) (p : P.p H v) : SatK H (putK vs k v) (putT Ps k P) := by
  unfold putK putT
  rw [h.any]
  by_cases z : (Ps.any fun kv => decide (kv.1 = k)) = true
  · rw [if_pos z, if_pos z]
    exact h.rep p
  · rw [if_neg z, if_neg z]
    exact h.snoc p
theorem SatK.val {k : Key} : ∀ {vs : List (Key × V)} {Ps : List (Key × Pr)}, SatK H vs Ps → (valT Ps k = none → valV vs k = none) ∧ ∀ P, valT Ps k = some P → ∃ v, valV vs k = some v ∧ P.p H v
  | [], [], _ => ⟨fun _ => rfl, fun P h => (by cases h)⟩
  | x :: vs, y :: Ps, h => by
    have ih := SatK.val (k := k) h.2.2
    unfold valT valV at ih ⊢
    rw [List.find?_cons, List.find?_cons, h.1]
    by_cases z : y.1 = k
    · rw [decide_eq_true z]
      refine ⟨fun q => (by cases q), fun P q => ⟨x.2, rfl, ?_⟩⟩
      cases q
      exact h.2.1
    · rw [decide_eq_false z]
      exact ih
  | [], _ :: _, h => h.elim
  | _ :: _, [], h => h.elim
theorem SatK.len : ∀ {vs : List (Key × V)} {Ps : List (Key × Pr)}, SatK H vs Ps → vs.length = Ps.length
  | [], [], _ => rfl
  | _ :: _, _ :: _, h => congrArg Nat.succ (SatK.len h.2.2)
  | [], _ :: _, h => h.elim
  | _ :: _, [], h => h.elim
end
section
variable {K : PySem.W.Frag} {Γ : Ctx} {te td ta tb tk tv : TE} {P : Pr} {Ps : List (Key × Pr)} {k : Key}
/-- what a key is -/
def pK (k : Key) : Pr := ⟨fun _ v => v = kV k, fun _ h => h⟩
theorem k_I {i : Int} (h : EvE te Γ (pI i)) : EvE te Γ (pK (.inl i)) := h
theorem k_S {s : Str} (h : EvE te Γ (pS s)) : EvE te Γ (pK (.inr s)) := h
theorem e_dIn (hk : EvE te Γ (pK k)) (hd : EvE td Γ (pD Ps)) : EvE (tDIn te td) Γ (pB (valT Ps k).isSome) := fun F σ G H e Q q =>
  hk F σ G H e _ fun v G1 H1 g1 p1 => hd F σ G1 H1 (e.grow g1) _ fun x G2 H2 g2 ⟨a, ob, h1, h2, vs, h3, h4⟩ => by
    subst h1 h3
    have p1' : v = kV k := p1
    subst p1'
    refine ⟨a, _, rfl, DGet.k (g2.s _ _ h2), q _ G2 H2 (g1.trans g2) (congrArg V.bl ?_)⟩
    have q := h4.val (k := k)
    cases z : valT Ps k with
    | none => rw [q.1 z] <;> rfl
    | some P =>
      obtain ⟨v, h, _⟩ := q.2 P z
      rw [h] <;> rfl
theorem e_dNotIn (hk : EvE te Γ (pK k)) (hd : EvE td Γ (pD Ps)) : EvE (tDNotIn te td) Γ (pB (!(valT Ps k).isSome)) := fun F σ G H e Q q =>
  hk F σ G H e _ fun v G1 H1 g1 p1 => hd F σ G1 H1 (e.grow g1) _ fun x G2 H2 g2 ⟨a, ob, h1, h2, vs, h3, h4⟩ => by
    subst h1 h3
    have p1' : v = kV k := p1
    subst p1'
    refine ⟨a, _, rfl, DGet.k (g2.s _ _ h2), q _ G2 H2 (g1.trans g2) (congrArg V.bl ?_)⟩
    have q := h4.val (k := k)
    cases z : valT Ps k with
    | none => rw [q.1 z] <;> rfl
    | some P =>
      obtain ⟨v, h, _⟩ := q.2 P z
      rw [h] <;> rfl
theorem e_dGet (hd : EvE td Γ (pD Ps)) (hk : EvE te Γ (pK k)) (h : valT Ps k = some P) : EvE (tDGet td te) Γ P := fun F σ G H e Q q =>
  hd F σ G H e _ fun x G1 H1 g1 ⟨a, ob, h1, h2, vs, h3, h4⟩ => hk F σ G1 H1 (e.grow g1) _ fun v G2 H2 g2 p2 => by
    subst h1 h3
    have p2' : v = kV k := p2
    subst p2'
    obtain ⟨w, h5, h6⟩ := ((h4.m g2.g).val (k := k)).2 P h
    refine ⟨a, w, rfl, ?_, q w G2 H2 (g1.trans g2) h6⟩
    rw [← h5]
    exact DGet.k (g2.s _ _ (g2.g _ _ h2))
/-- {k: v for x in xs} -/
def dcM {α β : Type} (fb : α → Option Bool) (fk : α → Option Key) (fv : α → Option β) : List (Key × β) → List α → Option (List (Key × β))
  | acc, [] => some acc
  | acc, x :: xs => match fb x with
    | none => none
    | some false => dcM fb fk fv acc xs
    | some true => match fk x, fv x with
      | some k, some v => dcM fb fk fv (putT acc k v) xs
      | _, _ => none
theorem e_dc {α β : Type} {r : α → Pr} {rb : β → Pr} {xs : List α} {kvs : List (Key × β)} {wi : TI} {g : TG} {js vs : List Nat} {tt : TT} (Γx : α → Ctx) (fb : α → Option Bool) (fk : α → Option Key) (fv : α → Option β) (h : EvI wi Γ r xs) (hz : xs.length ≤ sizeLine) (hg : ∀ x, EvG g js (wipeC Γ vs) (r x) (Γx x)) (hj : ∀ j ∈ js, j ∈ vs)
    (ht : ∀ x b, x ∈ xs → fb x = some b → EvT tt (Γx x) b) (hk : ∀ x k, x ∈ xs → fb x = some true → fk x = some k → EvE tk (Γx x) (pK k)) (hv : ∀ x y, x ∈ xs → fb x = some true → fv x = some y → EvE tv (Γx x) (rb y)) (hm : dcM fb fk fv [] xs = some kvs) :
    EvW (tDc wi g tt tk tv vs) Γ (oD (kvs.map (rK rb))) := fun F σ G H e Q q =>
  h F σ G H e _ fun J X G1 H1 g1 w x1 => fun D hD => by
    obtain ⟨Gc, Y, wk, k1, k2⟩ := w.ex
    obtain ⟨Ls0, e0⟩ := e.grow g1
    obtain ⟨Ls, e1, hLs⟩ := e0.norm
    have hLD : ∀ i a, a ∈ Ls i → a ≠ D := fun i a ha z => hLs i a ha (z ▸ hD)
    have hGD : G1 D = none := e1.gr.s.free hD
    have hFD : F.H D = none := e1.gr.h.free hD
    have main : ∃ W : Nat → Nat → Hp → Prop, (∃ m, W 0 m (upd H1 D (.dK []))) ∧ ∀ i m H, W i m H → (J.stop i H ∧ Q (.ref D) H) ∨ (J.go i H ∧ ∃ Nx : Hp → Prop, (∀ H', Nx H' → ∃ m', m' < m ∧ W (i + 1) m' H') ∧ ∀ x H', J.yld i H x H' → g x (L2.wipe σ vs) H' fun σ2 H2 => L2.wipe σ2 vs = L2.wipe σ vs ∧ tt σ2 H2 fun b H3 =>
      if b = true then tk σ2 H3 fun y H4 => tv σ2 H4 fun z H5 => ∃ kvs k, y = kV k ∧ H5 D = some (.dK kvs) ∧ kvs.length < sizeLine ∧ Nx (upd H5 D (.dK (putK kvs k z))) else Nx H3) := by
      refine ⟨fun i m H' => m = xs.length - i ∧ i ≤ xs.length ∧ ∃ G' acc zs, EOk1 (withX F X w.m) (wipeC Γ vs) (L2.wipe σ vs) G' H' Ls ∧ Gr G1 H1 G' H' ∧ G' D = none ∧ H' D = some (.dK acc) ∧ SatK G' acc (zs.map (rK rb)) ∧ acc.length ≤ i ∧ dcM fb fk fv zs (xs.drop i) = some kvs,
        ⟨xs.length, by simp, Nat.zero_le _, G1, [], [], ((e1.withX x1).wipe vs).updD hLD hGD hFD, Gr.lay g1.s hD, hGD, upd_same, (by show SatK G1 [] ([] : List (Key × Pr)); trivial), Nat.le_refl _, by rw [List.drop_zero]; exact hm⟩, ?_⟩
      rintro i m H' ⟨rfl, hi, G', acc, zs, e', gr', hGD', hHD', hsat, hlen, hrem⟩
      have gc := k1 G' H' e'.x.2 e'.gr.s
      by_cases hlt : i < xs.length
      · refine .inr ⟨wk.goes i H' hlt gc, fun H2 => i + 1 ≤ xs.length ∧ ∃ G' acc zs, EOk1 (withX F X w.m) (wipeC Γ vs) (L2.wipe σ vs) G' H2 Ls ∧ Gr G1 H1 G' H2 ∧ G' D = none ∧ H2 D = some (.dK acc) ∧ SatK G' acc (zs.map (rK rb)) ∧ acc.length ≤ i + 1 ∧ dcM fb fk fv zs (xs.drop (i + 1)) = some kvs,
          fun H2 h2 => ⟨xs.length - (i + 1), by omega, rfl, h2.1, h2.2⟩, fun v H2 hy => ?_⟩
        obtain ⟨G2, x, g2, xi, px⟩ := k2 i G' H' v H2 e'.x.2 e'.gr.s hlt (wk.yields i H' v H2 hlt gc hy)
        have hx : x ∈ xs := List.mem_of_getElem? xi
        rw [drop_cons xi] at hrem
        have hnn : H' D ≠ none := by rw [hHD']; exact fun z => nomatch z
        refine hg x (withX F X w.m) (L2.wipe σ vs) G2 H2 Ls v (e'.grow g2) px _ fun σ3 e3 hw => ⟨(hw vs hj).trans (wipe_wipe vs fun _ h => h), ?_⟩
        unfold dcM at hrem
        cases hfb : fb x with
        | none =>
          rw [hfb] at hrem
          cases hrem
        | some b =>
          refine ht x b hx hfb (withX F X w.m) σ3 G2 H2 ⟨Ls, e3⟩ _ fun G3 H3 g3 => ?_
          rw [hfb] at hrem
          have g23 := g2.trans g3
          cases b with
          | false =>
            show i + 1 ≤ xs.length ∧ ∃ G' acc zs, _
            exact ⟨hlt, G3, acc, zs, e'.grow g23, gr'.trans g23, g23.f D hnn hGD', g23.h _ _ hHD', hsat.m g23.g, Nat.le_succ_of_le hlen, hrem⟩
          | true =>
            show tk σ3 H3 _
            cases hfk : fk x with
            | none =>
              simp only [hfk] at hrem
              cases hrem
            | some k =>
              cases hfv : fv x with
              | none =>
                simp only [hfk, hfv] at hrem
                cases hrem
              | some y =>
                simp only [hfk, hfv] at hrem
                refine hk x k hx hfb hfk (withX F X w.m) σ3 G3 H3 ⟨Ls, e3.grow g3⟩ _ fun z G4 H4 g4 pz => ?_
                refine hv x y hx hfb hfv (withX F X w.m) σ3 G4 H4 ⟨Ls, (e3.grow g3).grow g4⟩ _ fun u G5 H5 g5 pu => ?_
                have g25 := (g23.trans g4).trans g5
                have hG5 : G5 D = none := g25.f D hnn hGD'
                refine ⟨acc, k, pz, g25.h _ _ hHD', Nat.lt_of_le_of_lt hlen (Nat.lt_of_lt_of_le hlt hz), hlt, G5, putK acc k u, putT zs k y, (e'.grow g25).updD hLD hG5 hFD, ?_, hG5, upd_same, ?_, ?_, hrem⟩
                · have q1 := gr'.trans g25
                  exact ⟨q1.g, Gw.mut q1.h hD, Gw.mut q1.s hG5, q1.f⟩
                · rw [show (putT zs k y).map (rK rb) = putT (zs.map (rK rb)) k (rb y) from putT_map rb zs k y]
                  exact (hsat.m g25.g).put pu
                · have := length_putK acc k u
                  omega
      · have ei : i = xs.length := by omega
        subst ei
        refine .inl ⟨wk.stops H' gc, ?_⟩
        rw [List.drop_length] at hrem
        have ez : zs = kvs := Option.some.inj hrem
        subst ez
        refine q (.ref D) [D] G' H' (g1.trans gr') (fun a ha => ?_) ⟨D, .dK acc, rfl, rfl, hHD', acc, rfl, hsat⟩
        rw [List.mem_singleton.mp ha]
        exact ⟨g1.h.free hD, hGD', by rw [hHD']; exact fun z => nomatch z⟩
    exact main
end
/-! ### defs -/
/-- a promise that changes nothing: R tells what the arguments are and what is handed back -/
def spR (R : List Pr → Pr → Prop) : Sp := fun vs H Q _ => ∃ Ps P G, R Ps P ∧ Gw G H ∧ Sat G vs Ps ∧ ∀ v G' H', Gr G H G' H' → P.p G' v → Q v H'
def ctx0 (n : Nat) (Ps : List Pr) : Ctx := Ps.map Slot.val ++ List.replicate (n - Ps.length) Slot.any
theorem sat_start {H : Hp} {vs : List V} {Ps : List Pr} (s : Sat H vs Ps) {i : Nat} {P : Pr} (h : Ps[i]? = some P) : ∃ v, vs[i]? = some v ∧ P.p H v := s.get h
theorem eok_start {G H : Hp} {vs : List V} {Ps : List Pr} {N : List Str} (s : Gw G H) (st : Sat G vs Ps) (hn : Ps.length ≤ N.length) : EOk ⟨G, H, fun _ => True, fun _ h => h⟩ (ctx0 N.length Ps) (L2.start N vs) G H := by
  have lv := st.len
  have nown : ∀ {i : Nat} {W : Ow}, (ctx0 N.length Ps)[i]? = some (.own W) → False := fun {i W} h => by
    unfold ctx0 at h
    have m := List.mem_of_getElem? h
    rcases List.mem_append.mp m with m | m
    · obtain ⟨_, _, z⟩ := List.mem_map.mp m
      cases z
    · cases List.eq_of_mem_replicate m
  refine ⟨fun _ => [], Gr.refl s, trivial, ?_, fun i sl h => ?_, fun i W h => (nown h).elim, fun i j W W' h => (nown h).elim⟩
  · unfold L2.start ctx0
    rw [List.length_append, List.length_append, List.length_map, List.length_map, List.length_replicate, List.length_replicate, lv]
  · unfold ctx0 at h
    by_cases hi : i < Ps.length
    · rw [List.getElem?_append_left (by rw [List.length_map]; exact hi), List.getElem?_map, List.getElem?_eq_getElem hi] at h
      cases h
      obtain ⟨v, h1, h2⟩ := st.get (List.getElem?_eq_getElem hi)
      have e : (L2.start N vs)[i]? = some (some v) := by
        unfold L2.start
        rw [List.getElem?_append_left (by rw [List.length_map, lv]; exact hi), List.getElem?_map, h1]
        rfl
      rw [e]
      exact h2
    · rw [List.getElem?_append_right (by rw [List.length_map]; omega)] at h
      have := List.eq_of_mem_replicate (List.mem_of_getElem? h)
      subst this
      trivial
section
variable {P : Program} {w : World} {K : PySem.W.Frag} {mg : Str → Option Value} {base : Heap} {x qual : Str} {params : Arguments} {body : List Stmt} {scope : Scope} {dvs : List V} {kws : List (Str × V)} {f : Addr} {fd : FuncData}
theorem fn_R {N ps : List Str} {k : Nat} {R : List Pr → Pr → Prop} (F : FunD K x qual params body scope dvs kws f fd) (S : FnScope N ps scope) (hl : ∀ Ps Q, R Ps Q → Ps.length = ps.length) (hn : ps.length ≤ N.length)
    (hb : ∀ (cdv : Value) (A : Around) (outer : List Env) (s : Shared) (H : Hp) (E : XK), Room k (A.deeper (PyProof.Rows.envOfC qual scope s.heap.objs.size f cdv)) →
      ∃ t, PSs (cxOf CX0 P w K mg base N qual scope f cdv A outer s H E).nox body t ∧ ∀ Ps Q, R Ps Q → StS t (ctx0 N.length Ps) (.rt Q)) : FnOk P w K mg base CX0 (k + 1) f fd ps (spR R) := by
  refine F.ok S (fun vs H Q E ⟨Ps, Pq, G, h1, h2, h3, _⟩ => h3.len.trans (hl Ps Pq h1)) fun cdv A outer s H vs Q E hr ⟨Ps, Pq, G, h1, h2, h3, h4⟩ => ?_
  obtain ⟨t, ht, hs⟩ := hb cdv A outer s H E hr
  refine ⟨t, ht.nox, hs Ps Pq h1 _ (L2.start N vs) G H _ (eok_start h2 h3 (by rw [hl Ps Pq h1]; exact hn)) fun v G' H' g p => h4 v G' H' g p⟩
end
section
variable {X : Cx} {K : PySem.W.Frag} {Γ : Ctx} {ta : TE} {tas tk : TA} {Ps Ds Os Zs : List Pr} {P : Pr} {R : List Pr → Pr → Prop} {dvs : List V} {E : XK} {C : Addr} {m : Str} {ns : List Str}
/-- what the defaults are, whatever the heap -/
def Dfl (dvs : List V) (Ds : List Pr) : Prop := ∀ H, Sat H dvs Ds
theorem e_call (h : EvA tas Γ Ps) (hd : Dfl dvs Ds) (hR : R (Ps ++ Ds) P) : EvE (tCall (spR R) dvs E tas) Γ P := fun F σ G H e Q q =>
  h F σ G H e _ fun vs G1 H1 g1 s1 => ⟨_, P, G1, hR, g1.s, s1.app (hd G1), fun v G2 H2 g2 p2 => q v G2 H2 (g1.trans g2) p2⟩
theorem e_call0 (h : EvA tas Γ Ps) (hR : R Ps P) : EvE (tCall (spR R) [] E tas) Γ P := e_call (Ds := []) h (fun _ => trivial) (by rw [List.append_nil]; exact hR)
theorem lookup_none {f : Str} : ∀ {ns : List Str} {vs : List V}, f ∉ ns → (ns.zip vs).lookup f = none
  | [], _, _ => rfl
  | _ :: _, [], _ => rfl
  | n :: ns, v :: vs, h => by
    have ne : (f == n) = false := beq_eq_false_iff_ne.mpr fun z => h (z ▸ List.mem_cons_self)
    rw [List.zip_cons_cons, List.lookup_cons, ne]
    exact lookup_none fun z => h (List.mem_cons_of_mem _ z)
theorem e_meth (ho : EvE ta Γ (pO C ns Os)) (hm : m ∉ ns) (h : EvA tas Γ Ps) (hd : Dfl dvs Ds) (hR : R (pO C ns Os :: (Ps ++ Ds)) P) : EvE (tMeth C m (spR R) dvs E ta tas) Γ P := fun F σ G H e Q q =>
  ho F σ G H e _ fun x G1 H1 g1 p1 => by
    obtain ⟨a, ob, h1, h2, dx, vs, h3, h4⟩ := id p1
    subst h1 h3
    exact ⟨a, dx, _, rfl, g1.s _ _ h2, lookup_none hm, h F σ G1 H1 (e.grow g1) _ fun vs G2 H2 g2 s2 => ⟨_, P, G2, hR, g2.s, ⟨(pO C ns Os).m g2.g p1, s2.app (hd G2)⟩, fun v G3 H3 g3 p3 => q v G3 H3 ((g1.trans g2).trans g3) p3⟩⟩
theorem e_meth0 (ho : EvE ta Γ (pO C ns Os)) (hm : m ∉ ns) (h : EvA tas Γ Ps) (hR : R (pO C ns Os :: Ps) P) : EvE (tMeth C m (spR R) [] E ta tas) Γ P := e_meth (Ds := []) ho hm h (fun _ => trivial) (by rw [List.append_nil]; exact hR)
/-! ### new objects -/
def delH (H : Hp) (x : Addr) : Hp := fun a => if a = x then none else H a
theorem delH_ne {H : Hp} {x a : Addr} (h : a ≠ x) : delH H x a = H a := if_neg h
theorem delH_same {H : Hp} {x : Addr} : delH H x x = none := if_pos rfl
/-- what an __init__ promises: R tells the arguments and the fields -/
def spI (C : Addr) (ns : List Str) (R : List Pr → List Pr → Prop) : Sp := fun vs H Q _ => ∃ x dx ws Ps Qs G, vs = .ref x :: ws ∧ H x = some (.ins C dx []) ∧ G x = none ∧ Gw G H ∧ R Ps Qs ∧ Sat G ws Ps ∧
  ∀ us dx' G' H', Gr G (delH H x) G' H' → G' x = none → H' x = some (.ins C dx' (ns.zip us)) → Sat G' us Qs → Q .non H'
theorem make_end {G H G1 H1 G' H' : Hp} {x dx dx' : Addr} {us : List V} {Qs : List Pr} (g1 : Gr G H G1 H1) (hx : H1 x = none) (hd : H1 dx = none) (g : Gr G1 (delH (upd (upd H1 dx (.own x)) x (.ins C dx [])) x) G' H') (h1 : G' x = none) (h2 : H' x = some (.ins C dx' (ns.zip us))) (h3 : Sat G' us Qs) :
    Gr G H (upd G' x (.ins C dx' (ns.zip us))) H' ∧ (pO C ns Qs).p (upd G' x (.ins C dx' (ns.zip us))) (.ref x) := by
  have gn : Gw G' (upd G' x (.ins C dx' (ns.zip us))) := Gw.new h1
  refine ⟨g1.trans ⟨g.g.trans gn, fun a o e => ?_, fun a o e => ?_, fun a ha ga => ?_⟩, x, _, rfl, upd_same, dx', us, rfl, h3.m gn⟩
  · refine g.h a o ?_
    have n1 : a ≠ x := ne_of_none e hx
    have n2 : a ≠ dx := ne_of_none e hd
    rw [delH_ne n1, upd_ne n1, upd_ne n2]
    exact e
  · by_cases z : a = x
    · subst z
      rw [upd_same] at e
      cases e
      exact h2
    · rw [upd_ne z] at e
      exact g.s a o e
  · have n1 : a ≠ x := fun z => ha (z ▸ hx)
    have n2 : a ≠ dx := fun z => ha (z ▸ hd)
    rw [upd_ne n1]
    refine g.f a ?_ ga
    rw [delH_ne n1, upd_ne n1, upd_ne n2]
    exact ha
theorem gw_made {G H : Hp} {x dx : Addr} (s : Gw G H) (hx : H x = none) (hd : H dx = none) : Gw G (upd (upd H dx (.own x)) x (.ins C dx [])) := fun a o e => by
  have e1 := s a o e
  rw [upd_ne (ne_of_none e1 hx), upd_ne (ne_of_none e1 hd)]
  exact e1
theorem e_make {Qs : List Pr} {RI : List Pr → List Pr → Prop} (h : EvA tas Γ Ps) (hd : Dfl dvs Ds) (hR : RI (Ps ++ Ds) Qs) : EvE (tMake C (spI C ns RI) dvs E tas) Γ (pO C ns Qs) := fun F σ G H e Q q =>
  h F σ G H e _ fun vs G1 H1 g1 s1 => fun x dx hx hdx ne => by
    refine ⟨x, dx, vs ++ dvs, Ps ++ Ds, Qs, G1, rfl, upd_same, g1.s.free hx, gw_made g1.s hx hdx, hR, s1.app (hd G1), fun us dx' G' H' g h1 h2 h3 => ⟨rfl, ?_⟩⟩
    obtain ⟨k1, k2⟩ := make_end g1 hx hdx g h1 h2 h3
    exact q _ _ H' k1 k2
theorem e_make0 {Qs : List Pr} {RI : List Pr → List Pr → Prop} (h : EvA tas Γ Ps) (hR : RI Ps Qs) : EvE (tMake C (spI C ns RI) [] E tas) Γ (pO C ns Qs) := e_make (Ds := []) h (fun _ => trivial) (by rw [List.append_nil]; exact hR)
/-- with keywords: gV puts the values in the parameters' order -/
theorem e_makeK {Qs Ws : List Pr} {RI : List Pr → List Pr → Prop} {n m : Nat} {gV : List V → List V → List V} (h : EvA tas Γ Ps) (hk : EvA tk Γ Zs) (hn : Ps.length = n) (hm : Zs.length = m)
    (hg : ∀ x vs zs G, Sat G vs Ps → Sat G zs Zs → ∃ ws, gV (.ref x :: vs) zs = .ref x :: ws ∧ Sat G ws Ws) (hR : RI Ws Qs) : EvE (tMakeK C n m (spI C ns RI) gV E tas tk) Γ (pO C ns Qs) := fun F σ G H e Q q =>
  h F σ G H e _ fun vs G1 H1 g1 s1 => hk F σ G1 H1 (e.grow g1) _ fun zs G2 H2 g2 s2 => by
    refine ⟨s1.len.trans hn, s2.len.trans hm, fun x dx hx hdx ne => ?_⟩
    obtain ⟨ws, e1, e2⟩ := hg x vs zs G2 (s1.m g2.g) s2
    refine ⟨x, dx, ws, Ws, Qs, G2, e1, upd_same, g2.s.free hx, gw_made g2.s hx hdx, hR, e2, fun us dx' G' H' g h1 h2 h3 => ⟨rfl, ?_⟩⟩
    obtain ⟨k1, k2⟩ := make_end (g1.trans g2) hx hdx g h1 h2 h3
    exact q _ _ H' k1 k2
end
/-! ### the body of an __init__ -/
theorem zip_snoc {f : Str} {y : V} : ∀ {ns : List Str} {vs : List V}, f ∉ ns → ns.length = vs.length → putF f y (ns.zip vs) = (ns ++ [f]).zip (vs ++ [y])
  | [], [], _, _ => rfl
  | n :: ns, v :: vs, h, l => by
    have ne : ¬ n = f := fun z => h (z ▸ List.mem_cons_self)
    have ih := zip_snoc (y := y) (fun z => h (List.mem_cons_of_mem _ z)) (Nat.succ.inj l)
    show putF f y ((n, v) :: ns.zip vs) = (n, v) :: (ns ++ [f]).zip (vs ++ [y])
    unfold putF
    rw [if_neg ne, ih]
  | [], _ :: _, _, l => nomatch l
  | _ :: _, [], _, l => nomatch l
end Y

set_option Elab.async false
set_option linter.all false
set_option maxRecDepth 100000
namespace Y
open PySem L2
/-! ### an object at a known place, being filled -/
def oX (x : Addr) (W : Hp → HO → Prop) (m : ∀ {G G' : Hp} {o : HO}, Gw G G' → W G o → W G' o) : Ow :=
  ⟨fun G H v L => v = .ref x ∧ L = [x] ∧ ∃ o, H x = some o ∧ W G o, fun e k ⟨h1, h2, o, h3, h4⟩ => ⟨h1, h2, o, by rw [k x (by rw [h2]; exact List.mem_singleton.mpr rfl)]; exact h3, m e h4⟩⟩
def oS (x C : Addr) (ns : List Str) (Ps : List Pr) : Ow := oX x (wO C ns Ps) wO.m
section
variable {K : PySem.W.Frag} {Γ : Ctx} {te : TE} {P : Pr} {Ps : List Pr} {C x : Addr} {ns : List Str} {f : Str} {i : Nat}
theorem zip_len {vs : List V} (l : ns.length = vs.length) : (ns.zip vs).length = ns.length := by
  rw [List.length_zip, l, Nat.min_self]
/-- self.f = e, a new field -/
theorem s_setF (c : Cls K C) (n : NoAttr K C f) (hi : Γ[i]? = some (.own (oS x C ns Ps))) (hf : f ∉ ns) (hl : ns.length = Ps.length ∧ ns.length < 1000) (h : EvE te Γ P) : StS (sFld K (tVar i) te f) Γ (.nx (Γ.set i (.own (oS x C (ns ++ [f]) (Ps ++ [P]))))) := fun F σ G H D e g =>
  h F σ G H e _ fun v G1 H1 g1 p1 => by
    obtain ⟨Ls, e1⟩ := e.grow g1
    obtain ⟨w, h1, h2, h3, ob, h4, dx, vs, h5, h6⟩ := (e1.at_ i _ hi).own_
    subst h2 h5
    have lv : ns.length = vs.length := hl.1.trans h6.len.symm
    refine ⟨_, h1, x, C, dx, _, rfl, h4, c, n, by rw [zip_len lv]; exact hl.2, g σ G1 _ ?_⟩
    refine e1.mut (L := [x]) hi h1 (fun b hb _ => upd_ne fun z => hb (by rw [h3, z]; exact List.mem_singleton.mpr rfl)) ⟨rfl, rfl, _, upd_same, dx, vs ++ [v], ?_, h6.snoc p1⟩ (fun b hb => .inl (h3 ▸ hb)) (fun b hb => ?_)
    · rw [zip_snoc hf lv]
    · rw [List.mem_singleton.mp hb, upd_same]
      exact fun z => nomatch z
theorem zip_set {y : V} : ∀ {ns : List Str} {vs : List V} {j : Nat}, ns.Nodup → ns[j]? = some f → ns.length = vs.length → putF f y (ns.zip vs) = ns.zip (vs.set j y)
  | [], _, _, _, h, _ => by simp at h
  | n :: ns, v :: vs, 0, _, h, _ => by
    simp at h
    subst h
    show putF n y ((n, v) :: ns.zip vs) = (n, y) :: ns.zip vs
    unfold putF
    rw [if_pos rfl]
  | n :: ns, v :: vs, j + 1, nd, h, l => by
    have h' : ns[j]? = some f := by simpa using h
    have ne : ¬ n = f := fun z => (List.nodup_cons.mp nd).1 (z ▸ List.mem_of_getElem? h')
    show putF f y ((n, v) :: ns.zip vs) = (n, v) :: ns.zip (vs.set j y)
    unfold putF
    rw [if_neg ne, zip_set (List.nodup_cons.mp nd).2 h' (Nat.succ.inj l)]
  | _ :: _, [], _, _, _, l => nomatch l
/-- self.f = e, a field that stands -/
theorem s_setF2 {j : Nat} (c : Cls K C) (n : NoAttr K C f) (hi : Γ[i]? = some (.own (oS x C ns Ps))) (nd : ns.Nodup) (hf : ns[j]? = some f) (hl : ns.length = Ps.length ∧ ns.length < 1000) (h : EvE te Γ P) : StS (sFld K (tVar i) te f) Γ (.nx (Γ.set i (.own (oS x C ns (Ps.set j P))))) := fun F σ G H D e g =>
  h F σ G H e _ fun v G1 H1 g1 p1 => by
    obtain ⟨Ls, e1⟩ := e.grow g1
    obtain ⟨w, h1, h2, h3, ob, h4, dx, vs, h5, h6⟩ := (e1.at_ i _ hi).own_
    subst h2 h5
    have lv : ns.length = vs.length := hl.1.trans h6.len.symm
    refine ⟨_, h1, x, C, dx, _, rfl, h4, c, n, by rw [zip_len lv]; exact hl.2, g σ G1 _ ?_⟩
    refine e1.mut (L := [x]) hi h1 (fun b hb _ => upd_ne fun z => hb (by rw [h3, z]; exact List.mem_singleton.mpr rfl)) ⟨rfl, rfl, _, upd_same, dx, vs.set j v, ?_, Sat.set p1 j h6⟩ (fun b hb => .inl (h3 ▸ hb)) (fun b hb => ?_)
    · rw [zip_set nd hf lv]
    · rw [List.mem_singleton.mp hb, upd_same]
      exact fun z => nomatch z
/-- self.f -/
theorem e_fldS {j : Nat} (c : Cls K C) (n : NoAttr K C f) (nd : ns.Nodup) (hj : ns[j]? = some f) (hP : Ps[j]? = some P) (hi : Γ[i]? = some (.own (oS x C ns Ps))) : EvE (tFld K (tVar i) f) Γ P := fun F σ G H e Q q => by
  obtain ⟨Ls, e1⟩ := e
  obtain ⟨w, h1, h2, h3, ob, h4, dx, vs, h5, h6⟩ := (e1.at_ i _ hi).own_
  subst h2 h5
  obtain ⟨u, k1, k2⟩ := h6.get hP
  exact ⟨_, h1, x, C, dx, _, u, rfl, h4, c, n, lookup_zip nd hj k1, q u G H (Gr.refl e1.gr.s) k2⟩
end
def ctxI (n : Nat) (x C : Addr) (Ps : List Pr) : Ctx := .own (oS x C [] []) :: ctx0 n Ps
theorem eok_startI {G H : Hp} {x C dx : Addr} {vs : List V} {Ps : List Pr} {N : List Str} {y : Str} (s : Gw G H) (hx : H x = some (.ins C dx [])) (gx : G x = none) (st : Sat G vs Ps) (hn : Ps.length ≤ N.length) :
    EOk ⟨G, delH H x, fun _ => True, fun _ h => h⟩ (ctxI N.length x C Ps) (L2.start (y :: N) (.ref x :: vs)) G H := by
  have sd : Gw G (delH H x) := fun a o e => by
    rw [delH_ne (ne_of_none e gx)]
    exact s a o e
  obtain ⟨Ls, e⟩ := eok_start (N := N) sd st hn
  have es : L2.start (y :: N) (.ref x :: vs) = some (.ref x) :: L2.start N vs := by
    unfold L2.start
    rw [List.map_cons, List.length_cons, List.length_cons, Nat.add_sub_add_right] <;> rfl
  have nown : ∀ {i : Nat} {W : Ow}, (ctx0 N.length Ps)[i]? = some (.own W) → False := fun {i W} h => by
    unfold ctx0 at h
    have m := List.mem_of_getElem? h
    rcases List.mem_append.mp m with m | m
    · obtain ⟨_, _, z⟩ := List.mem_map.mp m
      cases z
    · cases List.eq_of_mem_replicate m
  rw [es]
  refine ⟨fun _ => [x], ⟨Gw.refl G, fun a o e => ?_, s, fun _ _ h => h⟩, trivial, congrArg Nat.succ e.len, fun i sl h => ?_, fun i W h a ha => ?_, fun i j W W' h h' ne => ?_⟩
  · have e : delH H x a = some o := e
    by_cases z : a = x
    · rw [z, delH_same] at e
      cases e
    · rw [delH_ne z] at e
      exact e
  · cases i with
    | zero =>
      cases h
      exact ⟨rfl, rfl, _, hx, dx, [], rfl, trivial⟩
    | succ i =>
      have h' : (ctx0 N.length Ps)[i]? = some sl := by simpa [ctxI] using h
      have q := e.at_ i sl h'
      cases sl with
      | any => trivial
      | val P =>
        obtain ⟨v, q1, q2⟩ := q.val_
        show SlotOk G H [x] (.val P) (some (V.ref x) :: L2.start N vs)[i + 1]?
        rw [List.getElem?_cons_succ, q1]
        exact q2
      | own W => exact (nown h').elim
  · rw [List.mem_singleton.mp ha]
    exact ⟨gx, delH_same, by rw [hx]; exact fun z => nomatch z⟩
  · cases i with
    | succ i => exact (nown (by simpa [ctxI] using h)).elim
    | zero =>
      cases j with
      | zero => exact absurd rfl ne
      | succ j => exact (nown (by simpa [ctxI] using h')).elim
section
variable {P : Program} {w : World} {K : PySem.W.Frag} {mg : Str → Option Value} {base : Heap} {x qual : Str} {params : Arguments} {body : List Stmt} {scope : Scope} {dvs : List V} {kws : List (Str × V)} {f : Addr} {fd : FuncData}
theorem fn_I {N ps : List Str} {y : Str} {k : Nat} {C : Addr} {ns : List Str} {R : List Pr → List Pr → Prop} (F : FunD K x qual params body scope dvs kws f fd) (S : FnScope (y :: N) ps scope) (hl : ∀ Ps Q, R Ps Q → Ps.length + 1 = ps.length) (hn : ps.length ≤ N.length + 1)
    (hb : ∀ (cdv : Value) (A : Around) (outer : List Env) (s : Shared) (H : Hp) (E : XK), Room k (A.deeper (PyProof.Rows.envOfC qual scope s.heap.objs.size f cdv)) →
      ∃ t, PSs (cxOf CX0 P w K mg base (y :: N) qual scope f cdv A outer s H E).nox body t ∧ ∀ z Ps Qs, R Ps Qs → ∃ Γ', StS t (ctxI N.length z C Ps) (.nx Γ') ∧ Γ'[0]? = some (.own (oS z C ns Qs))) : FnOk P w K mg base CX0 (k + 1) f fd ps (spI C ns R) := by
  refine F.ok S (fun vs H Q E ⟨z, dx, ws, Ps, Qs, G, h1, _, _, _, h5, h6, _⟩ => ?_) fun cdv A outer s H vs Q E hr ⟨z, dx, ws, Ps, Qs, G, h1, h2, h3, h4, h5, h6, h7⟩ => ?_
  · subst h1
    show ws.length + 1 = _
    rw [h6.len]
    exact hl _ _ h5
  · subst h1
    obtain ⟨t, ht, hs⟩ := hb cdv A outer s H E hr
    obtain ⟨Γ', hs, h0⟩ := hs z Ps Qs h5
    refine ⟨t, ht.nox, hs _ _ G H _ (eok_startI h4 h2 h3 h6 ?_) ?_⟩
    · have := hl _ _ h5
      omega
    · rintro σ' G' H' ⟨Ls, e⟩
      obtain ⟨v, k1, k2, k3, ob, k4, dx', us, k5, k6⟩ := (e.at_ 0 _ h0).own_
      subst k5
      exact h7 us dx' G' H' e.gr (e.fr 0 _ h0 z (by rw [k3]; exact List.mem_singleton.mpr rfl)).1 k4 k6
end
/-! ### operations that may fail, for the mirrors -/
def fdivM (i j : Int) : Option Int := if 0 < j ∧ j < 1073741824 then some (i / j) else none
def modM (i j : Int) : Option Int := if 0 < j then some (i % j) else none
def mulM (i j : Int) : Option Int := if (-(2 ^ 64) < i ∧ i < 2 ^ 64) ∨ (-(2 ^ 64) < j ∧ j < 2 ^ 64) then some (i * j) else none
def shlM (i j : Int) : Option Int := if 0 ≤ j ∧ j ≤ 1000000 ∧ i.natAbs < 2 ^ 64 then some (i * 2 ^ j.toNat) else none
def shrM (i j : Int) : Option Int := if 0 ≤ j then some (i / 2 ^ j.toNat) else none
def rngM (n : Int) : Option (List Int) := if -(2 ^ 62) ≤ n ∧ n < 2 ^ 62 then some (rangeI 0 n.toNat) else none
def rng2M (m n : Int) : Option (List Int) := if -(2 ^ 62) ≤ m ∧ m < 2 ^ 62 ∧ -(2 ^ 62) ≤ n ∧ n < 2 ^ 62 then some (rangeI m (n - m).toNat) else none
def appM {α : Type} (xs : List α) (x : α) : Option (List α) := if xs.length < sizeLine then some (xs ++ [x]) else none
def catM {α : Type} (xs ys : List α) : Option (List α) := if xs.length + ys.length ≤ sizeLine then some (xs ++ ys) else none
def repM {α : Type} (xs : List α) (k : Int) : Option (List α) := if (-(2 ^ 63) ≤ k ∧ k < 2 ^ 63) ∧ xs.length * k.toNat ≤ sizeLine then some (List.replicate k.toNat xs).flatten else none
def setM {α : Type} (xs : List α) (k : Int) (x : α) : Option (List α) := (ixN xs.length k).map fun j => xs.set j x
def szM {α : Type} (xs : List α) : Option (List α) := if xs.length ≤ sizeLine then some xs else none
section
variable {i j x : Int} {K : PySem.W.Frag} {Γ : Ctx} {ta tb te ti : TE} {tas : TA}
theorem if_some {α : Type} {c : Prop} [Decidable c] {a b : α} (h : (if c then some a else none) = some b) : c ∧ a = b := by
  by_cases z : c
  · rw [if_pos z] at h
    exact ⟨z, Option.some.inj h⟩
  · rw [if_neg z] at h
    cases h
theorem rr_fdivM (h : fdivM i j = some x) : RR (rI CDiv fun i j => .int (i / j)) (pI i) (pI j) (pI x) := by
  obtain ⟨a, rfl⟩ := if_some h
  exact rr_I a
theorem rr_modM (h : modM i j = some x) : RR (rI (fun _ j => 0 < j) fun i j => .int (i % j)) (pI i) (pI j) (pI x) := by
  obtain ⟨a, rfl⟩ := if_some h
  exact rr_I a
theorem rr_mulM (h : mulM i j = some x) : RR (rI CMul fun i j => .int (i * j)) (pI i) (pI j) (pI x) := by
  obtain ⟨a, rfl⟩ := if_some h
  exact rr_I a
theorem rr_shlM (h : shlM i j = some x) : RR (rI CPow fun i j => .int (i * 2 ^ j.toNat)) (pI i) (pI j) (pI x) := by
  obtain ⟨a, rfl⟩ := if_some h
  exact rr_I (g := fun i j => i * 2 ^ j.toNat) a
theorem rr_shrM (h : shrM i j = some x) : RR (rI (fun _ j => 0 ≤ j) fun i j => .int (i / 2 ^ j.toNat)) (pI i) (pI j) (pI x) := by
  obtain ⟨a, rfl⟩ := if_some h
  exact rr_I (g := fun i j => i / 2 ^ j.toNat) a
theorem i_rngM {n : Int} {xs : List Int} (h : EvA tas Γ [pI n]) (hn : rngM n = some xs) : EvI (iRng1 tas) Γ pI xs := by
  obtain ⟨a, rfl⟩ := if_some hn
  exact i_rng1 h a
theorem i_rng2M {m n : Int} {xs : List Int} (h : EvA tas Γ [pI m, pI n]) (hn : rng2M m n = some xs) : EvI (iRng2 tas) Γ pI xs := by
  obtain ⟨a, rfl⟩ := if_some hn
  exact i_rng2 h a
variable {α : Type} {r : α → Pr} {xs ys zs : List α}
theorem atI_map {k : Int} {a : α} (h : atI xs k = some a) : atI (xs.map r) k = some (r a) := by
  unfold atI at h ⊢
  rw [List.length_map]
  cases z : ixN xs.length k with
  | none =>
    rw [z] at h
    cases h
  | some j =>
    rw [z] at h
    have h' : xs[j]? = some a := h
    show (xs.map r)[j]? = _
    rw [List.getElem?_map, h'] <;> rfl
theorem e_ixLM {k : Int} {a : α} (hl : EvR K ta Γ (xs.map r)) (hi : EvE tb Γ (pI k)) (h : atI xs k = some a) : EvE (tOp (rIxL K) ta tb) Γ (r a) := e_ixL hl hi (atI_map h)
theorem e_lenM (hl : EvR K ta Γ (xs.map r)) : EvE (tCB (rLenS K) (tCons ta tNil)) Γ (pI (xs.length : Int)) := e_to (e_len hl) (by rw [List.length_map])
theorem cut_map {lo hi : Option Int} : cutP (xs.map r) lo hi = (cutP xs lo hi).map r := by
  unfold cutP
  rw [List.length_map, ← List.map_drop, ← List.map_take]
theorem w_sliceM {tl th : TO} {lo hi : Option Int} (hx : EvR K ta Γ (xs.map r)) (hl : EvO tl Γ lo) (hh : EvO th Γ hi) : EvW (tSl (rSlL K) ta tl th) Γ (oL ((cutP xs lo hi).map r)) := by
  rw [← cut_map]
  exact w_slice hx hl hh
theorem w_catM (ha : EvS ta Γ (xs.map r)) (hb : EvS tb Γ (ys.map r)) (h : catM xs ys = some zs) : EvW (tOp rCat ta tb) Γ (oL (zs.map r)) := by
  obtain ⟨a, rfl⟩ := if_some h
  rw [List.map_append]
  exact w_cat ha hb (by rw [List.length_map, List.length_map]; exact a)
theorem flat_map {n : Nat} : (List.replicate n (xs.map r)).flatten = ((List.replicate n xs).flatten).map r := by
  rw [List.map_flatten, List.map_replicate]
theorem w_repM {k : Int} (ha : EvS ta Γ (xs.map r)) (hb : EvE tb Γ (pI k)) (h : repM xs k = some zs) : EvW (tOp rRep ta tb) Γ (oL (zs.map r)) := by
  obtain ⟨a, rfl⟩ := if_some h
  rw [← flat_map]
  exact w_rep ha hb a.1 (by rw [List.length_map]; exact a.2)
theorem s_appM {i : Nat} {a : α} (hi : Γ[i]? = some (.own (oL (xs.map r)))) (h : EvE te Γ (r a)) (hz : appM xs a = some zs) : StS (tDrop (tBM K "list" rAppend (tVar i) (tCons te tNil))) Γ (.nx (Γ.set i (.own (oL (zs.map r))))) := by
  obtain ⟨q, rfl⟩ := if_some hz
  rw [List.map_append]
  exact s_app hi h (by rw [List.length_map]; exact q)
theorem set_map {j : Nat} {a : α} : (xs.map r).set j (r a) = (xs.set j a).map r := by rw [List.map_set]
theorem s_setLM {i : Nat} {k : Int} {a : α} (hi : Γ[i]? = some (.own (oL (xs.map r)))) (h : EvE te Γ (r a)) (hk : EvE ti Γ (pI k)) (hz : setM xs k a = some zs) : StS (tAsg te (gSub (tVar i) ti rSetL)) Γ (.nx (Γ.set i (.own (oL (zs.map r))))) := by
  unfold setM at hz
  cases q : ixN xs.length k with
  | none =>
    rw [q] at hz
    cases hz
  | some j =>
    rw [q] at hz
    cases hz
    rw [← set_map]
    exact s_setL hi h hk (by rw [List.length_map]; exact q)
theorem s_augLM {f : Int → Int → Int} {i : Nat} {k a b : Int} {xs zs : List Int} (hi : Γ[i]? = some (.own (oL (xs.map pI)))) (hk : EvE ti Γ (pI k)) (ha : atI xs k = some a) (h : EvE te Γ (pI b)) (hz : setM xs k (f a b) = some zs) :
    StS (tAugS (tVar i) ti te (rIxL K) (ipI f) rSetL) Γ (.nx (Γ.set i (.own (oL (zs.map pI))))) := by
  unfold setM at hz
  cases q : ixN xs.length k with
  | none =>
    rw [q] at hz
    cases hz
  | some j =>
    rw [q] at hz
    cases hz
    have hj : xs[j]? = some a := by
      unfold atI at ha
      rw [q] at ha
      exact ha
    rw [← set_map]
    exact s_augL hi hk (by rw [List.length_map]; exact q) (by rw [List.getElem?_map, hj] <;> rfl) h
theorem w_lcM {β γ : Type} {r : β → Pr} {rb : γ → Pr} {xs : List β} {ys : List γ} {wi : TI} {g : TG} {js vs : List Nat} {tt : TT} (Γx : β → Ctx) (fb : β → Option Bool) (fe : β → Option γ) (h : EvI wi Γ r xs) (hz : szM xs = some xs) (hg : ∀ x, EvG g js (wipeC Γ vs) (r x) (Γx x)) (hj : ∀ j ∈ js, j ∈ vs)
    (ht : ∀ x b, x ∈ xs → fb x = some b → EvT tt (Γx x) b) (he : ∀ x y, x ∈ xs → fb x = some true → fe x = some y → EvE te (Γx x) (rb y)) (hm : lcM fb fe xs = some ys) : EvW (tLc wi g tt te vs) Γ (oL (ys.map rb)) := w_lc Γx fb fe h (if_some hz).1 hg hj ht he hm
end
/-! ### comparisons in a chain -/
section
variable {Γ : Ctx} {ta tb tc : TE} {P1 P2 P3 : Pr} {r r' : R2}
theorem e_chain {a b c : Bool} (hr : RR r P1 P2 (pB a)) (hr' : a = true → RR r' P2 P3 (pB b)) (ha : EvE ta Γ P1) (hb : EvE tb Γ P2) (hc : a = true → EvE tc Γ P3) (h : c = (a && b)) : EvE (tChain r r' ta tb tc) Γ (pB c) := fun F σ G H e Q q =>
  ha F σ G H e _ fun x G1 H1 g1 p1 => hb F σ G1 H1 (e.grow g1) _ fun y G2 H2 g2 p2 => hr G2 H2 x y _ g2.s (P1.m g2.g p1) p2 fun z G3 H3 g3 p3 => ⟨a, p3, by
    subst h
    have e3 := ((e.grow g1).grow g2).grow g3
    cases a with
    | true => exact hc rfl F σ G3 H3 e3 _ fun u G4 H4 g4 p4 => hr' rfl G4 H4 y u Q g4.s (P2.m (g3.g.trans g4.g) p2) p4 fun v G5 H5 g5 p5 => q v G5 H5 ((((g1.trans g2).trans g3).trans g4).trans g5) p5
    | false => exact q _ G3 H3 ((g1.trans g2).trans g3) rfl⟩
end
end Y

set_option Elab.async false
set_option linter.all false
set_option maxRecDepth 100000
namespace Y
open PySem L2
/-! ### what type a value has -/
def TyP (K : PySem.W.Frag) (P : Pr) (t : Value) : Prop := ∀ (H : Hp) (v : V), P.p H v → TyX K H v t
/-- the class at C as isinstance wants it -/
structure ClsI (K : PySem.W.Frag) (C : Addr) : Prop where
  ha : PySem.W.findIn K (.ref C) "__class__" = some (some (.builtin "object.__class__"))
  hn : PySem.W.specialIn K (.builtin "object.__class__") "__get__" = some (some (.builtin "getset_descriptor.__get__"))
  htk : PySem.W.takesIn K (.builtin "object.__class__") = some true
  hm : PySem.W.mroIn K C (.type "object") = some true
section
variable {K : PySem.W.Frag} {Γ : Ctx} {ta tb te : TE} {P P1 P2 : Pr} {Ps : List Pr} {C : Addr} {ns : List Str} {t u : Value}
theorem ty_I {i : Int} : TyP K (pI i) (.type "int") := fun H v h => by
  cases (show v = V.int i from h)
  exact .base (.int i)
theorem ty_B {b : Bool} : TyP K (pB b) (.type "bool") := fun H v h => by
  cases (show v = V.bl b from h)
  exact .base (.bl b)
theorem ty_S {s : Str} : TyP K (pS s) (.type "str") := fun H v h => by
  cases (show v = V.str s from h)
  exact .base (.str s)
theorem ty_N : TyP K pN (.type "NoneType") := fun H v h => by
  cases (show v = V.non from h)
  exact .base .non
theorem ty_L : TyP K (pL Ps) (.type "list") := fun H v ⟨a, o, h1, h2, vs, h3, _⟩ => by
  subst h1 h3
  exact .base (.lst h2)
theorem ty_T : TyP K (pT Ps) (.type "tuple") := fun H v ⟨a, vs, h1, h2, _⟩ => by
  subst h1
  exact .base (.tup h2)
theorem ty_O (c : Cls K C) (i : ClsI K C) : TyP K (pO C ns Ps) (.ref C) := fun H v ⟨a, o, h1, h2, dx, vs, h3, _⟩ => by
  subst h1 h3
  exact .base (.ins h2 c i.ha i.hn i.htk i.hm)
/-- a class as a value -/
def pCl (c : V) : Pr := ⟨fun _ v => v = c, fun _ h => h⟩
theorem e_cls {c : V} : EvE (tC c) Γ (pCl c) := fun F σ G H e Q q => q _ G H (Gr.refl e.s) rfl
theorem e_isi {c : V} {b : Bool} (h : EvE ta Γ P) (ht : TyP K P t) (hc : ClsV c u) (hk : PySem.W.kitOne K t u = some b) : EvE (tCB (rIsi K) (tCons ta (tCons (tC c) tNil))) Γ (pB b) := fun F σ G H e Q q =>
  h F σ G H e _ fun v G1 H1 g1 p1 => ⟨v, c, t, u, b, rfl, hc, ht H1 v (P.m g1.s p1), hk, q _ G1 H1 g1 rfl⟩
end
/-! ### == by an own __eq__ -/
inductive TyQ (H : Hp) : V → Value → Prop where
  | non : TyQ H .non (.type "NoneType")
  | bl (b : Bool) : TyQ H (.bl b) (.type "bool")
  | int (i : Int) : TyQ H (.int i) (.type "int")
  | str (s : Str) : TyQ H (.str s) (.type "str")
  | lst {a : Addr} {xs : List V} (e : H a = some (.lst xs)) : TyQ H (.ref a) (.type "list")
  | tup {a : Addr} {xs : List V} (e : H a = some (.tup xs)) : TyQ H (.ref a) (.type "tuple")
  | ins {a C dx : Addr} {fs : List (Str × V)} (e : H a = some (.ins C dx fs)) : TyQ H (.ref a) (.ref C)
theorem looks_cls {M : Model} {h : Heap} {a : Addr} {o : Obj} (e : h.get? a = some o) : PySem.W.Looks M h (typeOf (.ref a)) o.cls := (PySem.W.Looks.ld e).andThen .now
section
variable {X : Cx} {pins : List (Addr × Obj)} {σ : St} {H : Hp} {s : Shared}
theorem looks_ty {x : V} {u t : Value} (I : Inv X pins σ H s) (rx : RelV x u) (ty : TyQ H x t) : PySem.W.Looks (model X.prog X.w) s.heap (typeOf u) t := by
  cases ty with
  | non => cases (show u = Value.none from rx); exact .of_pure rfl
  | bl b => cases (show u = Value.bool b from rx); exact .of_pure rfl
  | int i => obtain ⟨t, rfl⟩ := (show ∃ t, u = Value.int i t from rx); exact .of_pure rfl
  | str y => obtain ⟨t, rfl⟩ := (show ∃ t, u = Value.str y t from rx); exact .of_pure rfl
  | @lst a xs ea =>
    cases (show u = Value.ref a from rx)
    obtain ⟨_, _, n, _, h1⟩ := (show ObjOk X.prog X.w H s.heap a (.lst xs) from I.hok a _ ea)
    exact looks_cls h1
  | @tup a xs ea =>
    cases (show u = Value.ref a from rx)
    obtain ⟨_, _, _, o, h1, h2, _⟩ := (show ObjOk X.prog X.w H s.heap a (.tup xs) from I.hok a _ ea)
    rw [← h2]
    exact looks_cls h1
  | @ins a C dx fs ea =>
    cases (show u = Value.ref a from rx)
    obtain ⟨mA, O, _⟩ := ins_get I.hok ea
    obtain ⟨od, J, _⟩ := O.look
    exact J.type
end
def rOwnEq (K : PySem.W.Frag) (C : Addr) (R : List Pr → Pr → Prop) : R2 := fun x y H Q => ∃ a dx fs t, x = .ref a ∧ H a = some (.ins C dx fs) ∧ TyQ H y t ∧ PySem.W.notFirst K C t = true ∧ spR R [x, y] H (fun v H' => ∃ b, v = .bl b ∧ Q (.bl b) H') E0
theorem op_ownEq {X : Cx} {n : Nat} {f C : Addr} {fd : FuncData} {ps : List Str} {R : List Pr → Pr → Prop} (F : FnOk X.prog X.w X.K X.mg X.base CX0 n f fd ps (spR R)) (hs : PySem.W.findIn X.K (.ref C) "__eq__" = some (some (.ref f))) (hf : PySem.W.isFn X.K (.ref f) = true)
    (hb : Binds X.K fd ps []) (hr : Room n X.A) : OpR X (compareOp .Eq) (rOwnEq X.K C R) := by
  intro pins s σ H x y v u Q I rx ry ⟨a, dx, fs, t, ex, ea, ty, nf, hsp⟩
  subst ex
  cases rx
  show wpAny (model X.prog X.w) X.A (richCompare .Eq (.ref a) u) (EP X pins σ Q) X.xe s
  obtain ⟨mA, O, _⟩ := ins_get I.hok ea
  obtain ⟨od, J, _⟩ := O.look
  obtain ⟨m, hF⟩ := I.fr
  refine PySem.W.cmp_K (op := .Eq) hr.units0 hF I.ok.mod.kin J (looks_ty I ry ty) nf hs hf ?_
  have r2 : Vals [V.ref a, y] [Value.ref a, u] := .cons rfl (.cons ry .nil)
  refine wpAny_mono (run_fn (Q := fun v H' => ∃ b, v = .bl b ∧ Q (.bl b) H') F hr hb .nil pass0 I r2 (by rw [List.append_nil]; exact hsp)) (fun r s' hz => ?_) fun _ _ e => e
  obtain ⟨z, H', I', rz, b, ez, q⟩ := hz
  subst ez
  cases rz
  exact ⟨.bl b, H', I', rfl, q⟩
section
variable {K : PySem.W.Frag} {Γ : Ctx} {ta tb : TE} {P : Pr} {Ps : List Pr} {C : Addr} {ns : List Str} {t : Value} {R : List Pr → Pr → Prop}
def TyW (P : Pr) (t : Value) : Prop := ∀ (H : Hp) (v : V), P.p H v → TyQ H v t
theorem tw_I {i : Int} : TyW (pI i) (.type "int") := fun H v h => by
  cases (show v = V.int i from h)
  exact .int i
theorem tw_L {Ps : List Pr} : TyW (pL Ps) (.type "list") := fun H v ⟨a, o, h1, h2, vs, h3, _⟩ => by
  subst h1 h3
  exact .lst h2
theorem tw_T {Ps : List Pr} : TyW (pT Ps) (.type "tuple") := fun H v ⟨a, vs, h1, h2, _⟩ => by
  subst h1
  exact .tup h2
theorem tw_N : TyW pN (.type "NoneType") := fun H v h => by
  cases (show v = V.non from h)
  exact .non
theorem tw_O {Ps : List Pr} : TyW (pO C ns Ps) (.ref C) := fun H v ⟨a, o, h1, h2, dx, vs, h3, _⟩ => by
  subst h1 h3
  exact .ins h2
theorem e_ownEq {b : Bool} (ha : EvE ta Γ (pO C ns Ps)) (hb : EvE tb Γ P) (ht : TyW P t) (hn : PySem.W.notFirst K C t = true) (hR : R [pO C ns Ps, P] (pB b)) : EvE (tOp (rOwnEq K C R) ta tb) Γ (pB b) := fun F σ G H e Q q =>
  ha F σ G H e _ fun x G1 H1 g1 p1 => hb F σ G1 H1 (e.grow g1) _ fun y G2 H2 g2 p2 => by
    have p1' := (pO C ns Ps).m g2.g p1
    obtain ⟨a, o, h1, h2, dx, vs, h3, _⟩ := id p1'
    subst h1 h3
    exact ⟨a, dx, _, t, rfl, g2.s _ _ h2, ht H2 y (P.m g2.s p2), hn, [_, _], pB b, G2, hR, g2.s, ⟨p1', p2, trivial⟩, fun v G3 H3 g3 p3 => ⟨b, p3, q _ G3 H3 ((g1.trans g2).trans g3) rfl⟩⟩
end
theorem notFirst_self {K : PySem.W.Frag} {C : Addr} : PySem.W.notFirst K C (.ref C) = true := by simp [PySem.W.notFirst]
/-! ### == of data -/
def DpP (K : PySem.W.Frag) (P : Pr) (d : PyData) : Prop := ∀ (H : Hp) (v : V), P.p H v → Dp K H v d
def dpAll (K : PySem.W.Frag) : List Pr → List PyData → Prop
  | [], [] => True
  | P :: Ps, d :: ds => DpP K P d ∧ dpAll K Ps ds
  | _, _ => False
section
variable {K : PySem.W.Frag} {Γ : Ctx} {ta tb : TE} {P P1 P2 : Pr} {Ps : List Pr} {d1 d2 : PyData} {ds : List PyData}
theorem dp_I {i : Int} : DpP K (pI i) (.int i) := fun H v h => by
  cases (show v = V.int i from h)
  exact .int i
theorem dp_B {b : Bool} : DpP K (pB b) (.bool b) := fun H v h => by
  cases (show v = V.bl b from h)
  exact .bl b
theorem dp_S {s : Str} : DpP K (pS s) (.str s) := fun H v h => by
  cases (show v = V.str s from h)
  exact .str s
theorem dp_N : DpP K pN .none := fun H v h => by
  cases (show v = V.non from h)
  exact .non
theorem dp_all {H : Hp} : ∀ {vs : List V} {Ps : List Pr} {ds : List PyData}, Sat H vs Ps → dpAll K Ps ds → DpAll K H vs ds
  | [], [], [], _, _ => .nil
  | _ :: _, _ :: _, _ :: _, h, q => .cons (q.1 H _ h.1) (dp_all h.2 q.2)
  | [], [], _ :: _, _, q => q.elim
  | _ :: _, _ :: _, [], _, q => q.elim
  | [], _ :: _, _, h, _ => h.elim
  | _ :: _, [], _, h, _ => h.elim
theorem dp_L (h : dpAll K Ps ds) : DpP K (pL Ps) (.list ds) := fun H v ⟨a, o, h1, h2, vs, h3, h4, _⟩ => by
  subst h1 h3
  exact .lst (SqL.of h2) (dp_all h4 h)
theorem dp_T (h : dpAll K Ps ds) : DpP K (pT Ps) (.tuple ds) := fun H v ⟨a, vs, h1, h2, h3⟩ => by
  subst h1
  exact .tup (SqT.of h2) (dp_all h3 h)
theorem e_eqD {b : Bool} (ha : EvE ta Γ P1) (hb : EvE tb Γ P2) (h1 : DpP K P1 d1) (h2 : DpP K P2 d2) (s1 : SeqAt.shaped d1 = true) (s2 : SeqAt.shaped d2 = true) (h : PyData.eqv d1 d2 = b) : EvE (tOp (rEqD K) ta tb) Γ (pB b) := fun F σ G H e Q q =>
  ha F σ G H e _ fun x G1 H1 g1 p1 => hb F σ G1 H1 (e.grow g1) _ fun y G2 H2 g2 p2 => ⟨d1, d2, h1 H2 x (P1.m (g2.g.trans g2.s) p1), h2 H2 y (P2.m g2.s p2), s1, s2, q _ G2 H2 (g1.trans g2) (by rw [h] <;> rfl)⟩
theorem e_neD {b : Bool} (ha : EvE ta Γ P1) (hb : EvE tb Γ P2) (h1 : DpP K P1 d1) (h2 : DpP K P2 d2) (s1 : SeqAt.shaped d1 = true) (s2 : SeqAt.shaped d2 = true) (h : PyData.eqv d1 d2 = b) : EvE (tOp (rNeD K) ta tb) Γ (pB (!b)) := fun F σ G H e Q q =>
  ha F σ G H e _ fun x G1 H1 g1 p1 => hb F σ G1 H1 (e.grow g1) _ fun y G2 H2 g2 p2 => ⟨d1, d2, h1 H2 x (P1.m (g2.g.trans g2.s) p1), h2 H2 y (P2.m g2.s p2), s1, s2, q _ G2 H2 (g1.trans g2) (by rw [h] <;> rfl)⟩
end
/-- data in Lean, as Python's data: what it is, its depth, when it is equal -/
structure En {α : Type} (K : PySem.W.Frag) [DecidableEq α] (r : α → Pr) where
  d : α → PyData
  ok : ∀ a, DpP K (r a) (d a)
  n : Nat
  dep : ∀ a, (d a).depth ≤ n
  lay : ∀ a, (d a).canLay0 = true
  eq : ∀ a b, PyData.eqv (d a) (d b) = decide (a = b)
section
variable {K : PySem.W.Frag} {Γ : Ctx} {ta tb : TE} {α β : Type} [DecidableEq α] [DecidableEq β] {r : α → Pr} {s : β → Pr}
theorem En.sh (E : En K r) (h : E.n ≤ 64) (a : α) : SeqAt.shaped (E.d a) = true := by
  unfold SeqAt.shaped
  rw [E.lay a, decide_eq_true (Nat.le_trans (E.dep a) h)] <;> rfl
theorem e_eqEn (E : En K r) (h : E.n ≤ 64) {a b : α} (ha : EvE ta Γ (r a)) (hb : EvE tb Γ (r b)) : EvE (tOp (rEqD K) ta tb) Γ (pB (decide (a = b))) := e_eqD ha hb (E.ok a) (E.ok b) (E.sh h a) (E.sh h b) (E.eq a b)
theorem e_neEn (E : En K r) (h : E.n ≤ 64) {a b : α} (ha : EvE ta Γ (r a)) (hb : EvE tb Γ (r b)) : EvE (tOp (rNeD K) ta tb) Γ (pB (!decide (a = b))) := e_neD ha hb (E.ok a) (E.ok b) (E.sh h a) (E.sh h b) (E.eq a b)
end
end Y

set_option Elab.async false
set_option linter.all false
set_option maxRecDepth 100000
namespace Y
open PySem L2
section
variable {K : PySem.W.Frag}
theorem dep_le {n : Nat} : ∀ {ds : List PyData}, (∀ d ∈ ds, d.depth ≤ n) → PyData.depthAll ds ≤ n
  | [], _ => Nat.zero_le _
  | d :: ds, h => by
    unfold PyData.depthAll
    exact Nat.max_le.mpr ⟨h d List.mem_cons_self, dep_le fun e he => h e (List.mem_cons_of_mem _ he)⟩
theorem lay_all : ∀ {ds : List PyData}, (∀ d ∈ ds, d.canLay0 = true) → PyData.canLayAll0 ds = true
  | [], _ => rfl
  | d :: ds, h => by
    unfold PyData.canLayAll0
    rw [h d List.mem_cons_self, lay_all fun e he => h e (List.mem_cons_of_mem _ he)] <;> rfl
def enI : En K pI := ⟨.int, fun _ => dp_I, 1, fun _ => by unfold PyData.depth; omega, fun _ => by unfold PyData.canLay0; rfl, fun a b => by
  show (a == b) = _
  by_cases h : a = b
  · subst h; simp
  · simp [h]⟩
def enB : En K pB := ⟨.bool, fun _ => dp_B, 1, fun _ => by unfold PyData.depth; omega, fun _ => by unfold PyData.canLay0; rfl, fun a b => by
  show (a == b) = _
  cases a <;> cases b <;> rfl⟩
def enOI : En K (pOpt pI) := ⟨fun o => match o with | none => .none | some i => .int i, fun o => (match o with | none => dp_N | some i => dp_I), 1, fun o => (by cases o <;> (unfold PyData.depth; omega)), fun o => (by cases o <;> (unfold PyData.canLay0; rfl)), fun a b => (by
  cases a with
  | none => cases b <;> (unfold PyData.eqv; simp)
  | some a => cases b with
    | none => unfold PyData.eqv; simp
    | some b =>
      unfold PyData.eqv
      show (a == b) = _
      by_cases h : a = b
      · subst h; simp
      · simp [h])⟩
variable {α β γ δ : Type} [DecidableEq α] [DecidableEq β] [DecidableEq γ] {r : α → Pr} {s : β → Pr} {q : γ → Pr}
theorem dpAll_map (E : En K r) : ∀ xs : List α, dpAll K (xs.map r) (xs.map E.d)
  | [] => trivial
  | x :: xs => ⟨E.ok x, dpAll_map E xs⟩
theorem eqvAll_map (E : En K r) : ∀ xs ys : List α, PyData.eqvAll (xs.map E.d) (ys.map E.d) = decide (xs = ys)
  | [], [] => by simp [PyData.eqvAll]
  | [], _ :: _ => by simp [PyData.eqvAll]
  | _ :: _, [] => by simp [PyData.eqvAll]
  | x :: xs, y :: ys => by
    rw [List.map_cons, List.map_cons]
    unfold PyData.eqvAll
    rw [E.eq, eqvAll_map E xs ys]
    by_cases h : x = y
    · subst h
      simp
    · simp [h]
abbrev rL (r : α → Pr) (xs : List α) : Pr := pL (xs.map r)
def enL (E : En K r) : En K (fun xs : List α => pL (xs.map r)) := ⟨fun xs => .list (xs.map E.d), fun xs => dp_L (dpAll_map E xs), E.n + 1, fun xs => by
    unfold PyData.depth
    have := dep_le (n := E.n) (ds := xs.map E.d) (fun d hd => by
      obtain ⟨a, _, rfl⟩ := List.mem_map.mp hd
      exact E.dep a)
    omega, fun xs => by
    unfold PyData.canLay0
    exact lay_all fun d hd => by
      obtain ⟨a, _, rfl⟩ := List.mem_map.mp hd
      exact E.lay a, fun xs ys => by
    unfold PyData.eqv
    exact eqvAll_map E xs ys⟩
abbrev r3 (r : α → Pr) (s : β → Pr) (q : γ → Pr) : α × β × γ → Pr := fun p => pT [r p.1, s p.2.1, q p.2.2]
def en2 (E : En K r) (E' : En K s) : En K (r2 r s) := ⟨fun p => .tuple [E.d p.1, E'.d p.2], fun p => dp_T ⟨E.ok _, E'.ok _, trivial⟩, max E.n E'.n + 1, fun p => by
    unfold PyData.depth
    have h1 := E.dep p.1
    have h2 := E'.dep p.2
    have := dep_le (n := max E.n E'.n) (ds := [E.d p.1, E'.d p.2]) (fun d hd => by
      rcases List.mem_cons.mp hd with z | hd
      · rw [z]; omega
      · rw [List.mem_singleton.mp hd]; omega)
    omega, fun p => by
    unfold PyData.canLay0
    exact lay_all fun d hd => by
      rcases List.mem_cons.mp hd with z | hd
      · rw [z]; exact E.lay _
      · rw [List.mem_singleton.mp hd]; exact E'.lay _, fun a b => by
    unfold PyData.eqv PyData.eqvAll
    rw [E.eq]
    unfold PyData.eqvAll
    rw [E'.eq]
    unfold PyData.eqvAll
    obtain ⟨a1, a2⟩ := a
    obtain ⟨b1, b2⟩ := b
    show (decide (a1 = b1) && (decide (a2 = b2) && true)) = _
    by_cases h : a1 = b1
    · by_cases h' : a2 = b2
      · subst h h'; simp
      · simp [h']
    · simp [h]⟩
def en3 (E : En K r) (E' : En K s) (E'' : En K q) : En K (r3 r s q) := ⟨fun p => .tuple [E.d p.1, E'.d p.2.1, E''.d p.2.2], fun p => dp_T ⟨E.ok _, E'.ok _, E''.ok _, trivial⟩, max E.n (max E'.n E''.n) + 1, fun p => by
    unfold PyData.depth
    have h1 := E.dep p.1
    have h2 := E'.dep p.2.1
    have h3 := E''.dep p.2.2
    have := dep_le (n := max E.n (max E'.n E''.n)) (ds := [E.d p.1, E'.d p.2.1, E''.d p.2.2]) (fun d hd => by
      rcases List.mem_cons.mp hd with z | hd
      · rw [z]; omega
      · rcases List.mem_cons.mp hd with z | hd
        · rw [z]; omega
        · rw [List.mem_singleton.mp hd]; omega)
    omega, fun p => by
    unfold PyData.canLay0
    exact lay_all fun d hd => by
      rcases List.mem_cons.mp hd with z | hd
      · rw [z]; exact E.lay _
      · rcases List.mem_cons.mp hd with z | hd
        · rw [z]; exact E'.lay _
        · rw [List.mem_singleton.mp hd]; exact E''.lay _, fun a b => by
    unfold PyData.eqv PyData.eqvAll
    rw [E.eq]
    unfold PyData.eqvAll
    rw [E'.eq]
    unfold PyData.eqvAll
    rw [E''.eq]
    unfold PyData.eqvAll
    obtain ⟨a1, a2, a3⟩ := a
    obtain ⟨b1, b2, b3⟩ := b
    show (decide (a1 = b1) && (decide (a2 = b2) && (decide (a3 = b3) && true))) = _
    by_cases h : a1 = b1
    · by_cases h' : a2 = b2
      · by_cases h'' : a3 = b3
        · subst h h' h''; simp
        · simp [h'']
      · simp [h']
    · simp [h]⟩
end
/-! ### for the generated proofs -/
def bndv {α β : Type} (a : α) (k : α → Option β) : Option β := k a
theorem bndv_some {α β : Type} {a : α} {k : α → Option β} {b : β} (h : bndv a k = some b) : ∃ x, x = a ∧ k x = some b := ⟨a, rfl, h⟩
theorem bs {α β : Type} {o : Option α} {k : α → Option β} {b : β} (h : o.bind k = some b) : ∃ x, o = some x ∧ k x = some b := Option.bind_eq_some_iff.mp h
section
variable {K : PySem.W.Frag} {Γ Γ1 : Ctx} {te : TE} {ts us ws rest : TS} {t : TT} {o : Out} {P : Pr}
theorem e_as {α : Type} {r : α → Pr} {a x : α} (h : EvE te Γ (r a)) (e : x = a) : EvE te Γ (r x) := e ▸ h
theorem w_as {α : Type} {r : α → Pr} {a x : List α} (h : EvW te Γ (oL (a.map r))) (e : x = a) : EvW te Γ (oL (x.map r)) := e ▸ h
theorem t_as {a x : Bool} (h : EvT t Γ a) (e : x = a) : EvT t Γ x := e ▸ h
theorem s_ifK {b : Bool} (h : EvT t Γ b) (h1 : b = true → StS (tSeq us rest) Γ o) (h2 : b = false → StS (tSeq ws rest) Γ o) : StS (tSeq (tIfS t us ws) rest) Γ o := fun F σ G H D e g =>
  h F σ G H e _ fun G' H' gr => by
    cases b with
    | true => exact h1 rfl F σ G' H' D (e.grow gr) g
    | false => exact h2 rfl F σ G' H' D (e.grow gr) g
theorem s_assoc (h : StS (tSeq ts (tSeq us rest)) Γ o) : StS (tSeq (tSeq ts us) rest) Γ o := h
theorem s_nxK (h : StS rest Γ o) : StS (tSeq tNext rest) Γ o := h
theorem if_t {α : Type} {c : Bool} {a b : Option α} {r : α} (hc : c = true) (h : (if c then a else b) = some r) : a = some r := by
  subst hc
  rwa [if_pos rfl] at h
theorem if_f {α : Type} {c : Bool} {a b : Option α} {r : α} (hc : c = false) (h : (if c then a else b) = some r) : b = some r := by
  subst hc
  rwa [if_neg Bool.false_ne_true] at h
theorem s_seqL {S ρ : Type} {Γs : S → Ctx} {R : ρ → Pr} {out : Sum S ρ} (h : StS ts Γ (outL Γs R out)) (h1 : ∀ s, out = .inl s → StS us (Γs s) o) (h2 : ∀ r, out = .inr r → o = .rt (R r)) : StS (tSeq ts us) Γ o := by
  cases out with
  | inl s => exact s_seq h (h1 s rfl)
  | inr r =>
    rw [h2 r rfl]
    exact s_seqR h
end
end Y

set_option Elab.async false
set_option linter.all false
set_option maxRecDepth 100000
namespace Y
open PySem L2
section
variable {K : PySem.W.Frag} {Γ Γ1 : Ctx} {te : TE} {ts us rest : TS} {o : Out} {P : Pr} {g : TG} {js : List Nat}
theorem s_at (Γ1 : Ctx) (h : StS ts Γ (.nx Γ1)) : StS ts Γ (.nx Γ1) := h
theorem sz_ok {α : Type} {xs ys : List α} (h : szM xs = some ys) : xs.length ≤ sizeLine := (if_some h).1
theorem atT {Ps : List Pr} (k : Nat) (h : Ps[k]? = some P) : atI Ps (k : Int) = some P := atI_nat h
theorem w_to {α : Type} {r : α → Pr} {xs : List α} {Ps : List Pr} (h : EvW te Γ (oL Ps)) (e : Ps = xs.map r) : EvW te Γ (oL (xs.map r)) := e ▸ h
theorem s_augV {f : Int → Int → Int} {a b x : Int} {i : Nat} (hx : Γ[i]? = some (.val (pI a))) (h : EvE te Γ (pI b)) (e : x = f a b) : StS (tAug i te (ipI f)) Γ (.nx (Γ.set i (.val (pI x)))) := e ▸ s_aug hx h
theorem s_asgT {Γ2 : Ctx} (h : EvE te Γ P) (hg : EvG g js Γ P Γ2) : StS (tAsg te g) Γ (.nx Γ2) := fun F σ G H D e gl =>
  h F σ G H e _ fun v G' H' gr p => by
    obtain ⟨Ls, e'⟩ := e.grow gr
    exact hg F σ G' H' Ls v e' p _ fun σ' e2 _ => gl σ' G' H' ⟨Ls, e2⟩
theorem s_L {S ρ : Type} {Γs : S → Ctx} {R : ρ → Pr} {out : Sum S ρ} (h : StS ts Γ (outL Γs R out)) (h1 : ∀ s, out = .inl s → StS ts Γ (.nx (Γs s)) → StS ts Γ o) (h2 : ∀ r, out = .inr r → o = .rt (R r)) : StS ts Γ o := by
  cases out with
  | inl s => exact h1 s rfl h
  | inr r =>
    rw [h2 r rfl]
    exact h
theorem vals_opt {vs : List V} {us : List Value} {i : Nat} (r : Vals vs us) : Vals vs[i]?.toList us[i]?.toList := by
  cases h : vs[i]? with
  | none =>
    rw [r.none_of h]
    exact .nil
  | some x =>
    obtain ⟨u, h1, h2⟩ := r.get h
    rw [h1]
    exact .cons h2 .nil
theorem binds_all {fd : FuncData} {ps : List Str} (h : ∃ ds, Vals [] ds ∧ Binds K fd ps ds) : Binds K fd ps [] := by
  obtain ⟨ds, h1, h2⟩ := h
  cases h1
  exact h2
abbrev rD {α : Type} (r : α → Pr) (kvs : List (Key × α)) : Pr := pD (kvs.map (rK r))
theorem pget_list {X : Cx} : PGet X (rIxL X.K) := by
  intro pins s σ H o i ov iv Q I ro ri ⟨p, xs, k, v, e1, e2, hq, he, q⟩
  subst e1 e2
  cases ro
  obtain ⟨t, rfl⟩ := ri
  obtain ⟨its, r, pl, hz⟩ := I.list hq
  obtain ⟨j, h1, h2, h3, h4, h5⟩ := atI_get he
  obtain ⟨w, ew, rw'⟩ := r.get h2
  have hl := r.length
  have hn := line63
  have fin : EP X pins σ Q w s := ⟨v, H, I, rw', q⟩
  by_cases h0 : 0 ≤ k
  · have hj : k.toNat = j := by
      rw [seqIndex_of h0 h5] at h1
      exact Option.some.inj h1
    exact wpAny_getItem_list pl.isList h0 (by omega) (by rw [hj]; simpa using ew) fin
  · have hj : (k + (its.toArray.size : Int)).toNat = j := by
      rw [seqIndex_neg (by omega) h4] at h1
      rw [List.size_toArray, ← hl]
      exact Option.some.inj h1
    exact wpAny_getItem_list_neg pl.isList (by omega) (by rw [List.size_toArray] <;> omega) (by omega) (by rw [hj]; simpa using ew) fin
end

/-! ### an int or a truth value -/
abbrev IB : Type := Sum Int Bool
def rIB : IB → Pr
  | .inl i => pI i
  | .inr b => pB b
def asI : IB → Option Int
  | .inl i => some i
  | .inr _ => none
def asB : IB → Option Bool
  | .inl _ => none
  | .inr b => some b
section
variable {K : PySem.W.Frag} {Γ : Ctx} {te : TE} {x : IB} {i : Int} {b : Bool} {P : Pr}
theorem e_asI (h : asI x = some i) (p : EvE te Γ (rIB x)) : EvE te Γ (pI i) := by
  cases x with
  | inl j => cases h; exact p
  | inr c => cases h
theorem e_asB (h : asB x = some b) (p : EvE te Γ (rIB x)) : EvE te Γ (pB b) := by
  cases x with
  | inl j => cases h
  | inr c => cases h; exact p
/-- a list taken apart into names -/
def setEach (Γ : Ctx) : List Nat → List Pr → Ctx
  | i :: is, P :: Ps => setEach (Γ.set i (.val P)) is Ps
  | _, _ => Γ
def gNames : List Nat → TGs
  | [] => gNil
  | i :: is => gCons (gName i) (gNames is)
theorem setEach_len : ∀ (is : List Nat) (Ps : List Pr) (Γ : Ctx), (setEach Γ is Ps).length = Γ.length
  | [], _, _ => rfl
  | _ :: _, [], _ => rfl
  | i :: is, P :: Ps, Γ => by
    show (setEach (Γ.set i (.val P)) is Ps).length = _
    rw [setEach_len is Ps, List.length_set]
theorem g_names : ∀ {is : List Nat} {Ps : List Pr} {Γ : Ctx} {F : Fm} {σ : St} {G H : Hp} {Ls : Nat → List Addr} {vs : List V}, EOk1 F Γ σ G H Ls → Sat G vs Ps → is.length = Ps.length → (∀ i ∈ is, i < Γ.length) → ∀ Q : St → Hp → Prop,
    (∀ σ', EOk1 F (setEach Γ is Ps) σ' G H Ls → (∀ ws : List Nat, (∀ j ∈ is, j ∈ ws) → L2.wipe σ' ws = L2.wipe σ ws) → Q σ' H) → gNames is vs σ H Q
  | [], [], _, _, _, _, _, _, [], e, _, _, _, Q, q => ⟨rfl, q _ e fun _ _ => rfl⟩
  | i :: is, P :: Ps, Γ, F, σ, G, H, Ls, v :: vs, e, s, l, hi, Q, q => by
    refine ⟨v, vs, rfl, ?_⟩
    refine g_names (e.set (P := P) (v := v) s.1 (hi i List.mem_cons_self)) s.2 (Nat.succ.inj l) (fun j hj => by rw [List.length_set]; exact hi j (List.mem_cons_of_mem _ hj)) Q fun σ' e' hw => ?_
    refine q σ' e' fun ws h => ?_
    rw [hw ws fun j hj => h j (List.mem_cons_of_mem _ hj), wipe_set _ (h i List.mem_cons_self)]
  | [], [], _, _, _, _, _, _, _ :: _, _, s, _, _, _, _ => s.elim
  | _ :: _, _ :: _, _, _, _, _, _, _, [], _, s, _, _, _, _ => s.elim
  | [], _ :: _, _, _, _, _, _, _, _, _, _, l, _, _, _ => nomatch l
  | _ :: _, [], _, _, _, _, _, _, _, _, _, l, _, _, _ => nomatch l
theorem s_setFc {C x : Addr} {ns : List Str} {Ps : List Pr} {f : Str} {i : Nat} {te : TE} {P : Pr} {Γ' : Ctx} (c : Cls K C) (n : NoAttr K C f) (hi : Γ[i]? = some (.own (oS x C ns Ps))) (hf : f ∉ ns) (hl : ns.length = Ps.length) (hm : ns.length < 1000) (h : EvE te Γ P) (hc : Γ.set i (.own (oS x C (ns ++ [f]) (Ps ++ [P]))) = Γ') : StS (sFld K (tVar i) te f) Γ (.nx Γ') := hc ▸ s_setF c n hi hf ⟨hl, hm⟩ h
theorem g_unl {is : List Nat} {Ps : List Pr} {n : Nat} (hn : is.length = n) (hp : Ps.length = n) (hi : ∀ i ∈ is, i < Γ.length) : EvG (gUnl K n (gNames is)) is Γ (pL Ps) (setEach Γ is Ps) := fun F σ G H Ls v e ⟨a, o, h1, h2, vs, h3, h4, h5⟩ Q q => by
  subst h1 h3
  exact ⟨a, vs, rfl, SqL.of (e.gr.s _ _ h2), h4.len.trans hp, g_names e h4 (hn.trans hp.symm) hi Q q⟩
end
end Y

set_option Elab.async false
set_option linter.all false
set_option maxRecDepth 100000
namespace Y
open PySem L2
/-! ### regions in regions -/
def oV (P : Pr) : Ow := ⟨fun G _ v L => L = [] ∧ P.p G v, fun e _ ⟨h1, h2⟩ => ⟨h1, P.m e h2⟩⟩
def SW (G H : Hp) : List V → List Ow → List (List Addr) → Prop
  | [], [], [] => True
  | v :: vs, W :: Ws, L :: Ls => W.p G H v L ∧ (∀ a ∈ L, a ∉ Ls.flatten) ∧ SW G H vs Ws Ls
  | _, _, _ => False
theorem mem_fl {a : Addr} {L : List Addr} {Ls : List (List Addr)} : a ∈ (L :: Ls).flatten ↔ a ∈ L ∨ a ∈ Ls.flatten := by
  rw [List.flatten_cons, List.mem_append]
theorem SW.m {G H G' H' : Hp} (g : Gw G G') : ∀ {vs : List V} {Ws : List Ow} {Ls : List (List Addr)}, (∀ a ∈ Ls.flatten, H' a = H a) → SW G H vs Ws Ls → SW G' H' vs Ws Ls
  | [], [], [], _, _ => trivial
  | _ :: _, W :: _, L :: Ls, k, h => ⟨W.m g (fun a ha => k a (mem_fl.mpr (.inl ha))) h.1, h.2.1, SW.m g (fun a ha => k a (mem_fl.mpr (.inr ha))) h.2.2⟩
  | [], [], _ :: _, _, h => h.elim
  | [], _ :: _, _, _, h => by cases ‹List (List Addr)› <;> exact h.elim
  | _ :: _, [], _, _, h => by cases ‹List (List Addr)› <;> exact h.elim
  | _ :: _, _ :: _, [], _, h => h.elim
theorem SW.len {G H : Hp} : ∀ {vs : List V} {Ws : List Ow} {Ls : List (List Addr)}, SW G H vs Ws Ls → vs.length = Ws.length ∧ Ls.length = Ws.length
  | [], [], [], _ => ⟨rfl, rfl⟩
  | _ :: _, W :: _, L :: Ls, h => ⟨congrArg Nat.succ (SW.len h.2.2).1, congrArg Nat.succ (SW.len h.2.2).2⟩
  | [], [], _ :: _, h => h.elim
  | [], _ :: _, Ls, h => by cases Ls <;> exact h.elim
  | _ :: _, [], Ls, h => by cases Ls <;> exact h.elim
  | _ :: _, _ :: _, [], h => h.elim
theorem mem_flat {a : Addr} {L : List Addr} : ∀ {Ls : List (List Addr)} {i : Nat}, Ls[i]? = some L → a ∈ L → a ∈ Ls.flatten
  | [], _, h, _ => by simp at h
  | M :: Ls, 0, h, ha => by
    simp at h
    subst h
    exact mem_fl.mpr (.inl ha)
  | M :: Ls, i + 1, h, ha => mem_fl.mpr (.inr (mem_flat (i := i) (by simpa using h) ha))
theorem SW.get {G H : Hp} : ∀ {vs : List V} {Ws : List Ow} {Ls : List (List Addr)} {i : Nat} {W : Ow}, SW G H vs Ws Ls → Ws[i]? = some W → ∃ v L, vs[i]? = some v ∧ Ls[i]? = some L ∧ W.p G H v L
  | [], [], [], _, _, _, e => by simp at e
  | v :: _, W :: _, L :: Ls, 0, _, h, e => by
    simp at e
    subst e
    exact ⟨v, L, rfl, rfl, h.1⟩
  | v :: vs, W :: Ws, L :: Ls, i + 1, _, h, e => by
    obtain ⟨w, M, h1, h2, h3⟩ := SW.get (i := i) h.2.2 (by simpa using e)
    exact ⟨w, M, by simpa using h1, by simpa using h2, h3⟩
  | [], [], _ :: _, _, _, h, _ => h.elim
  | [], _ :: _, Ls, _, _, h, _ => by cases Ls <;> exact h.elim
  | _ :: _, [], Ls, _, _, h, _ => by cases Ls <;> exact h.elim
  | _ :: _, _ :: _, [], _, _, h, _ => h.elim
/-- what is left of the addresses, and what is new -/
def Sub (L' Lo Ln L : List Addr) : Prop := ∀ a ∈ L', (a ∈ L ∧ a ∉ Lo) ∨ a ∈ Ln
theorem SW.set {G H G' H' : Hp} {v' : V} {W' : Ow} {L L' : List Addr} (g : Gw G G') (hw : W'.p G' H' v' L') : ∀ {vs : List V} {Ws : List Ow} {Ls : List (List Addr)} {i : Nat}, SW G H vs Ws Ls → Ls[i]? = some L →
    (∀ a ∈ Ls.flatten, a ∉ L → H' a = H a) → (∀ a ∈ L', a ∈ L ∨ a ∉ Ls.flatten) → SW G' H' (vs.set i v') (Ws.set i W') (Ls.set i L') ∧ Sub (Ls.set i L').flatten L L' Ls.flatten
  | [], [], [], _, _, e, _, _ => by simp at e
  | v :: vs, W :: Ws, M :: Ls, 0, h, e, k, n => by
    simp at e
    subst e
    refine ⟨⟨hw, fun a ha q => ?_, h.2.2.m g fun a ha => k a (mem_fl.mpr (.inr ha)) fun z => h.2.1 a z ha⟩, fun a ha => ?_⟩
    · rcases n a ha with z | z
      · exact h.2.1 a z q
      · exact z (mem_fl.mpr (.inr q))
    · rcases mem_fl.mp ha with z | z
      · exact .inr z
      · exact .inl ⟨mem_fl.mpr (.inr z), fun q => h.2.1 a q z⟩
  | v :: vs, W :: Ws, M :: Ls, i + 1, h, e, k, n => by
    have e' : Ls[i]? = some L := by simpa using e
    have off : ∀ a ∈ M, a ∉ L := fun a ha q => h.2.1 a ha (mem_flat e' q)
    obtain ⟨r1, r2⟩ := SW.set g hw (i := i) h.2.2 e' (fun a ha => k a (mem_fl.mpr (.inr ha))) (fun a ha => (n a ha).imp_right fun z q => z (mem_fl.mpr (.inr q)))
    refine ⟨⟨W.m g (fun a ha => k a (mem_fl.mpr (.inl ha)) (off a ha)) h.1, fun a ha q => ?_, r1⟩, fun a ha => ?_⟩
    · rcases r2 a q with ⟨z, _⟩ | z
      · exact h.2.1 a ha z
      · rcases n a z with z2 | z2
        · exact off a ha z2
        · exact z2 (mem_fl.mpr (.inl ha))
    · rcases mem_fl.mp ha with z | z
      · exact .inl ⟨mem_fl.mpr (.inl z), off a z⟩
      · rcases r2 a z with ⟨z1, z2⟩ | z
        · exact .inl ⟨mem_fl.mpr (.inr z1), z2⟩
        · exact .inr z
  | [], [], _ :: _, _, h, _, _, _ => h.elim
  | [], _ :: _, Ls, _, h, _, _, _ => by cases Ls <;> exact h.elim
  | _ :: _, [], Ls, _, h, _, _, _ => by cases Ls <;> exact h.elim
  | _ :: _, _ :: _, [], _, h, _, _, _ => h.elim
theorem SW.snoc {G H : Hp} {v : V} {W : Ow} {L : List Addr} (hw : W.p G H v L) : ∀ {vs : List V} {Ws : List Ow} {Ls : List (List Addr)}, SW G H vs Ws Ls → (∀ a ∈ L, a ∉ Ls.flatten) → SW G H (vs ++ [v]) (Ws ++ [W]) (Ls ++ [L])
  | [], [], [], _, _ => ⟨hw, fun _ _ z => by simp at z, trivial⟩
  | u :: vs, U :: Ws, M :: Ls, h, n => by
    refine ⟨h.1, fun a ha q => ?_, SW.snoc hw h.2.2 fun a ha q => n a ha (mem_fl.mpr (.inr q))⟩
    have q : a ∈ (Ls ++ [L]).flatten := q
    rw [List.flatten_append, List.mem_append] at q
    rcases q with q | q
    · exact h.2.1 a ha q
    · rw [List.flatten_cons, List.flatten_nil, List.append_nil] at q
      exact n a q (mem_fl.mpr (.inl ha))
  | [], [], _ :: _, h, _ => h.elim
  | [], _ :: _, Ls, h, _ => by cases Ls <;> exact h.elim
  | _ :: _, [], Ls, h, _ => by cases Ls <;> exact h.elim
  | _ :: _, _ :: _, [], h, _ => h.elim
/-- a list of regions; an object of regions; a region with its value -/
def oLs (Ws : List Ow) : Ow := ⟨fun G H v L => ∃ a vs Ls, v = .ref a ∧ H a = some (.lst vs) ∧ SW G H vs Ws Ls ∧ vs.length ≤ sizeLine ∧ a ∉ Ls.flatten ∧ L = a :: Ls.flatten,
  fun g k ⟨a, vs, Ls, h1, h2, h3, h4, h5, h6⟩ => ⟨a, vs, Ls, h1, by rw [k a (by rw [h6]; exact List.mem_cons_self)]; exact h2, h3.m g (fun b hb => k b (by rw [h6]; exact List.mem_cons_of_mem _ hb)), h4, h5, h6⟩⟩
def oOs (C : Addr) (ns : List Str) (Ws : List Ow) : Ow := ⟨fun G H v L => ∃ a dx vs Ls, v = .ref a ∧ H a = some (.ins C dx (ns.zip vs)) ∧ SW G H vs Ws Ls ∧ a ∉ Ls.flatten ∧ L = a :: Ls.flatten,
  fun g k ⟨a, dx, vs, Ls, h1, h2, h3, h5, h6⟩ => ⟨a, dx, vs, Ls, h1, by rw [k a (by rw [h6]; exact List.mem_cons_self)]; exact h2, h3.m g (fun b hb => k b (by rw [h6]; exact List.mem_cons_of_mem _ hb)), h5, h6⟩⟩
def oAt (x : V) (W : Ow) : Ow := ⟨fun G H v L => v = x ∧ W.p G H v L, fun g k ⟨h1, h2⟩ => ⟨h1, W.m g k h2⟩⟩
/-! ### no one changes it any more -/
theorem frz_V {P : Pr} : Frz (oV P) P := fun G H v L s hL ⟨h1, h2⟩ => ⟨G, Gw.refl G, s, fun _ _ => rfl, h2⟩
theorem frz_At {x : V} {W : Ow} {P : Pr} (f : Frz W P) : Frz (oAt x W) P := fun G H v L s hL ⟨_, h2⟩ => f G H v L s hL h2
inductive FrzA : List Ow → List Pr → Prop where
  | nil : FrzA [] []
  | cons {W : Ow} {P : Pr} {Ws : List Ow} {Ps : List Pr} : Frz W P → FrzA Ws Ps → FrzA (W :: Ws) (P :: Ps)
theorem frzA_map {α : Type} {o : α → Ow} {r : α → Pr} (h : ∀ a, Frz (o a) (r a)) : ∀ xs : List α, FrzA (xs.map o) (xs.map r)
  | [] => .nil
  | x :: xs => .cons (h x) (frzA_map h xs)
theorem frz_A {Ws : List Ow} {Ps : List Pr} (f : FrzA Ws Ps) : ∀ {G H : Hp} {vs : List V} {Ls : List (List Addr)}, Gw G H → (∀ a ∈ Ls.flatten, G a = none) → SW G H vs Ws Ls → ∃ G', Gw G G' ∧ Gw G' H ∧ (∀ a, a ∉ Ls.flatten → G' a = G a) ∧ Sat G' vs Ps := by
  induction f with
  | nil =>
    intro G H vs Ls s hL h
    match vs, Ls, h with
    | [], [], _ => exact ⟨G, Gw.refl G, s, fun _ _ => rfl, trivial⟩
  | cons f _ ih =>
    intro G H vs Ls s hL h
    match vs, Ls, h with
    | v :: vs, L :: Ls, h =>
      obtain ⟨G1, g1, s1, o1, p1⟩ := f G H v L s (fun a ha => hL a (mem_fl.mpr (.inl ha))) h.1
      obtain ⟨G2, g2, s2, o2, p2⟩ := ih s1 (fun a ha => by rw [o1 a fun z => h.2.1 a z ha]; exact hL a (mem_fl.mpr (.inr ha))) (h.2.2.m g1 fun _ _ => rfl)
      refine ⟨G2, g1.trans g2, s2, fun a ha => ?_, Pr.m _ g2 p1, p2⟩
      rw [o2 a fun z => ha (mem_fl.mpr (.inr z)), o1 a fun z => ha (mem_fl.mpr (.inl z))]
theorem frz_Ls {Ws : List Ow} {Ps : List Pr} (f : FrzA Ws Ps) : Frz (oLs Ws) (pL Ps) := fun G H v L s hL ⟨a, vs, Ls, h1, h2, h3, h4, h5, h6⟩ => by
  subst h6
  obtain ⟨G1, g1, s1, o1, p1⟩ := frz_A f s (fun b hb => hL b (List.mem_cons_of_mem _ hb)) h3
  have ga : G1 a = none := by rw [o1 a h5]; exact hL a List.mem_cons_self
  refine ⟨upd G1 a (.lst vs), g1.trans (Gw.new ga), fun b u hb => ?_, fun b hb => ?_, a, _, h1, upd_same, vs, rfl, p1.m (Gw.new ga), h4⟩
  · by_cases z : b = a
    · subst z
      rw [upd_same] at hb
      cases hb
      exact h2
    · rw [upd_ne z] at hb
      exact s1 b u hb
  · rw [upd_ne fun z => hb (by rw [z]; exact List.mem_cons_self)]
    exact o1 b fun z => hb (List.mem_cons_of_mem _ z)
theorem frz_Os {C : Addr} {ns : List Str} {Ws : List Ow} {Ps : List Pr} (f : FrzA Ws Ps) : Frz (oOs C ns Ws) (pO C ns Ps) := fun G H v L s hL ⟨a, dx, vs, Ls, h1, h2, h3, h5, h6⟩ => by
  subst h6
  obtain ⟨G1, g1, s1, o1, p1⟩ := frz_A f s (fun b hb => hL b (List.mem_cons_of_mem _ hb)) h3
  have ga : G1 a = none := by rw [o1 a h5]; exact hL a List.mem_cons_self
  refine ⟨upd G1 a (.ins C dx (ns.zip vs)), g1.trans (Gw.new ga), fun b u hb => ?_, fun b hb => ?_, a, _, h1, upd_same, dx, vs, rfl, p1.m (Gw.new ga)⟩
  · by_cases z : b = a
    · subst z
      rw [upd_same] at hb
      cases hb
      exact h2
    · rw [upd_ne z] at hb
      exact s1 b u hb
  · rw [upd_ne fun z => hb (by rw [z]; exact List.mem_cons_self)]
    exact o1 b fun z => hb (List.mem_cons_of_mem _ z)
/-! ### a region read as if no one changed it -/
def Pure (P : Pr) : Prop := ∀ (G G' : Hp) (v : V), P.p G v → P.p G' v
theorem pure_I {i : Int} : Pure (pI i) := fun _ _ _ h => h
theorem pure_B {b : Bool} : Pure (pB b) := fun _ _ _ h => h
theorem pure_S {s : Str} : Pure (pS s) := fun _ _ _ h => h
theorem pure_N : Pure pN := fun _ _ _ h => h
theorem pure_Opt {α : Type} {r : α → Pr} (h : ∀ a, Pure (r a)) : ∀ o : Option α, Pure (pOpt r o)
  | none => pure_N
  | some a => h a
theorem e_lend {te : TE} {Γ : Ctx} {i : Nat} {W : Ow} {P Q : Pr} (hi : Γ[i]? = some (.own W)) (f : Frz W P) (p : Pure Q) (h : EvE te (Γ.set i (.val P)) Q) : EvE te Γ Q := fun F σ G H e R q => by
  obtain ⟨G', g', e'⟩ := e.frz f hi
  exact h F σ G' H e' R fun v G2 H2 g2 p2 => q v G H2 ⟨Gw.refl G, g2.h, e.s.trans g2.h, fun _ _ h => h⟩ (p _ _ v p2)
theorem t_lend {t : TT} {Γ : Ctx} {i : Nat} {W : Ow} {P : Pr} {b : Bool} (hi : Γ[i]? = some (.own W)) (f : Frz W P) (h : EvT t (Γ.set i (.val P)) b) : EvT t Γ b := fun F σ G H e R q => by
  obtain ⟨G', g', e'⟩ := e.frz f hi
  exact h F σ G' H e' R fun G2 H2 g2 => q G H2 ⟨Gw.refl G, g2.h, e.s.trans g2.h, fun _ _ h => h⟩
/-! ### a part of a region -/
structure Foc (F : Fm) (Γ : Ctx) (σ : St) (i : Nat) (U : Ow) (put : Ow → Ow → Prop) (Ls : Nat → List Addr) (v : V) (Lu : List Addr) (G H : Hp) : Prop where
  e : EOk1 F Γ σ G H Ls
  o : ∃ W, Γ[i]? = some (.own W)
  u : U.p G H v Lu
  sub : ∀ a ∈ Lu, a ∈ Ls i
  put : ∀ {G' H' : Hp} {U' W' : Ow} {Lu' : List Addr}, put U' W' → Gw G G' → (∀ a ∈ Ls i, a ∉ Lu → H' a = H a) → U'.p G' H' v Lu' → (∀ a ∈ Lu', a ∈ Lu ∨ a ∉ Ls i) → ∃ v0 L', σ[i]? = some (some v0) ∧ W'.p G' H' v0 L' ∧ Sub L' Lu Lu' (Ls i)
section
variable {F : Fm} {Γ : Ctx} {σ : St} {i : Nat} {U U' W' : Ow} {put : Ow → Ow → Prop} {Ls : Nat → List Addr} {v : V} {Lu Lu' : List Addr} {G H G' H' : Hp}
theorem Foc.eqs (f : Foc F Γ σ i U put Ls v Lu G H) (g : Gr G H G' H') : ∀ a ∈ Ls i, H' a = H a := fun a ha => by
  obtain ⟨W, hW⟩ := f.o
  exact g.h.at (f.e.fr i W hW a ha).2.2
theorem Foc.grow (f : Foc F Γ σ i U put Ls v Lu G H) (g : Gr G H G' H') : Foc F Γ σ i U put Ls v Lu G' H' :=
  ⟨f.e.grow g, f.o, U.m g.g (fun a ha => f.eqs g a (f.sub a ha)) f.u, f.sub, fun {G2 H2 U' W' Lu'} pw g2 k hu hn => f.put pw (g.g.trans g2) (fun a ha hb => (k a ha hb).trans (f.eqs g a ha)) hu hn⟩
theorem Foc.chgN (f : Foc F Γ σ i U put Ls v Lu G H) (pw : put U' W') (gg : Gw G G') (gs : Gw G' H') (ho : ∀ a, a ∉ Lu → H a ≠ none → H' a = H a) (gf : ∀ a, a ∉ Lu → H a ≠ none → G a = none → G' a = none)
    (hu : U'.p G' H' v Lu') (hl : ∀ a ∈ Lu', (a ∈ Lu ∨ ((∀ (j : Nat) (W : Ow), Γ[j]? = some (.own W) → a ∉ Ls j) ∧ F.H a = none)) ∧ G' a = none ∧ H' a ≠ none) : EOk F (Γ.set i (.own W')) σ G' H' := by
  obtain ⟨W, hW⟩ := f.o
  have e := f.e
  have nn : ∀ a ∈ Ls i, H a ≠ none := fun a ha => (e.fr i W hW a ha).2.2
  have nF : ∀ a ∈ Lu, F.H a = none := fun a ha => (e.fr i W hW a (f.sub a ha)).2.1
  obtain ⟨v0, L', hv0, hp, hs⟩ := f.put pw gg (fun a ha hb => ho a hb (nn a ha)) hu (fun a ha => (hl a ha).1.imp_right fun z => z.1 i W hW)
  have hi1 : i < Γ.length := lt_of_get hW
  refine ⟨fun j => if j = i then L' else Ls j, ⟨e.gr.g.trans gg, fun a o h => ?_, gs, fun a ha ga => ?_⟩, F.m gg e.x, by rw [List.length_set, e.len], fun j sl hj => ?_, fun j W1 hj a ha => ?_, fun j k W1 W2 hj hk ne a ha => ?_⟩
  · have h1 := e.gr.h a o h
    rw [ho a (fun q => by rw [nF a q] at h; cases h) (by rw [h1]; exact fun z => nomatch z)]
    exact h1
  · exact gf a (fun q => ha (nF a q)) (fun z => ha (e.gr.h.free z)) (e.gr.f a ha ga)
  · rcases set_get hj with ⟨rfl, _, rfl⟩ | ⟨z, hj⟩
    · rw [hv0, if_pos rfl]
      exact hp
    · rw [if_neg (Ne.symm z)]
      exact (e.at_ j sl hj).go gg fun W2 h2 a ha => ho a (fun q => e.dis j i W2 W (h2 ▸ hj) hW (Ne.symm z) a ha (f.sub a q)) (e.fr j W2 (h2 ▸ hj) a ha).2.2
  · rcases set_get hj with ⟨rfl, _, _⟩ | ⟨z, hj⟩
    · rw [if_pos rfl] at ha
      rcases hs a ha with ⟨q1, q2⟩ | q
      · have r := e.fr _ W hW a q1
        exact ⟨gf a q2 r.2.2 r.1, r.2.1, by rw [ho a q2 r.2.2]; exact r.2.2⟩
      · have r := hl a q
        exact ⟨r.2.1, r.1.elim (nF a) (·.2), r.2.2⟩
    · rw [if_neg (Ne.symm z)] at ha
      have r := e.fr j W1 hj a ha
      have q2 : a ∉ Lu := fun q => e.dis j i W1 W hj hW (Ne.symm z) a ha (f.sub a q)
      exact ⟨gf a q2 r.2.2 r.1, r.2.1, by rw [ho a q2 r.2.2]; exact r.2.2⟩
  · rcases set_get hj with ⟨rfl, _, _⟩ | ⟨z, hj⟩
    · rw [if_pos rfl] at ha
      rw [if_neg (Ne.symm ne)]
      rcases set_get hk with ⟨e1, _, _⟩ | ⟨_, hk⟩
      · exact absurd e1 ne
      · rcases hs a ha with ⟨q1, _⟩ | q
        · exact e.dis _ k W W2 hW hk ne a q1
        · rcases (hl a q).1 with q1 | q1
          · exact e.dis _ k W W2 hW hk ne a (f.sub a q1)
          · exact q1.1 k W2 hk
    · rw [if_neg (Ne.symm z)] at ha
      rcases set_get hk with ⟨rfl, _, _⟩ | ⟨z2, hk⟩
      · rw [if_pos rfl]
        intro q
        rcases hs a q with ⟨q1, _⟩ | q
        · exact e.dis j _ W1 W hj hW ne a ha q1
        · rcases (hl a q).1 with q1 | q1
          · exact e.dis j _ W1 W hj hW ne a ha (f.sub a q1)
          · exact q1.1 j W1 hj ha
      · rw [if_neg (Ne.symm z2)]
        exact e.dis j k W1 W2 hj hk ne a ha
theorem Foc.chg (f : Foc F Γ σ i U put Ls v Lu G H) (pw : put U' W') (gg : Gw G G') (gs : Gw G' H') (ho : ∀ a, a ∉ Lu → H a ≠ none → H' a = H a) (gf : ∀ a, a ∉ Lu → H a ≠ none → G a = none → G' a = none)
    (hu : U'.p G' H' v Lu') (hl : ∀ a ∈ Lu', (a ∈ Lu ∨ H a = none) ∧ G' a = none ∧ H' a ≠ none) : EOk F (Γ.set i (.own W')) σ G' H' :=
  f.chgN pw gg gs ho gf hu fun a ha => ⟨(hl a ha).1.imp_right fun z => ⟨fun j W h q => (f.e.fr j W h a q).2.2 z, f.e.gr.h.free z⟩, (hl a ha).2⟩
end
end Y

set_option Elab.async false
set_option linter.all false
set_option maxRecDepth 100000
namespace Y
open PySem L2
/-- a way into the region of slot i: what stands there, and what the slot is when that is changed -/
def EvF (tp : TE) (Γ : Ctx) (i : Nat) (U : Ow) (put : Ow → Ow → Prop) : Prop := ∀ (F : Fm) (σ : St) (G H : Hp) (Ls : Nat → List Addr), EOk1 F Γ σ G H Ls → ∀ Q : VK, (∀ v Lu G' H', Gr G H G' H' → Foc F Γ σ i U put Ls v Lu G' H' → Q v H') → tp σ H Q
section
variable {K : PySem.W.Frag} {Γ : Ctx} {tp te ti : TE} {i j : Nat} {U U' W : Ow} {Ws : List Ow} {put put' : Ow → Ow → Prop} {W' : Ow} {P : Pr} {Ps : List Pr} {C : Addr} {ns : List Str} {f : Str}
theorem f_var (h : Γ[i]? = some (.own W)) : EvF (tVar i) Γ i W Eq := fun F σ G H Ls e Q q => by
  obtain ⟨v, h1, h2⟩ := (e.at_ i _ h).own_
  exact ⟨v, h1, q v (Ls i) G H (Gr.refl e.gr.s) ⟨e, ⟨W, h⟩, h2, fun _ h => h, fun pw _ _ hu _ => ⟨v, _, h1, pw ▸ hu, fun a ha => .inr ha⟩⟩⟩
theorem set_self {α : Type} : ∀ {l : List α} {j : Nat} {v : α}, l[j]? = some v → l.set j v = l
  | [], _, _, _ => rfl
  | x :: l, 0, _, h => by
    simp at h
    subst h
    rfl
  | x :: l, j + 1, _, h => congrArg (x :: ·) (set_self (by simpa using h))
theorem foc_part {F : Fm} {σ : St} {Ls : Nat → List Addr} {x v : V} {a : Addr} {Lk : List (List Addr)} {L : List Addr} {G H : Hp} {vs : List V} (f : Foc F Γ σ i W put Ls x (a :: Lk.flatten) G H) (h3 : SW G H vs Ws Lk) (h5 : a ∉ Lk.flatten) (hU : U.p G H v L) (hL : Lk[j]? = some L) (hv : vs[j]? = some v)
    (hw : ∀ {U' W' : Ow}, put' U' W' → ∃ M : Ow, put M W' ∧ ∀ {G' H' : Hp} {Lk' : List (List Addr)}, Gw G G' → H' a = H a → SW G' H' vs (Ws.set j U') Lk' → a ∉ Lk'.flatten → M.p G' H' x (a :: Lk'.flatten)) : Foc F Γ σ i U put' Ls v L G H := by
  have fl : ∀ b ∈ L, b ∈ Lk.flatten := fun b hb => mem_flat hL hb
  have na : a ∉ L := fun q => h5 (fl a q)
  refine ⟨f.e, f.o, hU, fun b hb => f.sub b (List.mem_cons_of_mem _ (fl b hb)), fun {G' H' U' W' Lu'} pw gg k hu hn => ?_⟩
  obtain ⟨M, pm, hM⟩ := hw pw
  have sa : a ∈ Ls i := f.sub a List.mem_cons_self
  obtain ⟨n1, n2⟩ := SW.set gg hu h3 hL (fun b hb nb => k b (f.sub b (List.mem_cons_of_mem _ hb)) nb) (fun b hb => (hn b hb).imp_right fun z q => z (f.sub b (List.mem_cons_of_mem _ q)))
  rw [set_self hv] at n1
  have na' : a ∉ (Lk.set j Lu').flatten := fun q => by
    rcases n2 a q with ⟨z, _⟩ | z
    · exact h5 z
    · rcases hn a z with z | z
      · exact na z
      · exact z sa
  obtain ⟨v0, L', hv0, hp, hs⟩ := f.put pm gg (fun b hb nb => k b hb fun q => nb (List.mem_cons_of_mem _ (fl b q))) (hM gg (k a sa na) n1 na') (fun b hb => by
    rcases List.mem_cons.mp hb with z | z
    · exact .inl (by rw [z]; exact List.mem_cons_self)
    · rcases n2 b z with ⟨z, _⟩ | z
      · exact .inl (List.mem_cons_of_mem _ z)
      · exact (hn b z).imp_left fun z => List.mem_cons_of_mem _ (fl b z))
  refine ⟨v0, L', hv0, hp, fun b hb => ?_⟩
  rcases hs b hb with ⟨z1, z2⟩ | z
  · exact .inl ⟨z1, fun q => z2 (List.mem_cons_of_mem _ (fl b q))⟩
  · rcases List.mem_cons.mp z with z | z
    · exact .inl ⟨by rw [z]; exact sa, by rw [z]; exact na⟩
    · rcases n2 b z with ⟨z1, z2⟩ | z
      · exact .inl ⟨f.sub b (List.mem_cons_of_mem _ z1), z2⟩
      · exact .inr z
theorem f_ix {k : Int} (hp : EvF tp Γ i (oLs Ws) put) (hi : EvE ti Γ (pI k)) (hk : ixN Ws.length k = some j) (hU : Ws[j]? = some U) : EvF (tOp (rIxL K) tp ti) Γ i U (fun U' W' => put (oLs (Ws.set j U')) W') := fun F σ G H Ls e Q q =>
  hp F σ G H Ls e _ fun x Lx G1 H1 g1 f1 => hi F σ G1 H1 ⟨Ls, f1.e⟩ _ fun y G2 H2 g2 p2 => by
    have f2 := f1.grow g2
    obtain ⟨a, vs, Lk, h1, h2, h3, h4, h5, h6⟩ := id f2.u
    subst h1 h6
    obtain ⟨v, L, hv, hL, hw⟩ := h3.get hU
    refine ⟨a, vs, k, v, rfl, p2, SqL.of h2, ?_, q v L G2 H2 (g1.trans g2) (foc_part f2 h3 h5 hw hL hv fun {U' W'} pw => ⟨_, pw, fun gg e1 n1 n2 => ⟨a, vs, _, rfl, by rw [e1]; exact h2, n1, h4, n2, rfl⟩⟩)⟩
    unfold atI
    rw [h3.len.1, hk]
    exact hv
theorem f_fld (c : Cls K C) (n : NoAttr K C f) (nd : ns.Nodup) (hj : ns[j]? = some f) (hU : Ws[j]? = some U) (hp : EvF tp Γ i (oOs C ns Ws) put) : EvF (tFld K tp f) Γ i U (fun U' W' => put (oOs C ns (Ws.set j U')) W') := fun F σ G H Ls e Q q =>
  hp F σ G H Ls e _ fun x Lx G1 H1 g1 f1 => by
    obtain ⟨a, dx, vs, Lk, h1, h2, h3, h5, h6⟩ := id f1.u
    subst h1 h6
    obtain ⟨v, L, hv, hL, hw⟩ := h3.get hU
    exact ⟨a, C, dx, _, v, rfl, h2, c, n, lookup_zip nd hj hv, q v L G1 H1 g1 (foc_part f1 h3 h5 hw hL hv fun {U' W'} pw => ⟨_, pw, fun gg e1 n1 n2 => ⟨a, dx, vs, _, rfl, by rw [e1]; exact h2, n1, n2, rfl⟩⟩)⟩
/-- a list that is a part of a region -/
theorem Foc.list {F : Fm} {σ : St} {Ls : Nat → List Addr} {v : V} {Lu : List Addr} {G H : Hp} (f : Foc F Γ σ i (oL Ps) put Ls v Lu G H) : ∃ a vs, v = .ref a ∧ H a = some (.lst vs) ∧ Sat G vs Ps ∧ vs.length ≤ sizeLine ∧
    ∀ ws Qs W', put (oL Qs) W' → Sat G ws Qs → ws.length ≤ sizeLine → EOk F (Γ.set i (.own W')) σ G (upd H a (.lst ws)) := by
  obtain ⟨a, o, h1, h2, h3, vs, h4, h5, h6⟩ := id f.u
  subst h4 h2
  obtain ⟨W, hW⟩ := f.o
  have fr := f.e.fr i W hW a (f.sub a (List.mem_singleton.mpr rfl))
  refine ⟨a, vs, h1, h3, h5, h6, fun ws Qs W' pw s l => f.chg (U' := oL Qs) (Lu' := [a]) pw (Gw.refl G) (Gw.mut f.e.gr.s fr.1) (fun b hb _ => upd_ne fun z => hb (List.mem_singleton.mpr z)) (fun b _ _ h => h) ⟨a, .lst ws, h1, rfl, upd_same, ws, rfl, s, l⟩ fun b hb => ?_⟩
  rw [List.mem_singleton.mp hb, upd_same]
  exact ⟨.inl (List.mem_singleton.mpr rfl), fr.1, fun z => nomatch z⟩
theorem ref_inj {a b : Addr} (h : V.ref a = V.ref b) : a = b := by cases h; rfl
/-- p.append(e) -/
theorem s_appF {Γ' : Ctx} (hp : EvF tp Γ i (oL Ps) put) (h : EvE te Γ P) (hz : Ps.length < sizeLine) (pw : put (oL (Ps ++ [P])) W') (hc : Γ.set i (.own W') = Γ') : StS (tDrop (tBM K "list" rAppend tp (tCons te tNil))) Γ (.nx Γ') := fun F σ G H D ⟨Ls, e⟩ g =>
  hp F σ G H Ls e _ fun x Lx G1 H1 g1 f1 => by
    obtain ⟨a, vs, h1, h2, h3, h4, _⟩ := f1.list
    subst h1 hc
    refine ⟨.inl ⟨rfl, vs, SqL.of h2⟩, h F σ G1 H1 ⟨Ls, f1.e⟩ _ fun v G' H' gr p => ?_⟩
    obtain ⟨b, ws, k1, k2, k3, k4, k5⟩ := (f1.grow gr).list
    cases ref_inj k1
    refine ⟨a, ws, v, rfl, rfl, k2, by rw [k3.len]; exact hz, g σ G' _ (k5 _ _ _ pw (k3.snoc p) ?_)⟩
    rw [List.length_append, k3.len]
    exact hz
/-- p.append(a region) -/
theorem s_appFW {Γ' : Ctx} (hp : EvF tp Γ i (oLs Ws) put) (h : EvW te Γ W) (hz : Ws.length < sizeLine) (pw : put (oLs (Ws ++ [W])) W') (hc : Γ.set i (.own W') = Γ') : StS (tDrop (tBM K "list" rAppend tp (tCons te tNil))) Γ (.nx Γ') := fun F σ G H D ⟨Ls, e⟩ g =>
  hp F σ G H Ls e _ fun x Lx G1 H1 g1 f1 => by
    obtain ⟨a, vs, Lk, h1, h2, h3, h4, h5, h6⟩ := id f1.u
    subst h1 h6 hc
    refine ⟨.inl ⟨rfl, vs, SqL.of h2⟩, h F σ G1 H1 ⟨Ls, f1.e⟩ _ fun v L G' H' gr hL hw => ?_⟩
    have ha : H' a = some (.lst vs) := gr.h _ _ h2
    have n1 : ∀ b ∈ a :: Lk.flatten, H1 b ≠ none := fun b hb => by
      obtain ⟨W, hW⟩ := f1.o
      exact (f1.e.fr i W hW b (f1.sub b hb)).2.2
    have n2 : ∀ b ∈ a :: Lk.flatten, G1 b = none := fun b hb => by
      obtain ⟨W, hW⟩ := f1.o
      exact (f1.e.fr i W hW b (f1.sub b hb)).1
    have na : a ∉ L := fun q => by
      rw [(hL a q).1] at h2
      cases h2
    have ga : G' a = none := gr.f a (n1 a List.mem_cons_self) (n2 a List.mem_cons_self)
    have fe : (Lk ++ [L]).flatten = Lk.flatten ++ L := by rw [List.flatten_append, List.flatten_cons, List.flatten_nil, List.append_nil]
    refine ⟨a, vs, v, rfl, rfl, ha, by rw [h3.len.1]; exact hz, g σ G' _ (f1.chg (U' := oLs (Ws ++ [W])) (Lu' := a :: (Lk ++ [L]).flatten) pw gr.g (Gw.mut gr.s ga) (fun b hb hn => ?_) (fun b _ h1 h2 => gr.f b h1 h2) ⟨a, vs ++ [v], Lk ++ [L], rfl, upd_same, ?_, ?_, ?_, rfl⟩ fun b hb => ?_)⟩
    · rw [upd_ne fun z => hb (by rw [z]; exact List.mem_cons_self)]
      exact gr.h.at hn
    · refine SW.snoc (W.m (Gw.refl _) (fun b hb => upd_ne fun z => na (by rw [← z]; exact hb)) hw) (h3.m gr.g fun b hb => ?_) fun b hb q => n1 b (List.mem_cons_of_mem _ q) (hL b hb).1
      rw [upd_ne fun z => h5 (by rw [← z]; exact hb)]
      exact gr.h.at (n1 b (List.mem_cons_of_mem _ hb))
    · rw [List.length_append, h3.len.1]
      exact hz
    · rw [fe, List.mem_append]
      exact fun z => z.elim h5 na
    · rw [fe] at hb
      rcases List.mem_cons.mp hb with z | z
      · subst z
        exact ⟨.inl List.mem_cons_self, ga, by rw [upd_same]; exact fun z => nomatch z⟩
      · have nb : b ≠ a := fun q => by
          subst q
          exact (List.mem_append.mp z).elim h5 na
        rw [upd_ne nb]
        rcases List.mem_append.mp z with z | z
        · have m := List.mem_cons_of_mem a z
          exact ⟨.inl m, gr.f b (n1 b m) (n2 b m), fun q => n1 b m (gr.h.free q)⟩
        · exact ⟨.inr (hL b z).1, (hL b z).2⟩
/-- p[k] = e -/
theorem s_setLF {Γ' : Ctx} {k : Int} (hp : EvF tp Γ i (oL Ps) put) (h : EvE te Γ P) (hk : EvE ti Γ (pI k)) (hj : ixN Ps.length k = some j) (pw : put (oL (Ps.set j P)) W') (hc : Γ.set i (.own W') = Γ') : StS (tAsg te (gSub tp ti rSetL)) Γ (.nx Γ') := fun F σ G H D e g =>
  h F σ G H e _ fun v G1 H1 g1 p1 => by
    obtain ⟨Ls, e1⟩ := e.grow g1
    subst hc
    refine hp F σ G1 H1 Ls e1 _ fun x Lx G2 H2 g2 f2 => ?_
    obtain ⟨a, vs, h1, _⟩ := f2.list
    refine hk F σ G2 H2 ⟨Ls, f2.e⟩ _ fun y G3 H3 g3 p3 => ?_
    obtain ⟨b, ws, k1, k2, k3, k4, k5⟩ := (f2.grow g3).list
    subst h1
    cases ref_inj k1
    refine ⟨a, ws, k, j, rfl, p3, k2, by rw [k3.len]; exact hj, g σ G3 _ (k5 _ _ _ pw (Sat.set (P.m (g2.g.trans g3.g) p1) j k3) ?_)⟩
    rw [List.length_set]
    exact k4
/-- p[k] op= e, ints -/
theorem s_augLF {Γ' : Ctx} {f : Int → Int → Int} {k a b : Int} (hp : EvF tp Γ i (oL Ps) put) (hk : EvE ti Γ (pI k)) (hj : ixN Ps.length k = some j) (ha : Ps[j]? = some (pI a)) (h : EvE te Γ (pI b)) (pw : put (oL (Ps.set j (pI (f a b)))) W') (hc : Γ.set i (.own W') = Γ') :
    StS (tAugS tp ti te (rIxL K) (ipI f) rSetL) Γ (.nx Γ') := fun F σ G H D ⟨Ls, e⟩ g =>
  hp F σ G H Ls e _ fun x0 Lx G0 H0 g0 f0 => by
    obtain ⟨p, vs, h1, h2, h3, h4, _⟩ := f0.list
    subst h1 hc
    refine hk F σ G0 H0 ⟨Ls, f0.e⟩ _ fun y G1 H1 g1 p1 => ?_
    obtain ⟨q, us, k1, k2, k3, k4, _⟩ := (f0.grow g1).list
    cases ref_inj k1
    have hat : atI Ps k = some (pI a) := by
      unfold atI
      rw [hj]
      exact ha
    obtain ⟨x, x1, x2⟩ := sat_atI k3 hat
    refine ⟨p, us, k, x, rfl, p1, SqL.of k2, x1, h F σ G1 H1 ⟨Ls, (f0.grow g1).e⟩ _ fun z G2 H2 g2 p2 => ⟨a, b, x2, p2, ?_⟩⟩
    obtain ⟨q, ws, k1, l2, l3, l4, l5⟩ := ((f0.grow g1).grow g2).list
    cases ref_inj k1
    refine ⟨p, ws, k, j, rfl, p1, l2, by rw [l3.len]; exact hj, g σ G2 _ (l5 _ _ _ pw (Sat.set (P := pI (f a b)) rfl j l3) ?_)⟩
    rw [List.length_set]
    exact l4
/-- p.pop(k), the value kept in slot n -/
theorem s_popAtF {Γ' : Ctx} {k : Int} {n m : Nat} (hp : EvF tp Γ i (oL Ps) put) (hk : EvE ti Γ (pI k)) (hb : -(2 ^ 63) ≤ k ∧ k < 2 ^ 63) (hn : seqIndex? k Ps.length = some m) (hP : Ps[m]? = some P) (hj : n < Γ.length) (pw : put (oL (Ps.eraseIdx m)) W') (hc : (Γ.set i (.own W')).set n (.val P) = Γ') :
    StS (tAsg (tBM K "list" rPopAt tp (tCons ti tNil)) (gName n)) Γ (.nx Γ') := fun F σ G H D ⟨Ls, e⟩ g =>
  hp F σ G H Ls e _ fun x0 Lx G0 H0 g0 f0 => by
    obtain ⟨a, vs, h1, h2, h3, h4, _⟩ := f0.list
    subst h1 hc
    refine ⟨.inl ⟨rfl, vs, SqL.of h2⟩, hk F σ G0 H0 ⟨Ls, f0.e⟩ _ fun v G' H' gr p => ?_⟩
    obtain ⟨b, ws, k1, k2, k3, k4, k5⟩ := (f0.grow gr).list
    cases ref_inj k1
    obtain ⟨x, x1, x2⟩ := k3.get hP
    refine ⟨a, ws, k, m, x, rfl, by rw [show v = .int k from p], k2, hb.1, hb.2, by rw [k3.len]; exact hn, x1, g _ G' _ ?_⟩
    exact (k5 _ _ _ pw (k3.erase m) (Nat.le_trans (List.length_eraseIdx_le _ _) k4)).set x2 (by rw [List.length_set]; exact hj)
end
end Y

set_option Elab.async false
set_option linter.all false
set_option maxRecDepth 100000
namespace Y
open PySem L2
/-! ### expressions that change a region -/
def EvU (te : TE) (Γ Γ' : Ctx) (P : Pr) : Prop := ∀ (F : Fm) (σ : St) (G H : Hp), EOk F Γ σ G H → ∀ Q : VK, (∀ v G' H', EOk F Γ' σ G' H' → P.p G' v → Q v H') → te σ H Q
def EvTU (t : TT) (Γ Γ' : Ctx) (b : Bool) : Prop := ∀ (F : Fm) (σ : St) (G H : Hp), EOk F Γ σ G H → ∀ Q : Bool → Hp → Prop, (∀ G' H', EOk F Γ' σ G' H' → Q b H') → t σ H Q
section
variable {K : PySem.W.Frag} {Γ Γ1 Γ2 : Ctx} {tp te ti : TE} {t : TT} {ts us ws : TS} {i j : Nat} {U U' W : Ow} {Ws : List Ow} {put : Ow → Ow → Prop} {W' : Ow} {P : Pr} {Ps Ds : List Pr} {C : Addr} {ns : List Str} {f : Str} {o : Out} {g : TG} {js : List Nat}
theorem s_asgU (h : EvU te Γ Γ1 P) (hi : i < Γ1.length) : StS (tAsg te (gName i)) Γ (.nx (Γ1.set i (.val P))) := fun F σ G H D e g =>
  h F σ G H e _ fun v G' H' e' p => g _ G' H' (e'.set p hi)
theorem s_dropU (h : EvU te Γ Γ1 P) : StS (tDrop te) Γ (.nx Γ1) := fun F σ G H D e g => h F σ G H e _ fun v G' H' e' p => g σ G' H' e'
theorem s_retU (h : EvU te Γ Γ1 P) (hk : Γ1[i]? = some (.own W)) : StS (tRet te) Γ (.ru i W P) := fun F σ G H D e g => h F σ G H e _ fun v G' H' e' p => g v σ G' H' Γ1 e' hk p
theorem s_retE (h : EvE te Γ P) (hk : Γ[i]? = some (.own W)) : StS (tRet te) Γ (.ru i W P) := fun F σ G H D e g => h F σ G H e _ fun v G' H' g' p => g v σ G' H' Γ (e.grow g') hk p
theorem s_retNU (hk : Γ[i]? = some (.own W)) : StS tRetN Γ (.ru i W pN) := fun F σ G H D e g => g _ σ G H Γ e hk rfl
theorem s_rnR (h : StS ts Γ (.ru i W P)) : StS ts Γ (.rn i W P) := fun F σ G H D e g => h F σ G H D e g.1
theorem s_rnRS (h : StS ts Γ (.ru i W P)) : StS (tSeq ts us) Γ (.rn i W P) := fun F σ G H D e g => h F σ G H { D with nx := us D } e g.1
theorem s_rnN (h : StS ts Γ (.nx Γ1)) (hk : Γ1[i]? = some (.own W)) : StS ts Γ (.rn i W pN) := fun F σ G H D e g => h F σ G H D e fun σ' G' H' e' => g.2 rfl σ' G' H' Γ1 e' hk
theorem s_retW (h : EvW te Γ W) : StS (tRet te) Γ (.rw W) := fun F σ G H D ⟨Ls, e⟩ g =>
  h F σ G H ⟨Ls, e⟩ _ fun v L G' H' g' hL hw => g v L G' H' (e.gr.trans g') (fun a ha => ⟨e.gr.h.free (hL a ha).1, (hL a ha).2⟩) hw
theorem s_retO (hi : Γ[i]? = some (.own W)) : StS (tRet (tVar i)) Γ (.rw W) := fun F σ G H D ⟨Ls, e⟩ g => by
  obtain ⟨v, h1, h2⟩ := (e.at_ i _ hi).own_
  exact ⟨v, h1, g v (Ls i) G H e.gr (fun a ha => ⟨(e.fr i W hi a ha).2.1, (e.fr i W hi a ha).1, (e.fr i W hi a ha).2.2⟩) h2⟩
theorem s_seqRW (h1 : StS ts Γ (.rw W)) : StS (tSeq ts us) Γ (.rw W) := fun F σ G H D e g => h1 F σ G H { D with nx := us D } e g
theorem t_testU {b : Bool} (h : EvU te Γ Γ1 (pB b)) : EvTU (tTest te) Γ Γ1 b := fun F σ G H e Q q => h F σ G H e _ fun v G' H' e' p => ⟨b, p, q G' H' e'⟩
theorem t_notU {b : Bool} (h : EvTU t Γ Γ1 b) : EvTU (tNot t) Γ Γ1 (!b) := fun F σ G H e Q q => h F σ G H e _ fun G' H' e' => q G' H' e'
theorem s_ifU {b : Bool} (h : EvTU t Γ Γ1 b) (h1 : b = true → StS us Γ1 o) (h2 : b = false → StS ws Γ1 o) : StS (tIfS t us ws) Γ o := fun F σ G H D e g =>
  h F σ G H e _ fun G' H' e' => by
    cases b with
    | true => exact h1 rfl F σ G' H' D e' g
    | false => exact h2 rfl F σ G' H' D e' g
/-! ### a region that is handed to a def -/
def delL (H : Hp) (L : List Addr) : Hp := fun a => if a ∈ L then none else H a
theorem delL_in {H : Hp} {L : List Addr} {a : Addr} (h : a ∈ L) : delL H L a = none := if_pos h
theorem delL_out {H : Hp} {L : List Addr} {a : Addr} (h : a ∉ L) : delL H L a = H a := if_neg h
def spU (k : Nat) (R : Ow → List Pr → Ow → Pr → Prop) : Sp := fun vs H Q _ => ∃ U U' Ps P G L v, R U Ps U' P ∧ vs[k]? = some v ∧ U.p G H v L ∧ Gw G H ∧ (∀ a ∈ L, G a = none ∧ H a ≠ none) ∧ Sat G (vs.eraseIdx k) Ps ∧
  ∀ r G' H' L', Gr G (delL H L) G' H' → (∀ a ∈ L', (a ∈ L ∨ H a = none) ∧ G' a = none ∧ H' a ≠ none) → U'.p G' H' v L' → P.p G' r → Q r H'
/-- a new region is handed back -/
def spW (R : List Pr → Ow → Prop) : Sp := fun vs H Q _ => ∃ Ps W G, R Ps W ∧ Gw G H ∧ Sat G vs Ps ∧ ∀ v L G' H', Gr G H G' H' → (∀ a ∈ L, H a = none ∧ G' a = none ∧ H' a ≠ none) → W.p G' H' v L → Q v H'
def ctxU (n k : Nat) (v : V) (U : Ow) (Ps : List Pr) : Ctx := (Ps.map Slot.val).insertIdx k (.own (oAt v U)) ++ List.replicate (n - (Ps.length + 1)) Slot.any
theorem erase_get {α : Type} {l : List α} {k i : Nat} : (l.eraseIdx k)[i]? = if i < k then l[i]? else l[i + 1]? := List.getElem?_eraseIdx
theorem eok_startU {G H : Hp} {k : Nat} {v : V} {U : Ow} {L : List Addr} {vs : List V} {Ps : List Pr} {N : List Str} (s : Gw G H) (hv : vs[k]? = some v) (hu : U.p G H v L) (hL : ∀ a ∈ L, G a = none ∧ H a ≠ none) (st : Sat G (vs.eraseIdx k) Ps) (hn : Ps.length + 1 ≤ N.length) :
    EOk ⟨G, delL H L, fun _ => True, fun _ h => h⟩ (ctxU N.length k v U Ps) (L2.start N vs) G H := by
  have hk : k < vs.length := lt_of_get hv
  have lv : vs.length = Ps.length + 1 := by
    have := st.len
    rw [List.length_eraseIdx, if_pos hk] at this
    omega
  have kp : k ≤ Ps.length := by omega
  have lA : ((Ps.map Slot.val).insertIdx k (.own (oAt v U))).length = Ps.length + 1 := by
    rw [List.length_insertIdx, List.length_map, if_pos kp]
  have get : ∀ {i : Nat} {sl : Slot}, (ctxU N.length k v U Ps)[i]? = some sl → (i = k ∧ sl = .own (oAt v U)) ∨ (i < vs.length ∧ i ≠ k ∧ ∃ P u, sl = .val P ∧ vs[i]? = some u ∧ P.p G u) ∨ sl = .any := fun {i sl} h => by
    unfold ctxU at h
    by_cases hi : i < Ps.length + 1
    · rw [List.getElem?_append_left (by rw [lA]; exact hi), List.getElem?_insertIdx] at h
      by_cases h1 : i < k
      · rw [if_pos h1, List.getElem?_map] at h
        cases hp : Ps[i]? with
        | none =>
          rw [hp] at h
          cases h
        | some P =>
          rw [hp] at h
          cases h
          obtain ⟨u, q1, q2⟩ := st.get hp
          rw [erase_get, if_pos h1] at q1
          exact .inr (.inl ⟨by omega, by omega, P, u, rfl, q1, q2⟩)
      · rw [if_neg h1] at h
        by_cases h2 : i = k
        · rw [if_pos h2, if_pos (by rw [List.length_map]; omega)] at h
          cases h
          exact .inl ⟨h2, rfl⟩
        · rw [if_neg h2, List.getElem?_map] at h
          cases hp : Ps[i - 1]? with
          | none =>
            rw [hp] at h
            cases h
          | some P =>
            rw [hp] at h
            cases h
            obtain ⟨u, q1, q2⟩ := st.get hp
            rw [erase_get, if_neg (by omega), show i - 1 + 1 = i by omega] at q1
            exact .inr (.inl ⟨by omega, h2, P, u, rfl, q1, q2⟩)
    · rw [List.getElem?_append_right (by rw [lA]; omega)] at h
      exact .inr (.inr (List.eq_of_mem_replicate (List.mem_of_getElem? h)))
  have own : ∀ {i : Nat} {W : Ow}, (ctxU N.length k v U Ps)[i]? = some (.own W) → i = k ∧ W = oAt v U := fun {i W} h => by
    rcases get h with ⟨h1, h2⟩ | ⟨_, _, P, u, h2, _⟩ | h2
    · cases h2
      exact ⟨h1, rfl⟩
    · cases h2
    · cases h2
  have sg : ∀ {i : Nat} {u : V}, vs[i]? = some u → (L2.start N vs)[i]? = some (some u) := fun {i u} h => by
    unfold L2.start
    rw [List.getElem?_append_left (by rw [List.length_map]; exact lt_of_get h), List.getElem?_map, h]
    rfl
  refine ⟨fun _ => L, ⟨Gw.refl G, fun a o e => ?_, s, fun _ _ h => h⟩, trivial, ?_, fun i sl h => ?_, fun i W h a ha => ?_, fun i j W W' h h' ne => ?_⟩
  · have e : delL H L a = some o := e
    by_cases z : a ∈ L
    · rw [delL_in z] at e
      cases e
    · rw [delL_out z] at e
      exact e
  · unfold L2.start ctxU
    rw [List.length_append, List.length_append, List.length_map, List.length_replicate, List.length_replicate, lA]
    omega
  · rcases get h with ⟨h1, h2⟩ | ⟨_, _, P, u, h2, h3, h4⟩ | h2
    · subst h1 h2
      rw [sg hv]
      exact ⟨rfl, hu⟩
    · subst h2
      rw [sg h3]
      exact h4
    · subst h2
      trivial
  · exact ⟨(hL a ha).1, delL_in ha, (hL a ha).2⟩
  · exact absurd ((own h).1.trans (own h').1.symm) ne
end
section
variable {P : Program} {w : World} {K : PySem.W.Frag} {mg : Str → Option Value} {base : Heap} {x qual : Str} {params : Arguments} {body : List Stmt} {scope : Scope} {dvs : List V} {kws : List (Str × V)} {f : Addr} {fd : FuncData}
theorem fn_U {N ps : List Str} {n k : Nat} {R : Ow → List Pr → Ow → Pr → Prop} (F : FunD K x qual params body scope dvs kws f fd) (S : FnScope N ps scope) (hl : ∀ U Ps U' P, R U Ps U' P → Ps.length + 1 = ps.length) (hn : ps.length ≤ N.length)
    (hb : ∀ (cdv : Value) (A : Around) (outer : List Env) (s : Shared) (H : Hp) (E : XK), Room n (A.deeper (PyProof.Rows.envOfC qual scope s.heap.objs.size f cdv)) →
      ∃ t, PSs (cxOf CX0 P w K mg base N qual scope f cdv A outer s H E).nox body t ∧ ∀ v U Ps U' P, R U Ps U' P → StS t (ctxU N.length k v U Ps) (.rn k (oAt v U') P)) : FnOk P w K mg base CX0 (n + 1) f fd ps (spU k R) := by
  refine F.ok S (fun vs H Q E ⟨U, U', Ps, Pq, G, L, v, h1, h2, _, _, _, h6, _⟩ => ?_) fun cdv A outer s H vs Q E hr ⟨U, U', Ps, Pq, G, L, v, h1, h2, h3, h4, h5, h6, h7⟩ => ?_
  · have := h6.len
    rw [List.length_eraseIdx, if_pos (lt_of_get h2)] at this
    have := hl _ _ _ _ h1
    have := lt_of_get h2
    omega
  · obtain ⟨t, ht, hs⟩ := hb cdv A outer s H E hr
    have hs := hs v U Ps U' Pq h1
    have e0 := eok_startU (N := N) h4 h2 h3 h5 h6 (by rw [hl _ _ _ _ h1]; exact hn)
    have fin : ∀ (r : V) (σ' : St) (G' H' : Hp) (Γ' : Ctx), EOk ⟨G, delL H L, fun _ => True, fun _ h => h⟩ Γ' σ' G' H' → Γ'[k]? = some (.own (oAt v U')) → Pq.p G' r → Q r H' := fun r σ' G' H' Γ' ⟨Ls, e⟩ hk p => by
      obtain ⟨v', _, k2, k3⟩ := (e.at_ k _ hk).own_
      subst k2
      refine h7 r G' H' (Ls k) e.gr (fun a ha => ?_) k3 p
      have q := e.fr k _ hk a ha
      refine ⟨?_, q.1, q.2.2⟩
      by_cases z : a ∈ L
      · exact .inl z
      · have q2 : delL H L a = none := q.2.1
        rw [delL_out z] at q2
        exact .inr q2
    exact ⟨t, ht.nox, hs _ _ G H _ e0 ⟨fin, fun ep σ' G' H' Γ' e hk => fin .non σ' G' H' Γ' e hk (by rw [ep]; rfl)⟩⟩
theorem fn_W {N ps : List Str} {k : Nat} {R : List Pr → Ow → Prop} (F : FunD K x qual params body scope dvs kws f fd) (S : FnScope N ps scope) (hl : ∀ Ps W, R Ps W → Ps.length = ps.length) (hn : ps.length ≤ N.length)
    (hb : ∀ (cdv : Value) (A : Around) (outer : List Env) (s : Shared) (H : Hp) (E : XK), Room k (A.deeper (PyProof.Rows.envOfC qual scope s.heap.objs.size f cdv)) →
      ∃ t, PSs (cxOf CX0 P w K mg base N qual scope f cdv A outer s H E).nox body t ∧ ∀ Ps W, R Ps W → StS t (ctx0 N.length Ps) (.rw W)) : FnOk P w K mg base CX0 (k + 1) f fd ps (spW R) := by
  refine F.ok S (fun vs H Q E ⟨Ps, W, G, h1, h2, h3, _⟩ => h3.len.trans (hl Ps W h1)) fun cdv A outer s H vs Q E hr ⟨Ps, W, G, h1, h2, h3, h4⟩ => ?_
  obtain ⟨t, ht, hs⟩ := hb cdv A outer s H E hr
  exact ⟨t, ht.nox, hs Ps W h1 _ (L2.start N vs) G H _ (eok_start h2 h3 (by rw [hl Ps W h1]; exact hn)) fun v L G' H' g hL hw => h4 v L G' H' g hL hw⟩
end
section
variable {K : PySem.W.Frag} {Γ Γ1 Γ2 : Ctx} {tp te ti ta : TE} {tr tas : TA} {t : TT} {ts us ws : TS} {i j k : Nat} {U U' W : Ow} {Ws : List Ow} {put : Ow → Ow → Prop} {W' : Ow} {P : Pr} {Ps Ds : List Pr} {C : Addr} {ns : List Str} {f m : Str} {dvs : List V} {E : XK}
def EvAU (ta : TA) (Γ : Ctx) (i : Nat) (U : Ow) (put : Ow → Ow → Prop) (k : Nat) (Ps : List Pr) : Prop := ∀ (F : Fm) (σ : St) (G H : Hp) (Ls : Nat → List Addr), EOk1 F Γ σ G H Ls → ∀ Q : List V → Hp → Prop,
  (∀ vs v Lu G' H', Gr G H G' H' → vs[k]? = some v → Foc F Γ σ i U put Ls v Lu G' H' → Sat G' (vs.eraseIdx k) Ps → Q vs H') → ta σ H Q
theorem au_here (hp : EvF tp Γ i U put) (h : EvA tr Γ Ps) : EvAU (tCons tp tr) Γ i U put 0 Ps := fun F σ G H Ls e Q q =>
  hp F σ G H Ls e _ fun v Lu G1 H1 g1 f1 => h F σ G1 H1 ⟨Ls, f1.e⟩ _ fun vs G2 H2 g2 s2 => q (v :: vs) v Lu G2 H2 (g1.trans g2) rfl (f1.grow g2) s2
theorem au_cons (h : EvE te Γ P) (hr : EvAU tr Γ i U put k Ps) : EvAU (tCons te tr) Γ i U put (k + 1) (P :: Ps) := fun F σ G H Ls e Q q =>
  h F σ G H ⟨Ls, e⟩ _ fun x G1 H1 g1 p1 => hr F σ G1 H1 Ls (e.grow g1) _ fun vs v Lu G2 H2 g2 hv f2 s2 => q (x :: vs) v Lu G2 H2 (g1.trans g2) (by simpa using hv) f2 ⟨P.m g2.g p1, s2⟩
theorem Foc.frE {F : Fm} {σ : St} {Ls : Nat → List Addr} {v : V} {Lu : List Addr} {G H : Hp} (f : Foc F Γ σ i U put Ls v Lu G H) : ∀ a ∈ Lu, G a = none ∧ H a ≠ none := fun a ha => by
  obtain ⟨W, hW⟩ := f.o
  have q := f.e.fr i W hW a (f.sub a ha)
  exact ⟨q.1, q.2.2⟩
theorem Foc.call {F : Fm} {σ : St} {Ls : Nat → List Addr} {v : V} {Lu L' : List Addr} {G H G' H' : Hp} (f : Foc F Γ σ i U put Ls v Lu G H) (pw : put U' W') (g : Gr G (delL H Lu) G' H') (hL : ∀ a ∈ L', (a ∈ Lu ∨ H a = none) ∧ G' a = none ∧ H' a ≠ none) (hu : U'.p G' H' v L') :
    EOk F (Γ.set i (.own W')) σ G' H' := by
  refine f.chg pw g.g g.s (fun b hb hn => ?_) (fun b hb hn hg => g.f b ?_ hg) hu hL
  · rw [g.h.at (a := b) (by rw [delL_out hb]; exact hn), delL_out hb]
  · rw [delL_out hb]
    exact hn
theorem e_callU {R : Ow → List Pr → Ow → Pr → Prop} (h : EvAU tas Γ i U put k Ps) (hd : Dfl dvs Ds) (hR : R U (Ps ++ Ds) U' P) (pw : put U' W') (hc : Γ.set i (.own W') = Γ1) : EvU (tCall (spU k R) dvs E tas) Γ Γ1 P := fun F σ G H ⟨Ls, e⟩ Q q =>
  h F σ G H Ls e _ fun vs v Lu G1 H1 g1 hv f1 s1 => by
    subst hc
    refine ⟨U, U', Ps ++ Ds, P, G1, Lu, v, hR, ?_, f1.u, f1.e.gr.s, f1.frE, ?_, fun r G' H' L' g hL hu hp => q r G' H' (f1.call pw g hL hu) hp⟩
    · rw [List.getElem?_append_left (lt_of_get hv)]
      exact hv
    · rw [List.eraseIdx_append_of_lt_length (lt_of_get hv)]
      exact s1.app (hd G1)
theorem e_callU0 {R : Ow → List Pr → Ow → Pr → Prop} (h : EvAU tas Γ i U put k Ps) (hR : R U Ps U' P) (pw : put U' W') (hc : Γ.set i (.own W') = Γ1) : EvU (tCall (spU k R) [] E tas) Γ Γ1 P := e_callU (Ds := []) h (fun _ => trivial) (by rw [List.append_nil]; exact hR) pw hc
/-- a region that is an object without an own m -/
def Ins (U : Ow) (C : Addr) (m : Str) : Prop := ∀ G H v L, U.p G H v L → ∃ a dx fs, v = .ref a ∧ H a = some (.ins C dx fs) ∧ fs.lookup m = none
theorem ins_Os (h : m ∉ ns) : Ins (oOs C ns Ws) C m := fun G H v L ⟨a, dx, vs, Ls, h1, h2, _⟩ => ⟨a, dx, _, h1, h2, lookup_none h⟩
theorem ins_At {x : V} (h : Ins U C m) : Ins (oAt x U) C m := fun G H v L ⟨_, h2⟩ => h G H v L h2
theorem e_methU {R : Ow → List Pr → Ow → Pr → Prop} (hp : EvF tp Γ i U put) (hm : Ins U C m) (h : EvA tas Γ Ps) (hd : Dfl dvs Ds) (hR : R U (Ps ++ Ds) U' P) (pw : put U' W') (hc : Γ.set i (.own W') = Γ1) : EvU (tMeth C m (spU 0 R) dvs E tp tas) Γ Γ1 P := fun F σ G H ⟨Ls, e⟩ Q q =>
  hp F σ G H Ls e _ fun x Lu G1 H1 g1 f1 => by
    subst hc
    obtain ⟨a, dx, fs, h1, h2, h3⟩ := hm _ _ _ _ f1.u
    refine ⟨a, dx, fs, h1, h2, h3, h F σ G1 H1 ⟨Ls, f1.e⟩ _ fun vs G2 H2 g2 s2 => ?_⟩
    have f2 := f1.grow g2
    exact ⟨U, U', Ps ++ Ds, P, G2, Lu, x, hR, rfl, f2.u, f2.e.gr.s, f2.frE, s2.app (hd G2), fun r G' H' L' g hL hu hp => q r G' H' (f2.call pw g hL hu) hp⟩
theorem e_methU0 {R : Ow → List Pr → Ow → Pr → Prop} (hp : EvF tp Γ i U put) (hm : Ins U C m) (h : EvA tas Γ Ps) (hR : R U Ps U' P) (pw : put U' W') (hc : Γ.set i (.own W') = Γ1) : EvU (tMeth C m (spU 0 R) [] E tp tas) Γ Γ1 P := e_methU (Ds := []) hp hm h (fun _ => trivial) (by rw [List.append_nil]; exact hR) pw hc
theorem e_makeU {R : Ow → List Pr → Ow → Pr → Prop} (h : EvA tas Γ Ps) (hd : Dfl dvs Ds) (hR : R (oOs C [] []) (Ps ++ Ds) W pN) : EvW (tMake C (spU 0 R) dvs E tas) Γ W := fun F σ G H e Q q =>
  h F σ G H e _ fun vs G1 H1 g1 s1 => fun x dx hx hdx ne => by
    have gx : G1 x = none := g1.s.free hx
    refine ⟨oOs C [] [], W, Ps ++ Ds, pN, G1, [x], .ref x, hR, rfl, ⟨x, dx, [], [], rfl, upd_same, trivial, (fun z => nomatch z), rfl⟩, gw_made g1.s hx hdx, fun a ha => ?_, s1.app (hd G1), fun r G' H' L' g hL hu hp => ⟨hp, ?_⟩⟩
    · rw [List.mem_singleton.mp ha, upd_same]
      exact ⟨gx, fun z => nomatch z⟩
    · have old : ∀ b, H1 b ≠ none → delL (upd (upd H1 dx (.own x)) x (.ins C dx [])) [x] b = H1 b := fun b hb => by
        have n1 : b ≠ x := fun z => hb (z ▸ hx)
        have n2 : b ≠ dx := fun z => hb (z ▸ hdx)
        rw [delL_out (fun z => n1 (List.mem_singleton.mp z)), upd_ne n1, upd_ne n2]
      refine q (.ref x) L' G' H' (g1.trans ⟨g.g, fun b o hb => ?_, g.s, fun b hb hg => ?_⟩) (fun b hb => ⟨?_, (hL b hb).2⟩) hu
      · refine g.h b o ?_
        rw [old b (by rw [hb]; exact fun z => nomatch z)]
        exact hb
      · refine g.f b ?_ hg
        rw [old b hb]
        exact hb
      · rcases (hL b hb).1 with z | z
        · rw [List.mem_singleton.mp z]
          exact g1.h.free hx
        · refine g1.h.free ?_
          cases hb1 : H1 b with
          | none => rfl
          | some o =>
            have n1 : b ≠ x := ne_of_none hb1 hx
            have n2 : b ≠ dx := ne_of_none hb1 hdx
            rw [upd_ne n1, upd_ne n2, hb1] at z
            cases z
theorem e_makeU0 {R : Ow → List Pr → Ow → Pr → Prop} (h : EvA tas Γ Ps) (hR : R (oOs C [] []) Ps W pN) : EvW (tMake C (spU 0 R) [] E tas) Γ W := e_makeU (Ds := []) h (fun _ => trivial) (by rw [List.append_nil]; exact hR)
theorem e_callW {R : List Pr → Ow → Prop} (h : EvA tas Γ Ps) (hd : Dfl dvs Ds) (hR : R (Ps ++ Ds) W) : EvW (tCall (spW R) dvs E tas) Γ W := fun F σ G H e Q q =>
  h F σ G H e _ fun vs G1 H1 g1 s1 => ⟨_, W, G1, hR, g1.s, s1.app (hd G1), fun v L G2 H2 g2 hL hw => q v L G2 H2 (g1.trans g2) (fun a ha => ⟨g1.h.free (hL a ha).1, (hL a ha).2⟩) hw⟩
theorem e_callW0 {R : List Pr → Ow → Prop} (h : EvA tas Γ Ps) (hR : R Ps W) : EvW (tCall (spW R) [] E tas) Γ W := e_callW (Ds := []) h (fun _ => trivial) (by rw [List.append_nil]; exact hR)
theorem e_methW {R : List Pr → Ow → Prop} {Os : List Pr} (ho : EvE ta Γ (pO C ns Os)) (hm : m ∉ ns) (h : EvA tas Γ Ps) (hd : Dfl dvs Ds) (hR : R (pO C ns Os :: (Ps ++ Ds)) W) : EvW (tMeth C m (spW R) dvs E ta tas) Γ W := fun F σ G H e Q q =>
  ho F σ G H e _ fun x G1 H1 g1 p1 => by
    obtain ⟨a, ob, h1, h2, dx, vs, h3, h4⟩ := id p1
    subst h1 h3
    exact ⟨a, dx, _, rfl, g1.s _ _ h2, lookup_none hm, h F σ G1 H1 (e.grow g1) _ fun vs G2 H2 g2 s2 => ⟨_, W, G2, hR, g2.s, ⟨(pO C ns Os).m g2.g p1, s2.app (hd G2)⟩, fun v L G3 H3 g3 hL hw => q v L G3 H3 ((g1.trans g2).trans g3) (fun a ha => ⟨(g1.trans g2).h.free (hL a ha).1, (hL a ha).2⟩) hw⟩⟩
theorem e_methW0 {R : List Pr → Ow → Prop} {Os : List Pr} (ho : EvE ta Γ (pO C ns Os)) (hm : m ∉ ns) (h : EvA tas Γ Ps) (hR : R (pO C ns Os :: Ps) W) : EvW (tMeth C m (spW R) [] E ta tas) Γ W := e_methW (Ds := []) ho hm h (fun _ => trivial) (by rw [List.append_nil]; exact hR)
/-! ### fields of an object of one's own -/
theorem f_at {x : V} (hp : EvF tp Γ i (oAt x W) put) : EvF tp Γ i W (fun U W' => put (oAt x U) W') := fun F σ G H Ls e Q q =>
  hp F σ G H Ls e _ fun v Lu G' H' g f => q v Lu G' H' g ⟨f.e, f.o, f.u.2, f.sub, fun pw gg k hu hn => f.put pw gg k ⟨f.u.1, hu⟩ hn⟩
theorem Foc.obj {F : Fm} {σ : St} {Ls : Nat → List Addr} {v : V} {Lu : List Addr} {G H : Hp} (f : Foc F Γ σ i (oOs C ns Ws) put Ls v Lu G H) : ∃ a dx vs Lk, v = .ref a ∧ Lu = a :: Lk.flatten ∧ H a = some (.ins C dx (ns.zip vs)) ∧ SW G H vs Ws Lk ∧ a ∉ Lk.flatten ∧ G a = none ∧
    ∀ ns' us Ws' Lk' W', put (oOs C ns' Ws') W' → SW G (upd H a (.ins C dx (ns'.zip us))) us Ws' Lk' → a ∉ Lk'.flatten → (∀ b ∈ Lk'.flatten, (b ∈ Lk.flatten ∨ ((∀ (j : Nat) (W : Ow), Γ[j]? = some (.own W) → b ∉ Ls j) ∧ F.H b = none)) ∧ G b = none ∧ H b ≠ none) →
      EOk F (Γ.set i (.own W')) σ G (upd H a (.ins C dx (ns'.zip us))) := by
  obtain ⟨a, dx, vs, Lk, h1, h2, h3, h5, h6⟩ := id f.u
  subst h6
  have fr := f.frE a List.mem_cons_self
  refine ⟨a, dx, vs, Lk, h1, rfl, h2, h3, h5, fr.1, fun ns' us Ws' Lk' W' pw hs na hb => f.chgN (U' := oOs C ns' Ws') (Lu' := a :: Lk'.flatten) pw (Gw.refl G) (Gw.mut f.e.gr.s fr.1) (fun b hb _ => upd_ne fun z => hb (by rw [z]; exact List.mem_cons_self)) (fun b _ _ h => h) ⟨a, dx, us, Lk', h1, upd_same, hs, na, rfl⟩ fun b hm => ?_⟩
  rcases List.mem_cons.mp hm with z | z
  · subst z
    rw [upd_same]
    exact ⟨.inl List.mem_cons_self, fr.1, fun z => nomatch z⟩
  · rw [upd_ne fun q => na (by rw [← q]; exact z)]
    exact ⟨(hb b z).1.imp_left fun z => List.mem_cons_of_mem _ z, (hb b z).2⟩
/-- p.f = e, a new field -/
theorem s_newF (c : Cls K C) (n : NoAttr K C f) (hp : EvF tp Γ i (oOs C ns Ws) put) (hf : f ∉ ns) (hl : ns.length = Ws.length) (hm : ns.length < 1000) (h : EvE te Γ P) (pw : put (oOs C (ns ++ [f]) (Ws ++ [oV P])) W') (hc : Γ.set i (.own W') = Γ1) : StS (sFld K tp te f) Γ (.nx Γ1) := fun F σ G H D e g =>
  h F σ G H e _ fun v G1 H1 g1 p1 => by
    obtain ⟨Ls, e1⟩ := e.grow g1
    subst hc
    refine hp F σ G1 H1 Ls e1 _ fun x Lx G2 H2 g2 f2 => ?_
    obtain ⟨a, dx, vs, Lk, h1, h2, h3, h4, h5, ga, h6⟩ := f2.obj
    subst h2
    have lv : ns.length = vs.length := hl.trans h4.len.1.symm
    refine ⟨a, C, dx, _, h1, h3, c, n, by rw [zip_len lv]; exact hm, ?_⟩
    rw [zip_snoc hf lv]
    have fe : (Lk ++ [[]]).flatten = Lk.flatten := by rw [List.flatten_append, List.flatten_cons, List.flatten_nil, List.append_nil, List.append_nil]
    refine g σ G2 _ (h6 (ns ++ [f]) (vs ++ [v]) _ (Lk ++ [[]]) _ pw (SW.snoc (W := oV P) (L := []) ⟨rfl, P.m g2.g p1⟩ (h4.m (Gw.refl _) fun b hb => upd_ne fun z => h5 (by rw [← z]; exact hb)) fun _ z => nomatch z) (by rw [fe]; exact h5) fun b hb => ?_)
    rw [fe] at hb
    exact ⟨.inl hb, f2.frE b (List.mem_cons_of_mem _ hb)⟩
/-- p.f = a new region, a new field -/
theorem s_newFW (c : Cls K C) (n : NoAttr K C f) (hp : EvF tp Γ i (oOs C ns Ws) put) (hf : f ∉ ns) (hl : ns.length = Ws.length) (hm : ns.length < 1000) (h : EvW te Γ W) (pw : put (oOs C (ns ++ [f]) (Ws ++ [W])) W') (hc : Γ.set i (.own W') = Γ1) : StS (sFld K tp te f) Γ (.nx Γ1) := fun F σ G H D ⟨Ls, e⟩ g =>
  h F σ G H ⟨Ls, e⟩ _ fun v L G1 H1 g1 hL hw => by
    have e1 := e.grow g1
    subst hc
    refine hp F σ G1 H1 Ls e1 _ fun x Lx G2 H2 g2 f2 => ?_
    obtain ⟨a, dx, vs, Lk, h1, h2, h3, h4, h5, ga, h6⟩ := f2.obj
    subst h2
    have lv : ns.length = vs.length := hl.trans h4.len.1.symm
    refine ⟨a, C, dx, _, h1, h3, c, n, by rw [zip_len lv]; exact hm, ?_⟩
    rw [zip_snoc hf lv]
    have fe : (Lk ++ [L]).flatten = Lk.flatten ++ L := by rw [List.flatten_append, List.flatten_cons, List.flatten_nil, List.append_nil]
    have nin : ∀ b ∈ L, ∀ (j : Nat) (W : Ow), Γ[j]? = some (.own W) → b ∉ Ls j := fun b hb j W hW q => (e.fr j W hW b q).2.2 (hL b hb).1
    obtain ⟨Wi, hWi⟩ := f2.o
    have naL : a ∉ L := fun q => nin a q i Wi hWi (f2.sub a List.mem_cons_self)
    have nL : ∀ b ∈ L, b ∉ Lk.flatten := fun b hb q => nin b hb i Wi hWi (f2.sub b (List.mem_cons_of_mem _ q))
    have eqL : ∀ b ∈ L, H2 b = H1 b := fun b hb => g2.h.at (hL b hb).2.2
    refine g σ G2 _ (h6 (ns ++ [f]) (vs ++ [v]) _ (Lk ++ [L]) _ pw (SW.snoc (W.m g2.g (fun b hb => ?_) hw) (h4.m (Gw.refl _) fun b hb => upd_ne fun z => h5 (by rw [← z]; exact hb)) nL) (by rw [fe, List.mem_append]; exact fun z => z.elim h5 naL) fun b hb => ?_)
    · rw [upd_ne fun z => naL (by rw [← z]; exact hb)]
      exact eqL b hb
    · rw [fe] at hb
      rcases List.mem_append.mp hb with z | z
      · exact ⟨.inl z, f2.frE b (List.mem_cons_of_mem _ z)⟩
      · exact ⟨.inr ⟨nin b z, e.gr.h.free (hL b z).1⟩, g2.f b (hL b z).2.2 (hL b z).2.1, by rw [eqL b z]; exact (hL b z).2.2⟩
/-- p.f = e, a field that stands -/
theorem s_setFF (c : Cls K C) (n : NoAttr K C f) (hp : EvF tp Γ i (oOs C ns Ws) put) (nd : ns.Nodup) (hj : ns[j]? = some f) (hl : ns.length = Ws.length) (hm : ns.length < 1000) (h : EvE te Γ P) (pw : put (oOs C ns (Ws.set j (oV P))) W') (hc : Γ.set i (.own W') = Γ1) : StS (sFld K tp te f) Γ (.nx Γ1) := fun F σ G H D e g =>
  h F σ G H e _ fun v G1 H1 g1 p1 => by
    obtain ⟨Ls, e1⟩ := e.grow g1
    subst hc
    refine hp F σ G1 H1 Ls e1 _ fun x Lx G2 H2 g2 f2 => ?_
    obtain ⟨a, dx, vs, Lk, h1, h2, h3, h4, h5, ga, h6⟩ := f2.obj
    subst h2
    have lv : ns.length = vs.length := hl.trans h4.len.1.symm
    refine ⟨a, C, dx, _, h1, h3, c, n, by rw [zip_len lv]; exact hm, ?_⟩
    rw [zip_set nd hj lv]
    have hj2 : j < Lk.length := by
      rw [h4.len.2, ← hl]
      exact lt_of_get hj
    have h4' : SW G2 (upd H2 a (.ins C dx (ns.zip (vs.set j v)))) vs Ws Lk := h4.m (Gw.refl _) fun b hb => upd_ne fun z => h5 (by rw [← z]; exact hb)
    obtain ⟨n1, n2⟩ := SW.set (W' := oV P) (v' := v) (L' := []) (Gw.refl G2) ⟨rfl, P.m g2.g p1⟩ h4' (List.getElem?_eq_getElem hj2) (fun _ _ _ => rfl) (fun _ z => nomatch z)
    have sub : ∀ b ∈ (Lk.set j []).flatten, b ∈ Lk.flatten := fun b hb => (n2 b hb).elim (·.1) fun z => nomatch z
    refine g σ G2 _ (h6 ns (vs.set j v) _ (Lk.set j []) _ pw n1 (fun z => h5 (sub a z)) fun b hb => ?_)
    exact ⟨.inl (sub b hb), f2.frE b (List.mem_cons_of_mem _ (sub b hb))⟩
end
end Y

set_option Elab.async false
set_option linter.all false
set_option maxRecDepth 100000
namespace Y
open PySem L2
/-- regions that are new since H1, besides D -/
def FrL (H1 : Hp) (D : Addr) (G H : Hp) (Lk : List (List Addr)) : Prop := ∀ a ∈ Lk.flatten, H1 a = none ∧ G a = none ∧ H a ≠ none ∧ a ≠ D
theorem FrL.grow {H1 : Hp} {D : Addr} {G H G' H' : Hp} {Lk : List (List Addr)} (f : FrL H1 D G H Lk) (g : Gr G H G' H') : FrL H1 D G' H' Lk := fun a ha =>
  ⟨(f a ha).1, g.f a (f a ha).2.2.1 (f a ha).2.1, fun z => (f a ha).2.2.1 (g.h.free z), (f a ha).2.2.2⟩
theorem FrL.eqs {H1 : Hp} {D : Addr} {G H G' H' : Hp} {Lk : List (List Addr)} (f : FrL H1 D G H Lk) (g : Gr G H G' H') : ∀ a ∈ Lk.flatten, H' a = H a := fun a ha => g.h.at (f a ha).2.2.1
section
variable {K : PySem.W.Frag} {Γ : Ctx} {α β : Type} {r : α → Pr} {xs : List α} {ys : List β} {wi : TI} {g : TG} {js vs : List Nat} {tt : TT} {te : TE}
theorem w_lcO {ro : β → Ow} (Γx : α → Ctx) (fb : α → Option Bool) (fe : α → Option β) (h : EvI wi Γ r xs) (hz : xs.length ≤ sizeLine) (hg : ∀ x, EvG g js (wipeC Γ vs) (r x) (Γx x)) (hj : ∀ j ∈ js, j ∈ vs)
    (ht : ∀ x b, x ∈ xs → fb x = some b → EvT tt (Γx x) b) (he : ∀ x y, x ∈ xs → fb x = some true → fe x = some y → EvW te (Γx x) (ro y)) (hm : lcM fb fe xs = some ys) : EvW (tLc wi g tt te vs) Γ (oLs (ys.map ro)) := fun F σ G H e Q q =>
  h F σ G H e _ fun J X G1 H1 g1 w x1 => fun D hD => by
    obtain ⟨Gc, Y, wk, k1, k2⟩ := w.ex
    obtain ⟨Ls0, e0⟩ := e.grow g1
    obtain ⟨Ls, e1, hLs⟩ := e0.norm
    have hLD : ∀ i a, a ∈ Ls i → a ≠ D := fun i a ha z => hLs i a ha (z ▸ hD)
    have hGD : G1 D = none := e1.gr.s.free hD
    have hFD : F.H D = none := e1.gr.h.free hD
    refine lc_it wk (fun i H' => ∃ G' acc zs Lk, EOk1 (withX F X w.m) (wipeC Γ vs) (L2.wipe σ vs) G' H' Ls ∧ Gr G1 H1 G' H' ∧ G' D = none ∧ H' D = some (.lst acc) ∧ SW G' H' acc (zs.map ro) Lk ∧ FrL H1 D G' H' Lk ∧ acc.length ≤ i ∧ (lcM fb fe (xs.drop i)).map (zs ++ ·) = some ys)
      ⟨G1, [], [], [], ((e1.withX x1).wipe vs).updD hLD hGD hFD, Gr.lay g1.s hD, hGD, upd_same, (by show SW G1 _ [] ([] : List Ow) []; trivial), (fun _ z => nomatch z), Nat.le_refl _, by rw [List.drop_zero, hm] <;> rfl⟩ ?_ ?_ ?_
    · rintro i H' _ ⟨G', acc, zs, Lk, e', _⟩
      exact k1 G' H' e'.x.2 e'.gr.s
    · rintro i v H' H2 hi ⟨G', acc, zs, Lk, e', gr', hGD', hHD', hsat, hfr, hlen, hrem⟩ hy
      obtain ⟨G2, x, g2, xi, px⟩ := k2 i G' H' v H2 e'.x.2 e'.gr.s hi hy
      have hx : x ∈ xs := List.mem_of_getElem? xi
      rw [drop_cons xi] at hrem
      have hnn : H' D ≠ none := by rw [hHD']; exact fun z => nomatch z
      refine hg x (withX F X w.m) (L2.wipe σ vs) G2 H2 Ls v (e'.grow g2) px _ fun σ3 e3 hw => ⟨(hw vs hj).trans (wipe_wipe vs fun _ h => h), ?_⟩
      unfold lcM at hrem
      cases hfb : fb x with
      | none =>
        rw [hfb] at hrem
        cases hrem
      | some b =>
        refine ht x b hx hfb (withX F X w.m) σ3 G2 H2 ⟨Ls, e3⟩ _ fun G3 H3 g3 => ?_
        rw [hfb] at hrem
        have g23 := g2.trans g3
        cases b with
        | false =>
          show ∃ G' acc zs Lk, _
          exact ⟨G3, acc, zs, Lk, e'.grow g23, gr'.trans g23, g23.f D hnn hGD', g23.h _ _ hHD', hsat.m g23.g (hfr.eqs g23), hfr.grow g23, Nat.le_succ_of_le hlen, hrem⟩
        | true =>
          show te σ3 H3 _
          cases hfe : fe x with
          | none =>
            simp only [hfe] at hrem
            cases hrem
          | some y =>
            simp only [hfe] at hrem
            refine he x y hx hfb hfe (withX F X w.m) σ3 G3 H3 ⟨Ls, e3.grow g3⟩ _ fun z L G4 H4 g4 hL pz => ?_
            have g24 := g23.trans g4
            have hG4 : G4 D = none := g24.f D hnn hGD'
            have hD4 : H4 D = some (.lst acc) := g24.h _ _ hHD'
            have hD3 : H3 D ≠ none := by rw [g23.h _ _ hHD']; exact fun z => nomatch z
            have fle : (Lk ++ [L]).flatten = Lk.flatten ++ L := by rw [List.flatten_append, List.flatten_cons, List.flatten_nil, List.append_nil]
            have nDL : ∀ b ∈ L, b ≠ D := fun b hb z => hD3 (by rw [← z]; exact (hL b hb).1)
            have f4 := hfr.grow g24
            have nDk : ∀ b ∈ Lk.flatten, b ≠ D := fun b hb => (f4 b hb).2.2.2
            have old : ∀ b ∈ Lk.flatten, H3 b ≠ none := fun b hb => (hfr.grow g23 b hb).2.2.1
            refine ⟨acc, hD4, Nat.lt_of_le_of_lt hlen (Nat.lt_of_lt_of_le hi hz), G4, acc ++ [z], zs ++ [y], Lk ++ [L], (e'.grow g24).updD hLD hG4 hFD, ?_, hG4, upd_same, ?_, fun b hb => ?_, ?_, ?_⟩
            · have q1 := gr'.trans g24
              exact ⟨q1.g, Gw.mut q1.h hD, Gw.mut q1.s hG4, q1.f⟩
            · rw [List.map_append]
              exact SW.snoc (Ow.m _ (Gw.refl _) (fun b hb => upd_ne (nDL b hb)) pz) (hsat.m g24.g fun b hb => by rw [upd_ne (nDk b hb)]; exact hfr.eqs g24 b hb) fun b hb q => old b q (hL b hb).1
            · rw [fle] at hb
              rcases List.mem_append.mp hb with q | q
              · rw [upd_ne (nDk b q)]
                exact f4 b q
              · rw [upd_ne (nDL b q)]
                refine ⟨(gr'.trans g23).h.free (hL b q).1, (hL b q).2.1, (hL b q).2.2, nDL b q⟩
            · rw [List.length_append]
              exact Nat.succ_le_succ hlen
            · cases hrest : lcM fb fe (xs.drop (i + 1)) with
              | none =>
                rw [hrest] at hrem
                cases hrem
              | some zr =>
                rw [hrest] at hrem
                rw [← hrem]
                show some (zs ++ [y] ++ zr) = some (zs ++ (y :: zr))
                rw [List.append_assoc] <;> rfl
    · rintro H' ⟨G', acc, zs, Lk, e', gr', hGD', hHD', hsat, hfr, hlen, hrem⟩
      rw [List.drop_length] at hrem
      have ez : zs = ys := by
        have : some (zs ++ []) = some ys := hrem
        rw [List.append_nil] at this
        exact Option.some.inj this
      subst ez
      refine q (.ref D) (D :: Lk.flatten) G' H' (g1.trans gr') (fun a ha => ?_) ⟨D, acc, Lk, rfl, hHD', hsat, Nat.le_trans hlen hz, fun z => (hfr D z).2.2.2 rfl, rfl⟩
      rcases List.mem_cons.mp ha with z | z
      · rw [z]
        exact ⟨g1.h.free hD, hGD', by rw [hHD']; exact fun z => nomatch z⟩
      · exact ⟨g1.h.free (hfr a z).1, (hfr a z).2.1, (hfr a z).2.2.1⟩
theorem w_lcOY {ro : β → Ow} (Γx : α → Ctx) (fe : α → Option β) (h : EvI wi Γ r xs) (hz : xs.length ≤ sizeLine) (hg : ∀ x, EvG g js (wipeC Γ vs) (r x) (Γx x)) (hj : ∀ j ∈ js, j ∈ vs)
    (he : ∀ x y, x ∈ xs → fe x = some y → EvW te (Γx x) (ro y)) (hm : mapO fe xs = some ys) : EvW (tLc wi g tYes te vs) Γ (oLs (ys.map ro)) :=
  w_lcO Γx (fun _ => some true) fe h hz hg hj (fun x b _ hb => by cases hb; exact t_yes) (fun x y hx _ hy => he x y hx hy) (by rw [mapO_lc]; exact hm)
end
end Y

set_option Elab.async false
set_option linter.all false
set_option maxRecDepth 100000
namespace Y
open PySem L2
/-! ### parts of lists that stand for lists in Lean -/
section
variable {K : PySem.W.Frag} {Γ Γ' Γ1 : Ctx} {tp te ti ta tb : TE} {t : TT} {ts us ws rest : TS} {i j : Nat} {k : Int} {U W W' : Ow} {put put' : Ow → Ow → Prop} {P : Pr} {α : Type} {o : α → Ow} {r : α → Pr} {xs zs : List α} {x a : α} {out : Out}
theorem EvF.mono (h : EvF tp Γ i U put) (hp : ∀ U' W', put' U' W' → put U' W') : EvF tp Γ i U put' := fun F σ G H Ls e Q q =>
  h F σ G H Ls e Q fun v Lu G' H' g f => q v Lu G' H' g ⟨f.e, f.o, f.u, f.sub, fun pw => f.put (hp _ _ pw)⟩
theorem atI_ix (h : atI xs k = some x) : ∃ j, ixN xs.length k = some j ∧ xs[j]? = some x := by
  unfold atI at h
  cases q : ixN xs.length k with
  | none =>
    rw [q] at h
    cases h
  | some j =>
    rw [q] at h
    exact ⟨j, rfl, h⟩
theorem setM_ix (h : setM xs k x = some zs) : ∃ j, ixN xs.length k = some j ∧ zs = xs.set j x := by
  unfold setM at h
  cases q : ixN xs.length k with
  | none =>
    rw [q] at h
    cases h
  | some j =>
    rw [q] at h
    exact ⟨j, rfl, (Option.some.inj h).symm⟩
theorem f_ixM (hp : EvF tp Γ i (oLs (xs.map o)) put) (hi : EvE ti Γ (pI k)) (h : atI xs k = some x) : EvF (tOp (rIxL K) tp ti) Γ i (o x) (fun U' W' => ∃ x' zs, U' = o x' ∧ setM xs k x' = some zs ∧ put (oLs (zs.map o)) W') := by
  obtain ⟨j, h1, h2⟩ := atI_ix h
  refine (f_ix (j := j) hp hi (by rw [List.length_map]; exact h1) (by rw [List.getElem?_map, h2]; rfl)).mono fun U' W' ⟨x', zs, e1, e2, e3⟩ => ?_
  obtain ⟨j', q1, q2⟩ := setM_ix e2
  rw [h1] at q1
  cases q1
  rw [e1, ← List.map_set, ← q2]
  exact e3
theorem s_appFM (hp : EvF tp Γ i (oL (xs.map r)) put) (h : EvE te Γ (r a)) (hz : appM xs a = some zs) (pw : put (oL (zs.map r)) W') (hc : Γ.set i (.own W') = Γ') : StS (tDrop (tBM K "list" rAppend tp (tCons te tNil))) Γ (.nx Γ') := by
  obtain ⟨q, rfl⟩ := if_some hz
  rw [List.map_append] at pw
  exact s_appF hp h (by rw [List.length_map]; exact q) pw hc
theorem s_appFWM (hp : EvF tp Γ i (oLs (xs.map o)) put) (h : EvW te Γ (o a)) (hz : appM xs a = some zs) (pw : put (oLs (zs.map o)) W') (hc : Γ.set i (.own W') = Γ') : StS (tDrop (tBM K "list" rAppend tp (tCons te tNil))) Γ (.nx Γ') := by
  obtain ⟨q, rfl⟩ := if_some hz
  rw [List.map_append] at pw
  exact s_appFW hp h (by rw [List.length_map]; exact q) pw hc
theorem s_setLFM (hp : EvF tp Γ i (oL (xs.map r)) put) (h : EvE te Γ (r a)) (hk : EvE ti Γ (pI k)) (hz : setM xs k a = some zs) (pw : put (oL (zs.map r)) W') (hc : Γ.set i (.own W') = Γ') : StS (tAsg te (gSub tp ti rSetL)) Γ (.nx Γ') := by
  obtain ⟨j, q1, q2⟩ := setM_ix hz
  rw [q2, ← set_map] at pw
  exact s_setLF hp h hk (by rw [List.length_map]; exact q1) pw hc
theorem s_augLFM {f : Int → Int → Int} {c b : Int} {xs zs : List Int} (hp : EvF tp Γ i (oL (xs.map pI)) put) (hk : EvE ti Γ (pI k)) (ha : atI xs k = some c) (h : EvE te Γ (pI b)) (hz : setM xs k (f c b) = some zs) (pw : put (oL (zs.map pI)) W') (hc : Γ.set i (.own W') = Γ') :
    StS (tAugS tp ti te (rIxL K) (ipI f) rSetL) Γ (.nx Γ') := by
  obtain ⟨j, q1, q2⟩ := setM_ix hz
  obtain ⟨j', p1, p2⟩ := atI_ix ha
  rw [q1] at p1
  cases p1
  rw [q2, ← set_map] at pw
  exact s_augLF hp hk (by rw [List.length_map]; exact q1) (by rw [List.getElem?_map, p2]; rfl) h pw hc
theorem w_asO {x : α} (h : EvW te Γ (o a)) (e : x = a) : EvW te Γ (o x) := e ▸ h
theorem w_asLs {xs : List α} (h : EvW te Γ (oLs (zs.map o))) (e : xs = zs) : EvW te Γ (oLs (xs.map o)) := e ▸ h
theorem w_nilO (h : EvW te Γ (oL [])) : EvW te Γ (oLs []) := fun F σ G H e Q q => h F σ G H e Q fun v L G' H' g hL ⟨a, ob, h1, h2, h3, vs, h4, h5, h6⟩ => by
  subst h4 h2
  cases vs with
  | nil => exact q v [a] G' H' g hL ⟨a, [], [], h1, h3, trivial, h6, (fun z => nomatch z), rfl⟩
  | cons _ _ => exact h5.elim
theorem t_BU {b : Bool} (h : EvU te Γ Γ1 (pB b)) : EvTU (tB te) Γ Γ1 b := fun F σ G H e Q q => h F σ G H e _ fun v G' H' e' p => ⟨b, p, q G' H' e'⟩
theorem s_ifKU {b : Bool} (h : EvTU t Γ Γ1 b) (h1 : b = true → StS (tSeq us rest) Γ1 out) (h2 : b = false → StS (tSeq ws rest) Γ1 out) : StS (tSeq (tIfS t us ws) rest) Γ out := fun F σ G H D e g =>
  h F σ G H e _ fun G' H' e' => by
    cases b with
    | true => exact h1 rfl F σ G' H' D e' g
    | false => exact h2 rfl F σ G' H' D e' g
theorem s_asgTU {Γ2 : Ctx} {g : TG} {js : List Nat} (h : EvU te Γ Γ1 P) (hg : EvG g js Γ1 P Γ2) : StS (tAsg te g) Γ (.nx Γ2) := fun F σ G H D e gl =>
  h F σ G H e _ fun v G1 H1 ⟨Ls, e1⟩ p => hg F σ G1 H1 Ls v e1 p _ fun σ' e' _ => gl σ' G1 H1 ⟨Ls, e'⟩
/-- a value that is there -/
theorem e_some {op : Option α} {x : α} (h : op = some x) (p : EvE te Γ (pOpt r op)) : EvE te Γ (r x) := by
  subst h
  exact p
/-! ### a new region, while another is read -/
def PureW (W : Ow) : Prop := ∀ (G G' H : Hp) (v : V) (L : List Addr), W.p G H v L → W.p G' H v L
theorem sat_pure {Ps : List Pr} (h : ∀ P ∈ Ps, Pure P) {G G' : Hp} : ∀ {vs : List V}, Sat G vs Ps → Sat G' vs Ps := by
  induction Ps with
  | nil => intro vs s; cases vs with
    | nil => trivial
    | cons _ _ => exact s.elim
  | cons P Ps ih => intro vs s; cases vs with
    | nil => exact s.elim
    | cons v vs => exact ⟨h P List.mem_cons_self _ _ v s.1, ih (fun P hP => h P (List.mem_cons_of_mem _ hP)) s.2⟩
theorem pureW_L (h : ∀ a, Pure (r a)) : PureW (oL (xs.map r)) := fun G G' H v L ⟨a, ob, h1, h2, h3, vs, h4, h5, h6⟩ =>
  ⟨a, ob, h1, h2, h3, vs, h4, sat_pure (fun P hP => by obtain ⟨y, _, e⟩ := List.mem_map.mp hP; exact e ▸ h y) h5, h6⟩
theorem w_lend (hi : Γ[i]? = some (.own U)) (f : Frz U P) (p : PureW W) (h : EvW te (Γ.set i (.val P)) W) : EvW te Γ W := fun F σ G H e R q => by
  obtain ⟨G', g', e'⟩ := e.frz f hi
  exact h F σ G' H e' R fun v L G2 H2 g2 hL hw => q v L G H2 ⟨Gw.refl G, g2.h, e.s.trans g2.h, fun _ _ h => h⟩ (fun a ha => ⟨(hL a ha).1, e.s.free (hL a ha).1, (hL a ha).2.2⟩) (p _ _ _ _ _ hw)
end
/-! ### equal objects in lists -/
def eqSame {α : Type} [DecidableEq α] (a b : α) : Option Bool := if a = b then some true else none
theorem eqSame_some {α : Type} [DecidableEq α] {a b : α} {c : Bool} (h : eqSame a b = some c) : a = b ∧ c = true := by
  unfold eqSame at h
  by_cases z : a = b
  · rw [if_pos z] at h
    exact ⟨z, (Option.some.inj h).symm⟩
  · rw [if_neg z] at h
    cases h
def Rse {α : Type} (r : α → Pr) (R : List Pr → Pr → Prop) (a b : Addr) (H : Hp) : Prop := ∃ G c, Gw G H ∧ (r c).p G (.ref a) ∧ (r c).p G (.ref b) ∧ R [r c, r c] (pB true)
theorem rse_mon {α : Type} {r : α → Pr} {R : List Pr → Pr → Prop} : ∀ a b (H H' : Hp), Ext H H' → Rse r R a b H → Rse r R a b H' := fun a b H H' e ⟨G, c, g, h⟩ => ⟨G, c, g.trans e, h⟩
section
variable {X : Cx} {n : Nat} {f C : Addr} {fd : FuncData} {ps : List Str} {R : List Pr → Pr → Prop} {α : Type} {r : α → Pr}
theorem fn_spEq (F : FnOk X.prog X.w X.K X.mg X.base CX0 n f fd ps (spR R)) : FnOk X.prog X.w X.K X.mg X.base CX0 n f fd ps (spEq (Rse r R)) :=
  F.imp fun vs H Q E ⟨a, b, h1, ⟨G, c, g, h2, h3, h4⟩, h5⟩ => ⟨[r c, r c], pB true, G, h4, g, by rw [h1]; exact ⟨h2, h3, trivial⟩, fun v G' H' gr p => by
    cases (show v = V.bl true from p)
    exact h5 H' gr.h⟩
theorem op_eqLs (F : FnOk X.prog X.w X.K X.mg X.base CX0 n f fd ps (spR R)) (hs : PySem.W.findIn X.K (.ref C) "__eq__" = some (some (.ref f))) (hf : PySem.W.isFn X.K (.ref f) = true) (hb : Binds X.K fd ps []) (hr : Room (n + 1) X.A) :
    OpR X (compareOp .Eq) (rEqG (DList (DIns C (Rse r R)))) := op_eqG (rcG_list (mon_ins rse_mon) (eqG_ins (E := E0) (fn_spEq F) hs hf hb pass0)) hr
def rEqO (D : Eqv) : R2 := fun x y H Q => (x = .non ∧ y = .non ∧ Q (.bl true) H) ∨ rEqG D x y H Q
theorem op_eqO (F : FnOk X.prog X.w X.K X.mg X.base CX0 n f fd ps (spR R)) (hs : PySem.W.findIn X.K (.ref C) "__eq__" = some (some (.ref f))) (hf : PySem.W.isFn X.K (.ref f) = true) (hb : Binds X.K fd ps []) (hr : Room n X.A) :
    OpR X (compareOp .Eq) (rEqO (DIns C (Rse r R))) := fun pins s σ H x y v u Q I rx ry h => by
  rcases h with ⟨h1, h2, h3⟩ | h
  · subst h1 h2
    exact op_eq pins s σ H .non .non v u Q I rx ry ⟨rfl, h3⟩
  · exact op_eqG (rcG_ins (E := E0) (fn_spEq F) hs hf hb pass0) hr pins s σ H x y v u Q I rx ry h
end
section
variable {K : PySem.W.Frag} {Γ : Ctx} {ta tb : TE} {C : Addr} {ns : List Str} {R : List Pr → Pr → Prop} {α : Type} {f : α → List Pr}
theorem ins_two {G H : Hp} {a b : V} {c : α} (g : Gw G H) (h1 : (pO C ns (f c)).p G a) (h2 : (pO C ns (f c)).p G b) (hR : R [pO C ns (f c), pO C ns (f c)] (pB true)) : DIns C (Rse (fun c => pO C ns (f c)) R) a b H := by
  obtain ⟨p, o, e1, e2, dx, vs, e3, _⟩ := id h1
  obtain ⟨q, o', e4, e5, dy, us, e6, _⟩ := id h2
  subst e1 e3 e4 e6
  exact ⟨p, q, dx, dy, _, _, rfl, rfl, g _ _ e2, g _ _ e5, G, c, g, h1, h2, hR⟩
theorem e_eqLs {xs ys : List α} {b : Bool} (hR : ∀ c, R [pO C ns (f c), pO C ns (f c)] (pB true)) (h : xs = ys ∧ b = true) (ha : EvE ta Γ (pL (xs.map fun c => pO C ns (f c)))) (hb : EvE tb Γ (pL (ys.map fun c => pO C ns (f c)))) : EvE (tOp (rEqG (DList (DIns C (Rse (fun c => pO C ns (f c)) R)))) ta tb) Γ (pB b) := fun F σ G H e Q q =>
  ha F σ G H e _ fun x G1 H1 g1 p1 => hb F σ G1 H1 (e.grow g1) _ fun y G2 H2 g2 p2 => by
    obtain ⟨h, rfl⟩ := h
    subst h
    obtain ⟨p, o, e1, e2, vs, e3, e4, _⟩ := (pL _).m g2.g p1
    obtain ⟨q', o', e5, e6, us, e7, e8, _⟩ := p2
    subst e1 e3 e5 e7
    refine ⟨⟨p, q', vs, us, rfl, rfl, g2.s _ _ e2, g2.s _ _ e6, e4.len.trans e8.len.symm, fun i a b ha hb => ?_⟩, fun H' ex => q _ G2 H' ((g1.trans g2).trans ⟨Gw.refl _, ex, g2.s.trans ex, fun _ _ h => h⟩) rfl⟩
    obtain ⟨P1, q1, q2⟩ := e4.getv ha
    obtain ⟨P2, q3, q4⟩ := e8.getv hb
    rw [q1] at q3
    cases q3
    rw [List.getElem?_map] at q1
    cases z : xs[i]? with
    | none =>
      rw [z] at q1
      cases q1
    | some c =>
      rw [z] at q1
      cases q1
      exact ins_two g2.s q2 q4 (hR c)
theorem e_eqO {o o' : Option α} {b : Bool} (hR : ∀ c, R [pO C ns (f c), pO C ns (f c)] (pB true)) (h : o = o' ∧ b = true) (ha : EvE ta Γ (pOpt (fun c => pO C ns (f c)) o)) (hb : EvE tb Γ (pOpt (fun c => pO C ns (f c)) o')) : EvE (tOp (rEqO (DIns C (Rse (fun c => pO C ns (f c)) R))) ta tb) Γ (pB b) := fun F σ G H e Q q =>
  ha F σ G H e _ fun x G1 H1 g1 p1 => hb F σ G1 H1 (e.grow g1) _ fun y G2 H2 g2 p2 => by
    obtain ⟨h, rfl⟩ := h
    subst h
    have p1 := (pOpt (fun c => pO C ns (f c)) o).m g2.g p1
    cases o with
    | none => exact .inl ⟨p1, p2, q _ G2 H2 (g1.trans g2) rfl⟩
    | some c => exact .inr ⟨ins_two g2.s p1 p2 (hR c), fun H' ex => q _ G2 H' ((g1.trans g2).trans ⟨Gw.refl _, ex, g2.s.trans ex, fun _ _ h => h⟩) rfl⟩
end
end Y

set_option Elab.async false
set_option linter.all false
set_option maxRecDepth 100000
namespace Y
open PySem L2
section
variable {α β γ δ ε : Type}
/-- a list of unlike things -/
def oH2 (r : α → Pr) (s : β → Pr) (p : α × β) : Ow := oL [r p.1, s p.2]
def oH3 (r : α → Pr) (s : β → Pr) (q : γ → Pr) (p : α × β × γ) : Ow := oL [r p.1, s p.2.1, q p.2.2]
def oH4 (r : α → Pr) (s : β → Pr) (q : γ → Pr) (t : δ → Pr) (p : α × β × γ × δ) : Ow := oL [r p.1, s p.2.1, q p.2.2.1, t p.2.2.2]
def oH5 (r : α → Pr) (s : β → Pr) (q : γ → Pr) (t : δ → Pr) (u : ε → Pr) (p : α × β × γ × δ × ε) : Ow := oL [r p.1, s p.2.1, q p.2.2.1, t p.2.2.2.1, u p.2.2.2.2]
def rH2 (r : α → Pr) (s : β → Pr) (p : α × β) : Pr := pL [r p.1, s p.2]
def rH3 (r : α → Pr) (s : β → Pr) (q : γ → Pr) (p : α × β × γ) : Pr := pL [r p.1, s p.2.1, q p.2.2]
def rH4 (r : α → Pr) (s : β → Pr) (q : γ → Pr) (t : δ → Pr) (p : α × β × γ × δ) : Pr := pL [r p.1, s p.2.1, q p.2.2.1, t p.2.2.2]
def rH5 (r : α → Pr) (s : β → Pr) (q : γ → Pr) (t : δ → Pr) (u : ε → Pr) (p : α × β × γ × δ × ε) : Pr := pL [r p.1, s p.2.1, q p.2.2.1, t p.2.2.2.1, u p.2.2.2.2]
theorem ixT {n j : Nat} (h : j + 1 ≤ n) : ixN n (j : Int) = some j := by
  unfold ixN
  rw [if_pos (by omega), if_pos (by omega)]
  rfl
theorem u_as {te : TE} {Γ Γ1 : Ctx} {r : α → Pr} {a x : α} (h : EvU te Γ Γ1 (r a)) (e : x = a) : EvU te Γ Γ1 (r x) := e ▸ h
end
/-! ### the same rules, K said apart (within a comprehension X is another one) -/
section
variable {X : Cx} {K : PySem.W.Frag}
theorem pe_fldK {o : Expr} {ta : TE} {f : Str} {pos : Pos} (hK : X.K = K) (he : PE X o ta) (hb : attributeBase o f X.env (eval o X.env) = eval o X.env) : PE X (.Attribute o f pos) (tFld K ta f) := hK ▸ pe_fld he hb
theorem ix_listK (hK : X.K = K) : IxR X (rIxL K) := hK ▸ ix_list
theorem ix_tupK (hK : X.K = K) : IxR X (rIxT K) := hK ▸ ix_tup
theorem len_seqK (hK : X.K = K) : CallR X (.builtin "len") (rLenS K) := hK ▸ call_len_seq
theorem list_ofK (hK : X.K = K) : CallR X (.type "list") (rListS K) := hK ▸ call_list_of
theorem in_seqK (hK : X.K = K) : OpR X (compareOp .In) (rIn K false) := hK ▸ op_in_seq
theorem notIn_seqK (hK : X.K = K) : OpR X (compareOp .NotIn) (rIn K true) := hK ▸ op_notIn_seq
theorem eqDK (hK : X.K = K) (hu : X.A.units + 64 < cLine) : OpR X (compareOp .Eq) (rEqD K) := hK ▸ op_eqD hu
theorem neDK (hK : X.K = K) (hu : X.A.units + 64 < cLine) : OpR X (compareOp .NotEq) (rNeD K) := hK ▸ op_neD hu
theorem sl_listK (hK : X.K = K) : SlR X (rSlL K) := hK ▸ sl_list
theorem pi_listK {l tg : Expr} {tl : TE} (hK : X.K = K) (hl : PE X l tl) : PI X tg l (iList K tl) := hK ▸ pi_list hl
theorem pg_tupK {es : List Expr} {pos : Pos} {k n : Nat} {t : TGs} (hK : X.K = K) (hc : X.calm = true) (h : PGs X es t) (hn : (assignEach es X.env).length = n := by rfl) (hst : (assignEach es X.env).findIdx? (·.1) = none := by rfl) : PG X (.Tuple es k pos) (gTup K n t) := hK ▸ pg_tup hc h hn hst
theorem isiK (hK : X.K = K) : CallR X (.builtin "isinstance") (rIsi K) := hK ▸ call_isi
/-- a name gets a dict made by a comprehension, both on one line -/
theorem ps_setDc {i : Nat} {y : Str} {py pos spos : Pos} {kx vx tg iter : Expr} {ifs : List Expr} {scope : Scope} {own : List (Str × Nat)} {wi : TI} {g : TG} {tt : TT} {tk tv : TE} (hc : X.calm = true) (hN : X.N.Nodup) (hy : X.N[i]? = some y) (hyl : X.env.scope.names.lookup y = some .local)
    (hw1 : swapsWith (.DictComp kx vx [⟨tg, iter, ifs, 0⟩] scope pos) (some (.Name y py)) spos.line X.env = pure true)
    (hi : PI X tg iter wi) (ok : BlkOk X.N X.env.scope scope own)
    (hg : ∀ (s0 : Shared) (H0 : Hp) (C0 : Addr) (c0 : List (Str × Addr)) (f0 : List Addr), PG (X.blk s0 H0 scope (compEnvC scope c0 C0 X.env) f0) tg g)
    (ht : ∀ (s0 : Shared) (H0 : Hp) (C0 : Addr) (c0 : List (Str × Addr)) (f0 : List Addr), PTs (X.blk s0 H0 scope (compEnvC scope c0 C0 X.env) f0) ifs tt)
    (hk : ∀ (s0 : Shared) (H0 : Hp) (C0 : Addr) (c0 : List (Str × Addr)) (f0 : List Addr), PE (X.blk s0 H0 scope (compEnvC scope c0 C0 X.env) f0) kx tk)
    (hv : ∀ (s0 : Shared) (H0 : Hp) (C0 : Addr) (c0 : List (Str × Addr)) (f0 : List Addr), PE (X.blk s0 H0 scope (compEnvC scope c0 C0 X.env) f0) vx tv)
    (hs : ∀ x, foldedSetIterable iter X.env x = pure x := by intro _; rfl) :
    PS X (.Assign [.Name y py] (.DictComp kx vx [⟨tg, iter, ifs, 0⟩] scope pos) spos) (tAsg (tDc wi g tt tk tv (own.map (·.2))) (gName i)) := ⟨fun pins s σ H D I h => by
  rw [exec_Assign_Name_used _ _ _ _ hw1]
  refine wpAny_bind (wpAny_standAt <| wpAny_bind ?_)
  show wpAny _ X.A (do let _ ← comprehension (.DictComp kx vx [⟨tg, iter, ifs, 0⟩] scope pos) scope X.env (firstIterPos [⟨tg, iter, ifs, 0⟩] pos) newDict false (eval iter X.env) (some (assign (.Name y py) X.env))) _ _ s
  have h : tDc wi g tt tk tv (own.map (·.2)) σ H (fun u Hu => gName i u σ Hu D.nx) := h
  refine wpAny_bind (thn (dc_core (Qf := fun _ s' => SP X pins D .next s') hc hN I hi ok hg ht hk hv hs h fun L C s' m H' I' q hn f => ?_) fun _ s' hq => wpAny_pure (wpAny_pure hq))
  have ⟨f0, f1, f2, f3, f4, f5⟩ := f
  refine wpAny_assign_Name (store_ok2 (v := V.ref L) I' hN hy (.inl hyl) rfl (fun s2 I2 ⟨a, sb, ha⟩ => ?_) (.inr hyl))
  have haC : C ≠ a := ha.elim (fun z => by rw [z]; exact f1) fun z e => f4 y a z e.symm
  exact ⟨m, hn.sameBut sb haC, fun h3 sb3 => ⟨_, H', I2.turned (t' := s2.toks) (fun b o hb e => (sb3.2 b hb).trans e) f0 f1 f3 f4 f5, q⟩⟩⟩
theorem sw_dc {kx vx : Expr} {gs : List Comprehension} {scope : Scope} {pos py : Pos} {y : Str} {l : Nat} {env : Env} (hk : env.scope.kind = .function) (hy : env.scope.names.lookup y = some .local) (hl : (py.line == pos.line) = true)
    (hn : (scope.names.any fun (n, k) => n == y && (k == .local || k == .cell)) = false) : swapsWith (.DictComp kx vx gs scope pos) (some (.Name y py)) l env = pure true := by
  have q1 : env.kindOf y = some .local := hy
  have q2 : env.blockKind = .function := by unfold Env.blockKind; rw [hk]; rfl
  unfold swapsWith
  simp only [q2, q1, hn, Expr.pos, hl]
  rfl
end
end Y

set_option Elab.async false
set_option linter.all false
set_option maxRecDepth 100000
namespace Y
open PySem L2
/-! ### divmod -/
abbrev rDivmod : List V → Hp → VK → Prop := fun xs H Q => ∃ i j, xs = [.int i, .int j] ∧ CDiv i j ∧ ∀ p, H p = none → Q (.ref p) (upd H p (.tup [.int (i / j), .int (i % j)]))
def dmM (i j : Int) : Option (Int × Int) := if 0 < j ∧ j < 1073741824 then some (i / j, i % j) else none
theorem rc_divmodM {x : Int × Int} (h : dmM i j = some x) : RC rDivmod [pI i, pI j] (r2 pI pI x) := fun G H vs Q s st q => by
  obtain ⟨v, w, rfl, h1, h2⟩ := sat2 st
  cases h1
  cases h2
  unfold dmM at h
  split at h
  · rename_i hc
    cases h
    exact ⟨i, j, rfl, hc, fun p hp => q _ _ _ (Gr.new s hp) ⟨p, _, rfl, upd_same, rfl, rfl, trivial⟩⟩
  · cases h
end Y

set_option Elab.async false
set_option linter.all false
set_option maxRecDepth 100000
namespace Y
section
open PySem PySem.Spec PyProof.Rows L2
/-! ### tuples of any length -/
theorem tup_mul1 (l : Addr) (items : Array Value) (n : Nat) (dd : Option Addr) (sl : Array (Option Value)) (u : Tok) :
    Meets (Builtin.«tuple.__mul__» ⟨[.ref l, .int 1 u], []⟩) (fun _ R s => s.heap.get? l = some { cls := .type "tuple", dict := dd, data := .seq items n, slots := sl } ∧ R (.ok (.ret (Value.ref l))) { s with heap := s.heap, toks := s.toks }) :=
  .of_wp fun prog w A R s h => by
    obtain ⟨hp, g, d, tk, os⟩ := s
    obtain ⟨hl, h⟩ := h
    have f1 := AutoSeq1.idx_int
    have c1 : (items.isEmpty || (1 : Int) == 1) = true := by simp
    wp_walk using wpAny_loadPart' hl
    repeat (first
      | (refine wpAny_ite_false (decide_eq_false (by decide)) ?_; wp_walk using wpAny_loadPart' hl)
      | (refine wpAny_ite_true (decide_eq_true (by simp)) ?_; wp_walk using wpAny_loadPart' hl))
    exact ⟨_, rfl, h⟩
theorem tup_mul0 (l : Addr) (items : Array Value) (n : Nat) (dd : Option Addr) (sl : Array (Option Value)) (u : Tok) (hi : items.isEmpty = false) :
    Meets (Builtin.«tuple.__mul__» ⟨[.ref l, .int 0 u], []⟩) (fun _ R s => s.heap.get? l = some { cls := .type "tuple", dict := dd, data := .seq items n, slots := sl } ∧
      R (.ok (.ret (Value.ref s.heap.objs.size))) { s with heap := s.heap.push { cls := Value.type "tuple", data := Data.seq #[] }, toks := s.toks }) :=
  .of_wp fun prog w A R s h => by
    obtain ⟨hp, g, d, tk, os⟩ := s
    obtain ⟨hl, h⟩ := h
    have f1 := AutoSeq1.idx_int
    have c1 : (items.isEmpty || (0 : Int) == 1) = false := by rw [hi]; rfl
    wp_walk using wpAny_loadPart' hl
    repeat (first
      | (refine wpAny_ite_false (decide_eq_false (by decide)) ?_; wp_walk using wpAny_loadPart' hl)
      | (refine wpAny_ite_false (decide_eq_false (by rw [c1]; exact Bool.false_ne_true)) ?_; wp_walk using wpAny_loadPart' hl)
      | (refine wpAny_ite_true (decide_eq_true (by simp)) ?_; wp_walk using wpAny_loadPart' hl))
    exact ⟨_, rfl, h⟩
def rRepA (K : PySem.W.Frag) : R2 := fun x y H Q => ∃ l k xs, x = .ref l ∧ y = .int k ∧ SqT K H l xs ∧ xs ≠ [] ∧ 0 ≤ k ∧ k ≤ 1000 ∧ xs.length ≤ 1000 ∧ (k = 1 → Q (.ref l) H) ∧ (k ≠ 1 → ∀ p, H p = none → Q (.ref p) (upd H p (.tup (List.replicate k.toNat xs).flatten)))
variable {X : Cx}
theorem op_repA : OpR X (binaryOp .Mult) (rRepA X.K) := by
  intro pins s σ H x y v u Q I rx ry h
  obtain ⟨l, k, xs, hx, hy, hT, hne, h1, h2, hz, q1, q2⟩ := h
  by_cases hk : 2 ≤ k
  · exact op_repT pins s σ H x y v u Q I rx ry ⟨l, k, xs, hx, hy, hT, hne, hk, h2, hz, q2 (by omega)⟩
  · subst hx hy
    cases rx
    obtain ⟨t, rfl⟩ := ry
    obtain ⟨its, r, ⟨⟨cls, dd, data, sl⟩, ho, hc, n, hd⟩, hs⟩ := I.tuple hT
    simp only at hc hd
    subst hc hd
    have hle : its.length = xs.length := r.length.symm
    have hn : its ≠ [] := fun e => hne (by
      rw [e] at hle
      exact List.eq_nil_of_length_eq_zero hle.symm)
    have hi : its.toArray.isEmpty = false := by
      cases its with
      | nil => exact absurd rfl hn
      | cons a b => rfl
    have : k = 0 ∨ k = 1 := by omega
    rcases this with hk | hk <;> subst hk
    · refine wpAny_binaryOp_repeat_ref (T := "tuple") (U := "int") (by decide) ⟨_, ho, rfl⟩ (fun s' => typeIs_int s' 0 t) noFill_tuple_mul F.fills_int_mul F.slot_int_rmul repeat_tuple F.slot_int_index.lookup
        (call_meets F.slot_int_rmul (typeIs_int s 0 t) F.entry_int_rmul (F.args_int_rmul_2 _ _) (int_rmul_tuple 0 t l its.toArray n dd sl)
          ⟨ho, rfl, ⟨_, ho, rfl⟩, call_meets F.slot_tuple_mul ⟨_, ho, rfl⟩ F.entry_tuple_mul (F.args_tuple_mul_2 _ _) (tup_mul0 l its.toArray n dd sl t hi) ⟨ho, ?_⟩⟩)
      exact ⟨.ref s.heap.objs.size, _, I.laid (t' := s.toks) (o := .tup []) (fun b ob q => Heap.get?_push_of_some _ q) (Nat.le_refl _) ⟨by decide, [], .nil, IsTup.new _ _⟩, rfl, q2 (by omega) _ (I.hok.fresh (Nat.le_refl _))⟩
    · refine wpAny_binaryOp_repeat_ref (T := "tuple") (U := "int") (by decide) ⟨_, ho, rfl⟩ (fun s' => typeIs_int s' 1 t) noFill_tuple_mul F.fills_int_mul F.slot_int_rmul repeat_tuple F.slot_int_index.lookup
        (call_meets F.slot_int_rmul (typeIs_int s 1 t) F.entry_int_rmul (F.args_int_rmul_2 _ _) (int_rmul_tuple 1 t l its.toArray n dd sl)
          ⟨ho, rfl, ⟨_, ho, rfl⟩, call_meets F.slot_tuple_mul ⟨_, ho, rfl⟩ F.entry_tuple_mul (F.args_tuple_mul_2 _ _) (tup_mul1 l its.toArray n dd sl t) ⟨ho, ?_⟩⟩)
      exact ⟨.ref l, H, I, rfl, q1 rfl⟩
end
open PySem L2
section
variable {α β γ δ ε : Type} {K : PySem.W.Frag} {Γ : Ctx} {te ta tb : TE} {P : Pr} {r : α → Pr} {xs : List α} {k : Int} {X : Cx}
abbrev rV (r : α → Pr) : List α → Pr := fun xs => pT (xs.map r)
abbrev r4 (r : α → Pr) (s : β → Pr) (q : γ → Pr) (t : δ → Pr) : α × β × γ × δ → Pr := fun p => pT [r p.1, s p.2.1, q p.2.2.1, t p.2.2.2]
abbrev r5 (r : α → Pr) (s : β → Pr) (q : γ → Pr) (t : δ → Pr) (u : ε → Pr) : α × β × γ × δ × ε → Pr := fun p => pT [r p.1, s p.2.1, q p.2.2.1, t p.2.2.2.1, u p.2.2.2.2]
theorem op_repAK (hK : X.K = K) : OpR X (binaryOp .Mult) (rRepA K) := hK ▸ op_repA
/-- (e,) * n -/
def repVM {α : Type} (x : α) (k : Int) : Option (List α) := if 0 ≤ k ∧ k ≤ 1000 then some (List.replicate k.toNat x) else none
theorem e_repV {x : α} {ys : List α} (ha : EvE ta Γ (pT [r x])) (hb : EvE tb Γ (pI k)) (h : repVM x k = some ys) : EvE (tOp (rRepA K) ta tb) Γ (rV r ys) := fun F σ G H e Q q => by
  obtain ⟨⟨k1, k2⟩, rfl⟩ := if_some h
  refine ha F σ G H e _ fun a G1 H1 g1 p1 => hb F σ G1 H1 (e.grow g1) _ fun y G2 H2 g2 p2 => ?_
  obtain ⟨l, vs, h1, h2, h3⟩ := p1
  subst h1
  obtain ⟨v, rfl, hv⟩ : ∃ v, vs = [v] ∧ (r x).p G1 v := by
    match vs, h3 with
    | [v], h3 => exact ⟨v, rfl, h3.1⟩
    | _ :: _ :: _, h3 => exact h3.2.elim
  have e2 : ∀ n : Nat, (List.replicate n [v]).flatten = List.replicate n v := fun n => by
    induction n with
    | zero => rfl
    | succ n ih => rw [List.replicate_succ, List.flatten_cons, ih]; rfl
  have s2 : ∀ n : Nat, Sat G2 (List.replicate n v) ((List.replicate n x).map r) := fun n => by
    induction n with
    | zero => trivial
    | succ n ih => exact ⟨(r x).m g2.g hv, ih⟩
  refine ⟨l, k, [v], rfl, p2, SqT.of (g2.h _ _ (g1.s _ _ h2)), by simp, k1, k2, (show 1 ≤ 1000 by decide), fun z => ?_, fun z p hp => ?_⟩
  · subst z
    exact q _ G2 H2 (g1.trans g2) ⟨l, [v], rfl, g2.g _ _ h2, s2 1⟩
  · rw [e2]
    exact q _ _ _ ((g1.trans g2).trans (Gr.new g2.s hp)) ⟨p, _, rfl, upd_same, (s2 _).m (Gr.new (o := .tup (List.replicate k.toNat v)) g2.s hp).g⟩
abbrev rTupS (K : PySem.W.Frag) : List V → Hp → VK → Prop := fun xs H Q => ∃ p ys, xs = [.ref p] ∧ ((SqL K H p ys ∧ ∀ l, H l = none → Q (.ref l) (upd H l (.tup ys))) ∨ (SqT K H p ys ∧ Q (.ref p) H))
theorem tuple_ofK (hK : X.K = K) : CallR X (.type "tuple") (rTupS K) := hK ▸ call_tuple_of
/-- tuple(xs), xs a list -/
theorem e_tupL (hl : EvR K ta Γ (xs.map r)) : EvE (tCB (rTupS K) (tCons ta tNil)) Γ (rV r xs) := fun F σ G H e Q q =>
  hl F σ G H e _ fun a vs G1 H1 g1 s1 s2 s3 => ⟨a, vs, rfl, .inl ⟨s1, fun l hl => q _ _ _ (g1.trans (Gr.new g1.s hl)) ⟨l, vs, rfl, upd_same, s2.m (Gr.new (o := .tup vs) g1.s hl).g⟩⟩⟩
/-- list(t), t a tuple -/
theorem w_listV {ys : List α} (hl : EvE ta Γ (rV r xs)) (h : szM xs = some ys) : EvW (tCB (rListS K) (tCons ta tNil)) Γ (oL (ys.map r)) := fun F σ G H e Q q => by
  obtain ⟨hz, rfl⟩ := if_some h
  refine hl F σ G H e _ fun x G1 H1 g1 p1 => ?_
  obtain ⟨a, vs, rfl, h1, h2⟩ := p1
  refine ⟨a, vs, rfl, .inr (SqT.of (g1.s _ _ h1)), fun l hl => ?_⟩
  obtain ⟨g2, k1, k2⟩ := lay_back g1 hl h2 (by rw [h2.len, List.length_map]; exact hz)
  exact q _ _ _ _ g2 k1 k2
theorem e_ixVM {a : α} (hl : EvE ta Γ (rV r xs)) (hi : EvE tb Γ (pI k)) (h : atI xs k = some a) : EvE (tOp (rIxT K) ta tb) Γ (r a) := e_ixT hl hi (atI_map h)
theorem e_lenV (hl : EvE ta Γ (rV r xs)) : EvE (tCB (rLenS K) (tCons ta tNil)) Γ (pI (xs.length : Int)) := e_to (e_lenT hl) (by rw [List.length_map])
theorem nn_V : NN (rV r) := nn_T
theorem g_tup4 {P1 P2 P3 P4 : Pr} {i j k l : Nat} (hi : i < Γ.length) (hj : j < Γ.length) (hk : k < Γ.length) (hl : l < Γ.length) : EvG (gTup K 4 (gCons (gName i) (gCons (gName j) (gCons (gName k) (gCons (gName l) gNil))))) [i, j, k, l] Γ (pT [P1, P2, P3, P4]) ((((Γ.set i (.val P1)).set j (.val P2)).set k (.val P3)).set l (.val P4)) := fun F σ G H Ls v e ⟨a, vs, h1, h2, h3⟩ Q q => by
  match vs, h3 with
  | [x, y, z, w], h3 =>
    refine ⟨a, [x, y, z, w], h1, SqT.of (e.gr.s _ _ h2), rfl, x, [y, z, w], rfl, y, [z, w], rfl, z, [w], rfl, w, [], rfl, rfl, ?_⟩
    refine q _ ((((e.set h3.1 hi).set h3.2.1 (by simp only [List.length_set]; exact hj)).set h3.2.2.1 (by simp only [List.length_set]; exact hk)).set h3.2.2.2.1 (by simp only [List.length_set]; exact hl)) fun ws h => ?_
    rw [wipe_set _ (h l (by simp)), wipe_set _ (h k (by simp)), wipe_set _ (h j (by simp)), wipe_set _ (h i (by simp))]
  | [], h3 => exact h3.elim
  | [_], h3 => exact h3.2.elim
  | [_, _], h3 => exact h3.2.2.elim
  | [_, _, _], h3 => exact h3.2.2.2.elim
  | _ :: _ :: _ :: _ :: _ :: _, h3 => exact h3.2.2.2.2.elim
theorem g_tup5 {P1 P2 P3 P4 P5 : Pr} {i j k l m : Nat} (hi : i < Γ.length) (hj : j < Γ.length) (hk : k < Γ.length) (hl : l < Γ.length) (hm : m < Γ.length) : EvG (gTup K 5 (gCons (gName i) (gCons (gName j) (gCons (gName k) (gCons (gName l) (gCons (gName m) gNil)))))) [i, j, k, l, m] Γ (pT [P1, P2, P3, P4, P5]) (((((Γ.set i (.val P1)).set j (.val P2)).set k (.val P3)).set l (.val P4)).set m (.val P5)) := fun F σ G H Ls v e ⟨a, vs, h1, h2, h3⟩ Q q => by
  match vs, h3 with
  | [x, y, z, w, u], h3 =>
    refine ⟨a, [x, y, z, w, u], h1, SqT.of (e.gr.s _ _ h2), rfl, x, [y, z, w, u], rfl, y, [z, w, u], rfl, z, [w, u], rfl, w, [u], rfl, u, [], rfl, rfl, ?_⟩
    refine q _ (((((e.set h3.1 hi).set h3.2.1 (by simp only [List.length_set]; exact hj)).set h3.2.2.1 (by simp only [List.length_set]; exact hk)).set h3.2.2.2.1 (by simp only [List.length_set]; exact hl)).set h3.2.2.2.2.1 (by simp only [List.length_set]; exact hm)) fun ws h => ?_
    rw [wipe_set _ (h m (by simp)), wipe_set _ (h l (by simp)), wipe_set _ (h k (by simp)), wipe_set _ (h j (by simp)), wipe_set _ (h i (by simp))]
  | [], h3 => exact h3.elim
  | [_], h3 => exact h3.2.elim
  | [_, _], h3 => exact h3.2.2.elim
  | [_, _, _], h3 => exact h3.2.2.2.elim
  | [_, _, _, _], h3 => exact h3.2.2.2.2.elim
  | _ :: _ :: _ :: _ :: _ :: _ :: _, h3 => exact h3.2.2.2.2.2.elim
end
end Y

set_option Elab.async false
set_option linter.all false
set_option maxRecDepth 100000
namespace Y
open PySem L2
section
variable {K : PySem.W.Frag} {Γ : Ctx} {ta tb : TE} {X : Cx}
/-! ### sorted, index: lists of ints -/
theorem sat_intsEq {H : Hp} : ∀ {vs : List V} {ns : List Int}, Sat H vs (ns.map pI) → vs = ns.map V.int
  | [], [], _ => rfl
  | v :: vs, n :: ns, h => by
    have h1 : v = .int n := h.1
    rw [h1, sat_intsEq h.2]
    rfl
  | [], _ :: _, h => h.elim
  | _ :: _, [], h => h.elim
def sortI (xs : List Int) : List Int := xs.mergeSort fun a b => decide (a ≤ b)
theorem sortI_perm (xs : List Int) : (sortI xs).Perm xs := List.mergeSort_perm xs _
theorem sortI_le (xs : List Int) : (sortI xs).Pairwise (· ≤ ·) := by
  have := List.pairwise_mergeSort (le := fun a b : Int => decide (a ≤ b)) (fun a b c h1 h2 => by simp at *; omega) (fun a b => by simp; omega) xs
  exact this.imp fun h => of_decide_eq_true h
theorem sortI_eq {xs ys : List Int} (h : ys.Perm xs) (hs : ys.Pairwise (· ≤ ·)) : sortI xs = ys :=
  ((sortI_perm xs).trans h.symm).eq_of_pairwise (fun a b _ _ h1 h2 => Int.le_antisymm h1 h2) (sortI_le xs) hs
theorem sorted_IK (hK : X.K = K) : CallR X (.builtin "sorted") (rSortedI K) := hK ▸ cr_sortedI
theorem w_sortI {xs : List Int} (hl : EvR K ta Γ (xs.map pI)) : EvW (tCB (rSortedI K) (tCons ta tNil)) Γ (oL ((sortI xs).map pI)) := fun F σ G H e Q q =>
  hl F σ G H e _ fun a vs G1 H1 g1 s1 s2 s3 => by
    have e1 := sat_intsEq s2
    subst e1
    rw [List.length_map] at s3
    refine ⟨a, xs, rfl, s1, fun ns' p hp hs hf => ?_⟩
    obtain ⟨g2, k1, k2⟩ := lay_back (vs := ns'.map V.int) (Ps := ns'.map pI) g1 hf (sat_ints ns') (by rw [List.length_map, hp.length_eq]; exact s3)
    have e2 := sortI_eq hp hs
    rw [e2] at q
    exact q _ _ _ _ g2 k1 k2
def idxM (xs : List Int) (x : Int) : Option Int := (xs.findIdx? fun y => decide (y = x)).map fun j : Nat => (j : Int)
theorem index_K (hK : X.K = K) : MtR X "list.index" (rIndex K) := hK ▸ mt_index
theorem pe_bmK {T : String} {r : V → List V → Hp → VK → Prop} {t : TA} {e : Expr} (hK : X.K = K) (h : PE X e (tBM X.K T r ta t)) : PE X e (tBM K T r ta t) := hK ▸ h
theorem e_index {xs : List Int} {x y : Int} (hl : EvR K ta Γ (xs.map pI)) (hi : EvE tb Γ (pI x)) (h : idxM xs x = some y) : EvE (tBM K "list" (rIndex K) ta (tCons tb tNil)) Γ (pI y) := fun F σ G H e Q q =>
  hl F σ G H e _ fun a vs G1 H1 g1 s1 s2 s3 => by
    have e1 := sat_intsEq s2
    subst e1
    refine ⟨.inl ⟨rfl, _, s1⟩, hi F σ G1 H1 (e.grow g1) _ fun v G2 H2 g2 p2 => ?_⟩
    have p2 : v = .int x := p2
    subst p2
    unfold idxM at h
    obtain ⟨j, hj, rfl⟩ := Option.map_eq_some_iff.mp h
    obtain ⟨hlt, h1, h2⟩ := List.findIdx?_eq_some_iff_getElem.mp hj
    have h1 : xs[j] = x := of_decide_eq_true h1
    have ex : xs[j]? = some x := by rw [List.getElem?_eq_getElem hlt, h1]
    refine ⟨a, xs.map V.int, .int x, j, .int x, rfl, rfl, Same.seq g2.h s1, rfl, ?_, ?_, ?_, ?_, q _ G2 H2 (g1.trans g2) rfl⟩
    · rw [List.all_map]; exact List.all_eq_true.mpr fun _ _ => rfl
    · rw [List.getElem?_map, ex]; rfl
    · show (x == x) = true; simp
    · intro m z' hm hz
      rw [List.getElem?_map] at hz
      obtain ⟨w, hw, rfl⟩ := Option.map_eq_some_iff.mp hz
      have hmx : m < xs.length := by omega
      rw [List.getElem?_eq_getElem hmx] at hw
      cases hw
      have := h2 m hm
      have : ¬ xs[m] = x := fun z => this (decide_eq_true z)
      show (xs[m] == x) = false
      simp [this]
end
end Y

set_option Elab.async false
set_option linter.all false
set_option maxRecDepth 100000
namespace Y
section
open PySem PySem.Spec PyProof.Rows L2
/-! ### exceptions as values -/
variable {X : Cx} {e o : Expr} {es : List Expr} {ta : TA} {to : TE} {p pos : Pos}
/-- C(e, ..), C an exception's class, its own __init__ keeping sp; the exception is a value -/
def tMkX (C : Addr) (sp : Sp) (dvs : List V) (ta : TA) : TE := fun σ H Q => ta σ H fun vs H1 =>
  vs.length ≤ 1000 ∧ ∀ a, H1 a = none → sp (.ref a :: (vs ++ dvs)) (upd H1 a (exo a C none)) (fun v H2 => v = .non ∧ Q (.ref a) H2) E0
/-- the heap behind the laying of the exception's tuple and of itself -/
def xHeap (w0 : Heap) (us : List Value) (C : Addr) : Heap := (w0.push (PySem.W.kdv_tup us)).push (PySem.HandSPX.excO C w0.objs.size)
/-- where it lies -/
abbrev xAt (w0 : Heap) : Addr := w0.objs.size + 1
theorem xHeap_at {w0 : Heap} {us : List Value} {C : Addr} : (xHeap w0 us C).get? (xAt w0) = some (PySem.HandSPX.excO C w0.objs.size) := by
  unfold xHeap xAt
  heap_get
theorem x_free {pins : List (Addr × Obj)} {σ : L2.St} {H1 : Hp} {s1 : Shared} (I1 : Inv X pins σ H1 s1) : H1 (xAt s1.heap) = none := I1.hok.fresh (Nat.le_succ _)
theorem x_laid {pins : List (Addr × Obj)} {σ : L2.St} {H1 : Hp} {s1 : Shared} (I1 : Inv X pins σ H1 s1) (us : List Value) (C : Addr) :
    Inv X pins σ (upd H1 (xAt s1.heap) (exo (xAt s1.heap) C none)) ⟨xHeap s1.heap us C, s1.gens, s1.drawn, s1.toks, s1.os⟩ := by
  obtain ⟨w0, gs, dn, tc, oo⟩ := s1
  exact I1.laid (fun b o e => Heap.get?_push_of_some _ (Heap.get?_push_of_some _ e)) (Nat.le_succ _) (exo_ok xHeap_at)
theorem pe_oex {CX : CXT} {x : Str} {C fI : Addr} {k : Nat} {fd : FuncData} {ps : List Str} {sp : Sp} {ds : List Value} {dvs : List V}
    (oc : OexC X.K C) (i1 : PySem.W.findIn X.K (.ref C) "__init__" = some (some (.ref fI))) (i2 : PySem.W.typeIn X.K (.ref fI) = some (.type "function"))
    (Fi : FnOk X.prog X.w X.K X.mg X.base CX k fI fd ps sp) (room : Room (k + 1) X.A) (bi : Binds X.K fd ps ds) (dv : Vals dvs ds) (pa : Passes CX X (fun _ _ _ => False))
    (gl : Gl X x) (gx : X.mg x = some (.ref C)) (args : PA X (e :: es) ta) (z1 : (x == ("__debug__" : Str)) = false := by decide)
    (z2 : starEach (e :: es) X.env = (false, eval e X.env) :: starEach es X.env := by rfl) (z3 : (backTo pos (starEach es X.env)).any (·.1) = false := by rfl) :
    PE X (.Call (.Name x p) (e :: es) [] pos) (tMkX C sp dvs ta) := by
  constructor
  intro pins s σ H Q I told
  obtain ⟨_, _, _, _, bm, _, _, _, _, _, _, _, _, _, _, hC, hbm⟩ := oc.cls
  refine wpAny_Call_Name_kw (ld_glob I gl gx ?_ z1)
  refine PySem.W.callWith_K (h₀ := X.base) I.ok.mod.kin oc.kC (thn (args.run pos pins s σ H _ I told) ?_) z2 z3
  intro us s1 ⟨vs, H1, I1, rv, few, made⟩
  refine ⟨I1.kIn, ?_⟩
  have made := made _ (x_free I1)
  have I2 := x_laid I1 us C
  obtain ⟨w0, gs, dn, tc, oo⟩ := s1
  have all : Vals (V.ref (xAt w0) :: (vs ++ dvs)) (Value.ref (xAt w0) :: (us ++ ds)) := .cons rfl (rv.append dv)
  have count : (Value.ref (xAt w0) :: us ++ ds).length = ps.length := all.length.symm.trans (Fi.len _ _ _ _ made)
  have fits : us.length ≤ sizeLine := Nat.le_trans (Nat.le_of_eq (Paired.length rv).symm) (Nat.le_trans few (by rw [sizeLine_eq]; decide))
  have body := Fi.run _ X.stack _ _ ⟨Value.ref (xAt w0) :: us, []⟩ (Value.ref (xAt w0) :: (us ++ ds)) _ _ (fun _ _ _ => False) (room.make C us []) (I2.env0.make C us [])
    (bi _ (Value.ref (xAt w0) :: us) I2.kIn count) all made
  show wpAny _ _ (call (.ref C) ([] ++ us)) _ _ _
  rw [List.nil_append]
  refine wpAny_call (PySem.HandSPX.call_own F.excBase_ValueError (fun Y => PySem.HandSPX.refsVE_contains Y bm hbm) (I1.kIn _ _ hC)
    (PySem.W.looks_findIn I1.kIn i1) (fun self => PySem.W.bind_fn I1.kIn self i2) fits (codeAny_mono body ?_))
  intro r s' end_
  match r, end_ with
  | .error er, end_ => exact pa pins σ _ _ er s' I2 end_
  | .ok (.ret u), end_ =>
    obtain ⟨v, H2, I3, ru, ev, fine⟩ := I2.after end_
    subst ev
    exact ⟨ru, .ref (xAt w0), H2, I3, rfl, fine⟩
  | .ok .next, end_ => exact end_.elim
  | .ok .brk, end_ => exact end_.elim
  | .ok .cont, end_ => exact end_.elim
/-- what the written part says of an exception's class -/
structure XCls (K : PySem.W.Frag) (f : Str) (C : Addr) : Prop where
  ox : OexC K C
  ga : PySem.W.findIn K (.ref C) "__getattribute__" = some (some (.builtin "BaseException.__getattribute__"))
  gg : PySem.W.findIn K (.ref C) "__getattr__" = some none
  no : PySem.W.findIn K (.ref C) f = some none
  hd : PySem.W.hasDictIn K C = true
  cl : (PySem.W.clsIn K C).isSome = true
  ha : PySem.W.findIn K (.ref C) "__class__" = some (some (.builtin "object.__class__"))
  hn : PySem.W.specialIn K (.builtin "object.__class__") "__get__" = some (some (.builtin "getset_descriptor.__get__"))
  tk : PySem.W.takesIn K (.builtin "object.__class__") = some true
  hm : PySem.W.mroIn K C (.type "object") = some true
def oexMro (C : Addr) (mro : List Value) : Bool := match mro with
  | .ref D :: bm => D == C && PySem.HandSPX.refsVE bm
  | _ => false
def oexSlots (l : List (Option Value)) : Bool := match l with
  | [_, _, _, _, some (.builtin n), _] => n == "ValueError.__new__"
  | _ => false
def oexIn (K : PySem.W.Frag) (C : Addr) : Bool := match K.lookup C with
  | some o => o.cls == .type "type" && (match o.data with
    | .cls cd => oexMro C cd.mro && (oexSlots o.slots.toList && (!cd.hasDel && cd.hasDict))
    | _ => false)
  | none => false
theorem oex_mro {C : Addr} : ∀ {l : List Value}, oexMro C l = true → ∃ bm, l = .ref C :: bm ∧ PySem.HandSPX.refsVE bm = true
  | .ref D :: bm, h => by
    obtain ⟨h1, h2⟩ := Bool.and_eq_true_iff.mp (show (D == C && _) = true from h)
    exact ⟨bm, by rw [eq_of_beq h1], h2⟩
theorem oex_slots {a : Array (Option Value)} (h : oexSlots a.toList = true) : ∃ k0 k1 k2 k3 k5, a = #[k0, k1, k2, k3, some (.builtin "ValueError.__new__"), k5] := by
  obtain ⟨l⟩ := a
  unfold oexSlots at h
  split at h
  · rename_i k0 k1 k2 k3 n k5 e
    have e : l = _ := e
    have hn := eq_of_beq h
    subst hn e
    exact ⟨k0, k1, k2, k3, k5, rfl⟩
  · cases h
theorem oex_cls {K : PySem.W.Frag} {C : Addr} (h : oexIn K C = true) : ∃ nm q N bs bm sn sub ab col dd k0 k1 k2 k3 k5,
    K.lookup C = some (excClassObj nm q C N bs bm true sn sub ab col dd k0 k1 k2 k3 k5 "ValueError.__new__") ∧ PySem.HandSPX.refsVE bm = true := by
  unfold oexIn at h
  cases e : K.lookup C with
  | none => rw [e] at h; cases h
  | some o =>
    rw [e] at h
    obtain ⟨h1, h2⟩ := Bool.and_eq_true_iff.mp h
    obtain ⟨oc, od, dt, sl⟩ := o
    have h1 : oc = .type "type" := eq_of_beq h1
    subst h1
    cases dt <;> first | exact Bool.noConfusion (show false = true from h2) | skip
    rename_i cd
    obtain ⟨h3, h4⟩ := Bool.and_eq_true_iff.mp (show (oexMro C cd.mro && (oexSlots sl.toList && (!cd.hasDel && cd.hasDict))) = true from h2)
    obtain ⟨h5, h6⟩ := Bool.and_eq_true_iff.mp h4
    obtain ⟨h7, h8⟩ := Bool.and_eq_true_iff.mp h6
    obtain ⟨bm, h9, h10⟩ := oex_mro h3
    obtain ⟨k0, k1, k2, k3, k5, h11⟩ := oex_slots h5
    have h7 : cd.hasDel = false := by cases z : cd.hasDel with
      | true => rw [z] at h7; cases h7
      | false => rfl
    cases cd with | mk nm bs mro ns qn dct sn sub ab col del =>
    have h9 : mro = _ := h9
    have h8 : dct = true := h8
    have h7 : del = false := h7
    subst h11 h9 h8 h7
    exact ⟨nm, qn, ns, bs, bm, sn, sub, ab, col, od, k0, k1, k2, k3, k5, rfl, h10⟩
/-- err.f -/
def tFldX (K : PySem.W.Frag) (to : TE) (f : Str) : TE := fun σ H Q => to σ H fun x H1 => ∃ (a C d : Addr) (fs : List (Str × V)) (y : V), x = .ref a ∧ XCls K f C ∧ H1 a = some (exo a C (some d)) ∧ H1 d = some (exd d fs) ∧ fs.lookup f = some y ∧ Q y H1
theorem pe_fldX {f : Str} {K : PySem.W.Frag} (hK : X.K = K) (he : PE X o to) (hb : attributeBase o f X.env (eval o X.env) = eval o X.env) : PE X (.Attribute o f pos) (tFldX K to f) := by
  subst hK
  refine ⟨fun pins s σ H Q I h => ?_⟩
  refine attr_of hb (thn (he.run pins s σ H _ I h) fun u s1 ⟨x, H1, I1, rx, a, C, d, fs, y, ex, T, ea, ed, hl, q⟩ => ?_)
  subst ex
  obtain rfl : u = Value.ref a := rx
  obtain ⟨t1, ho⟩ := exo_at I1.hok ea
  obtain ⟨mA, hns, hr⟩ := exd_at I1.hok ed
  obtain ⟨od, hod, hlk⟩ := lookIn_ns hns
  obtain ⟨u, hu, ru⟩ := RelO.some_of (v := y) (o := mA f) (by rw [← hl]; exact hr f)
  have J : PySem.W.InstAt s1.heap a _ C (some od) := ⟨ho, rfl, rfl, hod⟩
  exact HandSPX.exc_get I1.kIn J T.ga T.gg T.ox.exC (PySem.W.findObj_own T.hd T.no rfl (by rw [hlk, hu])) (handed_of ru) ⟨y, H1, I1.tok _, ru, q⟩
/-- isinstance(err, D) -/
def rIsiX (K : PySem.W.Frag) (f : Str) : List V → Hp → VK → Prop := fun xs H Q => ∃ (a C d : Addr) (fs : List (Str × V)) (c : V) (u : Value) (b : Bool), xs = [.ref a, c] ∧ ClsV c u ∧ XCls K f C ∧ H a = some (exo a C (some d)) ∧ H d = some (exd d fs) ∧ PySem.W.kitOne K (.ref C) u = some b ∧ Q (.bl b) H
theorem isiXK {K : PySem.W.Frag} {f : Str} (hK : X.K = K) : CallR X (.builtin "isinstance") (rIsiX K f) := by
  subst hK
  intro pins s σ H xs us Q I r h
  obtain ⟨a, C, d, fs, c, u, b, rfl, k, T, ea, ed, e, q⟩ := h
  obtain ⟨u1, u2, rfl, r1, r2⟩ := vals2 r
  cases (show u1 = Value.ref a from r1)
  have e2 := k.eq r2
  subst e2
  obtain ⟨t1, ho⟩ := exo_at I.hok ea
  obtain ⟨mA, hns, hr⟩ := exd_at I.hok ed
  obtain ⟨od, hod, hlk⟩ := lookIn_ns hns
  have J : PySem.W.InstAt s.heap a _ C (some od) := ⟨ho, rfl, rfl, hod⟩
  exact PySem.W.kia_one (PySem.W.kitx_exc T.cl T.ga T.gg T.ox.exC T.ha T.hn T.tk T.hm) I.kIn J e (fun z => nomatch z) fun tk => ⟨.bl b, H, I.tok tk, rfl, q⟩
end
end Y

set_option Elab.async false
set_option linter.all false
set_option maxRecDepth 100000
namespace Y
open PySem L2
/-- an exception that is being made; made, with one field; held -/
def oX0 (C : Addr) : Ow := ⟨fun _ H v L => ∃ a, v = .ref a ∧ L = [a] ∧ H a = some (exo a C none), fun g k ⟨a, h1, h2, h3⟩ => ⟨a, h1, h2, by rw [k a (by rw [h2]; exact List.mem_singleton.mpr rfl)]; exact h3⟩⟩
def oX1 (K : PySem.W.Frag) (f : Str) (C : Addr) (P : Pr) : Ow := ⟨fun G H v L => ∃ a d y, v = .ref a ∧ L = [a, d] ∧ a ≠ d ∧ XCls K f C ∧ H a = some (exo a C (some d)) ∧ H d = some (exd d [(f, y)]) ∧ P.p G y, fun g k ⟨a, d, y, h1, h2, h3, h4, h5, h6, h7⟩ =>
  ⟨a, d, y, h1, h2, h3, h4, by rw [k a (by rw [h2]; exact List.mem_cons_self)]; exact h5, by rw [k d (by rw [h2]; exact List.mem_cons_of_mem _ List.mem_cons_self)]; exact h6, P.m g h7⟩⟩
def pX1 (K : PySem.W.Frag) (f : Str) (C : Addr) (P : Pr) : Pr := ⟨fun H v => ∃ a d y, v = .ref a ∧ XCls K f C ∧ H a = some (exo a C (some d)) ∧ H d = some (exd d [(f, y)]) ∧ P.p H y, fun g ⟨a, d, y, h1, h4, h5, h6, h7⟩ => ⟨a, d, y, h1, h4, g _ _ h5, g _ _ h6, P.m g h7⟩⟩
section
variable {K : PySem.W.Frag} {Γ : Ctx} {te ta tb : TE} {tas : TA} {P : Pr} {Ps : List Pr} {C : Addr} {f : Str} {i : Nat} {W : Ow}
theorem frz_X1 : Frz (oX1 K f C P) (pX1 K f C P) := fun G H v L s hL ⟨a, d, y, h1, h2, h3, h4, h5, h6, h7⟩ => by
  subst h2
  have ga : G a = none := hL a List.mem_cons_self
  have gd : G d = none := hL d (List.mem_cons_of_mem _ List.mem_cons_self)
  have ga2 : upd G d (exd d [(f, y)]) a = none := by rw [upd_ne h3]; exact ga
  have g1 : Gw G (upd (upd G d (exd d [(f, y)])) a (exo a C (some d))) := (Gw.new gd).trans (Gw.new ga2)
  refine ⟨_, g1, fun b u hb => ?_, fun b hb => ?_, a, d, y, h1, h4, upd_same, ?_, P.m g1 h7⟩
  · by_cases z : b = a
    · subst z
      rw [upd_same] at hb
      cases hb
      exact h5
    · rw [upd_ne z] at hb
      by_cases z2 : b = d
      · subst z2
        rw [upd_same] at hb
        cases hb
        exact h6
      · rw [upd_ne z2] at hb
        exact s b u hb
  · rw [upd_ne (fun z => hb (by rw [z]; exact List.mem_cons_self)), upd_ne (fun z => hb (by rw [z]; exact List.mem_cons_of_mem _ List.mem_cons_self))]
  · rw [upd_ne (Ne.symm h3), upd_same]
theorem e_mkX {R : Ow → List Pr → Ow → Pr → Prop} (h : EvA tas Γ Ps) (hn : Ps.length ≤ 1000) (hR : R (oX0 C) Ps W pN) : EvW (tMkX C (spU 0 R) [] tas) Γ W := fun F σ G H e Q q =>
  h F σ G H e _ fun vs G1 H1 g1 s1 => ⟨by rw [s1.len]; exact hn, fun x hx => by
    have gx : G1 x = none := g1.s.free hx
    rw [List.append_nil]
    refine ⟨oX0 C, W, Ps, pN, G1, [x], .ref x, hR, rfl, ⟨x, rfl, rfl, upd_same⟩, Gw.mut g1.s gx, fun a ha => ?_, s1, fun r G' H' L' g hL hu hp => ⟨hp, ?_⟩⟩
    · rw [List.mem_singleton.mp ha, upd_same]
      exact ⟨gx, fun z => nomatch z⟩
    · have old : ∀ b, H1 b ≠ none → delL (upd H1 x (exo x C none)) [x] b = H1 b := fun b hb => by
        have n1 : b ≠ x := fun z => hb (z ▸ hx)
        rw [delL_out (fun z => n1 (List.mem_singleton.mp z)), upd_ne n1]
      refine q (.ref x) L' G' H' (g1.trans ⟨g.g, fun b o hb => ?_, g.s, fun b hb hg => ?_⟩) (fun b hb => ⟨?_, (hL b hb).2⟩) hu
      · refine g.h b o ?_
        rw [old b (by rw [hb]; exact fun z => nomatch z)]
        exact hb
      · refine g.f b ?_ hg
        rw [old b hb]
        exact hb
      · rcases (hL b hb).1 with z | z
        · rw [List.mem_singleton.mp z]
          exact g1.h.free hx
        · refine g1.h.free ?_
          cases hb1 : H1 b with
          | none => rfl
          | some o =>
            have n1 : b ≠ x := ne_of_none hb1 hx
            rw [upd_ne n1, hb1] at z
            cases z⟩
/-- ValueError.__init__(self, ..) -/
theorem s_vei {z : V} (hi : Γ[i]? = some (.own (oAt z (oX0 C)))) (c : OexC K C) (h : EvA tas Γ Ps) (hn : Ps.length ≤ 999) : StS (tDrop (tVeI K (tCons (tVar i) tas))) Γ (.nx Γ) := fun F σ G H D e g => by
  obtain ⟨Ls, e1⟩ := id e
  obtain ⟨v, h1, h2, a, h3, h4, h5⟩ := (e1.at_ i _ hi).own_
  refine ⟨v, h1, h F σ G H e _ fun vs G1 H1 g1 s1 => ⟨a, C, vs, by rw [h3], by rw [s1.len]; omega, c, g1.h _ _ h5, ?_⟩⟩
  exact g σ G1 H1 (e.grow g1)
/-- self.f = e, the first field -/
theorem s_ostX {z : V} (hi : Γ[i]? = some (.own (oAt z (oX0 C)))) (c : XCls K f C) (h : EvE te Γ P) : StS (tOst K f (tVar i) te) Γ (.nx (Γ.set i (.own (oAt z (oX1 K f C P))))) := fun F σ G H D e g =>
  h F σ G H e _ fun y G1 H1 g1 p1 => by
    obtain ⟨Ls, e1⟩ := e.grow g1
    obtain ⟨v, h1, h2, a, h3, h4, h5⟩ := (e1.at_ i _ hi).own_
    refine ⟨v, h1, a, C, h3, c.ox, c.no, .inl ⟨h5, fun dx hd ne => ?_⟩⟩
    have ge : G1 dx = none := e1.gr.s.free hd
    refine g σ G1 _ (e1.mut (L := [a, dx]) hi h1 (fun b hb hn => ?_) ⟨h2, a, dx, y, h3, rfl, Ne.symm ne, c, upd_same, by rw [upd_ne ne, upd_same], p1⟩ (fun b hb => ?_) fun b hb => ?_)
    · have n1 : b ≠ a := fun q => hb (by rw [h4, q]; exact List.mem_singleton.mpr rfl)
      have n2 : b ≠ dx := fun q => hn (q ▸ hd)
      rw [upd_ne n1, upd_ne n2]
    · rcases List.mem_cons.mp hb with q | q
      · exact .inl (by rw [h4, q]; exact List.mem_singleton.mpr rfl)
      · exact .inr (by rw [List.mem_singleton.mp q]; exact hd)
    · by_cases q : b = a
      · rw [q, upd_same]; exact fun z => nomatch z
      · rcases List.mem_cons.mp hb with q2 | q2
        · exact absurd q2 q
        · rw [upd_ne q, List.mem_singleton.mp q2, upd_same]; exact fun z => nomatch z
theorem e_fldX (h : EvE ta Γ (pX1 K f C P)) : EvE (tFldX K ta f) Γ P := fun F σ G H e Q q =>
  h F σ G H e _ fun x G1 H1 g1 ⟨a, d, y, h1, h4, h5, h6, h7⟩ => ⟨a, C, d, _, y, h1, h4, g1.s _ _ h5, g1.s _ _ h6, by simp [List.lookup], q y G1 H1 g1 h7⟩
theorem e_isiX {c : V} {u : Value} {b : Bool} (h : EvE ta Γ (pX1 K f C P)) (hc : ClsV c u) (hk : PySem.W.kitOne K (.ref C) u = some b) : EvE (tCB (rIsiX K f) (tCons ta (tCons (tC c) tNil))) Γ (pB b) := fun F σ G H e Q q =>
  h F σ G H e _ fun x G1 H1 g1 ⟨a, d, y, h1, h4, h5, h6, h7⟩ => ⟨a, C, d, _, c, u, b, by rw [h1], hc, h4, g1.s _ _ h5, g1.s _ _ h6, hk, q _ G1 H1 g1 rfl⟩
/-! ### f-strings -/
def fmtI (i : Int) : Option Str := if i.natAbs.log2 < 1920 then some (toString i : Str) else none
def fmtS (s : Str) : Option Str := if s.length ≤ sizeLine then some s else none
def jsM : List Str → Str → Option Str
  | [], acc => some acc
  | p :: ps, acc => if (acc ++ p).length ≤ sizeLine then jsM ps (acc ++ p) else none
inductive EvJ (Γ : Ctx) : List TE → List Str → Prop where
  | nil : EvJ Γ [] []
  | cons {t : TE} {s : Str} {ts : List TE} {ss : List Str} (h : EvE t Γ (pS s)) (r : EvJ Γ ts ss) : EvJ Γ (t :: ts) (s :: ss)
theorem ev_js {ts : List TE} {ss : List Str} (h : EvJ Γ ts ss) : ∀ (acc out : Str), jsM ss acc = some out → ∀ (F : Fm) (σ : St) (G H : Hp), EOk F Γ σ G H → ∀ Q : Str → Hp → Prop, (∀ G' H', Gr G H G' H' → Q out H') → tJs ts acc σ H Q := by
  induction h with
  | nil =>
    intro acc out e F σ G H k Q q
    cases e
    exact q G H (Gr.refl k.s)
  | @cons t s ts ss h r ih =>
    intro acc out e F σ G H k Q q
    unfold jsM at e
    by_cases z : (acc ++ s).length ≤ sizeLine
    · rw [if_pos z] at e
      exact h F σ G H k _ fun v G1 H1 g1 p1 => ⟨s, p1, z, ih _ _ e F σ G1 H1 (k.grow g1) Q fun G2 H2 g2 => q G2 H2 (g1.trans g2)⟩
    · rw [if_neg z] at e
      cases e
abbrev tJo (ts : List TE) : TE := fun σ H Q => tJs ts Str.empty σ H fun out H1 => Q (.str out) H1
theorem e_js {ts : List TE} {ss : List Str} {out : Str} (h : EvJ Γ ts ss) (e : jsM ss Str.empty = some out) : EvE (tJo ts) Γ (pS out) := fun F σ G H k Q q => ev_js h _ _ e F σ G H k _ fun G' H' g => q _ G' H' g rfl
theorem e_fmtI {x : Int} {s : Str} (h : EvE te Γ (pI x)) (e : fmtI x = some s) : EvE (tFmt te) Γ (pS s) := fun F σ G H k Q q => by
  unfold fmtI at e
  by_cases z : x.natAbs.log2 < 1920
  · rw [if_pos z] at e
    cases e
    exact h F σ G H k _ fun v G1 H1 g1 p1 => .inr ⟨x, p1, z, q _ G1 H1 g1 rfl⟩
  · rw [if_neg z] at e
    cases e
theorem e_fmtS {x s : Str} (h : EvE te Γ (pS x)) (e : fmtS x = some s) : EvE (tFmt te) Γ (pS s) := fun F σ G H k Q q => by
  unfold fmtS at e
  by_cases z : x.length ≤ sizeLine
  · rw [if_pos z] at e
    cases e
    exact h F σ G H k _ fun v G1 H1 g1 p1 => .inl ⟨x, p1, z, q _ G1 H1 g1 rfl⟩
  · rw [if_neg z] at e
    cases e
end
end Y

set_option Elab.async false
set_option linter.all false
set_option maxRecDepth 100000
namespace Y
section
open PySem PySem.Spec PyProof.Rows PySem.W L2
/-! ### None == an object with an own ==; lists of unlike lengths -/
section
variable {prog : Program} {w : World} {A A₀ : Around} {E : Value → Shared → Prop} {s : Shared} {K : Frag} {x C L f : Addr} {h₀ : Heap} {m : Str → Option Value} {ox : Obj} {od : Option Obj}
theorem none_own {Q : Value → Shared → Prop} (hu : A.units < cLine) (F0 : Fr h₀ L s.heap m) (X₀ : K.In h₀) (I : InstAt s.heap x ox C od) (hn : subIn K (.ref C) (.type "NoneType") = some false)
    (hs : findIn K (.ref C) "__eq__" = some (some (.ref f))) (hf : isFn K (.ref f) = true)
    (h : wpAny (model prog w) A (call (.ref f) [.ref x, .none]) (W.CmpBack Q) E s) : wpAny (model prog w) A (richCompare .Eq .none (.ref x)) Q E s := by
  have X := X₀.keeps F0.keep
  have two : wpAny (model prog w) A (tryCompare (.ref x) (cmpInfo .Eq).2.2 .none) (fun r s' => ∃ v, r = some v ∧ Q v s') E s := by
    unfold tryCompare
    have back : ∀ (v : Value) (s' : Shared), W.CmpBack Q v s' → wpAny (model prog w) A (match some v with
        | some .notImplemented | Option.none => pure Option.none
        | some v => pure (some v)) (fun r s' => ∃ v, r = some v ∧ Q v s') E s' := fun v s' hv => by
      cases v <;> first | exact (show False from hv).elim | exact wpAny_pure ⟨_, rfl, hv⟩
    exact wpAny_bind (ifBound_K X I hs hf (wpAny_mono h back fun _ _ q => q))
  have hN : s.TypeIs .none "NoneType" := rfl
  unfold richCompare
  simp only [hN.oneThing_none]
  refine wpAny_holding ?_
  refine wpAny_bind (wpAny_cRoomFor hu ?_)
  refine wpAny_bind (wpAny_typeOf hN (wpAny_bind (I.type.here ?_)))
  split
  · refine wpAny_bind ((looks_subIn X hn).here ?_)
    simp only [Bool.false_eq_true, if_false]
    refine wpAny_bind (m := tryCompare .none _ (.ref x)) (wpAny_tryCompare_declines hN PySem.F.slot_NoneType_eq (call_gives PySem.F.slot_NoneType_eq rfl PySem.F.entry_NoneType_eq (PySem.F.args_NoneType_eq_2 _ _) (PySem.SeqAt.NoneType___eq___none_ref_0 x) ⟨rfl, ?_⟩))
    simp only [Bool.not_false, if_true]
    refine wpAny_bind (wpAny_mono two (fun r s' z => ?_) fun _ _ e => e)
    obtain ⟨v, rfl, hq⟩ := z
    exact wpAny_pure hq
  · rename_i q
    exact absurd q (by simp)
end
end
open PySem L2
section
variable {X : Cx} {n : Nat} {f C : Addr} {fd : FuncData} {ps : List Str} {R : List Pr → Pr → Prop} {α : Type} {r : α → Pr}
def rOwnEqN (C : Addr) (R : List Pr → Pr → Prop) : R2 := fun x y H Q => ∃ a dx fs, x = .non ∧ y = .ref a ∧ H a = some (.ins C dx fs) ∧ spR R [y, x] H (fun v H' => ∃ b, v = .bl b ∧ Q (.bl b) H') E0
theorem op_ownEqN (F : FnOk X.prog X.w X.K X.mg X.base CX0 n f fd ps (spR R)) (hs : PySem.W.findIn X.K (.ref C) "__eq__" = some (some (.ref f))) (hf : PySem.W.isFn X.K (.ref f) = true) (hn : PySem.W.subIn X.K (.ref C) (.type "NoneType") = some false)
    (hb : Binds X.K fd ps []) (hr : Room n X.A) : OpR X (compareOp .Eq) (rOwnEqN C R) := by
  intro pins s σ H x y v u Q I rx ry ⟨a, dx, fs, ex, ey, ea, hsp⟩
  subst ex ey
  cases rx
  cases ry
  show wpAny (model X.prog X.w) X.A (richCompare .Eq .none (.ref a)) (EP X pins σ Q) X.xe s
  obtain ⟨mA, O, _⟩ := ins_get I.hok ea
  obtain ⟨od, J, _⟩ := O.look
  obtain ⟨m, hF⟩ := I.fr
  refine none_own hr.units0 hF I.ok.mod.kin J hn hs hf ?_
  have r2 : Vals [V.ref a, V.non] [Value.ref a, Value.none] := .cons rfl (.cons rfl .nil)
  refine wpAny_mono (run_fn (Q := fun v H' => ∃ b, v = .bl b ∧ Q (.bl b) H') F hr hb .nil pass0 I r2 (by rw [List.append_nil]; exact hsp)) (fun r s' hz => ?_) fun _ _ e => e
  obtain ⟨z, H', I', rz, b, ez, q⟩ := hz
  subst ez
  cases rz
  exact ⟨.bl b, H', I', rfl, q⟩
/-- an object or None, either side -/
def rEqOd (K : PySem.W.Frag) (C : Addr) (R : List Pr → Pr → Prop) : R2 := fun x y H Q => (x = .non ∧ y = .non ∧ Q (.bl true) H) ∨ rOwnEq K C R x y H Q ∨ rOwnEqN C R x y H Q
theorem op_eqOd (F : FnOk X.prog X.w X.K X.mg X.base CX0 n f fd ps (spR R)) (hs : PySem.W.findIn X.K (.ref C) "__eq__" = some (some (.ref f))) (hf : PySem.W.isFn X.K (.ref f) = true) (hn : PySem.W.subIn X.K (.ref C) (.type "NoneType") = some false)
    (hb : Binds X.K fd ps []) (hr : Room n X.A) : OpR X (compareOp .Eq) (rEqOd X.K C R) := fun pins s σ H x y v u Q I rx ry h => by
  rcases h with ⟨h1, h2, h3⟩ | h | h
  · subst h1 h2
    exact op_eq pins s σ H .non .non v u Q I rx ry ⟨rfl, h3⟩
  · exact op_ownEq F hs hf hb hr pins s σ H x y v u Q I rx ry h
  · exact op_ownEqN F hs hf hn hb hr pins s σ H x y v u Q I rx ry h
/-- two lists, the same or of unlike lengths -/
def rEqLd (D : Eqv) : R2 := fun x y H Q => rEqG D x y H Q ∨ ∃ a b xs ys, x = .ref a ∧ y = .ref b ∧ H a = some (.lst xs) ∧ H b = some (.lst ys) ∧ xs.length ≠ ys.length ∧ Q (.bl false) H
theorem op_eqLd (F : FnOk X.prog X.w X.K X.mg X.base CX0 n f fd ps (spR R)) (hs : PySem.W.findIn X.K (.ref C) "__eq__" = some (some (.ref f))) (hf : PySem.W.isFn X.K (.ref f) = true) (hb : Binds X.K fd ps []) (hr : Room (n + 1) X.A) :
    OpR X (compareOp .Eq) (rEqLd (DList (DIns C (Rse r R)))) := fun pins s σ H x y v u Q I rx ry h => by
  rcases h with h | ⟨a, b, xs, ys, h1, h2, h3, h4, h5, q⟩
  · exact op_eqLs F hs hf hb hr pins s σ H x y v u Q I rx ry h
  · subst h1 h2
    cases rx
    cases ry
    show wpAny (model X.prog X.w) X.A (richCompare .Eq (.ref a) (.ref b)) (EP X pins σ Q) X.xe s
    obtain ⟨z, its, k, r1, e1⟩ := I.hok a _ h3
    obtain ⟨z2, its2, k2, r2, e2⟩ := I.hok b _ h4
    refine PySem.SeqAt.RcAt.lists_lengths (items := its.toArray) (items2 := its2.toArray) ⟨_, e1, rfl, _, rfl⟩ ⟨_, e2, rfl, _, rfl⟩ ?_ hr.units0 X.prog X.w _ _ ⟨.bl false, H, I, rfl, q⟩
    have l1 := r1.length
    have l2 := r2.length
    simp only [List.size_toArray, bne_iff_ne, ne_eq]
    omega
end
section
variable {K : PySem.W.Frag} {Γ : Ctx} {ta tb : TE} {C : Addr} {ns : List Str} {R : List Pr → Pr → Prop} {α : Type} {f : α → List Pr}
def eqLM {α : Type} [DecidableEq α] (xs ys : List α) : Option Bool := if xs = ys then some true else if xs.length = ys.length then none else some false
def eqOM {α : Type} (m : α → α → Option Bool) : Option α → Option α → Option Bool
  | none, none => some true
  | some x, some y => m x y
  | _, _ => some false
theorem e_eqLd [DecidableEq α] {xs ys : List α} {b : Bool} (hR : ∀ c, R [pO C ns (f c), pO C ns (f c)] (pB true)) (h : eqLM xs ys = some b) (ha : EvE ta Γ (pL (xs.map fun c => pO C ns (f c)))) (hb : EvE tb Γ (pL (ys.map fun c => pO C ns (f c)))) : EvE (tOp (rEqLd (DList (DIns C (Rse (fun c => pO C ns (f c)) R)))) ta tb) Γ (pB b) := fun F σ G H e Q q => by
  unfold eqLM at h
  by_cases z : xs = ys
  · rw [if_pos z] at h
    cases h
    have := e_eqLs hR ⟨z, rfl⟩ ha hb F σ G H e Q q
    exact ha F σ G H e _ fun x G1 H1 g1 p1 => hb F σ G1 H1 (e.grow g1) _ fun y G2 H2 g2 p2 => by
      subst z
      obtain ⟨p, o, e1, e2, vs, e3, e4, _⟩ := (pL _).m g2.g p1
      obtain ⟨q', o', e5, e6, us, e7, e8, _⟩ := p2
      subst e1 e3 e5 e7
      refine .inl ⟨⟨p, q', vs, us, rfl, rfl, g2.s _ _ e2, g2.s _ _ e6, e4.len.trans e8.len.symm, fun i a b ha hb => ?_⟩, fun H' ex => q _ G2 H' ((g1.trans g2).trans ⟨Gw.refl _, ex, g2.s.trans ex, fun _ _ h => h⟩) rfl⟩
      obtain ⟨P1, q1, q2⟩ := e4.getv ha
      obtain ⟨P2, q3, q4⟩ := e8.getv hb
      rw [q1] at q3
      cases q3
      rw [List.getElem?_map] at q1
      cases z : xs[i]? with
      | none =>
        rw [z] at q1
        cases q1
      | some c =>
        rw [z] at q1
        cases q1
        exact ins_two g2.s q2 q4 (hR c)
  · rw [if_neg z] at h
    by_cases l : xs.length = ys.length
    · rw [if_pos l] at h
      cases h
    · rw [if_neg l] at h
      cases h
      exact ha F σ G H e _ fun x G1 H1 g1 p1 => hb F σ G1 H1 (e.grow g1) _ fun y G2 H2 g2 p2 => by
        obtain ⟨p, o, e1, e2, vs, e3, e4, _⟩ := (pL _).m g2.g p1
        obtain ⟨q', o', e5, e6, us, e7, e8, _⟩ := p2
        subst e1 e3 e5 e7
        refine .inr ⟨p, q', vs, us, rfl, rfl, g2.s _ _ e2, g2.s _ _ e6, ?_, q _ G2 H2 (g1.trans g2) rfl⟩
        have l1 := e4.len
        have l2 := e8.len
        rw [List.length_map] at l1 l2
        omega
theorem e_eqOd {m : α → α → Option Bool} {o o' : Option α} {b : Bool} (hSS : ∀ x y b, m x y = some b → R [pO C ns (f x), pO C ns (f y)] (pB b)) (hSN : ∀ x, R [pO C ns (f x), pN] (pB false)) (hn : PySem.W.notFirst K C (.type "NoneType") = true) (h : eqOM m o o' = some b)
    (ha : EvE ta Γ (pOpt (fun c => pO C ns (f c)) o)) (hb : EvE tb Γ (pOpt (fun c => pO C ns (f c)) o')) : EvE (tOp (rEqOd K C R) ta tb) Γ (pB b) := fun F σ G H e Q q => by
  cases o with
  | none =>
    cases o' with
    | none =>
      cases h
      exact ha F σ G H e _ fun x G1 H1 g1 p1 => hb F σ G1 H1 (e.grow g1) _ fun y G2 H2 g2 p2 => .inl ⟨p1, p2, q _ G2 H2 (g1.trans g2) rfl⟩
    | some c =>
      cases h
      exact ha F σ G H e _ fun x G1 H1 g1 p1 => hb F σ G1 H1 (e.grow g1) _ fun y G2 H2 g2 p2 => by
        obtain ⟨a, o, h1, h2, dx, vs, h3, _⟩ := id p2
        subst h1 h3
        exact .inr (.inr ⟨a, dx, _, p1, rfl, g2.s _ _ h2, [_, _], pB false, G2, hSN c, g2.s, ⟨p2, p1, trivial⟩, fun v G3 H3 g3 p3 => ⟨false, p3, q _ G3 H3 ((g1.trans g2).trans g3) rfl⟩⟩)
  | some c =>
    cases o' with
    | none =>
      cases h
      exact ha F σ G H e _ fun x G1 H1 g1 p1 => hb F σ G1 H1 (e.grow g1) _ fun y G2 H2 g2 p2 => by
        have p1' := (pO C ns (f c)).m g2.g p1
        obtain ⟨a, o, h1, h2, dx, vs, h3, _⟩ := id p1'
        subst h1 h3
        exact .inr (.inl ⟨a, dx, _, .type "NoneType", rfl, g2.s _ _ h2, tw_N H2 y p2, hn, [_, _], pB false, G2, hSN c, g2.s, ⟨p1', p2, trivial⟩, fun v G3 H3 g3 p3 => ⟨false, p3, q _ G3 H3 ((g1.trans g2).trans g3) rfl⟩⟩)
    | some c' =>
      exact ha F σ G H e _ fun x G1 H1 g1 p1 => hb F σ G1 H1 (e.grow g1) _ fun y G2 H2 g2 p2 => by
        have p1' := (pO C ns (f c)).m g2.g p1
        obtain ⟨a, o, h1, h2, dx, vs, h3, _⟩ := id p1'
        subst h1 h3
        exact .inr (.inl ⟨a, dx, _, .ref C, rfl, g2.s _ _ h2, tw_O H2 y ((pO C ns (f c')).m g2.s p2), notFirst_self, [_, _], pB b, G2, hSS c c' b h, g2.s, ⟨p1', p2, trivial⟩, fun v G3 H3 g3 p3 => ⟨b, p3, q _ G3 H3 ((g1.trans g2).trans g3) rfl⟩⟩)
/-- is True, is False -/
theorem e_isBl {a b : Bool} (ha : EvE ta Γ (pB a)) (hb : EvE tb Γ (pB b)) : EvE (tOp rIsB ta tb) Γ (pB (decide (a = b))) := fun F σ G H e Q q =>
  ha F σ G H e _ fun x G1 H1 g1 p1 => hb F σ G1 H1 (e.grow g1) _ fun y G2 H2 g2 p2 => ⟨a, b, p1, p2, q _ G2 H2 (g1.trans g2) rfl⟩
end
end Y

set_option Elab.async false
set_option linter.all false
set_option maxRecDepth 100000
namespace Y
open PySem L2
/-! ### lists lent to what holds none of them -/
/-- G' is G and some lists -/
def Lts (G G' : Hp) : Prop := Gw G G' ∧ ∀ a o, G' a = some o → G a = some o ∨ ∃ vs, o = .lst vs
/-- what is said stands without the lists -/
def NoL (P : Pr) : Prop := ∀ (G G' : Hp) (v : V), Lts G G' → P.p G' v → P.p G v
theorem nl_pure {P : Pr} (h : Pure P) : NoL P := fun G G' v _ p => h _ _ v p
theorem sat_nl {Ps : List Pr} (h : ∀ P ∈ Ps, NoL P) {G G' : Hp} (g : Lts G G') : ∀ {vs : List V}, Sat G' vs Ps → Sat G vs Ps := by
  induction Ps with
  | nil => intro vs s; cases vs with
    | nil => trivial
    | cons _ _ => exact s.elim
  | cons P Ps ih => intro vs s; cases vs with
    | nil => exact s.elim
    | cons v vs => exact ⟨h P List.mem_cons_self _ _ v g s.1, ih (fun P hP => h P (List.mem_cons_of_mem _ hP)) s.2⟩
theorem nl_O {C : Addr} {ns : List Str} {Ps : List Pr} (h : ∀ P ∈ Ps, NoL P) : NoL (pO C ns Ps) := fun G G' v g ⟨a, o, h1, h2, dx, vs, h3, h4⟩ => by
  rcases g.2 a o h2 with q | ⟨us, q⟩
  · exact ⟨a, o, h1, q, dx, vs, h3, sat_nl h g h4⟩
  · rw [q] at h3
    cases h3
theorem nl_T {Ps : List Pr} (h : ∀ P ∈ Ps, NoL P) : NoL (pT Ps) := fun G G' v g ⟨a, vs, h1, h2, h4⟩ => by
  rcases g.2 a _ h2 with q | ⟨us, q⟩
  · exact ⟨a, vs, h1, q, sat_nl h g h4⟩
  · cases q
theorem nl_Opt {α : Type} {r : α → Pr} (h : ∀ a, NoL (r a)) : ∀ o : Option α, NoL (pOpt r o)
  | none => fun _ _ _ _ p => p
  | some a => h a
theorem nl_map {α : Type} {r : α → Pr} (h : ∀ a, NoL (r a)) (xs : List α) : ∀ P ∈ xs.map r, NoL P := fun P hP => by
  obtain ⟨y, _, e⟩ := List.mem_map.mp hP
  exact e ▸ h y
theorem nl_cons {P : Pr} {Ps : List Pr} (h : NoL P) (hs : ∀ P ∈ Ps, NoL P) : ∀ Q ∈ P :: Ps, NoL Q := fun Q hQ => by
  rcases List.mem_cons.mp hQ with e | e
  · exact e ▸ h
  · exact hs Q e
theorem nl_nil : ∀ Q ∈ ([] : List Pr), NoL Q := fun _ h => nomatch h
/-- the same of a region of one's own -/
def NoLW (W : Ow) : Prop := ∀ (G G' H : Hp) (v : V) (L : List Addr), Lts G G' → W.p G' H v L → W.p G H v L
theorem nlw_V {P : Pr} (h : NoL P) : NoLW (oV P) := fun G G' H v L g ⟨h1, h2⟩ => ⟨h1, h _ _ v g h2⟩
theorem nlw_L {Ps : List Pr} (h : ∀ P ∈ Ps, NoL P) : NoLW (oL Ps) := fun G G' H v L g ⟨a, ob, h1, h2, h3, vs, h4, h5, h6⟩ => ⟨a, ob, h1, h2, h3, vs, h4, sat_nl h g h5, h6⟩
theorem sw_nl {Ws : List Ow} (h : ∀ W ∈ Ws, NoLW W) {G G' H : Hp} (g : Lts G G') : ∀ {vs : List V} {Ls : List (List Addr)}, SW G' H vs Ws Ls → SW G H vs Ws Ls := by
  induction Ws with
  | nil => intro vs Ls s; match vs, Ls, s with
    | [], [], _ => trivial
    | _ :: _, [], s => exact s.elim
    | [], _ :: _, s => exact s.elim
    | _ :: _, _ :: _, s => exact s.elim
  | cons W Ws ih => intro vs Ls s; match vs, Ls, s with
    | v :: vs, L :: Ls, s => exact ⟨h W List.mem_cons_self _ _ _ _ _ g s.1, s.2.1, ih (fun W hW => h W (List.mem_cons_of_mem _ hW)) s.2.2⟩
    | [], [], s => exact s.elim
    | _ :: _, [], s => exact s.elim
    | [], _ :: _, s => exact s.elim
theorem nlw_Ls {Ws : List Ow} (h : ∀ W ∈ Ws, NoLW W) : NoLW (oLs Ws) := fun G G' H v L g ⟨a, vs, Ls, h1, h2, h3, h4, h5, h6⟩ => ⟨a, vs, Ls, h1, h2, sw_nl h g h3, h4, h5, h6⟩
theorem nlw_Os {C : Addr} {ns : List Str} {Ws : List Ow} (h : ∀ W ∈ Ws, NoLW W) : NoLW (oOs C ns Ws) := fun G G' H v L g ⟨a, dx, vs, Ls, h1, h2, h3, h5, h6⟩ => ⟨a, dx, vs, Ls, h1, h2, sw_nl h g h3, h5, h6⟩
theorem nlw_map {α : Type} {o : α → Ow} (h : ∀ a, NoLW (o a)) (xs : List α) : ∀ W ∈ xs.map o, NoLW W := fun W hW => by
  obtain ⟨y, _, e⟩ := List.mem_map.mp hW
  exact e ▸ h y
theorem nlw_cons {W : Ow} {Ws : List Ow} (h : NoLW W) (hs : ∀ W ∈ Ws, NoLW W) : ∀ Q ∈ W :: Ws, NoLW Q := fun Q hQ => by
  rcases List.mem_cons.mp hQ with e | e
  · exact e ▸ h
  · exact hs Q e
theorem nlw_nil : ∀ Q ∈ ([] : List Ow), NoLW Q := fun _ h => nomatch h
/-- a region of lists alone -/
def LstW (W : Ow) : Prop := ∀ (G H : Hp) (v : V) (L : List Addr), W.p G H v L → ∀ a ∈ L, ∃ vs, H a = some (.lst vs)
theorem lw_L {Ps : List Pr} : LstW (oL Ps) := fun G H v L ⟨a, ob, h1, h2, h3, vs, h4, _⟩ b hb => by
  subst h2 h4
  rw [List.mem_singleton.mp hb]
  exact ⟨vs, h3⟩
theorem sw_lw {Ws : List Ow} (h : ∀ W ∈ Ws, LstW W) {G H : Hp} : ∀ {vs : List V} {Ls : List (List Addr)}, SW G H vs Ws Ls → ∀ a ∈ Ls.flatten, ∃ us, H a = some (.lst us) := by
  induction Ws with
  | nil => intro vs Ls s; match vs, Ls, s with
    | [], [], _ => exact fun a ha => nomatch ha
    | _ :: _, [], s => exact s.elim
    | [], _ :: _, s => exact s.elim
    | _ :: _, _ :: _, s => exact s.elim
  | cons W Ws ih => intro vs Ls s; match vs, Ls, s with
    | v :: vs, L :: Ls, s =>
      intro a ha
      rcases mem_fl.mp ha with q | q
      · exact h W List.mem_cons_self _ _ _ _ s.1 a q
      · exact ih (fun W hW => h W (List.mem_cons_of_mem _ hW)) s.2.2 a q
    | [], [], s => exact s.elim
    | _ :: _, [], s => exact s.elim
    | [], _ :: _, s => exact s.elim
theorem lw_Ls {Ws : List Ow} (h : ∀ W ∈ Ws, LstW W) : LstW (oLs Ws) := fun G H v L ⟨a, vs, Ls, h1, h2, h3, h4, h5, h6⟩ b hb => by
  subst h6
  rcases List.mem_cons.mp hb with q | q
  · rw [q]
    exact ⟨vs, h2⟩
  · exact sw_lw h h3 b q
theorem lw_map {α : Type} {o : α → Ow} (h : ∀ a, LstW (o a)) (xs : List α) : ∀ W ∈ xs.map o, LstW W := fun W hW => by
  obtain ⟨y, _, e⟩ := List.mem_map.mp hW
  exact e ▸ h y
theorem lw_cons {W : Ow} {Ws : List Ow} (h : LstW W) (hs : ∀ W ∈ Ws, LstW W) : ∀ Q ∈ W :: Ws, LstW Q := fun Q hQ => by
  rcases List.mem_cons.mp hQ with e | e
  · exact e ▸ h
  · exact hs Q e
theorem lw_nil : ∀ Q ∈ ([] : List Ow), LstW Q := fun _ h => nomatch h
section
variable {F : Fm} {Γ : Ctx} {σ : St} {G H G2 H2 : Hp} {Ls : Nat → List Addr} {i : Nat} {P : Pr} {W U : Ow} {te : TE} {Q1 : Pr}
theorem EOk1.frz (e : EOk1 F Γ σ G H Ls) (f : Frz W P) (hi : Γ[i]? = some (.own W)) : ∃ G', Gw G G' ∧ (∀ a, a ∉ Ls i → G' a = G a) ∧ EOk F (Γ.set i (.val P)) σ G' H := by
  obtain ⟨v, s1, hw⟩ := (e.at_ i _ hi).own_
  obtain ⟨G', g1, g2, g3, hp⟩ := f G H v (Ls i) e.gr.s (fun a ha => (e.fr i W hi a ha).1) hw
  have bk : ∀ {j : Nat} {W1 : Ow}, (Γ.set i (.val P))[j]? = some (.own W1) → i ≠ j ∧ Γ[j]? = some (.own W1) := fun {j W1} hj => by
    rcases set_get hj with ⟨_, _, z⟩ | ⟨z, h⟩
    · cases z
    · exact ⟨z, h⟩
  have off : ∀ {a : Addr}, (a ∈ Ls i → False) → G' a = G a := fun {a} n => g3 a n
  refine ⟨G', g1, g3, Ls, ⟨e.gr.g.trans g1, e.gr.h, g2, fun a ha ga => ?_⟩, F.m g1 e.x, by rw [List.length_set, e.len], fun j sl hj => ?_, fun j W1 hj a ha => ?_, fun j k W1 W2 hj hk => e.dis j k W1 W2 (bk hj).2 (bk hk).2⟩
  · rw [off (fun q => ha (e.fr i W hi a q).2.1)]
    exact e.gr.f a ha ga
  · rcases set_get hj with ⟨rfl, _, rfl⟩ | ⟨z, hj⟩
    · rw [s1]
      exact hp
    · exact (e.at_ j sl hj).go g1 (fun _ _ _ _ => rfl)
  · obtain ⟨z, hj⟩ := bk hj
    have f := e.fr j W1 hj a ha
    exact ⟨by rw [off (fun q => e.dis j i W1 W hj hi (Ne.symm z) a ha q)]; exact f.1, f.2⟩
/-- the lists are taken back -/
theorem back_lts {G' : Hp} (e : EOk1 F Γ σ G H Ls) (hi : Γ[i]? = some (.own U)) (l : LstW U) (g1 : Gw G G') (g3 : ∀ a, a ∉ Ls i → G' a = G a) (g : Gr G' H G2 H2) : ∃ G3, Gr G H G3 H2 ∧ Lts G3 G2 := by
  obtain ⟨v, s1, hw⟩ := (e.at_ i _ hi).own_
  have hl := l _ _ _ _ hw
  have hG : ∀ a ∈ Ls i, G a = none := fun a ha => (e.fr i U hi a ha).1
  refine ⟨fun a => if a ∈ Ls i then none else G2 a, ⟨fun a o h => ?_, g.h, fun a o h => ?_, fun a ha ga => ?_⟩, fun a o h => ?_, fun a o h => ?_⟩
  · have : a ∉ Ls i := fun q => by rw [hG a q] at h; cases h
    show (if a ∈ Ls i then none else G2 a) = some o
    rw [if_neg this]
    exact g.g a o (g1 a o h)
  · have h : (if a ∈ Ls i then none else G2 a) = some o := h
    by_cases q : a ∈ Ls i
    · rw [if_pos q] at h
      cases h
    · rw [if_neg q] at h
      exact g.s a o h
  · show (if a ∈ Ls i then none else G2 a) = none
    by_cases q : a ∈ Ls i
    · rw [if_pos q]
    · rw [if_neg q]
      exact g.f a ha (by rw [g3 a q]; exact ga)
  · have h : (if a ∈ Ls i then none else G2 a) = some o := h
    by_cases q : a ∈ Ls i
    · rw [if_pos q] at h
      cases h
    · rw [if_neg q] at h
      exact h
  · show (if a ∈ Ls i then none else G2 a) = some o ∨ _
    by_cases q : a ∈ Ls i
    · obtain ⟨vs, z⟩ := hl a q
      have := g.s a o h
      rw [g.h a _ z] at this
      cases this
      exact .inr ⟨vs, rfl⟩
    · rw [if_neg q]
      exact .inl h
theorem w_lendL (hi : Γ[i]? = some (.own U)) (f : Frz U P) (l : LstW U) (p : NoLW W) (h : EvW te (Γ.set i (.val P)) W) : EvW te Γ W := fun F σ G H e R q => by
  obtain ⟨Ls, e1⟩ := id e
  obtain ⟨G', g1, g3, e'⟩ := e1.frz f hi
  exact h F σ G' H e' R fun v L G2 H2 g2 hL hw => by
    obtain ⟨G3, k1, k2⟩ := back_lts e1 hi l g1 g3 g2
    exact q v L G3 H2 k1 (fun a ha => ⟨(hL a ha).1, k2.1.free (hL a ha).2.1, (hL a ha).2.2⟩) (p _ _ _ _ _ k2 hw)
theorem e_lendL (hi : Γ[i]? = some (.own U)) (f : Frz U P) (l : LstW U) (p : NoL Q1) (h : EvE te (Γ.set i (.val P)) Q1) : EvE te Γ Q1 := fun F σ G H e R q => by
  obtain ⟨Ls, e1⟩ := id e
  obtain ⟨G', g1, g3, e'⟩ := e1.frz f hi
  exact h F σ G' H e' R fun v G2 H2 g2 hw => by
    obtain ⟨G3, k1, k2⟩ := back_lts e1 hi l g1 g3 g2
    exact q v G3 H2 k1 (p _ _ _ k2 hw)
end
end Y

set_option Elab.async false
set_option linter.all false
set_option maxRecDepth 100000
namespace Y
open PySem L2
/-! ### a list of new regions, written -/
def EvAW (ta : TA) (Γ : Ctx) (Ws : List Ow) : Prop := ∀ (F : Fm) (σ : St) (G H : Hp), EOk F Γ σ G H → ∀ Q : List V → Hp → Prop, (∀ vs Ls G' H', Gr G H G' H' → (∀ a ∈ Ls.flatten, H a = none ∧ G' a = none ∧ H' a ≠ none) → SW G' H' vs Ws Ls → Q vs H') → ta σ H Q
section
variable {Γ : Ctx} {te : TE} {ts : TA} {W : Ow} {Ws : List Ow}
theorem aw_nil : EvAW tNil Γ [] := fun F σ G H e Q q => q [] [] G H (Gr.refl e.s) (fun _ h => nomatch h) trivial
theorem aw_cons (h : EvW te Γ W) (r : EvAW ts Γ Ws) : EvAW (tCons te ts) Γ (W :: Ws) := fun F σ G H e Q q =>
  h F σ G H e _ fun v L G1 H1 g1 hL hw => r F σ G1 H1 (e.grow g1) _ fun vs Ls G2 H2 g2 hLs hs => by
    refine q (v :: vs) (L :: Ls) G2 H2 (g1.trans g2) (fun a ha => ?_) ⟨W.m g2.g (fun a ha => g2.h.at (hL a ha).2.2) hw, fun a ha hb => ?_, hs⟩
    · rcases mem_fl.mp ha with z | z
      · exact ⟨(hL a z).1, g2.f a (hL a z).2.2 (hL a z).2.1, fun n => (hL a z).2.2 (g2.h.free n)⟩
      · exact ⟨g1.h.free (hLs a z).1, (hLs a z).2⟩
    · exact (hL a ha).2.2 (hLs a hb).1
theorem w_lstO (h : EvAW ts Γ Ws) (hn : Ws.length ≤ 1000) : EvW (tLst ts) Γ (oLs Ws) := fun F σ G H e Q q =>
  h F σ G H e _ fun vs Ls G1 H1 g1 hL hs => by
    have hz : vs.length ≤ sizeLine := hs.len.1 ▸ Nat.le_trans hn (by decide)
    refine ⟨hz, fun l hl => ?_⟩
    have gl : G1 l = none := g1.s.free hl
    have nl : l ∉ Ls.flatten := fun z => (hL l z).2.2 hl
    refine q (.ref l) (l :: Ls.flatten) G1 (upd H1 l (.lst vs)) (g1.trans (Gr.lay g1.s hl)) (fun a ha => ?_) ⟨l, vs, Ls, rfl, upd_same, hs.m (Gw.refl G1) (fun a ha => upd_ne fun z => nl (z ▸ ha)), hz, nl, rfl⟩
    rcases List.mem_cons.mp ha with z | z
    · rw [z, upd_same]
      exact ⟨g1.h.free hl, gl, fun z => nomatch z⟩
    · rw [upd_ne fun (q : a = l) => nl (q ▸ z)]
      exact hL a z
end
end Y

set_option Elab.async false
set_option linter.all false
set_option maxRecDepth 100000
namespace Y
open PySem L2
/-! ### tuples as data, of any length -/
structure EnT {α : Type} (K : PySem.W.Frag) [DecidableEq α] (rs : α → List Pr) where
  d : α → List PyData
  ok : ∀ a, dpAll K (rs a) (d a)
  n : Nat
  dep : ∀ a, ∀ x ∈ d a, x.depth ≤ n
  lay : ∀ a, ∀ x ∈ d a, x.canLay0 = true
  eq : ∀ a b, PyData.eqvAll (d a) (d b) = decide (a = b)
section
variable {K : PySem.W.Frag} {α β γ δ ε : Type} [DecidableEq α] [DecidableEq β] [DecidableEq γ] [DecidableEq δ] [DecidableEq ε] {r : α → Pr} {s : β → Pr} {q : γ → Pr} {t : δ → Pr} {u : ε → Pr} {rs : β → List Pr}
def ent1 (E : En K r) : EnT K (fun a => [r a]) := ⟨fun a => [E.d a], fun a => ⟨E.ok a, trivial⟩, E.n, fun a x hx => by rw [List.mem_singleton.mp hx]; exact E.dep a, fun a x hx => by rw [List.mem_singleton.mp hx]; exact E.lay a, fun a b => by
  unfold PyData.eqvAll
  rw [E.eq]
  unfold PyData.eqvAll
  simp⟩
def entC (E : En K r) (T : EnT K rs) : EnT K (fun p : α × β => r p.1 :: rs p.2) := ⟨fun p => E.d p.1 :: T.d p.2, fun p => ⟨E.ok _, T.ok _⟩, max E.n T.n, fun p x hx => by
    rcases List.mem_cons.mp hx with z | z
    · rw [z]; have := E.dep p.1; omega
    · have := T.dep p.2 x z; omega, fun p x hx => by
    rcases List.mem_cons.mp hx with z | z
    · rw [z]; exact E.lay _
    · exact T.lay _ x z, fun a b => by
  unfold PyData.eqvAll
  rw [E.eq, T.eq]
  obtain ⟨a1, a2⟩ := a
  obtain ⟨b1, b2⟩ := b
  show (decide (a1 = b1) && decide (a2 = b2)) = _
  by_cases h : a1 = b1
  · by_cases h' : a2 = b2
    · subst h h'; simp
    · simp [h']
  · simp [h]⟩
def enT (T : EnT K rs) : En K (fun a => pT (rs a)) := ⟨fun p => .tuple (T.d p), fun p => dp_T (T.ok p), T.n + 1, fun p => by
    unfold PyData.depth
    have := dep_le (n := T.n) (ds := T.d p) (T.dep p)
    omega, fun p => by
    unfold PyData.canLay0
    exact lay_all (T.lay p), fun a b => by
    unfold PyData.eqv
    exact T.eq a b⟩
def en4 (E : En K r) (E2 : En K s) (E3 : En K q) (E4 : En K t) : En K (r4 r s q t) := enT (entC E (entC E2 (entC E3 (ent1 E4))))
def en5 (E : En K r) (E2 : En K s) (E3 : En K q) (E4 : En K t) (E5 : En K u) : En K (r5 r s q t u) := enT (entC E (entC E2 (entC E3 (entC E4 (ent1 E5)))))
/-- tuples of any length -/
def enV (E : En K r) : En K (rV r) := ⟨fun xs => .tuple (xs.map E.d), fun xs => dp_T (by
    induction xs with
    | nil => trivial
    | cons x xs ih => exact ⟨E.ok x, ih⟩), E.n + 1, fun xs => by
    unfold PyData.depth
    have := dep_le (n := E.n) (ds := xs.map E.d) (fun d hd => by
      obtain ⟨a, _, rfl⟩ := List.mem_map.mp hd
      exact E.dep a)
    omega, fun xs => by
    unfold PyData.canLay0
    exact lay_all fun d hd => by
      obtain ⟨a, _, rfl⟩ := List.mem_map.mp hd
      exact E.lay a, fun xs ys => by
    unfold PyData.eqv
    exact eqvAll_map E xs ys⟩
end
end Y

set_option Elab.async false
set_option linter.all false
set_option maxRecDepth 100000
namespace Y
open PySem L2
/-! ### what the mirrors' operations give -/
section
variable {α β γ σ τ : Type} {xs ys : List α}
theorem szM_ok (h : xs.length ≤ 16000000) : szM xs = some xs := if_pos (Nat.le_trans h (by decide))
theorem appM_ok {x : α} (h : xs.length < 16000000) : appM xs x = some (xs ++ [x]) := if_pos (Nat.lt_of_lt_of_le h (by decide))
theorem catM_ok (h : xs.length + ys.length ≤ 16000000) : catM xs ys = some (xs ++ ys) := if_pos (Nat.le_trans h (by decide))
theorem rangeI0 (n : Nat) : rangeI 0 n = (List.range n).map (fun k : Nat => (k : Int)) := by
  unfold rangeI
  simp
theorem rngM_ok {n : Nat} (h : n ≤ 16000000) : rngM (n : Int) = some ((List.range n).map (fun k : Nat => (k : Int))) := by
  unfold rngM
  rw [if_pos (by omega), Int.toNat_natCast, rangeI0]
theorem repM_one {x : α} {n : Nat} (h : n ≤ 16000000) : repM [x] (n : Int) = some (List.replicate n x) := by
  have e : (List.replicate n [x]).flatten = List.replicate n x := by
    clear h
    induction n with
    | zero => rfl
    | succ n ih => rw [List.replicate_succ, List.flatten_cons, ih, List.replicate_succ]; rfl
  have z : sizeLine = 16777216 := by decide
  unfold repM
  rw [if_pos ⟨by omega, by rw [z, Int.toNat_natCast, List.length_singleton]; omega⟩, Int.toNat_natCast, e]
theorem atI_n {i : Nat} : atI xs (i : Int) = xs[i]? := by
  unfold atI ixN
  by_cases h : i < xs.length
  · rw [if_pos (by omega), if_pos (by omega), Int.toNat_natCast] <;> rfl
  · rw [if_pos (by omega), if_neg (by omega), List.getElem?_eq_none (by omega)] <;> rfl
theorem setM_n {i : Nat} {x : α} (h : i < xs.length) : setM xs (i : Int) x = some (xs.set i x) := by
  unfold setM ixN
  rw [if_pos (by omega), if_pos (by omega), Int.toNat_natCast] <;> rfl
theorem mapO_ok {f : α → Option β} (g : α → β) (h : ∀ x ∈ xs, f x = some (g x)) : mapO f xs = some (xs.map g) := by
  induction xs with
  | nil => rfl
  | cons x xs ih =>
    unfold mapO
    rw [h x List.mem_cons_self, ih fun y hy => h y (List.mem_cons_of_mem _ hy)]
    rfl
theorem lcM_ok {p : α → Option Bool} {f : α → Option β} (q : α → Bool) (e : α → β) (h : ∀ x ∈ xs, p x = some (q x)) (he : ∀ x ∈ xs, f x = some (e x)) : lcM p f xs = some ((xs.filter q).map e) := by
  induction xs with
  | nil => rfl
  | cons x xs ih =>
    have ih := ih (fun y hy => h y (List.mem_cons_of_mem _ hy)) fun y hy => he y (List.mem_cons_of_mem _ hy)
    unfold lcM
    rw [h x List.mem_cons_self, ih, he x List.mem_cons_self, List.filter_cons]
    cases q x <;> rfl
theorem enumI_eq : ∀ (xs : List α) (lo : Int), enumI lo xs = xs.mapIdx fun i x => (lo + (i : Int), x)
  | [], _ => rfl
  | x :: xs, lo => by
    rw [List.mapIdx_cons]
    unfold enumI
    rw [enumI_eq xs (lo + 1)]
    congr 1
    · simp
    · congr 1
      funext i y
      rw [show lo + 1 + (i : Int) = lo + ((i + 1 : Nat) : Int) by omega]
/-! ### folds -/
theorem fold_cons {f : β → α → Option β} {x : α} {b : β} : (x :: xs).foldlM f b = (f b x).bind fun c => xs.foldlM f c := rfl
theorem fold_inv {f : β → α → Option β} (P : β → Prop) (h : ∀ b x, x ∈ xs → P b → ∃ c, f b x = some c ∧ P c) : ∀ {b : β}, P b → ∃ c, xs.foldlM f b = some c ∧ P c := by
  induction xs with
  | nil => exact fun {b} hb => ⟨b, rfl, hb⟩
  | cons x xs ih =>
    intro b hb
    obtain ⟨c, h1, h2⟩ := h b x List.mem_cons_self hb
    rw [fold_cons, h1]
    exact ih (fun b y hy => h b y (List.mem_cons_of_mem _ hy)) h2
theorem fold_congr {f g : β → α → Option β} (h : ∀ b x, x ∈ xs → f b x = g b x) : ∀ {b : β}, xs.foldlM f b = xs.foldlM g b := by
  induction xs with
  | nil => exact fun {b} => rfl
  | cons x xs ih =>
    intro b
    rw [fold_cons, fold_cons, h b x List.mem_cons_self]
    congr 1
    funext c
    exact ih fun b y hy => h b y (List.mem_cons_of_mem _ hy)
theorem fold_filter {f : β → α → Option β} {p : α → Bool} : ∀ {xs : List α} {b : β}, (xs.filter p).foldlM f b = xs.foldlM (fun b x => if p x then f b x else some b) b
  | [], _ => rfl
  | x :: xs, b => by
    rw [List.filter_cons, fold_cons]
    cases p x with
    | true =>
      rw [if_pos rfl, if_pos rfl, fold_cons]
      congr 1
      funext c
      exact fold_filter
    | false =>
      rw [if_neg (by decide), if_neg (by decide)]
      exact fold_filter
theorem fold_map {f : β → γ → Option β} {g : α → γ} : ∀ {xs : List α} {b : β}, (xs.map g).foldlM f b = xs.foldlM (fun b x => f b (g x)) b
  | [], _ => rfl
  | x :: xs, b => by
    rw [List.map_cons, fold_cons, fold_cons]
    congr 1
    funext c
    exact fold_map
/-- two states that do not know of each other -/
theorem fold_pair {f : β × γ → α → Option (β × γ)} {g : β → α → Option β} {h : γ → α → Option γ} (P : β → Prop) (Q : γ → Prop)
    (hf : ∀ b c x, x ∈ xs → P b → Q c → ∃ b' c', g b x = some b' ∧ h c x = some c' ∧ P b' ∧ Q c' ∧ f (b, c) x = some (b', c')) :
    ∀ {b : β} {c : γ}, P b → Q c → ∃ b' c', xs.foldlM g b = some b' ∧ xs.foldlM h c = some c' ∧ P b' ∧ Q c' ∧ xs.foldlM f (b, c) = some (b', c') := by
  induction xs with
  | nil => exact fun {b c} hb hc => ⟨b, c, rfl, rfl, hb, hc, rfl⟩
  | cons x xs ih =>
    intro b c hb hc
    obtain ⟨b', c', h1, h2, h3, h4, h5⟩ := hf b c x List.mem_cons_self hb hc
    rw [fold_cons, fold_cons, fold_cons, h1, h2, h5]
    exact ih (fun b c y hy => hf b c y (List.mem_cons_of_mem _ hy)) h3 h4
/-- two folds side by side -/
theorem fold_two {f : β → σ → Option β} {g : γ → τ → Option γ} (R : Nat → β → γ → Prop) : ∀ {us : List σ} {ws : List τ} {k : Nat} {b : β} {c : γ}, us.length = ws.length →
    (∀ i b c u w, us[i]? = some u → ws[i]? = some w → R (k + i) b c → ∃ b' c', f b u = some b' ∧ g c w = some c' ∧ R (k + i + 1) b' c') → R k b c → ∃ b' c', us.foldlM f b = some b' ∧ ws.foldlM g c = some c' ∧ R (k + us.length) b' c'
  | [], [], k, b, c, _, _, r => ⟨b, c, rfl, rfl, r⟩
  | u :: us, w :: ws, k, b, c, l, h, r => by
    obtain ⟨b', c', h1, h2, h3⟩ := h 0 b c u w rfl rfl r
    rw [fold_cons, fold_cons, h1, h2]
    obtain ⟨b2, c2, k1, k2, k3⟩ := fold_two (f := f) (g := g) R (us := us) (ws := ws) (k := k + 1) (b := b') (c := c') (Nat.succ.inj l) (fun i b c u w hu hw r => by
      have := h (i + 1) b c u w (by simpa using hu) (by simpa using hw) (by rw [show k + (i + 1) = k + 1 + i by omega]; exact r)
      rw [show k + (i + 1) + 1 = k + 1 + i + 1 by omega] at this
      exact this) h3
    exact ⟨b2, c2, k1, k2, by rw [List.length_cons, show k + (us.length + 1) = k + 1 + us.length by omega]; exact k3⟩
  | [], _ :: _, _, _, _, l, _, _ => nomatch l
  | _ :: _, [], _, _, _, l, _, _ => nomatch l
/-- items set one by one, each by what stood there -/
theorem fold_set {f : List α → Nat → Option (List α)} (v : Nat → α → α) : ∀ {ks : List Nat} {acc : List α}, ks.Nodup → (∀ k ∈ ks, k < xs.length) → acc.length = xs.length → (∀ k ∈ ks, acc[k]? = xs[k]?) →
    (∀ acc k a, k ∈ ks → acc.length = xs.length → acc[k]? = some a → xs[k]? = some a → f acc k = some (acc.set k (v k a))) → ks.foldlM f acc = some (acc.mapIdx fun i a => if i ∈ ks then v i a else a)
  | [], acc, _, _, _, _, _ => by
    show some acc = _
    congr 1
    refine List.ext_getElem? fun i => ?_
    rw [List.getElem?_mapIdx]
    cases acc[i]? <;> simp
  | k :: ks, acc, nd, hb, hl, he, hf => by
    obtain ⟨nk, nd⟩ := List.nodup_cons.mp nd
    have hk := hb k List.mem_cons_self
    obtain ⟨a, ha⟩ : ∃ a, xs[k]? = some a := ⟨_, List.getElem?_eq_getElem hk⟩
    have ha' : acc[k]? = some a := (he k List.mem_cons_self).trans ha
    rw [fold_cons, hf acc k a List.mem_cons_self hl ha' ha]
    show ks.foldlM f (acc.set k (v k a)) = _
    rw [fold_set v nd (fun j hj => hb j (List.mem_cons_of_mem _ hj)) (by rw [List.length_set]; exact hl) (fun j hj => by
      rw [List.getElem?_set_ne (fun z => nk (by rw [z]; exact hj))]
      exact he j (List.mem_cons_of_mem _ hj)) fun acc j a hj => hf acc j a (List.mem_cons_of_mem _ hj)]
    congr 1
    refine List.ext_getElem? fun i => ?_
    rw [List.getElem?_mapIdx, List.getElem?_mapIdx]
    by_cases z : k = i
    · subst z
      rw [List.getElem?_set_self (by rw [hl]; exact hk), ha']
      simp [nk]
    · rw [List.getElem?_set_ne z]
      have z' : ¬ i = k := fun q => z q.symm
      cases acc[i]? <;> simp [z']
theorem fold_setR {f : List α → Nat → Option (List α)} (v : Nat → α → α) (hf : ∀ acc k a, acc.length = xs.length → acc[k]? = some a → xs[k]? = some a → f acc k = some (acc.set k (v k a))) : (List.range xs.length).foldlM f xs = some (xs.mapIdx v) := by
  rw [fold_set v List.nodup_range (fun k hk => List.mem_range.mp hk) rfl (fun _ _ => rfl) fun acc k a _ => hf acc k a]
  congr 1
  refine List.ext_getElem? fun i => ?_
  rw [List.getElem?_mapIdx, List.getElem?_mapIdx]
  by_cases h : i < xs.length
  · rw [List.getElem?_eq_getElem h]
    simp [h]
  · rw [List.getElem?_eq_none (by omega)]
    rfl
theorem set_same {i : Nat} {a : α} (h : xs[i]? = some a) : xs.set i a = xs := set_self h
end
/-! ### dicts as sets -/
theorem valT_putT {ρ : Type} {kvs : List (Key × ρ)} {k j : Key} {v : ρ} : (valT (putT kvs k v) j).isSome = (decide (k = j) || (valT kvs j).isSome) := by
  unfold valT putT
  rw [Option.isSome_map, Option.isSome_map]
  by_cases h : (kvs.any fun kv => decide (kv.1 = k)) = true
  · rw [if_pos h]
    rw [Bool.eq_iff_iff]
    simp only [List.find?_isSome, List.mem_map, Bool.or_eq_true, decide_eq_true_eq]
    obtain ⟨kv, m1, m2⟩ := List.any_eq_true.mp h
    have m2 := of_decide_eq_true m2
    constructor
    · rintro ⟨x, ⟨y, hy, rfl⟩, hx⟩
      by_cases z : y.1 = k
      · rw [if_pos z] at hx
        exact .inl (z ▸ hx)
      · rw [if_neg z] at hx
        exact .inr ⟨y, hy, hx⟩
    · rintro (rfl | ⟨y, hy, hx⟩)
      · exact ⟨_, ⟨kv, m1, rfl⟩, by rw [if_pos m2]; exact m2⟩
      · refine ⟨_, ⟨y, hy, rfl⟩, ?_⟩
        by_cases z : y.1 = k
        · rw [if_pos z]
          exact hx
        · rw [if_neg z]
          exact hx
  · rw [if_neg h, List.find?_append]
    cases h1 : (kvs.find? fun kv => decide (kv.1 = j)) with
    | some _ => simp
    | none => by_cases z : k = j <;> simp [z]
theorem dcM_set {xs : List Int} : ∀ {acc : List (Key × Bool)}, ∃ d, dcM (fun _ => some true) (fun x => some (.inl x)) (fun _ => some true) acc xs = some d ∧ ∀ x : Int, (valT d (.inl x)).isSome = ((valT acc (.inl x)).isSome || decide (x ∈ xs)) := by
  induction xs with
  | nil => exact fun {acc} => ⟨acc, rfl, fun x => by simp⟩
  | cons y ys ih =>
    intro acc
    obtain ⟨d, h1, h2⟩ := ih (acc := putT acc (.inl y) true)
    refine ⟨d, h1, fun x => ?_⟩
    rw [h2 x, valT_putT]
    by_cases z : y = x
    · subst z
      simp
    · have z' : ¬ (Sum.inl y : Key) = Sum.inl x := fun q => z (Sum.inl.inj q)
      have z2 : ¬ x = y := fun q => z q.symm
      simp [z', z2]
end Y

set_option Elab.async false
set_option linter.all false
set_option maxRecDepth 100000
set_option synthInstance.maxSize 2000
set_option maxHeartbeats 4000000
namespace K02
open PySem L2 Y
def topS (i : Nat) : Stmt := PySem.Challenge.pw_spikehold_k02_plain_objects.main.body.getD i (.Pass ⟨0, 0, 0, 0⟩)
structure Neuron where
  threshold : Int
  leak : Int
  refractory : Int
  floor : Int
  subtract : Bool
deriving DecidableEq
def ns_Neuron : List Str := ["threshold", "leak", "refractory", "floor", "subtract"]
theorem nd_Neuron : ns_Neuron.Nodup := by decide +kernel
def fNeuron (K : PySem.W.Frag) (c : Neuron) : List Pr := [(pI c.threshold), (pI c.leak), (pI c.refractory), (pI c.floor), (pB c.subtract)]
def rNeuron (K : PySem.W.Frag) (c : Neuron) : Pr := pO (He.ga K "Neuron") ns_Neuron (fNeuron K c)
theorem nl_Neuron (K : PySem.W.Frag) (c : Neuron) : NoL (rNeuron K c) := nl_O (nl_cons ((show ∀ p : Int, NoL (pI p) from fun p => nl_pure pure_I) _) (nl_cons ((show ∀ p : Int, NoL (pI p) from fun p => nl_pure pure_I) _) (nl_cons ((show ∀ p : Int, NoL (pI p) from fun p => nl_pure pure_I) _) (nl_cons ((show ∀ p : Int, NoL (pI p) from fun p => nl_pure pure_I) _) (nl_cons ((show ∀ p : Bool, NoL (pB p) from fun p => nl_pure pure_B) _) nl_nil)))))
theorem nn_Neuron {K : PySem.W.Frag} : NN (rNeuron K) := fun _ _ h => nomatch h.choose_spec.choose_spec.1
structure Synapse where
  source : Int
  target : Int
  weight : Int
  delay : Int
  plastic : Bool
deriving DecidableEq
def ns_Synapse : List Str := ["source", "target", "weight", "delay", "plastic"]
theorem nd_Synapse : ns_Synapse.Nodup := by decide +kernel
def fSynapse (K : PySem.W.Frag) (c : Synapse) : List Pr := [(pI c.source), (pI c.target), (pI c.weight), (pI c.delay), (pB c.plastic)]
def rSynapse (K : PySem.W.Frag) (c : Synapse) : Pr := pO (He.ga K "Synapse") ns_Synapse (fSynapse K c)
theorem nl_Synapse (K : PySem.W.Frag) (c : Synapse) : NoL (rSynapse K c) := nl_O (nl_cons ((show ∀ p : Int, NoL (pI p) from fun p => nl_pure pure_I) _) (nl_cons ((show ∀ p : Int, NoL (pI p) from fun p => nl_pure pure_I) _) (nl_cons ((show ∀ p : Int, NoL (pI p) from fun p => nl_pure pure_I) _) (nl_cons ((show ∀ p : Int, NoL (pI p) from fun p => nl_pure pure_I) _) (nl_cons ((show ∀ p : Bool, NoL (pB p) from fun p => nl_pure pure_B) _) nl_nil)))))
theorem nn_Synapse {K : PySem.W.Frag} : NN (rSynapse K) := fun _ _ h => nomatch h.choose_spec.choose_spec.1
structure Rule where
  gain : Int
  loss : Int
  window : Int
  least : Int
  most : Int
deriving DecidableEq
def ns_Rule : List Str := ["gain", "loss", "window", "least", "most"]
theorem nd_Rule : ns_Rule.Nodup := by decide +kernel
def fRule (K : PySem.W.Frag) (c : Rule) : List Pr := [(pI c.gain), (pI c.loss), (pI c.window), (pI c.least), (pI c.most)]
def rRule (K : PySem.W.Frag) (c : Rule) : Pr := pO (He.ga K "Rule") ns_Rule (fRule K c)
theorem nl_Rule (K : PySem.W.Frag) (c : Rule) : NoL (rRule K c) := nl_O (nl_cons ((show ∀ p : Int, NoL (pI p) from fun p => nl_pure pure_I) _) (nl_cons ((show ∀ p : Int, NoL (pI p) from fun p => nl_pure pure_I) _) (nl_cons ((show ∀ p : Int, NoL (pI p) from fun p => nl_pure pure_I) _) (nl_cons ((show ∀ p : Int, NoL (pI p) from fun p => nl_pure pure_I) _) (nl_cons ((show ∀ p : Int, NoL (pI p) from fun p => nl_pure pure_I) _) nl_nil)))))
theorem nn_Rule {K : PySem.W.Frag} : NN (rRule K) := fun _ _ h => nomatch h.choose_spec.choose_spec.1
structure Network where
  inputs : Int
  neurons : (List Neuron)
  synapses : (List Synapse)
  rule : (Option Rule)
deriving DecidableEq
def ns_Network : List Str := ["inputs", "neurons", "synapses", "rule"]
theorem nd_Network : ns_Network.Nodup := by decide +kernel
def fNetwork (K : PySem.W.Frag) (c : Network) : List Pr := [(pI c.inputs), ((rL (rNeuron K)) c.neurons), ((rL (rSynapse K)) c.synapses), ((pOpt (rRule K)) c.rule)]
def rNetwork (K : PySem.W.Frag) (c : Network) : Pr := pO (He.ga K "Network") ns_Network (fNetwork K c)
def oNetwork (K : PySem.W.Frag) (c : Network) : Ow := oOs (He.ga K "Network") ns_Network [oV (pI c.inputs), (oL (c.neurons.map (rNeuron K))), (oL (c.synapses.map (rSynapse K))), oV ((pOpt (rRule K)) c.rule)]
theorem frz_Network (K : PySem.W.Frag) (c : Network) : Frz (oNetwork K c) (rNetwork K c) := frz_Os (.cons frz_V (.cons frz_L (.cons frz_L (.cons frz_V .nil))))
theorem nlw_Network (K : PySem.W.Frag) (c : Network) : NoLW (oNetwork K c) := nlw_Os (nlw_cons (nlw_V ((show ∀ p : Int, NoL (pI p) from fun p => nl_pure pure_I) _)) (nlw_cons ((fun x => nlw_L (nl_map (nl_Neuron K) x)) _) (nlw_cons ((fun x => nlw_L (nl_map (nl_Synapse K) x)) _) (nlw_cons (nlw_V ((show ∀ p : (Option Rule), NoL ((pOpt (rRule K)) p) from fun p => nl_Opt (nl_Rule K) p) _)) nlw_nil))))
theorem nn_Network {K : PySem.W.Frag} : NN (rNetwork K) := fun _ _ h => nomatch h.choose_spec.choose_spec.1
structure Mesh where
  width : Int
  height : Int
  room : Int
deriving DecidableEq
def ns_Mesh : List Str := ["width", "height", "room"]
theorem nd_Mesh : ns_Mesh.Nodup := by decide +kernel
def fMesh (K : PySem.W.Frag) (c : Mesh) : List Pr := [(pI c.width), (pI c.height), (pI c.room)]
def rMesh (K : PySem.W.Frag) (c : Mesh) : Pr := pO (He.ga K "Mesh") ns_Mesh (fMesh K c)
theorem nl_Mesh (K : PySem.W.Frag) (c : Mesh) : NoL (rMesh K c) := nl_O (nl_cons ((show ∀ p : Int, NoL (pI p) from fun p => nl_pure pure_I) _) (nl_cons ((show ∀ p : Int, NoL (pI p) from fun p => nl_pure pure_I) _) (nl_cons ((show ∀ p : Int, NoL (pI p) from fun p => nl_pure pure_I) _) nl_nil)))
theorem nn_Mesh {K : PySem.W.Frag} : NN (rMesh K) := fun _ _ h => nomatch h.choose_spec.choose_spec.1
structure Chip where
  mesh : Mesh
  slots : Int
  cycles : Int
deriving DecidableEq
def ns_Chip : List Str := ["mesh", "slots", "cycles"]
theorem nd_Chip : ns_Chip.Nodup := by decide +kernel
def fChip (K : PySem.W.Frag) (c : Chip) : List Pr := [((rMesh K) c.mesh), (pI c.slots), (pI c.cycles)]
def rChip (K : PySem.W.Frag) (c : Chip) : Pr := pO (He.ga K "Chip") ns_Chip (fChip K c)
theorem nl_Chip (K : PySem.W.Frag) (c : Chip) : NoL (rChip K c) := nl_O (nl_cons ((nl_Mesh K) _) (nl_cons ((show ∀ p : Int, NoL (pI p) from fun p => nl_pure pure_I) _) (nl_cons ((show ∀ p : Int, NoL (pI p) from fun p => nl_pure pure_I) _) nl_nil)))
theorem nn_Chip {K : PySem.W.Frag} : NN (rChip K) := fun _ _ h => nomatch h.choose_spec.choose_spec.1
structure Mapping where
  homes : (List Int)
  gates : (List Int)
  routes : (List (List Int))
  rows : (List (List (Int × Int × Int × Int × Bool)))
deriving DecidableEq
def ns_Mapping : List Str := ["homes", "gates", "routes", "rows"]
theorem nd_Mapping : ns_Mapping.Nodup := by decide +kernel
def fMapping (K : PySem.W.Frag) (c : Mapping) : List Pr := [((rL pI) c.homes), ((rL pI) c.gates), ((rL (rL pI)) c.routes), ((rL (rL (r5 pI pI pI pI pB))) c.rows)]
def rMapping (K : PySem.W.Frag) (c : Mapping) : Pr := pO (He.ga K "Mapping") ns_Mapping (fMapping K c)
def oMapping (K : PySem.W.Frag) (c : Mapping) : Ow := oOs (He.ga K "Mapping") ns_Mapping [(oL (c.homes.map pI)), (oL (c.gates.map pI)), (oLs (c.routes.map (fun x => (oL (x.map pI))))), (oLs (c.rows.map (fun x => (oL (x.map (r5 pI pI pI pI pB))))))]
theorem frz_Mapping (K : PySem.W.Frag) (c : Mapping) : Frz (oMapping K c) (rMapping K c) := frz_Os (.cons frz_L (.cons frz_L (.cons (frz_Ls (frzA_map (o := (fun x => (oL (x.map pI)))) (r := (rL pI)) (fun _ => frz_L) _)) (.cons (frz_Ls (frzA_map (o := (fun x => (oL (x.map (r5 pI pI pI pI pB))))) (r := (rL (r5 pI pI pI pI pB))) (fun _ => frz_L) _)) .nil))))
theorem nlw_Mapping (K : PySem.W.Frag) (c : Mapping) : NoLW (oMapping K c) := nlw_Os (nlw_cons ((fun x => nlw_L (nl_map (show ∀ p : Int, NoL (pI p) from fun p => nl_pure pure_I) x)) _) (nlw_cons ((fun x => nlw_L (nl_map (show ∀ p : Int, NoL (pI p) from fun p => nl_pure pure_I) x)) _) (nlw_cons ((fun x => nlw_Ls (nlw_map (fun x => nlw_L (nl_map (show ∀ p : Int, NoL (pI p) from fun p => nl_pure pure_I) x)) x)) _) (nlw_cons ((fun x => nlw_Ls (nlw_map (fun x => nlw_L (nl_map (show ∀ p : (Int × Int × Int × Int × Bool), NoL ((r5 pI pI pI pI pB) p) from fun p => nl_T (nl_cons ((show ∀ p : Int, NoL (pI p) from fun p => nl_pure pure_I) p.1) (nl_cons ((show ∀ p : Int, NoL (pI p) from fun p => nl_pure pure_I) p.2.1) (nl_cons ((show ∀ p : Int, NoL (pI p) from fun p => nl_pure pure_I) p.2.2.1) (nl_cons ((show ∀ p : Int, NoL (pI p) from fun p => nl_pure pure_I) p.2.2.2.1) (nl_cons ((show ∀ p : Bool, NoL (pB p) from fun p => nl_pure pure_B) p.2.2.2.2) nl_nil)))))) x)) x)) _) nlw_nil))))
theorem nn_Mapping {K : PySem.W.Frag} : NN (rMapping K) := fun _ _ h => nomatch h.choose_spec.choose_spec.1
inductive XK where
  | SpikeholdError
  | TooSmall
  | InvalidLine
deriving DecidableEq
def xcl (K : PySem.W.Frag) : XK → Addr
  | .SpikeholdError => He.ga K "SpikeholdError"
  | .TooSmall => He.ga K "TooSmall"
  | .InvalidLine => He.ga K "InvalidLine"
abbrev rXE (K : PySem.W.Frag) (p : XK × Int) : Pr := pX1 K "place" (xcl K p.1) (pI p.2)
abbrev st_Neuron__init : Stmt := inClass (topS 1) 0
abbrev st_Neuron__eq : Stmt := inClass (topS 1) 1
abbrev st_Synapse__init : Stmt := inClass (topS 3) 0
abbrev st_Rule__init : Stmt := inClass (topS 4) 0
abbrev st_Network__init : Stmt := inClass (topS 5) 0
abbrev st_Network_sources : Stmt := inClass (topS 5) 2
abbrev st_depressed : Stmt := topS 6
abbrev st_potentiated : Stmt := topS 7
abbrev st_SpikeholdError__init : Stmt := inClass (topS 9) 0
abbrev st_Mesh__init : Stmt := inClass (topS 13) 0
abbrev st_Mesh_cores : Stmt := inClass (topS 13) 2
abbrev st_Chip__init : Stmt := inClass (topS 15) 0
abbrev st_Mapping__init : Stmt := inClass (topS 16) 0
abbrev st_row_of : Stmt := topS 17
abbrev st_u_law_cell : Stmt := topS 19
abbrev st_Synapse__eq : Stmt := inClass (topS 3) 1
abbrev st_Rule__eq : Stmt := inClass (topS 4) 1
abbrev st_Network__eq : Stmt := inClass (topS 5) 1
abbrev st_Mesh__eq : Stmt := inClass (topS 13) 1
abbrev st_Chip__eq : Stmt := inClass (topS 15) 1
abbrev st_Mapping__eq : Stmt := inClass (topS 16) 1
abbrev st_u_law_synapses : Stmt := topS 20
abbrev st_u_law_rules : Stmt := topS 21
abbrev st_u_law_lists : Stmt := topS 22
abbrev st_u_law_mappings : Stmt := topS 23
abbrev st_law : Stmt := topS 24
structure Fds where
  Neuron__init : FuncData
  Neuron__eq : FuncData
  Synapse__init : FuncData
  Rule__init : FuncData
  Network__init : FuncData
  Network_sources : FuncData
  depressed : FuncData
  potentiated : FuncData
  SpikeholdError__init : FuncData
  Mesh__init : FuncData
  Mesh_cores : FuncData
  Chip__init : FuncData
  Mapping__init : FuncData
  row_of : FuncData
  u_law_cell : FuncData
  Synapse__eq : FuncData
  Rule__eq : FuncData
  Network__eq : FuncData
  Mesh__eq : FuncData
  Chip__eq : FuncData
  Mapping__eq : FuncData
  u_law_synapses : FuncData
  u_law_rules : FuncData
  u_law_lists : FuncData
  u_law_mappings : FuncData
  law : FuncData
structure Txt (P : Program) (w : World) (K : PySem.W.Frag) (mg : Str → Option Value) (base : Heap) (D : Fds) : Prop where
  F_Neuron__init : FunD K "__init__" "Neuron.__init__" (defArgs st_Neuron__init) (defBody st_Neuron__init) (defScope st_Neuron__init) [] [("leak", .int 0), ("refractory", .int 0), ("floor", .int 0), ("subtract", .bl false)] (He.fAd K ("Neuron", some "__init__")) D.Neuron__init
  F_Neuron__eq : FunD K "__eq__" "Neuron.__eq__" (defArgs st_Neuron__eq) (defBody st_Neuron__eq) (defScope st_Neuron__eq) [] [] (He.fAd K ("Neuron", some "__eq__")) D.Neuron__eq
  b_Neuron__eq : Binds K D.Neuron__eq ["self", "other"] []
  e_Neuron : PySem.W.findIn K (.ref (He.ga K "Neuron")) "__eq__" = some (some (.ref (He.fAd K ("Neuron", some "__eq__")))) ∧ PySem.W.isFn K (.ref (He.fAd K ("Neuron", some "__eq__"))) = true
  F_Synapse__init : FunD K "__init__" "Synapse.__init__" (defArgs st_Synapse__init) (defBody st_Synapse__init) (defScope st_Synapse__init) [.bl false] [] (He.fAd K ("Synapse", some "__init__")) D.Synapse__init
  b_Synapse__init : Binds K D.Synapse__init ["self", "source", "target", "weight", "delay", "plastic"] []
  F_Rule__init : FunD K "__init__" "Rule.__init__" (defArgs st_Rule__init) (defBody st_Rule__init) (defScope st_Rule__init) [] [] (He.fAd K ("Rule", some "__init__")) D.Rule__init
  b_Rule__init : Binds K D.Rule__init ["self", "gain", "loss", "window", "least", "most"] []
  F_Network__init : FunD K "__init__" "Network.__init__" (defArgs st_Network__init) (defBody st_Network__init) (defScope st_Network__init) [.non] [] (He.fAd K ("Network", some "__init__")) D.Network__init
  b_Network__init : Binds K D.Network__init ["self", "inputs", "neurons", "synapses", "rule"] []
  F_Network_sources : FunD K "sources" "Network.sources" (defArgs st_Network_sources) (defBody st_Network_sources) (defScope st_Network_sources) [] [] (He.fAd K ("Network", some "sources")) D.Network_sources
  b_Network_sources : Binds K D.Network_sources ["self"] []
  m_Network_sources : Meth K (He.ga K "Network") "sources" (He.fAd K ("Network", some "sources"))
  F_depressed : FunD K "depressed" "depressed" (defArgs st_depressed) (defBody st_depressed) (defScope st_depressed) [] [] (He.fAd K ("depressed", none)) D.depressed
  b_depressed : Binds K D.depressed ["rule", "weight"] []
  g_depressed : mg "depressed" = some (.ref (He.fAd K ("depressed", none)))
  F_potentiated : FunD K "potentiated" "potentiated" (defArgs st_potentiated) (defBody st_potentiated) (defScope st_potentiated) [] [] (He.fAd K ("potentiated", none)) D.potentiated
  b_potentiated : Binds K D.potentiated ["rule", "weight"] []
  g_potentiated : mg "potentiated" = some (.ref (He.fAd K ("potentiated", none)))
  F_SpikeholdError__init : FunD K "__init__" "SpikeholdError.__init__" (defArgs st_SpikeholdError__init) (defBody st_SpikeholdError__init) (defScope st_SpikeholdError__init) [] [] (He.fAd K ("SpikeholdError", some "__init__")) D.SpikeholdError__init
  b_SpikeholdError__init : Binds K D.SpikeholdError__init ["self", "place"] []
  F_Mesh__init : FunD K "__init__" "Mesh.__init__" (defArgs st_Mesh__init) (defBody st_Mesh__init) (defScope st_Mesh__init) [] [] (He.fAd K ("Mesh", some "__init__")) D.Mesh__init
  b_Mesh__init : Binds K D.Mesh__init ["self", "width", "height", "room"] []
  F_Mesh_cores : FunD K "cores" "Mesh.cores" (defArgs st_Mesh_cores) (defBody st_Mesh_cores) (defScope st_Mesh_cores) [] [] (He.fAd K ("Mesh", some "cores")) D.Mesh_cores
  b_Mesh_cores : Binds K D.Mesh_cores ["self"] []
  m_Mesh_cores : Meth K (He.ga K "Mesh") "cores" (He.fAd K ("Mesh", some "cores"))
  F_Chip__init : FunD K "__init__" "Chip.__init__" (defArgs st_Chip__init) (defBody st_Chip__init) (defScope st_Chip__init) [] [] (He.fAd K ("Chip", some "__init__")) D.Chip__init
  b_Chip__init : Binds K D.Chip__init ["self", "mesh", "slots", "cycles"] []
  F_Mapping__init : FunD K "__init__" "Mapping.__init__" (defArgs st_Mapping__init) (defBody st_Mapping__init) (defScope st_Mapping__init) [] [] (He.fAd K ("Mapping", some "__init__")) D.Mapping__init
  b_Mapping__init : Binds K D.Mapping__init ["self", "homes", "gates", "routes", "rows"] []
  F_row_of : FunD K "row_of" "row_of" (defArgs st_row_of) (defBody st_row_of) (defScope st_row_of) [] [] (He.fAd K ("row_of", none)) D.row_of
  b_row_of : Binds K D.row_of ["synapse"] []
  g_row_of : mg "row_of" = some (.ref (He.fAd K ("row_of", none)))
  F_u_law_cell : FunD K "_law_cell" "_law_cell" (defArgs st_u_law_cell) (defBody st_u_law_cell) (defScope st_u_law_cell) [] [] (He.fAd K ("_law_cell", none)) D.u_law_cell
  b_u_law_cell : Binds K D.u_law_cell ["script", "k"] []
  g_u_law_cell : mg "_law_cell" = some (.ref (He.fAd K ("_law_cell", none)))
  F_Synapse__eq : FunD K "__eq__" "Synapse.__eq__" (defArgs st_Synapse__eq) (defBody st_Synapse__eq) (defScope st_Synapse__eq) [] [] (He.fAd K ("Synapse", some "__eq__")) D.Synapse__eq
  b_Synapse__eq : Binds K D.Synapse__eq ["self", "other"] []
  e_Synapse : PySem.W.findIn K (.ref (He.ga K "Synapse")) "__eq__" = some (some (.ref (He.fAd K ("Synapse", some "__eq__")))) ∧ PySem.W.isFn K (.ref (He.fAd K ("Synapse", some "__eq__"))) = true
  F_Rule__eq : FunD K "__eq__" "Rule.__eq__" (defArgs st_Rule__eq) (defBody st_Rule__eq) (defScope st_Rule__eq) [] [] (He.fAd K ("Rule", some "__eq__")) D.Rule__eq
  b_Rule__eq : Binds K D.Rule__eq ["self", "other"] []
  e_Rule : PySem.W.findIn K (.ref (He.ga K "Rule")) "__eq__" = some (some (.ref (He.fAd K ("Rule", some "__eq__")))) ∧ PySem.W.isFn K (.ref (He.fAd K ("Rule", some "__eq__"))) = true
  F_Network__eq : FunD K "__eq__" "Network.__eq__" (defArgs st_Network__eq) (defBody st_Network__eq) (defScope st_Network__eq) [] [] (He.fAd K ("Network", some "__eq__")) D.Network__eq
  b_Network__eq : Binds K D.Network__eq ["self", "other"] []
  e_Network : PySem.W.findIn K (.ref (He.ga K "Network")) "__eq__" = some (some (.ref (He.fAd K ("Network", some "__eq__")))) ∧ PySem.W.isFn K (.ref (He.fAd K ("Network", some "__eq__"))) = true
  F_Mesh__eq : FunD K "__eq__" "Mesh.__eq__" (defArgs st_Mesh__eq) (defBody st_Mesh__eq) (defScope st_Mesh__eq) [] [] (He.fAd K ("Mesh", some "__eq__")) D.Mesh__eq
  b_Mesh__eq : Binds K D.Mesh__eq ["self", "other"] []
  e_Mesh : PySem.W.findIn K (.ref (He.ga K "Mesh")) "__eq__" = some (some (.ref (He.fAd K ("Mesh", some "__eq__")))) ∧ PySem.W.isFn K (.ref (He.fAd K ("Mesh", some "__eq__"))) = true
  F_Chip__eq : FunD K "__eq__" "Chip.__eq__" (defArgs st_Chip__eq) (defBody st_Chip__eq) (defScope st_Chip__eq) [] [] (He.fAd K ("Chip", some "__eq__")) D.Chip__eq
  b_Chip__eq : Binds K D.Chip__eq ["self", "other"] []
  e_Chip : PySem.W.findIn K (.ref (He.ga K "Chip")) "__eq__" = some (some (.ref (He.fAd K ("Chip", some "__eq__")))) ∧ PySem.W.isFn K (.ref (He.fAd K ("Chip", some "__eq__"))) = true
  F_Mapping__eq : FunD K "__eq__" "Mapping.__eq__" (defArgs st_Mapping__eq) (defBody st_Mapping__eq) (defScope st_Mapping__eq) [] [] (He.fAd K ("Mapping", some "__eq__")) D.Mapping__eq
  b_Mapping__eq : Binds K D.Mapping__eq ["self", "other"] []
  e_Mapping : PySem.W.findIn K (.ref (He.ga K "Mapping")) "__eq__" = some (some (.ref (He.fAd K ("Mapping", some "__eq__")))) ∧ PySem.W.isFn K (.ref (He.fAd K ("Mapping", some "__eq__"))) = true
  F_u_law_synapses : FunD K "_law_synapses" "_law_synapses" (defArgs st_u_law_synapses) (defBody st_u_law_synapses) (defScope st_u_law_synapses) [] [] (He.fAd K ("_law_synapses", none)) D.u_law_synapses
  b_u_law_synapses : Binds K D.u_law_synapses ["script"] []
  g_u_law_synapses : mg "_law_synapses" = some (.ref (He.fAd K ("_law_synapses", none)))
  F_u_law_rules : FunD K "_law_rules" "_law_rules" (defArgs st_u_law_rules) (defBody st_u_law_rules) (defScope st_u_law_rules) [] [] (He.fAd K ("_law_rules", none)) D.u_law_rules
  b_u_law_rules : Binds K D.u_law_rules ["script"] []
  g_u_law_rules : mg "_law_rules" = some (.ref (He.fAd K ("_law_rules", none)))
  F_u_law_lists : FunD K "_law_lists" "_law_lists" (defArgs st_u_law_lists) (defBody st_u_law_lists) (defScope st_u_law_lists) [] [] (He.fAd K ("_law_lists", none)) D.u_law_lists
  b_u_law_lists : Binds K D.u_law_lists ["script"] []
  g_u_law_lists : mg "_law_lists" = some (.ref (He.fAd K ("_law_lists", none)))
  F_u_law_mappings : FunD K "_law_mappings" "_law_mappings" (defArgs st_u_law_mappings) (defBody st_u_law_mappings) (defScope st_u_law_mappings) [] [] (He.fAd K ("_law_mappings", none)) D.u_law_mappings
  b_u_law_mappings : Binds K D.u_law_mappings ["script"] []
  g_u_law_mappings : mg "_law_mappings" = some (.ref (He.fAd K ("_law_mappings", none)))
  F_law : FunD K "law" "law" (defArgs st_law) (defBody st_law) (defScope st_law) [] [] (He.fAd K ("law", none)) D.law
  b_law : Binds K D.law ["script"] []
  g_law : mg "law" = some (.ref (He.fAd K ("law", none)))
  g_Neuron : mg "Neuron" = some (.ref (He.ga K "Neuron"))
  c_Neuron : Cls K (He.ga K "Neuron")
  n_Neuron_threshold : NoAttr K (He.ga K "Neuron") "threshold"
  n_Neuron_leak : NoAttr K (He.ga K "Neuron") "leak"
  n_Neuron_refractory : NoAttr K (He.ga K "Neuron") "refractory"
  n_Neuron_floor : NoAttr K (He.ga K "Neuron") "floor"
  n_Neuron_subtract : NoAttr K (He.ga K "Neuron") "subtract"
  k_Neuron : Mk K (He.ga K "Neuron") (He.fAd K ("Neuron", some "__init__"))
  i_Neuron : ClsI K (He.ga K "Neuron")
  g_Synapse : mg "Synapse" = some (.ref (He.ga K "Synapse"))
  c_Synapse : Cls K (He.ga K "Synapse")
  n_Synapse_source : NoAttr K (He.ga K "Synapse") "source"
  n_Synapse_target : NoAttr K (He.ga K "Synapse") "target"
  n_Synapse_weight : NoAttr K (He.ga K "Synapse") "weight"
  n_Synapse_delay : NoAttr K (He.ga K "Synapse") "delay"
  n_Synapse_plastic : NoAttr K (He.ga K "Synapse") "plastic"
  k_Synapse : Mk K (He.ga K "Synapse") (He.fAd K ("Synapse", some "__init__"))
  i_Synapse : ClsI K (He.ga K "Synapse")
  g_Rule : mg "Rule" = some (.ref (He.ga K "Rule"))
  c_Rule : Cls K (He.ga K "Rule")
  n_Rule_gain : NoAttr K (He.ga K "Rule") "gain"
  n_Rule_loss : NoAttr K (He.ga K "Rule") "loss"
  n_Rule_window : NoAttr K (He.ga K "Rule") "window"
  n_Rule_least : NoAttr K (He.ga K "Rule") "least"
  n_Rule_most : NoAttr K (He.ga K "Rule") "most"
  k_Rule : Mk K (He.ga K "Rule") (He.fAd K ("Rule", some "__init__"))
  i_Rule : ClsI K (He.ga K "Rule")
  g_Network : mg "Network" = some (.ref (He.ga K "Network"))
  c_Network : Cls K (He.ga K "Network")
  n_Network_inputs : NoAttr K (He.ga K "Network") "inputs"
  n_Network_neurons : NoAttr K (He.ga K "Network") "neurons"
  n_Network_synapses : NoAttr K (He.ga K "Network") "synapses"
  n_Network_rule : NoAttr K (He.ga K "Network") "rule"
  k_Network : Mk K (He.ga K "Network") (He.fAd K ("Network", some "__init__"))
  i_Network : ClsI K (He.ga K "Network")
  g_Mesh : mg "Mesh" = some (.ref (He.ga K "Mesh"))
  c_Mesh : Cls K (He.ga K "Mesh")
  n_Mesh_width : NoAttr K (He.ga K "Mesh") "width"
  n_Mesh_height : NoAttr K (He.ga K "Mesh") "height"
  n_Mesh_room : NoAttr K (He.ga K "Mesh") "room"
  k_Mesh : Mk K (He.ga K "Mesh") (He.fAd K ("Mesh", some "__init__"))
  i_Mesh : ClsI K (He.ga K "Mesh")
  g_Chip : mg "Chip" = some (.ref (He.ga K "Chip"))
  c_Chip : Cls K (He.ga K "Chip")
  n_Chip_mesh : NoAttr K (He.ga K "Chip") "mesh"
  n_Chip_slots : NoAttr K (He.ga K "Chip") "slots"
  n_Chip_cycles : NoAttr K (He.ga K "Chip") "cycles"
  k_Chip : Mk K (He.ga K "Chip") (He.fAd K ("Chip", some "__init__"))
  i_Chip : ClsI K (He.ga K "Chip")
  g_Mapping : mg "Mapping" = some (.ref (He.ga K "Mapping"))
  c_Mapping : Cls K (He.ga K "Mapping")
  n_Mapping_homes : NoAttr K (He.ga K "Mapping") "homes"
  n_Mapping_gates : NoAttr K (He.ga K "Mapping") "gates"
  n_Mapping_routes : NoAttr K (He.ga K "Mapping") "routes"
  n_Mapping_rows : NoAttr K (He.ga K "Mapping") "rows"
  k_Mapping : Mk K (He.ga K "Mapping") (He.fAd K ("Mapping", some "__init__"))
  i_Mapping : ClsI K (He.ga K "Mapping")
  g_SpikeholdError : mg "SpikeholdError" = some (.ref (He.ga K "SpikeholdError"))
  x_SpikeholdError : XCls K "place" (He.ga K "SpikeholdError")
  xi_SpikeholdError : PySem.W.findIn K (.ref (He.ga K "SpikeholdError")) "__init__" = some (some (.ref (He.fAd K ("SpikeholdError", some "__init__"))))
  g_TooSmall : mg "TooSmall" = some (.ref (He.ga K "TooSmall"))
  x_TooSmall : XCls K "place" (He.ga K "TooSmall")
  xi_TooSmall : PySem.W.findIn K (.ref (He.ga K "TooSmall")) "__init__" = some (some (.ref (He.fAd K ("SpikeholdError", some "__init__"))))
  g_InvalidLine : mg "InvalidLine" = some (.ref (He.ga K "InvalidLine"))
  x_InvalidLine : XCls K "place" (He.ga K "InvalidLine")
  xi_InvalidLine : PySem.W.findIn K (.ref (He.ga K "InvalidLine")) "__init__" = some (some (.ref (He.fAd K ("SpikeholdError", some "__init__"))))
  xt : PySem.W.typeIn K (.ref (He.fAd K ("SpikeholdError", some "__init__"))) = some (.type "function")
  vV : PySem.W.findCls K (.type "ValueError") (.type "type") "__init__" = some (.val (.builtin "ValueError.__init__"))
  z_ValueError : mg "ValueError" = none
  z_int : mg "int" = none
  z_isinstance : mg "isinstance" = none
  z_len : mg "len" = none
  z_list : mg "list" = none
  z_max : mg "max" = none
  z_min : mg "min" = none
  ki_Neuron_Neuron : PySem.W.kitOne K (.ref (He.ga K "Neuron")) (.ref (He.ga K "Neuron")) = some true
  ki_Synapse_Synapse : PySem.W.kitOne K (.ref (He.ga K "Synapse")) (.ref (He.ga K "Synapse")) = some true
  ki_Rule_Rule : PySem.W.kitOne K (.ref (He.ga K "Rule")) (.ref (He.ga K "Rule")) = some true
  ki_Network_Network : PySem.W.kitOne K (.ref (He.ga K "Network")) (.ref (He.ga K "Network")) = some true
  nf_Rule_NoneType : PySem.W.notFirst K (He.ga K "Rule") (.type "NoneType") = true
  ki_NoneType_Rule : PySem.W.kitOne K (.type "NoneType") (.ref (He.ga K "Rule")) = some false
  sn_Rule : PySem.W.subIn K (.ref (He.ga K "Rule")) (.type "NoneType") = some false
  ki_Mesh_Mesh : PySem.W.kitOne K (.ref (He.ga K "Mesh")) (.ref (He.ga K "Mesh")) = some true
  ki_hip_Chip : PySem.W.kitOne K (.ref (He.ga K "Chip")) (.ref (He.ga K "Chip")) = some true
  ki_Mapping_Mapping : PySem.W.kitOne K (.ref (He.ga K "Mapping")) (.ref (He.ga K "Mapping")) = some true
  nf_Synapse_list : PySem.W.notFirst K (He.ga K "Synapse") (.type "list") = true
  ki_list_Synapse : PySem.W.kitOne K (.type "list") (.ref (He.ga K "Synapse")) = some false
  nf_Rule_int : PySem.W.notFirst K (He.ga K "Rule") (.type "int") = true
  ki_int_Rule : PySem.W.kitOne K (.type "int") (.ref (He.ga K "Rule")) = some false
  nf_Network_list : PySem.W.notFirst K (He.ga K "Network") (.type "list") = true
  ki_list_Network : PySem.W.kitOne K (.type "list") (.ref (He.ga K "Network")) = some false
  nf_Mesh_int : PySem.W.notFirst K (He.ga K "Mesh") (.type "int") = true
  ki_int_Mesh : PySem.W.kitOne K (.type "int") (.ref (He.ga K "Mesh")) = some false
  kiX_SpikeholdError : ∀ k : XK, PySem.W.kitOne K (.ref (xcl K k)) (.ref (He.ga K "SpikeholdError")) = some true
  ki_Chip_Chip : PySem.W.kitOne K (.ref (He.ga K "Chip")) (.ref (He.ga K "Chip")) = some true
  d_Synapse__init_4 : ∃ ds, Vals [V.bl false] ds ∧ Binds K D.Synapse__init ["self", "source", "target", "weight", "delay", "plastic"] ds
  d_Neuron__init_1 : ∃ ds, Vals [V.int 0, V.int 0, V.int 0, V.bl false] ds ∧ Binds K D.Neuron__init ["self", "threshold", "leak", "refractory", "floor", "subtract"] ds
  d_Network__init_3 : ∃ ds, Vals [V.non] ds ∧ Binds K D.Network__init ["self", "inputs", "neurons", "synapses", "rule"] ds

section
variable {P : Program} {w : World} {K : PySem.W.Frag} {mg : Str → Option Value} {base : Heap} {D : Fds}
def m_Neuron__init (threshold : Int) (leak : Int) (refractory : Int) (floor : Int) (subtract : Bool) : Option Neuron :=
  some (⟨threshold, leak, refractory, floor, subtract⟩ : Neuron)
def R_Neuron__init (K : PySem.W.Frag) : List Pr → List Pr → Prop := fun Ps Qs => ∃ (threshold : Int) (leak : Int) (refractory : Int) (floor : Int) (subtract : Bool) (c : Neuron), Ps = [(pI threshold), (pI leak), (pI refractory), (pI floor), (pB subtract)] ∧ Qs = [(pI c.threshold), (pI c.leak), (pI c.refractory), (pI c.floor), (pB c.subtract)] ∧ m_Neuron__init threshold leak refractory floor subtract = some c
theorem sc_Neuron__init : FnScope ["self", "threshold", "leak", "refractory", "floor", "subtract"] ["self", "threshold", "leak", "refractory", "floor", "subtract"] (defScope st_Neuron__init) := ⟨rfl, rfl, rfl, by decide +kernel, rfl, by decide +kernel, by decide +kernel⟩
theorem ok_Neuron__init (T : Txt P w K mg base D) : FnOk P w K mg base CX0 1 (He.fAd K ("Neuron", some "__init__")) D.Neuron__init ["self", "threshold", "leak", "refractory", "floor", "subtract"] (spI (He.ga K "Neuron") ns_Neuron (R_Neuron__init K)) := by
  refine fn_I T.F_Neuron__init sc_Neuron__init (by rintro _ _ ⟨threshold, leak, refractory, floor, subtract, c, rfl, rfl, _⟩; rfl) (by decide) fun cdv A outer s H E hr => ⟨_, (pss_cons (ps_fld (pv 0) (pv 1) rfl)
      (pss_cons (ps_fld (pv 0) (pv 2) rfl)
      (pss_cons (ps_fld (pv 0) (pv 3) rfl)
      (pss_cons (ps_fld (pv 0) (pv 4) rfl)
      (pss_one (ps_fld (pv 0) (pv 5) rfl)))))), ?_⟩
  rintro z _ _ ⟨threshold, leak, refractory, floor, subtract, c, rfl, rfl, h⟩
  unfold m_Neuron__init at h
  have h := Option.some.inj h
  subst h
  exact ⟨_, (s_seq (Γ1 := [.own (oS z (He.ga K "Neuron") ["threshold"] [(pI threshold)]), .val (pI threshold), .val (pI leak), .val (pI refractory), .val (pI floor), .val (pB subtract)]) (s_setFc T.c_Neuron T.n_Neuron_threshold (i := 0) rfl (by decide +kernel) rfl (Nat.le_of_ble_eq_true rfl) (e_to (P' := (pI threshold)) (e_var rfl) rfl) rfl)
    (s_seq (Γ1 := [.own (oS z (He.ga K "Neuron") ["threshold", "leak"] [(pI threshold), (pI leak)]), .val (pI threshold), .val (pI leak), .val (pI refractory), .val (pI floor), .val (pB subtract)]) (s_setFc T.c_Neuron T.n_Neuron_leak (i := 0) rfl (by decide +kernel) rfl (Nat.le_of_ble_eq_true rfl) (e_to (P' := (pI leak)) (e_var rfl) rfl) rfl)
    (s_seq (Γ1 := [.own (oS z (He.ga K "Neuron") ["threshold", "leak", "refractory"] [(pI threshold), (pI leak), (pI refractory)]), .val (pI threshold), .val (pI leak), .val (pI refractory), .val (pI floor), .val (pB subtract)]) (s_setFc T.c_Neuron T.n_Neuron_refractory (i := 0) rfl (by decide +kernel) rfl (Nat.le_of_ble_eq_true rfl) (e_to (P' := (pI refractory)) (e_var rfl) rfl) rfl)
    (s_seq (Γ1 := [.own (oS z (He.ga K "Neuron") ["threshold", "leak", "refractory", "floor"] [(pI threshold), (pI leak), (pI refractory), (pI floor)]), .val (pI threshold), .val (pI leak), .val (pI refractory), .val (pI floor), .val (pB subtract)]) (s_setFc T.c_Neuron T.n_Neuron_floor (i := 0) rfl (by decide +kernel) rfl (Nat.le_of_ble_eq_true rfl) (e_to (P' := (pI floor)) (e_var rfl) rfl) rfl)
    (s_at [.own (oS z (He.ga K "Neuron") ["threshold", "leak", "refractory", "floor", "subtract"] [(pI threshold), (pI leak), (pI refractory), (pI floor), (pB subtract)]), .val (pI threshold), .val (pI leak), .val (pI refractory), .val (pI floor), .val (pB subtract)] (s_setFc T.c_Neuron T.n_Neuron_subtract (i := 0) rfl (by decide +kernel) rfl (Nat.le_of_ble_eq_true rfl) (e_to (P' := (pB subtract)) (e_var rfl) rfl) rfl)))))), rfl⟩

def m_Neuron__eq (a b : Neuron) : Option Bool :=
  some (true && ((decide (a.threshold = b.threshold)) && ((decide (a.leak = b.leak)) && ((decide (a.refractory = b.refractory)) && ((decide (a.floor = b.floor)) && (a.subtract == b.subtract))))))
theorem refl_Neuron (c : Neuron) : m_Neuron__eq c c = some true := by
  unfold m_Neuron__eq
  simp
def R_Neuron__eq (K : PySem.W.Frag) : List Pr → Pr → Prop := fun Ps Q => (∃ (a b : Neuron) (r : Bool), Ps = [rNeuron K a, rNeuron K b] ∧ Q = pB r ∧ m_Neuron__eq a b = some r) ∨ ∃ (a : Neuron) (P1 : Pr) (t : Value), Ps = [rNeuron K a, P1] ∧ Q = pB false ∧ TyP K P1 t ∧ PySem.W.kitOne K t (.ref (He.ga K "Neuron")) = some false
theorem sc_Neuron__eq : FnScope ["self", "other"] ["self", "other"] (defScope st_Neuron__eq) := ⟨rfl, rfl, rfl, by decide +kernel, rfl, by decide +kernel, by decide +kernel⟩
theorem ok_Neuron__eq (T : Txt P w K mg base D) : FnOk P w K mg base CX0 1 (He.fAd K ("Neuron", some "__eq__")) D.Neuron__eq ["self", "other"] (spR (R_Neuron__eq K)) := by
  refine fn_R T.F_Neuron__eq sc_Neuron__eq (by rintro _ _ (⟨_, _, _, rfl, _⟩ | ⟨_, _, _, rfl, _⟩) <;> rfl) (by decide) fun cdv A outer s H E hr => ⟨_, (pss_one (ps_ret (pe_and (pe_callB (isiK (K := K) rfl) (by rfl) T.z_isinstance (by decide +kernel) (pa_cons (pv 1) (pa_cons (pe_glob (v := .ref (He.ga K "Neuron")) rfl T.g_Neuron rfl) pa_nil))) (pe_and (pe_cmpR op_eq (pe_fldK (K := K) rfl (pv 0) rfl) (pe_fldK (K := K) rfl (pv 1) rfl) (nomark _)) (pe_and (pe_cmpR op_eq (pe_fldK (K := K) rfl (pv 0) rfl) (pe_fldK (K := K) rfl (pv 1) rfl) (nomark _)) (pe_and (pe_cmpR op_eq (pe_fldK (K := K) rfl (pv 0) rfl) (pe_fldK (K := K) rfl (pv 1) rfl) (nomark _)) (pe_and (pe_cmpR op_eq (pe_fldK (K := K) rfl (pv 0) rfl) (pe_fldK (K := K) rfl (pv 1) rfl) (nomark _)) (pe_one (pe_cmpR op_eq (pe_fldK (K := K) rfl (pv 0) rfl) (pe_fldK (K := K) rfl (pv 1) rfl) (nomark _)))))))))), ?_⟩
  rintro _ _ (⟨a, b, r, rfl, rfl, h⟩ | ⟨a, P1, t, rfl, rfl, ht, hk⟩)
  · unfold m_Neuron__eq at h
    refine s_from (Γ' := [.val ((rNeuron K) a), .val ((rNeuron K) b)]) ?_ rfl
    have h := Option.some.inj h
    subst h
    exact s_ret (e_to (P' := pB (true && ((decide (a.threshold = b.threshold)) && ((decide (a.leak = b.leak)) && ((decide (a.refractory = b.refractory)) && ((decide (a.floor = b.floor)) && (a.subtract == b.subtract))))))) (e_and (e_isi (e_var rfl) (ty_O T.c_Neuron T.i_Neuron) (.own _) T.ki_Neuron_Neuron) (fun _ => (e_and (e_op rr_eqI (e_fld T.c_Neuron T.n_Neuron_threshold nd_Neuron (i := 0) rfl rfl (e_var rfl)) (e_fld T.c_Neuron T.n_Neuron_threshold nd_Neuron (i := 0) rfl rfl (e_var rfl))) (fun _ => (e_and (e_op rr_eqI (e_fld T.c_Neuron T.n_Neuron_leak nd_Neuron (i := 1) rfl rfl (e_var rfl)) (e_fld T.c_Neuron T.n_Neuron_leak nd_Neuron (i := 1) rfl rfl (e_var rfl))) (fun _ => (e_and (e_op rr_eqI (e_fld T.c_Neuron T.n_Neuron_refractory nd_Neuron (i := 2) rfl rfl (e_var rfl)) (e_fld T.c_Neuron T.n_Neuron_refractory nd_Neuron (i := 2) rfl rfl (e_var rfl))) (fun _ => (e_and (e_op rr_eqI (e_fld T.c_Neuron T.n_Neuron_floor nd_Neuron (i := 3) rfl rfl (e_var rfl)) (e_fld T.c_Neuron T.n_Neuron_floor nd_Neuron (i := 3) rfl rfl (e_var rfl))) (fun _ => (e_op rr_eqB (e_fld T.c_Neuron T.n_Neuron_subtract nd_Neuron (i := 4) rfl rfl (e_var rfl)) (e_fld T.c_Neuron T.n_Neuron_subtract nd_Neuron (i := 4) rfl rfl (e_var rfl)))) rfl)) rfl)) rfl)) rfl)) rfl) rfl)
  · refine s_from (Γ' := [.val (rNeuron K a), .val P1]) ?_ rfl
    exact s_ret (e_and (b := false) (e_isi (e_var rfl) ht (.own _) hk) (fun z => Bool.noConfusion z) rfl)

def m_Synapse__init (source : Int) (target : Int) (weight : Int) (delay : Int) (plastic : Bool) : Option Synapse :=
  some (⟨source, target, weight, delay, plastic⟩ : Synapse)
def R_Synapse__init (K : PySem.W.Frag) : List Pr → List Pr → Prop := fun Ps Qs => ∃ (source : Int) (target : Int) (weight : Int) (delay : Int) (plastic : Bool) (c : Synapse), Ps = [(pI source), (pI target), (pI weight), (pI delay), (pB plastic)] ∧ Qs = [(pI c.source), (pI c.target), (pI c.weight), (pI c.delay), (pB c.plastic)] ∧ m_Synapse__init source target weight delay plastic = some c
theorem sc_Synapse__init : FnScope ["self", "source", "target", "weight", "delay", "plastic"] ["self", "source", "target", "weight", "delay", "plastic"] (defScope st_Synapse__init) := ⟨rfl, rfl, rfl, by decide +kernel, rfl, by decide +kernel, by decide +kernel⟩
theorem ok_Synapse__init (T : Txt P w K mg base D) : FnOk P w K mg base CX0 1 (He.fAd K ("Synapse", some "__init__")) D.Synapse__init ["self", "source", "target", "weight", "delay", "plastic"] (spI (He.ga K "Synapse") ns_Synapse (R_Synapse__init K)) := by
  refine fn_I T.F_Synapse__init sc_Synapse__init (by rintro _ _ ⟨source, target, weight, delay, plastic, c, rfl, rfl, _⟩; rfl) (by decide) fun cdv A outer s H E hr => ⟨_, (pss_cons (ps_fld (pv 0) (pv 1) rfl)
      (pss_cons (ps_fld (pv 0) (pv 2) rfl)
      (pss_cons (ps_fld (pv 0) (pv 3) rfl)
      (pss_cons (ps_fld (pv 0) (pv 4) rfl)
      (pss_one (ps_fld (pv 0) (pv 5) rfl)))))), ?_⟩
  rintro z _ _ ⟨source, target, weight, delay, plastic, c, rfl, rfl, h⟩
  unfold m_Synapse__init at h
  have h := Option.some.inj h
  subst h
  exact ⟨_, (s_seq (Γ1 := [.own (oS z (He.ga K "Synapse") ["source"] [(pI source)]), .val (pI source), .val (pI target), .val (pI weight), .val (pI delay), .val (pB plastic)]) (s_setFc T.c_Synapse T.n_Synapse_source (i := 0) rfl (by decide +kernel) rfl (Nat.le_of_ble_eq_true rfl) (e_to (P' := (pI source)) (e_var rfl) rfl) rfl)
    (s_seq (Γ1 := [.own (oS z (He.ga K "Synapse") ["source", "target"] [(pI source), (pI target)]), .val (pI source), .val (pI target), .val (pI weight), .val (pI delay), .val (pB plastic)]) (s_setFc T.c_Synapse T.n_Synapse_target (i := 0) rfl (by decide +kernel) rfl (Nat.le_of_ble_eq_true rfl) (e_to (P' := (pI target)) (e_var rfl) rfl) rfl)
    (s_seq (Γ1 := [.own (oS z (He.ga K "Synapse") ["source", "target", "weight"] [(pI source), (pI target), (pI weight)]), .val (pI source), .val (pI target), .val (pI weight), .val (pI delay), .val (pB plastic)]) (s_setFc T.c_Synapse T.n_Synapse_weight (i := 0) rfl (by decide +kernel) rfl (Nat.le_of_ble_eq_true rfl) (e_to (P' := (pI weight)) (e_var rfl) rfl) rfl)
    (s_seq (Γ1 := [.own (oS z (He.ga K "Synapse") ["source", "target", "weight", "delay"] [(pI source), (pI target), (pI weight), (pI delay)]), .val (pI source), .val (pI target), .val (pI weight), .val (pI delay), .val (pB plastic)]) (s_setFc T.c_Synapse T.n_Synapse_delay (i := 0) rfl (by decide +kernel) rfl (Nat.le_of_ble_eq_true rfl) (e_to (P' := (pI delay)) (e_var rfl) rfl) rfl)
    (s_at [.own (oS z (He.ga K "Synapse") ["source", "target", "weight", "delay", "plastic"] [(pI source), (pI target), (pI weight), (pI delay), (pB plastic)]), .val (pI source), .val (pI target), .val (pI weight), .val (pI delay), .val (pB plastic)] (s_setFc T.c_Synapse T.n_Synapse_plastic (i := 0) rfl (by decide +kernel) rfl (Nat.le_of_ble_eq_true rfl) (e_to (P' := (pB plastic)) (e_var rfl) rfl) rfl)))))), rfl⟩

def m_Rule__init (gain : Int) (loss : Int) (window : Int) (least : Int) (most : Int) : Option Rule :=
  some (⟨gain, loss, window, least, most⟩ : Rule)
def R_Rule__init (K : PySem.W.Frag) : List Pr → List Pr → Prop := fun Ps Qs => ∃ (gain : Int) (loss : Int) (window : Int) (least : Int) (most : Int) (c : Rule), Ps = [(pI gain), (pI loss), (pI window), (pI least), (pI most)] ∧ Qs = [(pI c.gain), (pI c.loss), (pI c.window), (pI c.least), (pI c.most)] ∧ m_Rule__init gain loss window least most = some c
theorem sc_Rule__init : FnScope ["self", "gain", "loss", "window", "least", "most"] ["self", "gain", "loss", "window", "least", "most"] (defScope st_Rule__init) := ⟨rfl, rfl, rfl, by decide +kernel, rfl, by decide +kernel, by decide +kernel⟩
theorem ok_Rule__init (T : Txt P w K mg base D) : FnOk P w K mg base CX0 1 (He.fAd K ("Rule", some "__init__")) D.Rule__init ["self", "gain", "loss", "window", "least", "most"] (spI (He.ga K "Rule") ns_Rule (R_Rule__init K)) := by
  refine fn_I T.F_Rule__init sc_Rule__init (by rintro _ _ ⟨gain, loss, window, least, most, c, rfl, rfl, _⟩; rfl) (by decide) fun cdv A outer s H E hr => ⟨_, (pss_cons (ps_fld (pv 0) (pv 1) rfl)
      (pss_cons (ps_fld (pv 0) (pv 2) rfl)
      (pss_cons (ps_fld (pv 0) (pv 3) rfl)
      (pss_cons (ps_fld (pv 0) (pv 4) rfl)
      (pss_one (ps_fld (pv 0) (pv 5) rfl)))))), ?_⟩
  rintro z _ _ ⟨gain, loss, window, least, most, c, rfl, rfl, h⟩
  unfold m_Rule__init at h
  have h := Option.some.inj h
  subst h
  exact ⟨_, (s_seq (Γ1 := [.own (oS z (He.ga K "Rule") ["gain"] [(pI gain)]), .val (pI gain), .val (pI loss), .val (pI window), .val (pI least), .val (pI most)]) (s_setFc T.c_Rule T.n_Rule_gain (i := 0) rfl (by decide +kernel) rfl (Nat.le_of_ble_eq_true rfl) (e_to (P' := (pI gain)) (e_var rfl) rfl) rfl)
    (s_seq (Γ1 := [.own (oS z (He.ga K "Rule") ["gain", "loss"] [(pI gain), (pI loss)]), .val (pI gain), .val (pI loss), .val (pI window), .val (pI least), .val (pI most)]) (s_setFc T.c_Rule T.n_Rule_loss (i := 0) rfl (by decide +kernel) rfl (Nat.le_of_ble_eq_true rfl) (e_to (P' := (pI loss)) (e_var rfl) rfl) rfl)
    (s_seq (Γ1 := [.own (oS z (He.ga K "Rule") ["gain", "loss", "window"] [(pI gain), (pI loss), (pI window)]), .val (pI gain), .val (pI loss), .val (pI window), .val (pI least), .val (pI most)]) (s_setFc T.c_Rule T.n_Rule_window (i := 0) rfl (by decide +kernel) rfl (Nat.le_of_ble_eq_true rfl) (e_to (P' := (pI window)) (e_var rfl) rfl) rfl)
    (s_seq (Γ1 := [.own (oS z (He.ga K "Rule") ["gain", "loss", "window", "least"] [(pI gain), (pI loss), (pI window), (pI least)]), .val (pI gain), .val (pI loss), .val (pI window), .val (pI least), .val (pI most)]) (s_setFc T.c_Rule T.n_Rule_least (i := 0) rfl (by decide +kernel) rfl (Nat.le_of_ble_eq_true rfl) (e_to (P' := (pI least)) (e_var rfl) rfl) rfl)
    (s_at [.own (oS z (He.ga K "Rule") ["gain", "loss", "window", "least", "most"] [(pI gain), (pI loss), (pI window), (pI least), (pI most)]), .val (pI gain), .val (pI loss), .val (pI window), .val (pI least), .val (pI most)] (s_setFc T.c_Rule T.n_Rule_most (i := 0) rfl (by decide +kernel) rfl (Nat.le_of_ble_eq_true rfl) (e_to (P' := (pI most)) (e_var rfl) rfl) rfl)))))), rfl⟩

def m_Network__init (inputs : Int) (neurons : (List Neuron)) (synapses : (List Synapse)) (rule : (Option Rule)) : Option Network :=
  some (⟨inputs, neurons, synapses, rule⟩ : Network)
def R_Network__init (K : PySem.W.Frag) : Ow → List Pr → Ow → Pr → Prop := fun U Ps U1 P => ∃ (inputs : Int) (neurons : (List Neuron)) (synapses : (List Synapse)) (rule : (Option Rule)) (c : Network), U = oOs (He.ga K "Network") [] [] ∧ Ps = [(pI inputs), ((rL (rNeuron K)) neurons), ((rL (rSynapse K)) synapses), ((pOpt (rRule K)) rule)] ∧ U1 = (oNetwork K c) ∧ P = pN ∧ m_Network__init inputs neurons synapses rule = some c
theorem sc_Network__init : FnScope ["self", "inputs", "neurons", "synapses", "rule"] ["self", "inputs", "neurons", "synapses", "rule"] (defScope st_Network__init) := ⟨rfl, rfl, rfl, by decide +kernel, rfl, by decide +kernel, by decide +kernel⟩
theorem ok_Network__init (T : Txt P w K mg base D) : FnOk P w K mg base CX0 1 (He.fAd K ("Network", some "__init__")) D.Network__init ["self", "inputs", "neurons", "synapses", "rule"] (spU 0 (R_Network__init K)) := by
  refine fn_U T.F_Network__init sc_Network__init (by rintro _ _ _ _ ⟨inputs, neurons, synapses, rule, c, rfl, rfl, rfl, rfl, _⟩; rfl) (by decide) fun cdv A outer s H E hr => ⟨_, (pss_cons (ps_fld (pv 0) (pv 1) rfl)
      (pss_cons (ps_fld (pv 0) (pe_callTy (list_ofK (K := K) rfl) (by rfl) T.z_list (by decide +kernel) (pa_cons (pv 2) pa_nil)) rfl)
      (pss_cons (ps_fld (pv 0) (pe_callTy (list_ofK (K := K) rfl) (by rfl) T.z_list (by decide +kernel) (pa_cons (pv 3) pa_nil)) rfl)
      (pss_one (ps_fld (pv 0) (pv 4) rfl))))), ?_⟩
  rintro z _ _ _ _ ⟨inputs, neurons, synapses, rule, c, rfl, rfl, rfl, rfl, h⟩
  unfold m_Network__init at h
  refine s_from (Γ' := [.own (oAt z (oOs (He.ga K "Network") [] [])), .val (pI inputs), .val ((rL (rNeuron K)) neurons), .val ((rL (rSynapse K)) synapses), .val ((pOpt (rRule K)) rule)]) ?_ rfl
  have h := Option.some.inj h
  subst h
  exact s_rnN (s_seq (Γ1 := [.own (oAt z (oOs (He.ga K "Network") ["inputs"] [(oV (pI inputs))])), .val (pI inputs), .val ((rL (rNeuron K)) neurons), .val ((rL (rSynapse K)) synapses), .val ((pOpt (rRule K)) rule)]) (s_newF T.c_Network T.n_Network_inputs (f_at (f_var (i := 0) rfl)) (by decide +kernel) rfl (Nat.le_of_ble_eq_true rfl) (e_to (P' := (pI inputs)) (e_var rfl) rfl) rfl rfl)
    (s_seq (Γ1 := [.own (oAt z (oOs (He.ga K "Network") ["inputs", "neurons"] [(oV (pI inputs)), (oL (neurons.map (rNeuron K)))])), .val (pI inputs), .val ((rL (rNeuron K)) neurons), .val ((rL (rSynapse K)) synapses), .val ((pOpt (rRule K)) rule)]) (s_newFW (W := (oL (neurons.map (rNeuron K)))) T.c_Network T.n_Network_neurons (f_at (f_var (i := 0) rfl)) (by decide +kernel) rfl (Nat.le_of_ble_eq_true rfl) (w_list (r_E (e_var rfl))) rfl rfl)
    (s_seq (Γ1 := [.own (oAt z (oOs (He.ga K "Network") ["inputs", "neurons", "synapses"] [(oV (pI inputs)), (oL (neurons.map (rNeuron K))), (oL (synapses.map (rSynapse K)))])), .val (pI inputs), .val ((rL (rNeuron K)) neurons), .val ((rL (rSynapse K)) synapses), .val ((pOpt (rRule K)) rule)]) (s_newFW (W := (oL (synapses.map (rSynapse K)))) T.c_Network T.n_Network_synapses (f_at (f_var (i := 0) rfl)) (by decide +kernel) rfl (Nat.le_of_ble_eq_true rfl) (w_list (r_E (e_var rfl))) rfl rfl)
    (s_at [.own (oAt z (oOs (He.ga K "Network") ["inputs", "neurons", "synapses", "rule"] [(oV (pI inputs)), (oL (neurons.map (rNeuron K))), (oL (synapses.map (rSynapse K))), (oV ((pOpt (rRule K)) rule))])), .val (pI inputs), .val ((rL (rNeuron K)) neurons), .val ((rL (rSynapse K)) synapses), .val ((pOpt (rRule K)) rule)] (s_newF T.c_Network T.n_Network_rule (f_at (f_var (i := 0) rfl)) (by decide +kernel) rfl (Nat.le_of_ble_eq_true rfl) (e_to (P' := ((pOpt (rRule K)) rule)) (e_var rfl) rfl) rfl rfl))))) rfl

def m_Network_sources (self : Network) : Option Int :=
  some (self.inputs + (self.neurons.length : Int))
def R_Network_sources (K : PySem.W.Frag) : List Pr → Pr → Prop := fun Ps Q => ∃ (self : Network) (r : Int), Ps = [((rNetwork K) self)] ∧ Q = (pI r) ∧ m_Network_sources self = some r
theorem sc_Network_sources : FnScope ["self"] ["self"] (defScope st_Network_sources) := ⟨rfl, rfl, rfl, by decide +kernel, rfl, by decide +kernel, by decide +kernel⟩
theorem ok_Network_sources (T : Txt P w K mg base D) : FnOk P w K mg base CX0 1 (He.fAd K ("Network", some "sources")) D.Network_sources ["self"] (spR (R_Network_sources K)) := by
  refine fn_R T.F_Network_sources sc_Network_sources (by rintro _ _ ⟨self, _, rfl, rfl, _⟩; rfl) (by decide) fun cdv A outer s H E hr => ⟨_, (pss_one (ps_ret (pe_op op_add (pe_fldK (K := K) rfl (pv 0) rfl) (pe_callB (len_seqK (K := K) rfl) (by rfl) T.z_len PySem.boot_len (pa_cons (pe_fldK (K := K) rfl (pv 0) rfl) pa_nil))))), ?_⟩
  rintro _ _ ⟨self, r, rfl, rfl, h⟩
  unfold m_Network_sources at h
  refine s_from (Γ' := [.val ((rNetwork K) self)]) ?_ rfl
  have h := Option.some.inj h
  subst h
  exact (s_ret (e_to (P' := (pI (self.inputs + (self.neurons.length : Int)))) (e_op rr_I0 (e_fld T.c_Network T.n_Network_inputs nd_Network (i := 0) rfl rfl (e_var rfl)) (e_lenM (r_E (e_fld T.c_Network T.n_Network_neurons nd_Network (i := 1) rfl rfl (e_var rfl))))) rfl))

def m_depressed (rule : Rule) (weight : Int) : Option Int :=
  some (max (weight - rule.loss) rule.least)
def R_depressed (K : PySem.W.Frag) : List Pr → Pr → Prop := fun Ps Q => ∃ (rule : Rule) (weight : Int) (r : Int), Ps = [((rRule K) rule), (pI weight)] ∧ Q = (pI r) ∧ m_depressed rule weight = some r
theorem sc_depressed : FnScope ["rule", "weight"] ["rule", "weight"] (defScope st_depressed) := ⟨rfl, rfl, rfl, by decide +kernel, rfl, by decide +kernel, by decide +kernel⟩
theorem ok_depressed (T : Txt P w K mg base D) : FnOk P w K mg base CX0 1 (He.fAd K ("depressed", none)) D.depressed ["rule", "weight"] (spR (R_depressed K)) := by
  refine fn_R T.F_depressed sc_depressed (by rintro _ _ ⟨rule, weight, _, rfl, rfl, _⟩; rfl) (by decide) fun cdv A outer s H E hr => ⟨_, (pss_one (ps_ret (pe_callB (call_max2 rfl) (by rfl) T.z_max (by decide +kernel) (pa_cons (pe_op op_sub (pv 1) (pe_fldK (K := K) rfl (pv 0) rfl)) (pa_cons (pe_fldK (K := K) rfl (pv 0) rfl) pa_nil))))), ?_⟩
  rintro _ _ ⟨rule, weight, r, rfl, rfl, h⟩
  unfold m_depressed at h
  refine s_from (Γ' := [.val ((rRule K) rule), .val (pI weight)]) ?_ rfl
  have h := Option.some.inj h
  subst h
  exact (s_ret (e_to (P' := (pI (max (weight - rule.loss) rule.least))) (e_cb rc_max2 (a_cons (e_op rr_I0 (e_var rfl) (e_fld T.c_Rule T.n_Rule_loss nd_Rule (i := 1) rfl rfl (e_var rfl))) (a_cons (e_fld T.c_Rule T.n_Rule_least nd_Rule (i := 3) rfl rfl (e_var rfl)) a_nil))) rfl))

def m_potentiated (rule : Rule) (weight : Int) : Option Int :=
  some (min (weight + rule.gain) rule.most)
def R_potentiated (K : PySem.W.Frag) : List Pr → Pr → Prop := fun Ps Q => ∃ (rule : Rule) (weight : Int) (r : Int), Ps = [((rRule K) rule), (pI weight)] ∧ Q = (pI r) ∧ m_potentiated rule weight = some r
theorem sc_potentiated : FnScope ["rule", "weight"] ["rule", "weight"] (defScope st_potentiated) := ⟨rfl, rfl, rfl, by decide +kernel, rfl, by decide +kernel, by decide +kernel⟩
theorem ok_potentiated (T : Txt P w K mg base D) : FnOk P w K mg base CX0 1 (He.fAd K ("potentiated", none)) D.potentiated ["rule", "weight"] (spR (R_potentiated K)) := by
  refine fn_R T.F_potentiated sc_potentiated (by rintro _ _ ⟨rule, weight, _, rfl, rfl, _⟩; rfl) (by decide) fun cdv A outer s H E hr => ⟨_, (pss_one (ps_ret (pe_callB (call_min2 rfl) (by rfl) T.z_min (by decide +kernel) (pa_cons (pe_op op_add (pv 1) (pe_fldK (K := K) rfl (pv 0) rfl)) (pa_cons (pe_fldK (K := K) rfl (pv 0) rfl) pa_nil))))), ?_⟩
  rintro _ _ ⟨rule, weight, r, rfl, rfl, h⟩
  unfold m_potentiated at h
  refine s_from (Γ' := [.val ((rRule K) rule), .val (pI weight)]) ?_ rfl
  have h := Option.some.inj h
  subst h
  exact (s_ret (e_to (P' := (pI (min (weight + rule.gain) rule.most))) (e_cb rc_min2 (a_cons (e_op rr_I0 (e_var rfl) (e_fld T.c_Rule T.n_Rule_gain nd_Rule (i := 0) rfl rfl (e_var rfl))) (a_cons (e_fld T.c_Rule T.n_Rule_most nd_Rule (i := 4) rfl rfl (e_var rfl)) a_nil))) rfl))

def m_SpikeholdError__init (place : Int) : Option Unit :=
  (fmtI place).bind fun s => (jsM [("at place " : Str), s] Str.empty).bind fun _ => some ()
def R_SpikeholdError__init (K : PySem.W.Frag) : Ow → List Pr → Ow → Pr → Prop := fun U Ps U1 P => ∃ (C : Addr) (place : Int), XCls K "place" C ∧ U = oX0 C ∧ Ps = [pI place] ∧ U1 = oX1 K "place" C (pI place) ∧ P = pN ∧ m_SpikeholdError__init place = some ()
theorem sc_SpikeholdError__init : FnScope ["self", "place"] ["self", "place"] (defScope st_SpikeholdError__init) := ⟨rfl, rfl, rfl, by decide +kernel, rfl, by decide +kernel, by decide +kernel⟩
theorem ok_SpikeholdError__init (T : Txt P w K mg base D) : FnOk P w K mg base CX0 1 (He.fAd K ("SpikeholdError", some "__init__")) D.SpikeholdError__init ["self", "place"] (spU 0 (R_SpikeholdError__init K)) := by
  refine fn_U T.F_SpikeholdError__init sc_SpikeholdError__init (by rintro _ _ _ _ ⟨C, place, _, rfl, rfl, rfl, rfl, _⟩; rfl) (by decide) fun cdv A outer s H E hr => ⟨_, (pss_cons (ps_expr (pe_veinit (by rfl) T.z_ValueError T.vV (pa_cons (pv 0) (pa_cons (pe_joined (.cons pe_str (.cons (pe_fmt (pv 1)) .nil))) pa_nil)))) (pss_one (ps_ost (pv 0) (pv 1)))), ?_⟩
  rintro z _ _ _ _ ⟨C, place, c, rfl, rfl, rfl, rfl, h⟩
  unfold m_SpikeholdError__init at h
  obtain ⟨s1, h1, h⟩ := bs h
  obtain ⟨s2, h2, h⟩ := bs h
  refine s_from (Γ' := [.own (oAt z (oX0 C)), .val (pI place)]) ?_ rfl
  exact s_rnN (s_seq (Γ1 := [.own (oAt z (oX0 C)), .val (pI place)]) (s_vei rfl c.ox (a_cons (e_js (.cons e_str (.cons (e_fmtI (e_var rfl) h1) .nil)) h2) a_nil) (Nat.le_of_ble_eq_true rfl))
    (s_at [.own (oAt z (oX1 K "place" C (pI place))), .val (pI place)] (s_ostX rfl c (e_var rfl)))) rfl

def m_Mesh__init (width : Int) (height : Int) (room : Int) : Option Mesh :=
  some (⟨width, height, room⟩ : Mesh)
def R_Mesh__init (K : PySem.W.Frag) : List Pr → List Pr → Prop := fun Ps Qs => ∃ (width : Int) (height : Int) (room : Int) (c : Mesh), Ps = [(pI width), (pI height), (pI room)] ∧ Qs = [(pI c.width), (pI c.height), (pI c.room)] ∧ m_Mesh__init width height room = some c
theorem sc_Mesh__init : FnScope ["self", "width", "height", "room"] ["self", "width", "height", "room"] (defScope st_Mesh__init) := ⟨rfl, rfl, rfl, by decide +kernel, rfl, by decide +kernel, by decide +kernel⟩
theorem ok_Mesh__init (T : Txt P w K mg base D) : FnOk P w K mg base CX0 1 (He.fAd K ("Mesh", some "__init__")) D.Mesh__init ["self", "width", "height", "room"] (spI (He.ga K "Mesh") ns_Mesh (R_Mesh__init K)) := by
  refine fn_I T.F_Mesh__init sc_Mesh__init (by rintro _ _ ⟨width, height, room, c, rfl, rfl, _⟩; rfl) (by decide) fun cdv A outer s H E hr => ⟨_, (pss_cons (ps_fld (pv 0) (pv 1) rfl)
      (pss_cons (ps_fld (pv 0) (pv 2) rfl)
      (pss_one (ps_fld (pv 0) (pv 3) rfl)))), ?_⟩
  rintro z _ _ ⟨width, height, room, c, rfl, rfl, h⟩
  unfold m_Mesh__init at h
  have h := Option.some.inj h
  subst h
  exact ⟨_, (s_seq (Γ1 := [.own (oS z (He.ga K "Mesh") ["width"] [(pI width)]), .val (pI width), .val (pI height), .val (pI room)]) (s_setFc T.c_Mesh T.n_Mesh_width (i := 0) rfl (by decide +kernel) rfl (Nat.le_of_ble_eq_true rfl) (e_to (P' := (pI width)) (e_var rfl) rfl) rfl)
    (s_seq (Γ1 := [.own (oS z (He.ga K "Mesh") ["width", "height"] [(pI width), (pI height)]), .val (pI width), .val (pI height), .val (pI room)]) (s_setFc T.c_Mesh T.n_Mesh_height (i := 0) rfl (by decide +kernel) rfl (Nat.le_of_ble_eq_true rfl) (e_to (P' := (pI height)) (e_var rfl) rfl) rfl)
    (s_at [.own (oS z (He.ga K "Mesh") ["width", "height", "room"] [(pI width), (pI height), (pI room)]), .val (pI width), .val (pI height), .val (pI room)] (s_setFc T.c_Mesh T.n_Mesh_room (i := 0) rfl (by decide +kernel) rfl (Nat.le_of_ble_eq_true rfl) (e_to (P' := (pI room)) (e_var rfl) rfl) rfl)))), rfl⟩

def m_Mesh_cores (self : Mesh) : Option Int :=
  (mulM self.width self.height).bind fun q1 =>
  some q1
def R_Mesh_cores (K : PySem.W.Frag) : List Pr → Pr → Prop := fun Ps Q => ∃ (self : Mesh) (r : Int), Ps = [((rMesh K) self)] ∧ Q = (pI r) ∧ m_Mesh_cores self = some r
theorem sc_Mesh_cores : FnScope ["self"] ["self"] (defScope st_Mesh_cores) := ⟨rfl, rfl, rfl, by decide +kernel, rfl, by decide +kernel, by decide +kernel⟩
theorem ok_Mesh_cores (T : Txt P w K mg base D) : FnOk P w K mg base CX0 1 (He.fAd K ("Mesh", some "cores")) D.Mesh_cores ["self"] (spR (R_Mesh_cores K)) := by
  refine fn_R T.F_Mesh_cores sc_Mesh_cores (by rintro _ _ ⟨self, _, rfl, rfl, _⟩; rfl) (by decide) fun cdv A outer s H E hr => ⟨_, (pss_one (ps_ret (pe_op op_mul (pe_fldK (K := K) rfl (pv 0) rfl) (pe_fldK (K := K) rfl (pv 0) rfl)))), ?_⟩
  rintro _ _ ⟨self, r, rfl, rfl, h⟩
  unfold m_Mesh_cores at h
  refine s_from (Γ' := [.val ((rMesh K) self)]) ?_ rfl
  obtain ⟨q1, h2, h⟩ := bs h
  have h := Option.some.inj h
  subst h
  exact (s_ret (e_to (P' := (pI q1)) (e_op (rr_mulM h2) (e_fld T.c_Mesh T.n_Mesh_width nd_Mesh (i := 0) rfl rfl (e_var rfl)) (e_fld T.c_Mesh T.n_Mesh_height nd_Mesh (i := 1) rfl rfl (e_var rfl))) rfl))

def m_Chip__init (mesh : Mesh) (slots : Int) (cycles : Int) : Option Chip :=
  some (⟨mesh, slots, cycles⟩ : Chip)
def R_Chip__init (K : PySem.W.Frag) : List Pr → List Pr → Prop := fun Ps Qs => ∃ (mesh : Mesh) (slots : Int) (cycles : Int) (c : Chip), Ps = [((rMesh K) mesh), (pI slots), (pI cycles)] ∧ Qs = [((rMesh K) c.mesh), (pI c.slots), (pI c.cycles)] ∧ m_Chip__init mesh slots cycles = some c
theorem sc_Chip__init : FnScope ["self", "mesh", "slots", "cycles"] ["self", "mesh", "slots", "cycles"] (defScope st_Chip__init) := ⟨rfl, rfl, rfl, by decide +kernel, rfl, by decide +kernel, by decide +kernel⟩
theorem ok_Chip__init (T : Txt P w K mg base D) : FnOk P w K mg base CX0 1 (He.fAd K ("Chip", some "__init__")) D.Chip__init ["self", "mesh", "slots", "cycles"] (spI (He.ga K "Chip") ns_Chip (R_Chip__init K)) := by
  refine fn_I T.F_Chip__init sc_Chip__init (by rintro _ _ ⟨mesh, slots, cycles, c, rfl, rfl, _⟩; rfl) (by decide) fun cdv A outer s H E hr => ⟨_, (pss_cons (ps_fld (pv 0) (pv 1) rfl)
      (pss_cons (ps_fld (pv 0) (pv 2) rfl)
      (pss_one (ps_fld (pv 0) (pv 3) rfl)))), ?_⟩
  rintro z _ _ ⟨mesh, slots, cycles, c, rfl, rfl, h⟩
  unfold m_Chip__init at h
  have h := Option.some.inj h
  subst h
  exact ⟨_, (s_seq (Γ1 := [.own (oS z (He.ga K "Chip") ["mesh"] [((rMesh K) mesh)]), .val ((rMesh K) mesh), .val (pI slots), .val (pI cycles)]) (s_setFc T.c_Chip T.n_Chip_mesh (i := 0) rfl (by decide +kernel) rfl (Nat.le_of_ble_eq_true rfl) (e_to (P' := ((rMesh K) mesh)) (e_var rfl) rfl) rfl)
    (s_seq (Γ1 := [.own (oS z (He.ga K "Chip") ["mesh", "slots"] [((rMesh K) mesh), (pI slots)]), .val ((rMesh K) mesh), .val (pI slots), .val (pI cycles)]) (s_setFc T.c_Chip T.n_Chip_slots (i := 0) rfl (by decide +kernel) rfl (Nat.le_of_ble_eq_true rfl) (e_to (P' := (pI slots)) (e_var rfl) rfl) rfl)
    (s_at [.own (oS z (He.ga K "Chip") ["mesh", "slots", "cycles"] [((rMesh K) mesh), (pI slots), (pI cycles)]), .val ((rMesh K) mesh), .val (pI slots), .val (pI cycles)] (s_setFc T.c_Chip T.n_Chip_cycles (i := 0) rfl (by decide +kernel) rfl (Nat.le_of_ble_eq_true rfl) (e_to (P' := (pI cycles)) (e_var rfl) rfl) rfl)))), rfl⟩

def m_Mapping__init (homes : (List Int)) (gates : (List Int)) (routes : (List (List Int))) (rows : (List (List (Int × Int × Int × Int × Bool)))) : Option Mapping :=
  (szM routes).bind fun z5 =>
  (mapO (fun x1 => (some x1 : Option (List Int))) routes).bind fun lc2 =>
  (szM rows).bind fun z11 =>
  (mapO (fun x7 => (some x7 : Option (List (Int × Int × Int × Int × Bool)))) rows).bind fun lc8 =>
  some (⟨homes, gates, lc2, lc8⟩ : Mapping)
def R_Mapping__init (K : PySem.W.Frag) : Ow → List Pr → Ow → Pr → Prop := fun U Ps U1 P => ∃ (homes : (List Int)) (gates : (List Int)) (routes : (List (List Int))) (rows : (List (List (Int × Int × Int × Int × Bool)))) (c : Mapping), U = oOs (He.ga K "Mapping") [] [] ∧ Ps = [((rL pI) homes), ((rL pI) gates), ((rL (rL pI)) routes), ((rL (rL (r5 pI pI pI pI pB))) rows)] ∧ U1 = (oMapping K c) ∧ P = pN ∧ m_Mapping__init homes gates routes rows = some c
theorem sc_Mapping__init : FnScope ["self", "homes", "gates", "routes", "rows", "route", "listed"] ["self", "homes", "gates", "routes", "rows"] (defScope st_Mapping__init) := ⟨rfl, rfl, rfl, by decide +kernel, rfl, by decide +kernel, by decide +kernel⟩
theorem ok_Mapping__init (T : Txt P w K mg base D) : FnOk P w K mg base CX0 1 (He.fAd K ("Mapping", some "__init__")) D.Mapping__init ["self", "homes", "gates", "routes", "rows"] (spU 0 (R_Mapping__init K)) := by
  refine fn_U T.F_Mapping__init sc_Mapping__init (by rintro _ _ _ _ ⟨homes, gates, routes, rows, c, rfl, rfl, rfl, rfl, _⟩; rfl) (by decide) fun cdv A outer s H E hr => ⟨_, (pss_cons (ps_fld (pv 0) (pe_callTy (list_ofK (K := K) rfl) (by rfl) T.z_list (by decide +kernel) (pa_cons (pv 1) pa_nil)) rfl)
      (pss_cons (ps_fld (pv 0) (pe_callTy (list_ofK (K := K) rfl) (by rfl) T.z_list (by decide +kernel) (pa_cons (pv 2) pa_nil)) rfl)
      (pss_cons (ps_fld (pv 0) (pe_lc (own := [("route", 5)]) rfl sc_Mapping__init.nd (pi_listK (K := K) rfl (pv 3)) (blkOk_by (N := ["self", "homes", "gates", "routes", "rows", "route", "listed"]) (sc := defScope st_Mapping__init) (by decide +kernel)) (fun _ _ _ _ _ => (pg_name (i := 5) sc_Mapping__init.nd rfl (.inl rfl))) (fun _ _ _ _ _ => pts_nil) (fun _ _ _ _ _ => (pe_callTy (list_ofK (K := K) rfl) (by rfl) T.z_list (by decide +kernel) (pa_cons (pv 5) pa_nil)))) rfl)
      (pss_one (ps_fld (pv 0) (pe_lc (own := [("listed", 6)]) rfl sc_Mapping__init.nd (pi_listK (K := K) rfl (pv 4)) (blkOk_by (N := ["self", "homes", "gates", "routes", "rows", "route", "listed"]) (sc := defScope st_Mapping__init) (by decide +kernel)) (fun _ _ _ _ _ => (pg_name (i := 6) sc_Mapping__init.nd rfl (.inl rfl))) (fun _ _ _ _ _ => pts_nil) (fun _ _ _ _ _ => (pe_callTy (list_ofK (K := K) rfl) (by rfl) T.z_list (by decide +kernel) (pa_cons (pv 6) pa_nil)))) rfl))))), ?_⟩
  rintro z _ _ _ _ ⟨homes, gates, routes, rows, c, rfl, rfl, rfl, rfl, h⟩
  unfold m_Mapping__init at h
  refine s_from (Γ' := [.own (oAt z (oOs (He.ga K "Mapping") [] [])), .val ((rL pI) homes), .val ((rL pI) gates), .val ((rL (rL pI)) routes), .val ((rL (rL (r5 pI pI pI pI pB))) rows), .any, .any]) ?_ rfl
  obtain ⟨z5, h4, h⟩ := bs h
  obtain ⟨lc2, h3, h⟩ := bs h
  obtain ⟨z11, h10, h⟩ := bs h
  obtain ⟨lc8, h9, h⟩ := bs h
  have h := Option.some.inj h
  subst h
  exact s_rnN (s_seq (Γ1 := [.own (oAt z (oOs (He.ga K "Mapping") ["homes"] [(oL (homes.map pI))])), .val ((rL pI) homes), .val ((rL pI) gates), .val ((rL (rL pI)) routes), .val ((rL (rL (r5 pI pI pI pI pB))) rows), .any, .any]) (s_newFW (W := (oL (homes.map pI))) T.c_Mapping T.n_Mapping_homes (f_at (f_var (i := 0) rfl)) (by decide +kernel) rfl (Nat.le_of_ble_eq_true rfl) (w_list (r_E (e_var rfl))) rfl rfl)
    (s_seq (Γ1 := [.own (oAt z (oOs (He.ga K "Mapping") ["homes", "gates"] [(oL (homes.map pI)), (oL (gates.map pI))])), .val ((rL pI) homes), .val ((rL pI) gates), .val ((rL (rL pI)) routes), .val ((rL (rL (r5 pI pI pI pI pB))) rows), .any, .any]) (s_newFW (W := (oL (gates.map pI))) T.c_Mapping T.n_Mapping_gates (f_at (f_var (i := 0) rfl)) (by decide +kernel) rfl (Nat.le_of_ble_eq_true rfl) (w_list (r_E (e_var rfl))) rfl rfl)
    (s_seq (Γ1 := [.own (oAt z (oOs (He.ga K "Mapping") ["homes", "gates", "routes"] [(oL (homes.map pI)), (oL (gates.map pI)), (oLs (lc2.map (fun x => (oL (x.map pI)))))])), .val ((rL pI) homes), .val ((rL pI) gates), .val ((rL (rL pI)) routes), .val ((rL (rL (r5 pI pI pI pI pB))) rows), .any, .any]) (s_newFW (W := (oLs (lc2.map (fun x => (oL (x.map pI)))))) T.c_Mapping T.n_Mapping_routes (f_at (f_var (i := 0) rfl)) (by decide +kernel) rfl (Nat.le_of_ble_eq_true rfl) (w_lcOY (ro := (fun x => (oL (x.map pI)))) (js := [5]) (vs := [5]) (fun x1 => [.own (oAt z (oOs (He.ga K "Mapping") ["homes", "gates"] [(oL (homes.map pI)), (oL (gates.map pI))])), .val ((rL pI) homes), .val ((rL pI) gates), .val ((rL (rL pI)) routes), .val ((rL (rL (r5 pI pI pI pI pB))) rows), .val ((rL pI) x1), .any]) _ (i_list (e_var rfl)) (sz_ok h4) (fun x1 => (g_name (show (5 : Nat) < 7 by decide))) (by decide) (fun x1 y _ h6 => by have h6 := Option.some.inj h6; subst h6; exact (w_list (r_E (e_var rfl)))) h3) rfl rfl)
    (s_at [.own (oAt z (oOs (He.ga K "Mapping") ["homes", "gates", "routes", "rows"] [(oL (homes.map pI)), (oL (gates.map pI)), (oLs (lc2.map (fun x => (oL (x.map pI))))), (oLs (lc8.map (fun x => (oL (x.map (r5 pI pI pI pI pB))))))])), .val ((rL pI) homes), .val ((rL pI) gates), .val ((rL (rL pI)) routes), .val ((rL (rL (r5 pI pI pI pI pB))) rows), .any, .any] (s_newFW (W := (oLs (lc8.map (fun x => (oL (x.map (r5 pI pI pI pI pB))))))) T.c_Mapping T.n_Mapping_rows (f_at (f_var (i := 0) rfl)) (by decide +kernel) rfl (Nat.le_of_ble_eq_true rfl) (w_lcOY (ro := (fun x => (oL (x.map (r5 pI pI pI pI pB))))) (js := [6]) (vs := [6]) (fun x7 => [.own (oAt z (oOs (He.ga K "Mapping") ["homes", "gates", "routes"] [(oL (homes.map pI)), (oL (gates.map pI)), (oLs (lc2.map (fun x => (oL (x.map pI)))))])), .val ((rL pI) homes), .val ((rL pI) gates), .val ((rL (rL pI)) routes), .val ((rL (rL (r5 pI pI pI pI pB))) rows), .any, .val ((rL (r5 pI pI pI pI pB)) x7)]) _ (i_list (e_var rfl)) (sz_ok h10) (fun x7 => (g_name (show (6 : Nat) < 7 by decide))) (by decide) (fun x7 y _ h12 => by have h12 := Option.some.inj h12; subst h12; exact (w_list (r_E (e_var rfl)))) h9) rfl rfl))))) rfl

def m_row_of (synapse : Synapse) : Option (Int × Int × Int × Int × Bool) :=
  some (synapse.source, synapse.target, synapse.weight, synapse.delay, synapse.plastic)
def R_row_of (K : PySem.W.Frag) : List Pr → Pr → Prop := fun Ps Q => ∃ (synapse : Synapse) (r : (Int × Int × Int × Int × Bool)), Ps = [((rSynapse K) synapse)] ∧ Q = ((r5 pI pI pI pI pB) r) ∧ m_row_of synapse = some r
theorem sc_row_of : FnScope ["synapse"] ["synapse"] (defScope st_row_of) := ⟨rfl, rfl, rfl, by decide +kernel, rfl, by decide +kernel, by decide +kernel⟩
theorem ok_row_of (T : Txt P w K mg base D) : FnOk P w K mg base CX0 1 (He.fAd K ("row_of", none)) D.row_of ["synapse"] (spR (R_row_of K)) := by
  refine fn_R T.F_row_of sc_row_of (by rintro _ _ ⟨synapse, _, rfl, rfl, _⟩; rfl) (by decide) fun cdv A outer s H E hr => ⟨_, (pss_one (ps_ret (pe_tup (pa_cons (pe_fldK (K := K) rfl (pv 0) rfl) (pa_cons (pe_fldK (K := K) rfl (pv 0) rfl) (pa_cons (pe_fldK (K := K) rfl (pv 0) rfl) (pa_cons (pe_fldK (K := K) rfl (pv 0) rfl) (pa_cons (pe_fldK (K := K) rfl (pv 0) rfl) pa_nil)))))))), ?_⟩
  rintro _ _ ⟨synapse, r, rfl, rfl, h⟩
  unfold m_row_of at h
  refine s_from (Γ' := [.val ((rSynapse K) synapse)]) ?_ rfl
  have h := Option.some.inj h
  subst h
  exact (s_ret (e_to (P' := ((r5 pI pI pI pI pB) (synapse.source, synapse.target, synapse.weight, synapse.delay, synapse.plastic))) (e_tup (a_cons (e_fld T.c_Synapse T.n_Synapse_source nd_Synapse (i := 0) rfl rfl (e_var rfl)) (a_cons (e_fld T.c_Synapse T.n_Synapse_target nd_Synapse (i := 1) rfl rfl (e_var rfl)) (a_cons (e_fld T.c_Synapse T.n_Synapse_weight nd_Synapse (i := 2) rfl rfl (e_var rfl)) (a_cons (e_fld T.c_Synapse T.n_Synapse_delay nd_Synapse (i := 3) rfl rfl (e_var rfl)) (a_cons (e_fld T.c_Synapse T.n_Synapse_plastic nd_Synapse (i := 4) rfl rfl (e_var rfl)) a_nil))))) (Nat.le_of_ble_eq_true rfl)) rfl))

def m_u_law_cell (script : (List Int)) (k : Int) : Option Int :=
  if (decide (k < (script.length : Int))) then (atI script k).bind fun v1 =>
  some v1
  else some 0
def R_u_law_cell (K : PySem.W.Frag) : List Pr → Pr → Prop := fun Ps Q => ∃ (script : (List Int)) (k : Int) (r : Int), Ps = [((pScr K) script), (pI k)] ∧ Q = (pI r) ∧ m_u_law_cell script k = some r
theorem sc_u_law_cell : FnScope ["script", "k"] ["script", "k"] (defScope st_u_law_cell) := ⟨rfl, rfl, rfl, by decide +kernel, rfl, by decide +kernel, by decide +kernel⟩
theorem ok_u_law_cell (T : Txt P w K mg base D) : FnOk P w K mg base CX0 1 (He.fAd K ("_law_cell", none)) D.u_law_cell ["script", "k"] (spR (R_u_law_cell K)) := by
  refine fn_R T.F_u_law_cell sc_u_law_cell (by rintro _ _ ⟨script, k, _, rfl, rfl, _⟩; rfl) (by decide) fun cdv A outer s H E hr => ⟨_, (pss_cons (ps_if (pt_cmpR op_lt (pv 1) (pe_callB (len_seqK (K := K) rfl) (by rfl) T.z_len PySem.boot_len (pa_cons (pv 0) pa_nil)) (nomark _)) (pss_one (ps_ret (pe_callTy call_int1 (by rfl) T.z_int (by decide +kernel) (pa_cons (pe_ix (ix_listK (K := K) rfl) (pv 0) (pv 1) (fun _ _ => rfl)) pa_nil)))) pss_nil)
      (pss_one (ps_ret pe_int))), ?_⟩
  rintro _ _ ⟨script, k, r, rfl, rfl, h⟩
  unfold m_u_law_cell at h
  refine s_from (Γ' := [.val ((pScr K) script), .val (pI k)]) ?_ rfl
  refine s_ifK (b := (decide (k < (script.length : Int)))) (t_test (e_op rr_B0 (e_var rfl) (e_lenM (r_scr (e_var rfl))))) (fun hc => ?_) (fun hc => ?_)
  ·   have h := if_t hc h
      obtain ⟨v1, h2, h⟩ := bs h
      have h := Option.some.inj h
      subst h
      exact s_seqR (s_ret (e_to (P' := (pI v1)) (e_cb rc_intI (a_cons (e_ixLM (r := pI) (xs := script) (r_scr (e_var rfl)) (e_var rfl) h2) a_nil)) rfl))
  ·   have h := if_f hc h
      refine s_nxK ?_
      have h := Option.some.inj h
      subst h
      exact (s_ret (e_to (P' := (pI 0)) e_int rfl))

def m_Synapse__eq (a b : Synapse) : Option Bool :=
  some (true && ((decide (a.source = b.source)) && ((decide (a.target = b.target)) && ((decide (a.weight = b.weight)) && ((decide (a.delay = b.delay)) && (a.plastic == b.plastic))))))
theorem refl_Synapse (c : Synapse) : m_Synapse__eq c c = some true := by
  unfold m_Synapse__eq
  simp
def R_Synapse__eq (K : PySem.W.Frag) : List Pr → Pr → Prop := fun Ps Q => (∃ (a b : Synapse) (r : Bool), Ps = [rSynapse K a, rSynapse K b] ∧ Q = pB r ∧ m_Synapse__eq a b = some r) ∨ ∃ (a : Synapse) (P1 : Pr) (t : Value), Ps = [rSynapse K a, P1] ∧ Q = pB false ∧ TyP K P1 t ∧ PySem.W.kitOne K t (.ref (He.ga K "Synapse")) = some false
theorem sc_Synapse__eq : FnScope ["self", "other"] ["self", "other"] (defScope st_Synapse__eq) := ⟨rfl, rfl, rfl, by decide +kernel, rfl, by decide +kernel, by decide +kernel⟩
theorem ok_Synapse__eq (T : Txt P w K mg base D) : FnOk P w K mg base CX0 5 (He.fAd K ("Synapse", some "__eq__")) D.Synapse__eq ["self", "other"] (spR (R_Synapse__eq K)) := by
  refine fn_R T.F_Synapse__eq sc_Synapse__eq (by rintro _ _ (⟨_, _, _, rfl, _⟩ | ⟨_, _, _, rfl, _⟩) <;> rfl) (by decide) fun cdv A outer s H E hr => ⟨_, (pss_one (ps_ret (pe_and (pe_callB (isiK (K := K) rfl) (by rfl) T.z_isinstance (by decide +kernel) (pa_cons (pv 1) (pa_cons (pe_glob (v := .ref (He.ga K "Synapse")) rfl T.g_Synapse rfl) pa_nil))) (pe_and (pe_cmpR op_eq (pe_fldK (K := K) rfl (pv 0) rfl) (pe_fldK (K := K) rfl (pv 1) rfl) (nomark _)) (pe_and (pe_cmpR op_eq (pe_fldK (K := K) rfl (pv 0) rfl) (pe_fldK (K := K) rfl (pv 1) rfl) (nomark _)) (pe_and (pe_cmpR op_eq (pe_fldK (K := K) rfl (pv 0) rfl) (pe_fldK (K := K) rfl (pv 1) rfl) (nomark _)) (pe_and (pe_cmpR op_eq (pe_fldK (K := K) rfl (pv 0) rfl) (pe_fldK (K := K) rfl (pv 1) rfl) (nomark _)) (pe_one (pe_cmpR op_eq (pe_fldK (K := K) rfl (pv 0) rfl) (pe_fldK (K := K) rfl (pv 1) rfl) (nomark _)))))))))), ?_⟩
  rintro _ _ (⟨a, b, r, rfl, rfl, h⟩ | ⟨a, P1, t, rfl, rfl, ht, hk⟩)
  · unfold m_Synapse__eq at h
    refine s_from (Γ' := [.val ((rSynapse K) a), .val ((rSynapse K) b)]) ?_ rfl
    have h := Option.some.inj h
    subst h
    exact s_ret (e_to (P' := pB (true && ((decide (a.source = b.source)) && ((decide (a.target = b.target)) && ((decide (a.weight = b.weight)) && ((decide (a.delay = b.delay)) && (a.plastic == b.plastic))))))) (e_and (e_isi (e_var rfl) (ty_O T.c_Synapse T.i_Synapse) (.own _) T.ki_Synapse_Synapse) (fun _ => (e_and (e_op rr_eqI (e_fld T.c_Synapse T.n_Synapse_source nd_Synapse (i := 0) rfl rfl (e_var rfl)) (e_fld T.c_Synapse T.n_Synapse_source nd_Synapse (i := 0) rfl rfl (e_var rfl))) (fun _ => (e_and (e_op rr_eqI (e_fld T.c_Synapse T.n_Synapse_target nd_Synapse (i := 1) rfl rfl (e_var rfl)) (e_fld T.c_Synapse T.n_Synapse_target nd_Synapse (i := 1) rfl rfl (e_var rfl))) (fun _ => (e_and (e_op rr_eqI (e_fld T.c_Synapse T.n_Synapse_weight nd_Synapse (i := 2) rfl rfl (e_var rfl)) (e_fld T.c_Synapse T.n_Synapse_weight nd_Synapse (i := 2) rfl rfl (e_var rfl))) (fun _ => (e_and (e_op rr_eqI (e_fld T.c_Synapse T.n_Synapse_delay nd_Synapse (i := 3) rfl rfl (e_var rfl)) (e_fld T.c_Synapse T.n_Synapse_delay nd_Synapse (i := 3) rfl rfl (e_var rfl))) (fun _ => (e_op rr_eqB (e_fld T.c_Synapse T.n_Synapse_plastic nd_Synapse (i := 4) rfl rfl (e_var rfl)) (e_fld T.c_Synapse T.n_Synapse_plastic nd_Synapse (i := 4) rfl rfl (e_var rfl)))) rfl)) rfl)) rfl)) rfl)) rfl) rfl)
  · refine s_from (Γ' := [.val (rSynapse K a), .val P1]) ?_ rfl
    exact s_ret (e_and (b := false) (e_isi (e_var rfl) ht (.own _) hk) (fun z => Bool.noConfusion z) rfl)

def m_Rule__eq (a b : Rule) : Option Bool :=
  some (true && ((decide (a.gain = b.gain)) && ((decide (a.loss = b.loss)) && ((decide (a.window = b.window)) && ((decide (a.least = b.least)) && (decide (a.most = b.most)))))))
theorem refl_Rule (c : Rule) : m_Rule__eq c c = some true := by
  unfold m_Rule__eq
  simp
def R_Rule__eq (K : PySem.W.Frag) : List Pr → Pr → Prop := fun Ps Q => (∃ (a b : Rule) (r : Bool), Ps = [rRule K a, rRule K b] ∧ Q = pB r ∧ m_Rule__eq a b = some r) ∨ ∃ (a : Rule) (P1 : Pr) (t : Value), Ps = [rRule K a, P1] ∧ Q = pB false ∧ TyP K P1 t ∧ PySem.W.kitOne K t (.ref (He.ga K "Rule")) = some false
theorem sc_Rule__eq : FnScope ["self", "other"] ["self", "other"] (defScope st_Rule__eq) := ⟨rfl, rfl, rfl, by decide +kernel, rfl, by decide +kernel, by decide +kernel⟩
theorem ok_Rule__eq (T : Txt P w K mg base D) : FnOk P w K mg base CX0 9 (He.fAd K ("Rule", some "__eq__")) D.Rule__eq ["self", "other"] (spR (R_Rule__eq K)) := by
  refine fn_R T.F_Rule__eq sc_Rule__eq (by rintro _ _ (⟨_, _, _, rfl, _⟩ | ⟨_, _, _, rfl, _⟩) <;> rfl) (by decide) fun cdv A outer s H E hr => ⟨_, (pss_one (ps_ret (pe_and (pe_callB (isiK (K := K) rfl) (by rfl) T.z_isinstance (by decide +kernel) (pa_cons (pv 1) (pa_cons (pe_glob (v := .ref (He.ga K "Rule")) rfl T.g_Rule rfl) pa_nil))) (pe_and (pe_cmpR op_eq (pe_fldK (K := K) rfl (pv 0) rfl) (pe_fldK (K := K) rfl (pv 1) rfl) (nomark _)) (pe_and (pe_cmpR op_eq (pe_fldK (K := K) rfl (pv 0) rfl) (pe_fldK (K := K) rfl (pv 1) rfl) (nomark _)) (pe_and (pe_cmpR op_eq (pe_fldK (K := K) rfl (pv 0) rfl) (pe_fldK (K := K) rfl (pv 1) rfl) (nomark _)) (pe_and (pe_cmpR op_eq (pe_fldK (K := K) rfl (pv 0) rfl) (pe_fldK (K := K) rfl (pv 1) rfl) (nomark _)) (pe_one (pe_cmpR op_eq (pe_fldK (K := K) rfl (pv 0) rfl) (pe_fldK (K := K) rfl (pv 1) rfl) (nomark _)))))))))), ?_⟩
  rintro _ _ (⟨a, b, r, rfl, rfl, h⟩ | ⟨a, P1, t, rfl, rfl, ht, hk⟩)
  · unfold m_Rule__eq at h
    refine s_from (Γ' := [.val ((rRule K) a), .val ((rRule K) b)]) ?_ rfl
    have h := Option.some.inj h
    subst h
    exact s_ret (e_to (P' := pB (true && ((decide (a.gain = b.gain)) && ((decide (a.loss = b.loss)) && ((decide (a.window = b.window)) && ((decide (a.least = b.least)) && (decide (a.most = b.most)))))))) (e_and (e_isi (e_var rfl) (ty_O T.c_Rule T.i_Rule) (.own _) T.ki_Rule_Rule) (fun _ => (e_and (e_op rr_eqI (e_fld T.c_Rule T.n_Rule_gain nd_Rule (i := 0) rfl rfl (e_var rfl)) (e_fld T.c_Rule T.n_Rule_gain nd_Rule (i := 0) rfl rfl (e_var rfl))) (fun _ => (e_and (e_op rr_eqI (e_fld T.c_Rule T.n_Rule_loss nd_Rule (i := 1) rfl rfl (e_var rfl)) (e_fld T.c_Rule T.n_Rule_loss nd_Rule (i := 1) rfl rfl (e_var rfl))) (fun _ => (e_and (e_op rr_eqI (e_fld T.c_Rule T.n_Rule_window nd_Rule (i := 2) rfl rfl (e_var rfl)) (e_fld T.c_Rule T.n_Rule_window nd_Rule (i := 2) rfl rfl (e_var rfl))) (fun _ => (e_and (e_op rr_eqI (e_fld T.c_Rule T.n_Rule_least nd_Rule (i := 3) rfl rfl (e_var rfl)) (e_fld T.c_Rule T.n_Rule_least nd_Rule (i := 3) rfl rfl (e_var rfl))) (fun _ => (e_op rr_eqI (e_fld T.c_Rule T.n_Rule_most nd_Rule (i := 4) rfl rfl (e_var rfl)) (e_fld T.c_Rule T.n_Rule_most nd_Rule (i := 4) rfl rfl (e_var rfl)))) rfl)) rfl)) rfl)) rfl)) rfl) rfl)
  · refine s_from (Γ' := [.val (rRule K a), .val P1]) ?_ rfl
    exact s_ret (e_and (b := false) (e_isi (e_var rfl) ht (.own _) hk) (fun z => Bool.noConfusion z) rfl)

def m_Network__eq (a b : Network) : Option Bool :=
  (if true then (if (decide (a.inputs = b.inputs)) then (eqLM a.neurons b.neurons).bind fun same1 => (if same1 then (eqLM a.synapses b.synapses).bind fun same3 => (if same3 then (eqOM m_Rule__eq a.rule b.rule).bind fun same5 => some same5 else some false).bind fun c7 => some c7 else some false).bind fun c10 => some c10 else some false).bind fun c13 => some c13 else some false).bind fun c16 =>
  some c16
def R_Network__eq (K : PySem.W.Frag) : List Pr → Pr → Prop := fun Ps Q => (∃ (a b : Network) (r : Bool), Ps = [rNetwork K a, rNetwork K b] ∧ Q = pB r ∧ m_Network__eq a b = some r) ∨ ∃ (a : Network) (P1 : Pr) (t : Value), Ps = [rNetwork K a, P1] ∧ Q = pB false ∧ TyP K P1 t ∧ PySem.W.kitOne K t (.ref (He.ga K "Network")) = some false
theorem sc_Network__eq : FnScope ["self", "other"] ["self", "other"] (defScope st_Network__eq) := ⟨rfl, rfl, rfl, by decide +kernel, rfl, by decide +kernel, by decide +kernel⟩
theorem ok_Network__eq (T : Txt P w K mg base D) : FnOk P w K mg base CX0 13 (He.fAd K ("Network", some "__eq__")) D.Network__eq ["self", "other"] (spR (R_Network__eq K)) := by
  refine fn_R T.F_Network__eq sc_Network__eq (by rintro _ _ (⟨_, _, _, rfl, _⟩ | ⟨_, _, _, rfl, _⟩) <;> rfl) (by decide) fun cdv A outer s H E hr => ⟨_, (pss_one (ps_ret (pe_and (pe_callB (isiK (K := K) rfl) (by rfl) T.z_isinstance (by decide +kernel) (pa_cons (pv 1) (pa_cons (pe_glob (v := .ref (He.ga K "Network")) rfl T.g_Network rfl) pa_nil))) (pe_and (pe_cmpR op_eq (pe_fldK (K := K) rfl (pv 0) rfl) (pe_fldK (K := K) rfl (pv 1) rfl) (nomark _)) (pe_and (pe_cmpR (op_eqLd (r := rNeuron K) (ok_Neuron__eq T) T.e_Neuron.1 T.e_Neuron.2 T.b_Neuron__eq (hr.mono (by decide))) (pe_fldK (K := K) rfl (pv 0) rfl) (pe_fldK (K := K) rfl (pv 1) rfl) (nomark _)) (pe_and (pe_cmpR (op_eqLd (r := rSynapse K) (ok_Synapse__eq T) T.e_Synapse.1 T.e_Synapse.2 T.b_Synapse__eq (hr.mono (by decide))) (pe_fldK (K := K) rfl (pv 0) rfl) (pe_fldK (K := K) rfl (pv 1) rfl) (nomark _)) (pe_one (pe_cmpR (op_eqOd (ok_Rule__eq T) T.e_Rule.1 T.e_Rule.2 T.sn_Rule T.b_Rule__eq (hr.mono (by decide))) (pe_fldK (K := K) rfl (pv 0) rfl) (pe_fldK (K := K) rfl (pv 1) rfl) (nomark _))))))))), ?_⟩
  rintro _ _ (⟨a, b, r, rfl, rfl, h⟩ | ⟨a, P1, t, rfl, rfl, ht, hk⟩)
  · unfold m_Network__eq at h
    refine s_from (Γ' := [.val ((rNetwork K) a), .val ((rNetwork K) b)]) ?_ rfl
    obtain ⟨c16, h17, h⟩ := bs h
    have h := Option.some.inj h
    subst h
    exact s_ret (e_to (P' := pB c16) (e_andM (e_isi (e_var rfl) (ty_O T.c_Network T.i_Network) (.own _) T.ki_Network_Network) (fun b hc h18 => by obtain ⟨c13, h14, h18⟩ := bs h18; have h18 := Option.some.inj h18; subst h18; exact (e_andM (e_op rr_eqI (e_fld T.c_Network T.n_Network_inputs nd_Network (i := 0) rfl rfl (e_var rfl)) (e_fld T.c_Network T.n_Network_inputs nd_Network (i := 0) rfl rfl (e_var rfl))) (fun b hc h15 => by obtain ⟨same1, h2, h15⟩ := bs h15; obtain ⟨c10, h11, h15⟩ := bs h15; have h15 := Option.some.inj h15; subst h15; exact (e_andM (e_eqLd (R := R_Neuron__eq K) (f := fNeuron K) (fun c => .inl ⟨c, c, true, rfl, rfl, refl_Neuron c⟩) h2 (e_fld T.c_Network T.n_Network_neurons nd_Network (i := 1) rfl rfl (e_var rfl)) (e_fld T.c_Network T.n_Network_neurons nd_Network (i := 1) rfl rfl (e_var rfl))) (fun b hc h12 => by obtain ⟨same3, h4, h12⟩ := bs h12; obtain ⟨c7, h8, h12⟩ := bs h12; have h12 := Option.some.inj h12; subst h12; exact (e_andM (e_eqLd (R := R_Synapse__eq K) (f := fSynapse K) (fun c => .inl ⟨c, c, true, rfl, rfl, refl_Synapse c⟩) h4 (e_fld T.c_Network T.n_Network_synapses nd_Network (i := 2) rfl rfl (e_var rfl)) (e_fld T.c_Network T.n_Network_synapses nd_Network (i := 2) rfl rfl (e_var rfl))) (fun b hc h9 => by obtain ⟨same5, h6, h9⟩ := bs h9; have h9 := Option.some.inj h9; subst h9; exact (e_eqOd (R := R_Rule__eq K) (f := fRule K) (m := m_Rule__eq) (fun x y b h => .inl ⟨x, y, b, rfl, rfl, h⟩) (fun x => .inr ⟨x, _, _, rfl, rfl, ty_N, T.ki_NoneType_Rule⟩) T.nf_Rule_NoneType h6 (e_fld T.c_Network T.n_Network_rule nd_Network (i := 3) rfl rfl (e_var rfl)) (e_fld T.c_Network T.n_Network_rule nd_Network (i := 3) rfl rfl (e_var rfl)))) h8)) h11)) h14)) h17) rfl)
  · refine s_from (Γ' := [.val (rNetwork K a), .val P1]) ?_ rfl
    exact s_ret (e_and (b := false) (e_isi (e_var rfl) ht (.own _) hk) (fun z => Bool.noConfusion z) rfl)

def m_Mesh__eq (a b : Mesh) : Option Bool :=
  some (true && ((decide (a.width = b.width)) && ((decide (a.height = b.height)) && (decide (a.room = b.room)))))
theorem refl_Mesh (c : Mesh) : m_Mesh__eq c c = some true := by
  unfold m_Mesh__eq
  simp
def R_Mesh__eq (K : PySem.W.Frag) : List Pr → Pr → Prop := fun Ps Q => (∃ (a b : Mesh) (r : Bool), Ps = [rMesh K a, rMesh K b] ∧ Q = pB r ∧ m_Mesh__eq a b = some r) ∨ ∃ (a : Mesh) (P1 : Pr) (t : Value), Ps = [rMesh K a, P1] ∧ Q = pB false ∧ TyP K P1 t ∧ PySem.W.kitOne K t (.ref (He.ga K "Mesh")) = some false
theorem sc_Mesh__eq : FnScope ["self", "other"] ["self", "other"] (defScope st_Mesh__eq) := ⟨rfl, rfl, rfl, by decide +kernel, rfl, by decide +kernel, by decide +kernel⟩
theorem ok_Mesh__eq (T : Txt P w K mg base D) : FnOk P w K mg base CX0 17 (He.fAd K ("Mesh", some "__eq__")) D.Mesh__eq ["self", "other"] (spR (R_Mesh__eq K)) := by
  refine fn_R T.F_Mesh__eq sc_Mesh__eq (by rintro _ _ (⟨_, _, _, rfl, _⟩ | ⟨_, _, _, rfl, _⟩) <;> rfl) (by decide) fun cdv A outer s H E hr => ⟨_, (pss_one (ps_ret (pe_and (pe_callB (isiK (K := K) rfl) (by rfl) T.z_isinstance (by decide +kernel) (pa_cons (pv 1) (pa_cons (pe_glob (v := .ref (He.ga K "Mesh")) rfl T.g_Mesh rfl) pa_nil))) (pe_and (pe_cmpR op_eq (pe_fldK (K := K) rfl (pv 0) rfl) (pe_fldK (K := K) rfl (pv 1) rfl) (nomark _)) (pe_and (pe_cmpR op_eq (pe_fldK (K := K) rfl (pv 0) rfl) (pe_fldK (K := K) rfl (pv 1) rfl) (nomark _)) (pe_one (pe_cmpR op_eq (pe_fldK (K := K) rfl (pv 0) rfl) (pe_fldK (K := K) rfl (pv 1) rfl) (nomark _)))))))), ?_⟩
  rintro _ _ (⟨a, b, r, rfl, rfl, h⟩ | ⟨a, P1, t, rfl, rfl, ht, hk⟩)
  · unfold m_Mesh__eq at h
    refine s_from (Γ' := [.val ((rMesh K) a), .val ((rMesh K) b)]) ?_ rfl
    have h := Option.some.inj h
    subst h
    exact s_ret (e_to (P' := pB (true && ((decide (a.width = b.width)) && ((decide (a.height = b.height)) && (decide (a.room = b.room)))))) (e_and (e_isi (e_var rfl) (ty_O T.c_Mesh T.i_Mesh) (.own _) T.ki_Mesh_Mesh) (fun _ => (e_and (e_op rr_eqI (e_fld T.c_Mesh T.n_Mesh_width nd_Mesh (i := 0) rfl rfl (e_var rfl)) (e_fld T.c_Mesh T.n_Mesh_width nd_Mesh (i := 0) rfl rfl (e_var rfl))) (fun _ => (e_and (e_op rr_eqI (e_fld T.c_Mesh T.n_Mesh_height nd_Mesh (i := 1) rfl rfl (e_var rfl)) (e_fld T.c_Mesh T.n_Mesh_height nd_Mesh (i := 1) rfl rfl (e_var rfl))) (fun _ => (e_op rr_eqI (e_fld T.c_Mesh T.n_Mesh_room nd_Mesh (i := 2) rfl rfl (e_var rfl)) (e_fld T.c_Mesh T.n_Mesh_room nd_Mesh (i := 2) rfl rfl (e_var rfl)))) rfl)) rfl)) rfl) rfl)
  · refine s_from (Γ' := [.val (rMesh K a), .val P1]) ?_ rfl
    exact s_ret (e_and (b := false) (e_isi (e_var rfl) ht (.own _) hk) (fun z => Bool.noConfusion z) rfl)

def m_Chip__eq (a b : Chip) : Option Bool :=
  (if true then (m_Mesh__eq a.mesh b.mesh).bind fun eq1 => some (eq1 && ((decide (a.slots = b.slots)) && (decide (a.cycles = b.cycles)))) else some false).bind fun c3 =>
  some c3
def R_Chip__eq (K : PySem.W.Frag) : List Pr → Pr → Prop := fun Ps Q => (∃ (a b : Chip) (r : Bool), Ps = [rChip K a, rChip K b] ∧ Q = pB r ∧ m_Chip__eq a b = some r) ∨ ∃ (a : Chip) (P1 : Pr) (t : Value), Ps = [rChip K a, P1] ∧ Q = pB false ∧ TyP K P1 t ∧ PySem.W.kitOne K t (.ref (He.ga K "Chip")) = some false
theorem sc_Chip__eq : FnScope ["self", "other"] ["self", "other"] (defScope st_Chip__eq) := ⟨rfl, rfl, rfl, by decide +kernel, rfl, by decide +kernel, by decide +kernel⟩
theorem ok_Chip__eq (T : Txt P w K mg base D) : FnOk P w K mg base CX0 21 (He.fAd K ("Chip", some "__eq__")) D.Chip__eq ["self", "other"] (spR (R_Chip__eq K)) := by
  refine fn_R T.F_Chip__eq sc_Chip__eq (by rintro _ _ (⟨_, _, _, rfl, _⟩ | ⟨_, _, _, rfl, _⟩) <;> rfl) (by decide) fun cdv A outer s H E hr => ⟨_, (pss_one (ps_ret (pe_and (pe_callB (isiK (K := K) rfl) (by rfl) T.z_isinstance (by decide +kernel) (pa_cons (pv 1) (pa_cons (pe_glob (v := .ref (He.ga K "Chip")) rfl T.g_Chip rfl) pa_nil))) (pe_and (pe_cmpR (op_ownEq (ok_Mesh__eq T) T.e_Mesh.1 T.e_Mesh.2 T.b_Mesh__eq (hr.mono (by decide))) (pe_fldK (K := K) rfl (pv 0) rfl) (pe_fldK (K := K) rfl (pv 1) rfl) (nomark _)) (pe_and (pe_cmpR op_eq (pe_fldK (K := K) rfl (pv 0) rfl) (pe_fldK (K := K) rfl (pv 1) rfl) (nomark _)) (pe_one (pe_cmpR op_eq (pe_fldK (K := K) rfl (pv 0) rfl) (pe_fldK (K := K) rfl (pv 1) rfl) (nomark _)))))))), ?_⟩
  rintro _ _ (⟨a, b, r, rfl, rfl, h⟩ | ⟨a, P1, t, rfl, rfl, ht, hk⟩)
  · unfold m_Chip__eq at h
    refine s_from (Γ' := [.val ((rChip K) a), .val ((rChip K) b)]) ?_ rfl
    obtain ⟨c3, h4, h⟩ := bs h
    have h := Option.some.inj h
    subst h
    exact s_ret (e_to (P' := pB c3) (e_andM (e_isi (e_var rfl) (ty_O T.c_Chip T.i_Chip) (.own _) T.ki_hip_Chip) (fun b hc h5 => by obtain ⟨eq1, h2, h5⟩ := bs h5; have h5 := Option.some.inj h5; subst h5; exact (e_and (e_ownEq (e_fld T.c_Chip T.n_Chip_mesh nd_Chip (i := 0) rfl rfl (e_var rfl)) (e_fld T.c_Chip T.n_Chip_mesh nd_Chip (i := 0) rfl rfl (e_var rfl)) tw_O notFirst_self (.inl ⟨a.mesh, b.mesh, eq1, rfl, rfl, h2⟩)) (fun _ => (e_and (e_op rr_eqI (e_fld T.c_Chip T.n_Chip_slots nd_Chip (i := 1) rfl rfl (e_var rfl)) (e_fld T.c_Chip T.n_Chip_slots nd_Chip (i := 1) rfl rfl (e_var rfl))) (fun _ => (e_op rr_eqI (e_fld T.c_Chip T.n_Chip_cycles nd_Chip (i := 2) rfl rfl (e_var rfl)) (e_fld T.c_Chip T.n_Chip_cycles nd_Chip (i := 2) rfl rfl (e_var rfl)))) rfl)) rfl)) h4) rfl)
  · refine s_from (Γ' := [.val (rChip K a), .val P1]) ?_ rfl
    exact s_ret (e_and (b := false) (e_isi (e_var rfl) ht (.own _) hk) (fun z => Bool.noConfusion z) rfl)

def m_Mapping__eq (a b : Mapping) : Option Bool :=
  some (true && ((decide (a.homes = b.homes)) && ((decide (a.gates = b.gates)) && ((decide (a.routes = b.routes)) && (decide (a.rows = b.rows))))))
theorem refl_Mapping (c : Mapping) : m_Mapping__eq c c = some true := by
  unfold m_Mapping__eq
  simp
def R_Mapping__eq (K : PySem.W.Frag) : List Pr → Pr → Prop := fun Ps Q => (∃ (a b : Mapping) (r : Bool), Ps = [rMapping K a, rMapping K b] ∧ Q = pB r ∧ m_Mapping__eq a b = some r) ∨ ∃ (a : Mapping) (P1 : Pr) (t : Value), Ps = [rMapping K a, P1] ∧ Q = pB false ∧ TyP K P1 t ∧ PySem.W.kitOne K t (.ref (He.ga K "Mapping")) = some false
theorem sc_Mapping__eq : FnScope ["self", "other"] ["self", "other"] (defScope st_Mapping__eq) := ⟨rfl, rfl, rfl, by decide +kernel, rfl, by decide +kernel, by decide +kernel⟩
theorem ok_Mapping__eq (T : Txt P w K mg base D) : FnOk P w K mg base CX0 25 (He.fAd K ("Mapping", some "__eq__")) D.Mapping__eq ["self", "other"] (spR (R_Mapping__eq K)) := by
  refine fn_R T.F_Mapping__eq sc_Mapping__eq (by rintro _ _ (⟨_, _, _, rfl, _⟩ | ⟨_, _, _, rfl, _⟩) <;> rfl) (by decide) fun cdv A outer s H E hr => ⟨_, (pss_one (ps_ret (pe_and (pe_callB (isiK (K := K) rfl) (by rfl) T.z_isinstance (by decide +kernel) (pa_cons (pv 1) (pa_cons (pe_glob (v := .ref (He.ga K "Mapping")) rfl T.g_Mapping rfl) pa_nil))) (pe_and (pe_cmpR (eqDK (K := K) rfl hr.units) (pe_fldK (K := K) rfl (pv 0) rfl) (pe_fldK (K := K) rfl (pv 1) rfl) (nomark _)) (pe_and (pe_cmpR (eqDK (K := K) rfl hr.units) (pe_fldK (K := K) rfl (pv 0) rfl) (pe_fldK (K := K) rfl (pv 1) rfl) (nomark _)) (pe_and (pe_cmpR (eqDK (K := K) rfl hr.units) (pe_fldK (K := K) rfl (pv 0) rfl) (pe_fldK (K := K) rfl (pv 1) rfl) (nomark _)) (pe_one (pe_cmpR (eqDK (K := K) rfl hr.units) (pe_fldK (K := K) rfl (pv 0) rfl) (pe_fldK (K := K) rfl (pv 1) rfl) (nomark _))))))))), ?_⟩
  rintro _ _ (⟨a, b, r, rfl, rfl, h⟩ | ⟨a, P1, t, rfl, rfl, ht, hk⟩)
  · unfold m_Mapping__eq at h
    refine s_from (Γ' := [.val ((rMapping K) a), .val ((rMapping K) b)]) ?_ rfl
    have h := Option.some.inj h
    subst h
    exact s_ret (e_to (P' := pB (true && ((decide (a.homes = b.homes)) && ((decide (a.gates = b.gates)) && ((decide (a.routes = b.routes)) && (decide (a.rows = b.rows))))))) (e_and (e_isi (e_var rfl) (ty_O T.c_Mapping T.i_Mapping) (.own _) T.ki_Mapping_Mapping) (fun _ => (e_and (e_eqEn (enL enI) (Nat.le_of_ble_eq_true rfl) (e_fld T.c_Mapping T.n_Mapping_homes nd_Mapping (i := 0) rfl rfl (e_var rfl)) (e_fld T.c_Mapping T.n_Mapping_homes nd_Mapping (i := 0) rfl rfl (e_var rfl))) (fun _ => (e_and (e_eqEn (enL enI) (Nat.le_of_ble_eq_true rfl) (e_fld T.c_Mapping T.n_Mapping_gates nd_Mapping (i := 1) rfl rfl (e_var rfl)) (e_fld T.c_Mapping T.n_Mapping_gates nd_Mapping (i := 1) rfl rfl (e_var rfl))) (fun _ => (e_and (e_eqEn (enL (enL enI)) (Nat.le_of_ble_eq_true rfl) (e_fld T.c_Mapping T.n_Mapping_routes nd_Mapping (i := 2) rfl rfl (e_var rfl)) (e_fld T.c_Mapping T.n_Mapping_routes nd_Mapping (i := 2) rfl rfl (e_var rfl))) (fun _ => (e_eqEn (enL (enL (en5 enI enI enI enI enB))) (Nat.le_of_ble_eq_true rfl) (e_fld T.c_Mapping T.n_Mapping_rows nd_Mapping (i := 3) rfl rfl (e_var rfl)) (e_fld T.c_Mapping T.n_Mapping_rows nd_Mapping (i := 3) rfl rfl (e_var rfl)))) rfl)) rfl)) rfl)) rfl) rfl)
  · refine s_from (Γ' := [.val (rMapping K a), .val P1]) ?_ rfl
    exact s_ret (e_and (b := false) (e_isi (e_var rfl) ht (.own _) hk) (fun z => Bool.noConfusion z) rfl)

def m_u_law_synapses (script : (List Int)) : Option Bool :=
  (m_u_law_cell script 0).bind fun rv1 =>
  bndv ([(.inl (rv1 % 20) : IB), (.inl ((rv1 / 20) % 20) : IB), (.inl (((rv1 / 400) % 2001) - 1000) : IB), (.inl (1 + ((rv1 / 800000) % 14)) : IB), (.inr (decide (((rv1 / 12000000) % 2) = 1)) : IB)] : (List IB)) fun values3 =>
  (atI values3 0).bind fun v5 =>
  (asI v5).bind fun u7 =>
  (atI values3 1).bind fun v9 =>
  (asI v9).bind fun u11 =>
  (atI values3 2).bind fun v13 =>
  (asI v13).bind fun u15 =>
  (atI values3 3).bind fun v17 =>
  (asI v17).bind fun u19 =>
  (atI values3 4).bind fun v21 =>
  (asB v21).bind fun u23 =>
  (m_Synapse__init u7 u11 u15 u19 u23).bind fun synapse25 =>
  (m_u_law_cell script 1).bind fun rv27 =>
  bndv (rv27 % 5) fun turn29 =>
  (if (decide (turn29 = 4)) then (atI values3 4).bind fun v31 =>
  (asB v31).bind fun u33 =>
  (setM values3 4 (.inr (!u33) : IB)).bind fun other35 =>
  some other35
  else (atI values3 turn29).bind fun v37 =>
  (asI v37).bind fun u39 =>
  (setM values3 turn29 (.inl (u39 + 1) : IB)).bind fun other41 =>
  some other41 : Option (List IB)).bind fun other43 =>
  (atI other43 0).bind fun v45 =>
  (asI v45).bind fun u47 =>
  (atI other43 1).bind fun v49 =>
  (asI v49).bind fun u51 =>
  (atI other43 2).bind fun v53 =>
  (asI v53).bind fun u55 =>
  (atI other43 3).bind fun v57 =>
  (asI v57).bind fun u59 =>
  (atI other43 4).bind fun v61 =>
  (asB v61).bind fun u63 =>
  (m_Synapse__init u47 u51 u55 u59 u63).bind fun synapse65 =>
  (m_Synapse__eq synapse25 synapse65).bind fun eq67 =>
  (if eq67 then some true else (atI values3 0).bind fun v69 => (asI v69).bind fun u71 => (atI values3 1).bind fun v73 => (asI v73).bind fun u75 => (atI values3 2).bind fun v77 => (asI v77).bind fun u79 => (atI values3 3).bind fun v81 => (asI v81).bind fun u83 => (atI values3 4).bind fun v85 => (asB v85).bind fun u87 => (m_Synapse__init u71 u75 u79 u83 u87).bind fun synapse89 => (m_Synapse__eq synapse25 synapse89).bind fun eq91 => some ((!eq91) || false)).bind fun c93 =>
  if c93 then some false
  else (m_row_of synapse25).bind fun rv96 =>
  (atI values3 0).bind fun v98 =>
  (asI v98).bind fun u108 =>
  (atI values3 1).bind fun v100 =>
  (asI v100).bind fun u110 =>
  (atI values3 2).bind fun v102 =>
  (asI v102).bind fun u112 =>
  (atI values3 3).bind fun v104 =>
  (asI v104).bind fun u114 =>
  (atI values3 4).bind fun v106 =>
  (asB v106).bind fun u116 =>
  if (!(decide (rv96 = (u108, u110, u112, u114, u116)))) then some false
  else (m_Synapse__init 0 0 1 1 false).bind fun synapse118 =>
  some (decide (synapse118.plastic = false))
def R_u_law_synapses (K : PySem.W.Frag) : List Pr → Pr → Prop := fun Ps Q => ∃ (script : (List Int)) (r : Bool), Ps = [((pScr K) script)] ∧ Q = (pB r) ∧ m_u_law_synapses script = some r
theorem sc_u_law_synapses : FnScope ["script", "cell", "values", "one", "turn", "other", "two"] ["script"] (defScope st_u_law_synapses) := ⟨rfl, rfl, rfl, by decide +kernel, rfl, by decide +kernel, by decide +kernel⟩
theorem ok_u_law_synapses (T : Txt P w K mg base D) : FnOk P w K mg base CX0 29 (He.fAd K ("_law_synapses", none)) D.u_law_synapses ["script"] (spR (R_u_law_synapses K)) := by
  obtain ⟨ds_Synapse__init_4, hd_Synapse__init_4, hb_Synapse__init_4⟩ := T.d_Synapse__init_4
  refine fn_R T.F_u_law_synapses sc_u_law_synapses (by rintro _ _ ⟨script, _, rfl, rfl, _⟩; rfl) (by decide) fun cdv A outer s H E hr => ⟨_, (pss_cons (ps_set (i := 1) sc_u_law_synapses.nd rfl (.inl rfl) (pe_call (ok_u_law_cell T) (hr.mono (by decide)) rfl T.g_u_law_cell T.F_u_law_cell.kp T.b_u_law_cell .nil pass0 (pa_cons (pv 0) (pa_cons pe_int pa_nil))))
      (pss_cons (ps_set (i := 2) sc_u_law_synapses.nd rfl (.inl rfl) (pe_lst (pa_cons (pe_op op_mod (pv 1) pe_int) (pa_cons (pe_op op_mod (pe_op op_fdiv (pv 1) pe_int) pe_int) (pa_cons (pe_op op_sub (pe_op op_mod (pe_op op_fdiv (pv 1) pe_int) pe_int) pe_int) (pa_cons (pe_op op_add pe_int (pe_op op_mod (pe_op op_fdiv (pv 1) pe_int) pe_int)) (pa_cons (pe_cmpR op_eq (pe_op op_mod (pe_op op_fdiv (pv 1) pe_int) pe_int) pe_int (nomark _)) pa_nil)))))))
      (pss_cons (ps_set (i := 3) sc_u_law_synapses.nd rfl (.inl rfl) (pe_make T.k_Synapse (ok_Synapse__init T) (hr.mono (by decide)) rfl T.g_Synapse T.b_Synapse__init .nil pass0 (pa_cons (pe_ix (ix_listK (K := K) rfl) (pv 2) pe_int (fun _ _ => rfl)) (pa_cons (pe_ix (ix_listK (K := K) rfl) (pv 2) pe_int (fun _ _ => rfl)) (pa_cons (pe_ix (ix_listK (K := K) rfl) (pv 2) pe_int (fun _ _ => rfl)) (pa_cons (pe_ix (ix_listK (K := K) rfl) (pv 2) pe_int (fun _ _ => rfl)) (pa_cons (pe_ix (ix_listK (K := K) rfl) (pv 2) pe_int (fun _ _ => rfl)) pa_nil)))))))
      (pss_cons (ps_set (i := 4) sc_u_law_synapses.nd rfl (.inl rfl) (pe_op op_mod (pe_call (ok_u_law_cell T) (hr.mono (by decide)) rfl T.g_u_law_cell T.F_u_law_cell.kp T.b_u_law_cell .nil pass0 (pa_cons (pv 0) (pa_cons pe_int pa_nil))) pe_int))
      (pss_cons (ps_set (i := 5) sc_u_law_synapses.nd rfl (.inl rfl) (pe_callTy (list_ofK (K := K) rfl) (by rfl) T.z_list (by decide +kernel) (pa_cons (pv 2) pa_nil)))
      (pss_cons (ps_if (pt_cmpR op_eq (pv 4) pe_int (nomark _)) (pss_one (ps_asg (pe_not (pe_ix (ix_listK (K := K) rfl) (pv 2) pe_int (fun _ _ => rfl))) (pg_sub (pv 5) pe_int set_list))) (pss_one (ps_asg (pe_op op_add (pe_ix (ix_listK (K := K) rfl) (pv 2) (pv 4) (fun _ _ => rfl)) pe_int) (pg_sub (pv 5) (pv 4) set_list))))
      (pss_cons (ps_set (i := 6) sc_u_law_synapses.nd rfl (.inl rfl) (pe_make T.k_Synapse (ok_Synapse__init T) (hr.mono (by decide)) rfl T.g_Synapse T.b_Synapse__init .nil pass0 (pa_cons (pe_ix (ix_listK (K := K) rfl) (pv 5) pe_int (fun _ _ => rfl)) (pa_cons (pe_ix (ix_listK (K := K) rfl) (pv 5) pe_int (fun _ _ => rfl)) (pa_cons (pe_ix (ix_listK (K := K) rfl) (pv 5) pe_int (fun _ _ => rfl)) (pa_cons (pe_ix (ix_listK (K := K) rfl) (pv 5) pe_int (fun _ _ => rfl)) (pa_cons (pe_ix (ix_listK (K := K) rfl) (pv 5) pe_int (fun _ _ => rfl)) pa_nil)))))))
      (pss_cons (ps_if (PW.pt (pw_or (pt_cmpR (op_ownEq (ok_Synapse__eq T) T.e_Synapse.1 T.e_Synapse.2 T.b_Synapse__eq (hr.mono (by decide))) (pv 3) (pv 6) (nomark _)) (pw_or (pt_not (pt_cmpR (op_ownEq (ok_Synapse__eq T) T.e_Synapse.1 T.e_Synapse.2 T.b_Synapse__eq (hr.mono (by decide))) (pv 3) (pe_make T.k_Synapse (ok_Synapse__init T) (hr.mono (by decide)) rfl T.g_Synapse T.b_Synapse__init .nil pass0 (pa_cons (pe_ix (ix_listK (K := K) rfl) (pv 2) pe_int (fun _ _ => rfl)) (pa_cons (pe_ix (ix_listK (K := K) rfl) (pv 2) pe_int (fun _ _ => rfl)) (pa_cons (pe_ix (ix_listK (K := K) rfl) (pv 2) pe_int (fun _ _ => rfl)) (pa_cons (pe_ix (ix_listK (K := K) rfl) (pv 2) pe_int (fun _ _ => rfl)) (pa_cons (pe_ix (ix_listK (K := K) rfl) (pv 2) pe_int (fun _ _ => rfl)) pa_nil)))))) (nomark _))) (pw_or1 (pt_cmpR (op_ownEq (ok_Synapse__eq T) T.e_Synapse.1 T.e_Synapse.2 T.b_Synapse__eq (hr.mono (by decide))) (pv 3) (pv 2) (nomark _)))))) (pss_one (ps_ret pe_bl)) pss_nil)
      (pss_cons (ps_if (pt_cmpR (neDK (K := K) rfl hr.units) (pe_call (ok_row_of T) (hr.mono (by decide)) rfl T.g_row_of T.F_row_of.kp T.b_row_of .nil pass0 (pa_cons (pv 3) pa_nil)) (pe_tup (pa_cons (pe_ix (ix_listK (K := K) rfl) (pv 2) pe_int (fun _ _ => rfl)) (pa_cons (pe_ix (ix_listK (K := K) rfl) (pv 2) pe_int (fun _ _ => rfl)) (pa_cons (pe_ix (ix_listK (K := K) rfl) (pv 2) pe_int (fun _ _ => rfl)) (pa_cons (pe_ix (ix_listK (K := K) rfl) (pv 2) pe_int (fun _ _ => rfl)) (pa_cons (pe_ix (ix_listK (K := K) rfl) (pv 2) pe_int (fun _ _ => rfl)) pa_nil)))))) (nomark _)) (pss_one (ps_ret pe_bl)) pss_nil)
      (pss_one (ps_ret (pe_cmpR op_isBl (pe_fldK (K := K) rfl (pe_make T.k_Synapse (ok_Synapse__init T) (hr.mono (by decide)) rfl T.g_Synapse hb_Synapse__init_4 hd_Synapse__init_4 pass0 (pa_cons pe_int (pa_cons pe_int (pa_cons pe_int (pa_cons pe_int pa_nil))))) rfl) pe_bl (nomark _))))))))))))), ?_⟩
  rintro _ _ ⟨script, r, rfl, rfl, h⟩
  unfold m_u_law_synapses at h
  refine s_from (Γ' := [.val ((pScr K) script), .any, .any, .any, .any, .any, .any]) ?_ rfl
  obtain ⟨rv1, h2, h⟩ := bs h
  refine s_seq (Γ1 := [.val ((pScr K) script), .val (pI rv1), .any, .any, .any, .any, .any]) (s_asg (e_call0 (a_cons (e_var rfl) (a_cons e_int a_nil)) ⟨script, 0, rv1, rfl, rfl, h2⟩) (show (1 : Nat) < 7 by decide)) ?_
  obtain ⟨values3, e4, h⟩ := bndv_some h
  refine s_seq (Γ1 := [.val ((pScr K) script), .val (pI rv1), .val ((rL rIB) values3), .any, .any, .any, .any]) (s_asg (e_as (r := (rL rIB)) (e_L (w_to (r := rIB) (xs := ([(.inl (rv1 % 20) : IB), (.inl ((rv1 / 20) % 20) : IB), (.inl (((rv1 / 400) % 2001) - 1000) : IB), (.inl (1 + ((rv1 / 800000) % 14)) : IB), (.inr (decide (((rv1 / 12000000) % 2) = 1)) : IB)] : (List IB))) (w_lst (a_cons (e_op (rr_I (by decide)) (e_var rfl) e_int) (a_cons (e_op (rr_I (by decide)) (e_op (rr_I (by exact ⟨by decide, by decide⟩)) (e_var rfl) e_int) e_int) (a_cons (e_op rr_I0 (e_op (rr_I (by decide)) (e_op (rr_I (by exact ⟨by decide, by decide⟩)) (e_var rfl) e_int) e_int) e_int) (a_cons (e_op rr_I0 e_int (e_op (rr_I (by decide)) (e_op (rr_I (by exact ⟨by decide, by decide⟩)) (e_var rfl) e_int) e_int)) (a_cons (e_op rr_eqI (e_op (rr_I (by decide)) (e_op (rr_I (by exact ⟨by decide, by decide⟩)) (e_var rfl) e_int) e_int) e_int) a_nil))))) (Nat.le_of_ble_eq_true rfl)) rfl)) e4) (show (2 : Nat) < 7 by decide)) ?_
  obtain ⟨v5, h6, h⟩ := bs h
  obtain ⟨u7, h8, h⟩ := bs h
  obtain ⟨v9, h10, h⟩ := bs h
  obtain ⟨u11, h12, h⟩ := bs h
  obtain ⟨v13, h14, h⟩ := bs h
  obtain ⟨u15, h16, h⟩ := bs h
  obtain ⟨v17, h18, h⟩ := bs h
  obtain ⟨u19, h20, h⟩ := bs h
  obtain ⟨v21, h22, h⟩ := bs h
  obtain ⟨u23, h24, h⟩ := bs h
  obtain ⟨synapse25, h26, h⟩ := bs h
  refine s_seq (Γ1 := [.val ((pScr K) script), .val (pI rv1), .val ((rL rIB) values3), .val ((rSynapse K) synapse25), .any, .any, .any]) (s_asg (e_make0 (a_cons (e_asI h8 (e_ixLM (r := rIB) (xs := values3) (r_E (e_var rfl)) e_int h6)) (a_cons (e_asI h12 (e_ixLM (r := rIB) (xs := values3) (r_E (e_var rfl)) e_int h10)) (a_cons (e_asI h16 (e_ixLM (r := rIB) (xs := values3) (r_E (e_var rfl)) e_int h14)) (a_cons (e_asI h20 (e_ixLM (r := rIB) (xs := values3) (r_E (e_var rfl)) e_int h18)) (a_cons (e_asB h24 (e_ixLM (r := rIB) (xs := values3) (r_E (e_var rfl)) e_int h22)) a_nil))))) ⟨u7, u11, u15, u19, u23, synapse25, rfl, rfl, h26⟩) (show (3 : Nat) < 7 by decide)) ?_
  obtain ⟨rv27, h28, h⟩ := bs h
  obtain ⟨turn29, e30, h⟩ := bndv_some h
  refine s_seq (Γ1 := [.val ((pScr K) script), .val (pI rv1), .val ((rL rIB) values3), .val ((rSynapse K) synapse25), .val (pI turn29), .any, .any]) (s_asg (e_as (r := pI) (e_op (rr_I (by decide)) (e_call0 (a_cons (e_var rfl) (a_cons e_int a_nil)) ⟨script, 1, rv27, rfl, rfl, h28⟩) e_int) e30) (show (4 : Nat) < 7 by decide)) ?_
  refine s_seq (Γ1 := [.val ((pScr K) script), .val (pI rv1), .val ((rL rIB) values3), .val ((rSynapse K) synapse25), .val (pI turn29), .own (oL (values3.map rIB)), .any]) (s_asgW (w_list (r_E (e_var rfl))) (show (5 : Nat) < 7 by decide)) ?_
  obtain ⟨other43, h44, h⟩ := bs h
  refine s_seq (Γ1 := [.val ((pScr K) script), .val (pI rv1), .val ((rL rIB) values3), .val ((rSynapse K) synapse25), .val (pI turn29), .own (oL (other43.map rIB)), .any]) (by
    refine s_if (b := (decide (turn29 = 4))) (t_test (e_op rr_eqI (e_var rfl) e_int)) (fun hc => ?_) (fun hc => ?_)
    ·   have h := if_t hc h44
        obtain ⟨v31, h32, h⟩ := bs h
        obtain ⟨u33, h34, h⟩ := bs h
        obtain ⟨other35, h36, h⟩ := bs h
        have h := Option.some.inj h
        subst h
        exact s_to (s_at [.val ((pScr K) script), .val (pI rv1), .val ((rL rIB) values3), .val ((rSynapse K) synapse25), .val (pI turn29), .own (oL (other35.map rIB)), .any] (s_setLM (r := rIB) (i := 5) rfl (e_not (e_asB h34 (e_ixLM (r := rIB) (xs := values3) (r_E (e_var rfl)) e_int h32))) e_int h36)) rfl
    ·   have h := if_f hc h44
        obtain ⟨v37, h38, h⟩ := bs h
        obtain ⟨u39, h40, h⟩ := bs h
        obtain ⟨other41, h42, h⟩ := bs h
        have h := Option.some.inj h
        subst h
        exact s_to (s_at [.val ((pScr K) script), .val (pI rv1), .val ((rL rIB) values3), .val ((rSynapse K) synapse25), .val (pI turn29), .own (oL (other41.map rIB)), .any] (s_setLM (r := rIB) (i := 5) rfl (e_op rr_I0 (e_asI h40 (e_ixLM (r := rIB) (xs := values3) (r_E (e_var rfl)) (e_var rfl) h38)) e_int) (e_var rfl) h42)) rfl
    ) ?_
  obtain ⟨v45, h46, h⟩ := bs h
  obtain ⟨u47, h48, h⟩ := bs h
  obtain ⟨v49, h50, h⟩ := bs h
  obtain ⟨u51, h52, h⟩ := bs h
  obtain ⟨v53, h54, h⟩ := bs h
  obtain ⟨u55, h56, h⟩ := bs h
  obtain ⟨v57, h58, h⟩ := bs h
  obtain ⟨u59, h60, h⟩ := bs h
  obtain ⟨v61, h62, h⟩ := bs h
  obtain ⟨u63, h64, h⟩ := bs h
  obtain ⟨synapse65, h66, h⟩ := bs h
  refine s_seq (Γ1 := [.val ((pScr K) script), .val (pI rv1), .val ((rL rIB) values3), .val ((rSynapse K) synapse25), .val (pI turn29), .own (oL (other43.map rIB)), .val ((rSynapse K) synapse65)]) (s_asg (e_make0 (a_cons (e_asI h48 (e_ixLM (r := rIB) (xs := other43) (r_O rfl) e_int h46)) (a_cons (e_asI h52 (e_ixLM (r := rIB) (xs := other43) (r_O rfl) e_int h50)) (a_cons (e_asI h56 (e_ixLM (r := rIB) (xs := other43) (r_O rfl) e_int h54)) (a_cons (e_asI h60 (e_ixLM (r := rIB) (xs := other43) (r_O rfl) e_int h58)) (a_cons (e_asB h64 (e_ixLM (r := rIB) (xs := other43) (r_O rfl) e_int h62)) a_nil))))) ⟨u47, u51, u55, u59, u63, synapse65, rfl, rfl, h66⟩) (show (6 : Nat) < 7 by decide)) ?_
  obtain ⟨eq67, h68, h⟩ := bs h
  obtain ⟨c93, h94, h⟩ := bs h
  refine s_ifK (b := c93) (t_orM (t_test (e_ownEq (e_var rfl) (e_var rfl) tw_O notFirst_self (.inl ⟨synapse25, synapse65, eq67, rfl, rfl, h68⟩))) (fun b hc h95 => by obtain ⟨v69, h70, h95⟩ := bs h95; obtain ⟨u71, h72, h95⟩ := bs h95; obtain ⟨v73, h74, h95⟩ := bs h95; obtain ⟨u75, h76, h95⟩ := bs h95; obtain ⟨v77, h78, h95⟩ := bs h95; obtain ⟨u79, h80, h95⟩ := bs h95; obtain ⟨v81, h82, h95⟩ := bs h95; obtain ⟨u83, h84, h95⟩ := bs h95; obtain ⟨v85, h86, h95⟩ := bs h95; obtain ⟨u87, h88, h95⟩ := bs h95; obtain ⟨synapse89, h90, h95⟩ := bs h95; obtain ⟨eq91, h92, h95⟩ := bs h95; have h95 := Option.some.inj h95; subst h95; exact (t_or (t_not (t_test (e_ownEq (e_var rfl) (e_make0 (a_cons (e_asI h72 (e_ixLM (r := rIB) (xs := values3) (r_E (e_var rfl)) e_int h70)) (a_cons (e_asI h76 (e_ixLM (r := rIB) (xs := values3) (r_E (e_var rfl)) e_int h74)) (a_cons (e_asI h80 (e_ixLM (r := rIB) (xs := values3) (r_E (e_var rfl)) e_int h78)) (a_cons (e_asI h84 (e_ixLM (r := rIB) (xs := values3) (r_E (e_var rfl)) e_int h82)) (a_cons (e_asB h88 (e_ixLM (r := rIB) (xs := values3) (r_E (e_var rfl)) e_int h86)) a_nil))))) ⟨u71, u75, u79, u83, u87, synapse89, rfl, rfl, h90⟩) tw_O notFirst_self (.inl ⟨synapse25, synapse89, eq91, rfl, rfl, h92⟩)))) (fun _ => (t_test (e_ownEq (e_var rfl) (e_var rfl) tw_L T.nf_Synapse_list (.inr ⟨synapse25, _, _, rfl, rfl, ty_L, T.ki_list_Synapse⟩)))) rfl)) h94) (fun hc => ?_) (fun hc => ?_)
  ·   have h := if_t hc h
      have h := Option.some.inj h
      subst h
      exact s_seqR (s_ret (e_to (P' := (pB false)) e_bl rfl))
  ·   have h := if_f hc h
      refine s_nxK ?_
      obtain ⟨rv96, h97, h⟩ := bs h
      obtain ⟨v98, h99, h⟩ := bs h
      obtain ⟨u108, h109, h⟩ := bs h
      obtain ⟨v100, h101, h⟩ := bs h
      obtain ⟨u110, h111, h⟩ := bs h
      obtain ⟨v102, h103, h⟩ := bs h
      obtain ⟨u112, h113, h⟩ := bs h
      obtain ⟨v104, h105, h⟩ := bs h
      obtain ⟨u114, h115, h⟩ := bs h
      obtain ⟨v106, h107, h⟩ := bs h
      obtain ⟨u116, h117, h⟩ := bs h
      refine s_ifK (b := (!(decide (rv96 = (u108, u110, u112, u114, u116))))) (t_test (e_neEn (en5 enI enI enI enI enB) (Nat.le_of_ble_eq_true rfl) (e_call0 (a_cons (e_var rfl) a_nil) ⟨synapse25, rv96, rfl, rfl, h97⟩) (e_tup (a_cons (e_asI h109 (e_ixLM (r := rIB) (xs := values3) (r_E (e_var rfl)) e_int h99)) (a_cons (e_asI h111 (e_ixLM (r := rIB) (xs := values3) (r_E (e_var rfl)) e_int h101)) (a_cons (e_asI h113 (e_ixLM (r := rIB) (xs := values3) (r_E (e_var rfl)) e_int h103)) (a_cons (e_asI h115 (e_ixLM (r := rIB) (xs := values3) (r_E (e_var rfl)) e_int h105)) (a_cons (e_asB h117 (e_ixLM (r := rIB) (xs := values3) (r_E (e_var rfl)) e_int h107)) a_nil))))) (Nat.le_of_ble_eq_true rfl)))) (fun hc => ?_) (fun hc => ?_)
      ·   have h := if_t hc h
          have h := Option.some.inj h
          subst h
          exact s_seqR (s_ret (e_to (P' := (pB false)) e_bl rfl))
      ·   have h := if_f hc h
          refine s_nxK ?_
          obtain ⟨synapse118, h119, h⟩ := bs h
          have h := Option.some.inj h
          subst h
          exact (s_ret (e_to (P' := (pB (decide (synapse118.plastic = false)))) (e_isBl (e_fld T.c_Synapse T.n_Synapse_plastic nd_Synapse (i := 4) rfl rfl (e_make (Ds := [(pB false)]) (a_cons e_int (a_cons e_int (a_cons e_int (a_cons e_int a_nil)))) (fun _ => ⟨rfl, trivial⟩) ⟨0, 0, 1, 1, false, synapse118, rfl, rfl, h119⟩)) e_bl) rfl))

def m_u_law_rules (script : (List Int)) : Option Bool :=
  (m_u_law_cell script 2).bind fun rv1 =>
  (m_u_law_cell script 3).bind fun rv3 =>
  bndv ((rv3 % 2001) - 1000) fun least5 =>
  (m_u_law_cell script 4).bind fun rv7 =>
  bndv (least5 + (rv7 % 1000)) fun most9 =>
  (m_Rule__init (rv1 % 1001) ((rv1 / 1001) % 1001) ((rv1 / 1002001) % 101) least5 most9).bind fun rule11 =>
  (m_u_law_cell script 5).bind fun rv13 =>
  (modM rv13 ((most9 - least5) + 1)).bind fun q15 =>
  bndv (least5 + q15) fun weight17 =>
  (m_depressed rule11 weight17).bind fun rv19 =>
  if (!(decide (rv19 = (max least5 (weight17 - rule11.loss))))) then some false
  else (m_potentiated rule11 weight17).bind fun rv21 =>
  if (!(decide (rv21 = (min most9 (weight17 + rule11.gain))))) then some false
  else (m_Rule__init rule11.gain rule11.loss rule11.window least5 (most9 + 1)).bind fun rule23 =>
  (m_Rule__init rule11.gain rule11.loss rule11.window least5 most9).bind fun rule25 =>
  (m_Rule__eq rule11 rule25).bind fun eq27 =>
  (if eq27 then (m_Rule__eq rule11 rule23).bind fun eq29 => some ((!eq29) && (!false)) else some false).bind fun c31 =>
  some c31
def R_u_law_rules (K : PySem.W.Frag) : List Pr → Pr → Prop := fun Ps Q => ∃ (script : (List Int)) (r : Bool), Ps = [((pScr K) script)] ∧ Q = (pB r) ∧ m_u_law_rules script = some r
theorem sc_u_law_rules : FnScope ["script", "cell", "least", "most", "rule", "weight", "other"] ["script"] (defScope st_u_law_rules) := ⟨rfl, rfl, rfl, by decide +kernel, rfl, by decide +kernel, by decide +kernel⟩
theorem ok_u_law_rules (T : Txt P w K mg base D) : FnOk P w K mg base CX0 29 (He.fAd K ("_law_rules", none)) D.u_law_rules ["script"] (spR (R_u_law_rules K)) := by
  refine fn_R T.F_u_law_rules sc_u_law_rules (by rintro _ _ ⟨script, _, rfl, rfl, _⟩; rfl) (by decide) fun cdv A outer s H E hr => ⟨_, (pss_cons (ps_set (i := 1) sc_u_law_rules.nd rfl (.inl rfl) (pe_call (ok_u_law_cell T) (hr.mono (by decide)) rfl T.g_u_law_cell T.F_u_law_cell.kp T.b_u_law_cell .nil pass0 (pa_cons (pv 0) (pa_cons pe_int pa_nil))))
      (pss_cons (ps_set (i := 2) sc_u_law_rules.nd rfl (.inl rfl) (pe_op op_sub (pe_op op_mod (pe_call (ok_u_law_cell T) (hr.mono (by decide)) rfl T.g_u_law_cell T.F_u_law_cell.kp T.b_u_law_cell .nil pass0 (pa_cons (pv 0) (pa_cons pe_int pa_nil))) pe_int) pe_int))
      (pss_cons (ps_set (i := 3) sc_u_law_rules.nd rfl (.inl rfl) (pe_op op_add (pv 2) (pe_op op_mod (pe_call (ok_u_law_cell T) (hr.mono (by decide)) rfl T.g_u_law_cell T.F_u_law_cell.kp T.b_u_law_cell .nil pass0 (pa_cons (pv 0) (pa_cons pe_int pa_nil))) pe_int)))
      (pss_cons (ps_set (i := 4) sc_u_law_rules.nd rfl (.inl rfl) (pe_make T.k_Rule (ok_Rule__init T) (hr.mono (by decide)) rfl T.g_Rule T.b_Rule__init .nil pass0 (pa_cons (pe_op op_mod (pv 1) pe_int) (pa_cons (pe_op op_mod (pe_op op_fdiv (pv 1) pe_int) pe_int) (pa_cons (pe_op op_mod (pe_op op_fdiv (pv 1) pe_int) pe_int) (pa_cons (pv 2) (pa_cons (pv 3) pa_nil)))))))
      (pss_cons (ps_set (i := 5) sc_u_law_rules.nd rfl (.inl rfl) (pe_op op_add (pv 2) (pe_op op_mod (pe_call (ok_u_law_cell T) (hr.mono (by decide)) rfl T.g_u_law_cell T.F_u_law_cell.kp T.b_u_law_cell .nil pass0 (pa_cons (pv 0) (pa_cons pe_int pa_nil))) (pe_op op_add (pe_op op_sub (pv 3) (pv 2)) pe_int))))
      (pss_cons (ps_if (pt_cmpR op_ne (pe_call (ok_depressed T) (hr.mono (by decide)) rfl T.g_depressed T.F_depressed.kp T.b_depressed .nil pass0 (pa_cons (pv 4) (pa_cons (pv 5) pa_nil))) (pe_callB (call_max2 rfl) (by rfl) T.z_max (by decide +kernel) (pa_cons (pv 2) (pa_cons (pe_op op_sub (pv 5) (pe_fldK (K := K) rfl (pv 4) rfl)) pa_nil))) (nomark _)) (pss_one (ps_ret pe_bl)) pss_nil)
      (pss_cons (ps_if (pt_cmpR op_ne (pe_call (ok_potentiated T) (hr.mono (by decide)) rfl T.g_potentiated T.F_potentiated.kp T.b_potentiated .nil pass0 (pa_cons (pv 4) (pa_cons (pv 5) pa_nil))) (pe_callB (call_min2 rfl) (by rfl) T.z_min (by decide +kernel) (pa_cons (pv 3) (pa_cons (pe_op op_add (pv 5) (pe_fldK (K := K) rfl (pv 4) rfl)) pa_nil))) (nomark _)) (pss_one (ps_ret pe_bl)) pss_nil)
      (pss_cons (ps_set (i := 6) sc_u_law_rules.nd rfl (.inl rfl) (pe_make T.k_Rule (ok_Rule__init T) (hr.mono (by decide)) rfl T.g_Rule T.b_Rule__init .nil pass0 (pa_cons (pe_fldK (K := K) rfl (pv 4) rfl) (pa_cons (pe_fldK (K := K) rfl (pv 4) rfl) (pa_cons (pe_fldK (K := K) rfl (pv 4) rfl) (pa_cons (pv 2) (pa_cons (pe_op op_add (pv 3) pe_int) pa_nil)))))))
      (pss_one (ps_ret (pe_and (pe_cmpR (op_ownEq (ok_Rule__eq T) T.e_Rule.1 T.e_Rule.2 T.b_Rule__eq (hr.mono (by decide))) (pv 4) (pe_make T.k_Rule (ok_Rule__init T) (hr.mono (by decide)) rfl T.g_Rule T.b_Rule__init .nil pass0 (pa_cons (pe_fldK (K := K) rfl (pv 4) rfl) (pa_cons (pe_fldK (K := K) rfl (pv 4) rfl) (pa_cons (pe_fldK (K := K) rfl (pv 4) rfl) (pa_cons (pv 2) (pa_cons (pv 3) pa_nil)))))) (nomark _)) (pe_and (pe_not (pe_cmpR (op_ownEq (ok_Rule__eq T) T.e_Rule.1 T.e_Rule.2 T.b_Rule__eq (hr.mono (by decide))) (pv 4) (pv 6) (nomark _))) (pe_one (pe_not (pe_cmpR (op_ownEq (ok_Rule__eq T) T.e_Rule.1 T.e_Rule.2 T.b_Rule__eq (hr.mono (by decide))) (pv 4) pe_int (nomark _)))))))))))))))), ?_⟩
  rintro _ _ ⟨script, r, rfl, rfl, h⟩
  unfold m_u_law_rules at h
  refine s_from (Γ' := [.val ((pScr K) script), .any, .any, .any, .any, .any, .any]) ?_ rfl
  obtain ⟨rv1, h2, h⟩ := bs h
  refine s_seq (Γ1 := [.val ((pScr K) script), .val (pI rv1), .any, .any, .any, .any, .any]) (s_asg (e_call0 (a_cons (e_var rfl) (a_cons e_int a_nil)) ⟨script, 2, rv1, rfl, rfl, h2⟩) (show (1 : Nat) < 7 by decide)) ?_
  obtain ⟨rv3, h4, h⟩ := bs h
  obtain ⟨least5, e6, h⟩ := bndv_some h
  refine s_seq (Γ1 := [.val ((pScr K) script), .val (pI rv1), .val (pI least5), .any, .any, .any, .any]) (s_asg (e_as (r := pI) (e_op rr_I0 (e_op (rr_I (by decide)) (e_call0 (a_cons (e_var rfl) (a_cons e_int a_nil)) ⟨script, 3, rv3, rfl, rfl, h4⟩) e_int) e_int) e6) (show (2 : Nat) < 7 by decide)) ?_
  obtain ⟨rv7, h8, h⟩ := bs h
  obtain ⟨most9, e10, h⟩ := bndv_some h
  refine s_seq (Γ1 := [.val ((pScr K) script), .val (pI rv1), .val (pI least5), .val (pI most9), .any, .any, .any]) (s_asg (e_as (r := pI) (e_op rr_I0 (e_var rfl) (e_op (rr_I (by decide)) (e_call0 (a_cons (e_var rfl) (a_cons e_int a_nil)) ⟨script, 4, rv7, rfl, rfl, h8⟩) e_int)) e10) (show (3 : Nat) < 7 by decide)) ?_
  obtain ⟨rule11, h12, h⟩ := bs h
  refine s_seq (Γ1 := [.val ((pScr K) script), .val (pI rv1), .val (pI least5), .val (pI most9), .val ((rRule K) rule11), .any, .any]) (s_asg (e_make0 (a_cons (e_op (rr_I (by decide)) (e_var rfl) e_int) (a_cons (e_op (rr_I (by decide)) (e_op (rr_I (by exact ⟨by decide, by decide⟩)) (e_var rfl) e_int) e_int) (a_cons (e_op (rr_I (by decide)) (e_op (rr_I (by exact ⟨by decide, by decide⟩)) (e_var rfl) e_int) e_int) (a_cons (e_var rfl) (a_cons (e_var rfl) a_nil))))) ⟨(rv1 % 1001), ((rv1 / 1001) % 1001), ((rv1 / 1002001) % 101), least5, most9, rule11, rfl, rfl, h12⟩) (show (4 : Nat) < 7 by decide)) ?_
  obtain ⟨rv13, h14, h⟩ := bs h
  obtain ⟨q15, h16, h⟩ := bs h
  obtain ⟨weight17, e18, h⟩ := bndv_some h
  refine s_seq (Γ1 := [.val ((pScr K) script), .val (pI rv1), .val (pI least5), .val (pI most9), .val ((rRule K) rule11), .val (pI weight17), .any]) (s_asg (e_as (r := pI) (e_op rr_I0 (e_var rfl) (e_op (rr_modM h16) (e_call0 (a_cons (e_var rfl) (a_cons e_int a_nil)) ⟨script, 5, rv13, rfl, rfl, h14⟩) (e_op rr_I0 (e_op rr_I0 (e_var rfl) (e_var rfl)) e_int))) e18) (show (5 : Nat) < 7 by decide)) ?_
  obtain ⟨rv19, h20, h⟩ := bs h
  refine s_ifK (b := (!(decide (rv19 = (max least5 (weight17 - rule11.loss)))))) (t_test (e_op rr_neI (e_call0 (a_cons (e_var rfl) (a_cons (e_var rfl) a_nil)) ⟨rule11, weight17, rv19, rfl, rfl, h20⟩) (e_cb rc_max2 (a_cons (e_var rfl) (a_cons (e_op rr_I0 (e_var rfl) (e_fld T.c_Rule T.n_Rule_loss nd_Rule (i := 1) rfl rfl (e_var rfl))) a_nil))))) (fun hc => ?_) (fun hc => ?_)
  ·   have h := if_t hc h
      have h := Option.some.inj h
      subst h
      exact s_seqR (s_ret (e_to (P' := (pB false)) e_bl rfl))
  ·   have h := if_f hc h
      refine s_nxK ?_
      obtain ⟨rv21, h22, h⟩ := bs h
      refine s_ifK (b := (!(decide (rv21 = (min most9 (weight17 + rule11.gain)))))) (t_test (e_op rr_neI (e_call0 (a_cons (e_var rfl) (a_cons (e_var rfl) a_nil)) ⟨rule11, weight17, rv21, rfl, rfl, h22⟩) (e_cb rc_min2 (a_cons (e_var rfl) (a_cons (e_op rr_I0 (e_var rfl) (e_fld T.c_Rule T.n_Rule_gain nd_Rule (i := 0) rfl rfl (e_var rfl))) a_nil))))) (fun hc => ?_) (fun hc => ?_)
      ·   have h := if_t hc h
          have h := Option.some.inj h
          subst h
          exact s_seqR (s_ret (e_to (P' := (pB false)) e_bl rfl))
      ·   have h := if_f hc h
          refine s_nxK ?_
          obtain ⟨rule23, h24, h⟩ := bs h
          refine s_seq (Γ1 := [.val ((pScr K) script), .val (pI rv1), .val (pI least5), .val (pI most9), .val ((rRule K) rule11), .val (pI weight17), .val ((rRule K) rule23)]) (s_asg (e_make0 (a_cons (e_fld T.c_Rule T.n_Rule_gain nd_Rule (i := 0) rfl rfl (e_var rfl)) (a_cons (e_fld T.c_Rule T.n_Rule_loss nd_Rule (i := 1) rfl rfl (e_var rfl)) (a_cons (e_fld T.c_Rule T.n_Rule_window nd_Rule (i := 2) rfl rfl (e_var rfl)) (a_cons (e_var rfl) (a_cons (e_op rr_I0 (e_var rfl) e_int) a_nil))))) ⟨rule11.gain, rule11.loss, rule11.window, least5, (most9 + 1), rule23, rfl, rfl, h24⟩) (show (6 : Nat) < 7 by decide)) ?_
          obtain ⟨rule25, h26, h⟩ := bs h
          obtain ⟨eq27, h28, h⟩ := bs h
          obtain ⟨c31, h32, h⟩ := bs h
          have h := Option.some.inj h
          subst h
          exact (s_ret (e_to (P' := (pB c31)) (e_andM (e_ownEq (e_var rfl) (e_make0 (a_cons (e_fld T.c_Rule T.n_Rule_gain nd_Rule (i := 0) rfl rfl (e_var rfl)) (a_cons (e_fld T.c_Rule T.n_Rule_loss nd_Rule (i := 1) rfl rfl (e_var rfl)) (a_cons (e_fld T.c_Rule T.n_Rule_window nd_Rule (i := 2) rfl rfl (e_var rfl)) (a_cons (e_var rfl) (a_cons (e_var rfl) a_nil))))) ⟨rule11.gain, rule11.loss, rule11.window, least5, most9, rule25, rfl, rfl, h26⟩) tw_O notFirst_self (.inl ⟨rule11, rule25, eq27, rfl, rfl, h28⟩)) (fun b hc h33 => by obtain ⟨eq29, h30, h33⟩ := bs h33; have h33 := Option.some.inj h33; subst h33; exact (e_and (e_not (e_ownEq (e_var rfl) (e_var rfl) tw_O notFirst_self (.inl ⟨rule11, rule23, eq29, rfl, rfl, h30⟩))) (fun _ => (e_not (e_ownEq (e_var rfl) e_int tw_I T.nf_Rule_int (.inr ⟨rule11, _, _, rfl, rfl, ty_I, T.ki_int_Rule⟩)))) rfl)) h32) rfl))

def m_u_law_lists (script : (List Int)) : Option Bool :=
  (m_u_law_cell script 6).bind fun rv1 =>
  (m_Neuron__init (1 + (rv1 % 9)) 0 0 0 false).bind fun neuron3 =>
  bndv ([neuron3] : (List Neuron)) fun neurons5 =>
  (m_Synapse__init 0 0 1 1 false).bind fun synapse7 =>
  bndv ([synapse7] : (List Synapse)) fun synapses9 =>
  (m_Network__init 1 neurons5 synapses9 none).bind fun network11 =>
  (m_Neuron__init 2 0 0 0 false).bind fun neuron13 =>
  (appM neurons5 neuron13).bind fun neurons15 =>
  (m_Synapse__init 0 0 2 2 false).bind fun synapse17 =>
  (appM synapses9 synapse17).bind fun synapses19 =>
  (if (!(decide ((network11.neurons.length : Int) = 1))) then some true else (if (!(decide ((network11.synapses.length : Int) = 1))) then some true else (m_Network_sources network11).bind fun rv21 => some ((!(decide (rv21 = 2))) || network11.rule.isSome)).bind fun c23 => some c23).bind fun c26 =>
  if c26 then some false
  else (m_Network__init 1 (cutP neurons15 none (some 1)) (cutP synapses19 none (some 1)) none).bind fun network29 =>
  (m_Network__eq network11 network29).bind fun eq31 =>
  (if (!eq31) then some true else (m_Network__init 2 (cutP neurons15 none (some 1)) (cutP synapses19 none (some 1)) none).bind fun network33 => (m_Network__eq network11 network33).bind fun eq35 => some eq35).bind fun c37 =>
  if c37 then some false
  else (m_Network__init 1 neurons15 (cutP synapses19 none (some 1)) none).bind fun network40 =>
  (m_Network__eq network11 network40).bind fun eq42 =>
  (if eq42 then some true else (m_Network__init 1 (cutP neurons15 none (some 1)) synapses19 none).bind fun network44 => (m_Network__eq network11 network44).bind fun eq46 => some (eq46 || false)).bind fun c48 =>
  if c48 then some false
  else (m_Rule__init 1 1 1 0 9).bind fun rule51 =>
  (m_Network__init 1 (cutP neurons15 none (some 1)) (cutP synapses19 none (some 1)) (some rule51)).bind fun network53 =>
  (m_Network__eq network11 network53).bind fun eq55 =>
  some (!eq55)
def R_u_law_lists (K : PySem.W.Frag) : List Pr → Pr → Prop := fun Ps Q => ∃ (script : (List Int)) (r : Bool), Ps = [((pScr K) script)] ∧ Q = (pB r) ∧ m_u_law_lists script = some r
theorem sc_u_law_lists : FnScope ["script", "neurons", "synapses", "one"] ["script"] (defScope st_u_law_lists) := ⟨rfl, rfl, rfl, by decide +kernel, rfl, by decide +kernel, by decide +kernel⟩
theorem ok_u_law_lists (T : Txt P w K mg base D) : FnOk P w K mg base CX0 29 (He.fAd K ("_law_lists", none)) D.u_law_lists ["script"] (spR (R_u_law_lists K)) := by
  obtain ⟨ds_Neuron__init_1, hd_Neuron__init_1, hb_Neuron__init_1⟩ := T.d_Neuron__init_1
  obtain ⟨ds_Synapse__init_4, hd_Synapse__init_4, hb_Synapse__init_4⟩ := T.d_Synapse__init_4
  obtain ⟨ds_Network__init_3, hd_Network__init_3, hb_Network__init_3⟩ := T.d_Network__init_3
  refine fn_R T.F_u_law_lists sc_u_law_lists (by rintro _ _ ⟨script, _, rfl, rfl, _⟩; rfl) (by decide) fun cdv A outer s H E hr => ⟨_, (pss_cons (ps_set (i := 1) sc_u_law_lists.nd rfl (.inl rfl) (pe_lst (pa_cons (pe_make T.k_Neuron (ok_Neuron__init T) (hr.mono (by decide)) rfl T.g_Neuron hb_Neuron__init_1 hd_Neuron__init_1 pass0 (pa_cons (pe_op op_add pe_int (pe_op op_mod (pe_call (ok_u_law_cell T) (hr.mono (by decide)) rfl T.g_u_law_cell T.F_u_law_cell.kp T.b_u_law_cell .nil pass0 (pa_cons (pv 0) (pa_cons pe_int pa_nil))) pe_int)) pa_nil)) pa_nil)))
      (pss_cons (ps_set (i := 2) sc_u_law_lists.nd rfl (.inl rfl) (pe_lst (pa_cons (pe_make T.k_Synapse (ok_Synapse__init T) (hr.mono (by decide)) rfl T.g_Synapse hb_Synapse__init_4 hd_Synapse__init_4 pass0 (pa_cons pe_int (pa_cons pe_int (pa_cons pe_int (pa_cons pe_int pa_nil))))) pa_nil)))
      (pss_cons (ps_set (i := 3) sc_u_law_lists.nd rfl (.inl rfl) (pe_make T.k_Network (ok_Network__init T) (hr.mono (by decide)) rfl T.g_Network hb_Network__init_3 hd_Network__init_3 pass0 (pa_cons pe_int (pa_cons (pv 1) (pa_cons (pv 2) pa_nil)))))
      (pss_cons (ps_expr (pe_bm PySem.F.plainAttrs_list PySem.F.slot_list_append PySem.F.type_list_append mt_append (pv 1) (pa_cons (pe_make T.k_Neuron (ok_Neuron__init T) (hr.mono (by decide)) rfl T.g_Neuron hb_Neuron__init_1 hd_Neuron__init_1 pass0 (pa_cons pe_int pa_nil)) pa_nil)))
      (pss_cons (ps_expr (pe_bm PySem.F.plainAttrs_list PySem.F.slot_list_append PySem.F.type_list_append mt_append (pv 2) (pa_cons (pe_make T.k_Synapse (ok_Synapse__init T) (hr.mono (by decide)) rfl T.g_Synapse hb_Synapse__init_4 hd_Synapse__init_4 pass0 (pa_cons pe_int (pa_cons pe_int (pa_cons pe_int (pa_cons pe_int pa_nil))))) pa_nil)))
      (pss_cons (ps_if (PW.pt (pw_or (pt_cmpR op_ne (pe_callB (len_seqK (K := K) rfl) (by rfl) T.z_len PySem.boot_len (pa_cons (pe_fldK (K := K) rfl (pv 3) rfl) pa_nil)) pe_int (nomark _)) (pw_or (pt_cmpR op_ne (pe_callB (len_seqK (K := K) rfl) (by rfl) T.z_len PySem.boot_len (pa_cons (pe_fldK (K := K) rfl (pv 3) rfl) pa_nil)) pe_int (nomark _)) (pw_or (pt_cmpR op_ne (pe_meth0 (pv 3) T.c_Network T.m_Network_sources (ok_Network_sources T) (hr.mono (by decide)) T.b_Network_sources .nil pass0) pe_int (nomark _)) (pw_or1 (pt_cmpR op_notN (pe_fldK (K := K) rfl (pv 3) rfl) pe_non (nomark _))))))) (pss_one (ps_ret pe_bl)) pss_nil)
      (pss_cons (ps_if (PW.pt (pw_or (pt_not (pt_cmpR (op_ownEq (ok_Network__eq T) T.e_Network.1 T.e_Network.2 T.b_Network__eq (hr.mono (by decide))) (pv 3) (pe_make T.k_Network (ok_Network__init T) (hr.mono (by decide)) rfl T.g_Network hb_Network__init_3 hd_Network__init_3 pass0 (pa_cons pe_int (pa_cons (pe_slice (sl_listK (K := K) rfl) (pv 1) po_none (po_some pe_int)) (pa_cons (pe_slice (sl_listK (K := K) rfl) (pv 2) po_none (po_some pe_int)) pa_nil)))) (nomark _))) (pw_or1 (pt_cmpR (op_ownEq (ok_Network__eq T) T.e_Network.1 T.e_Network.2 T.b_Network__eq (hr.mono (by decide))) (pv 3) (pe_make T.k_Network (ok_Network__init T) (hr.mono (by decide)) rfl T.g_Network hb_Network__init_3 hd_Network__init_3 pass0 (pa_cons pe_int (pa_cons (pe_slice (sl_listK (K := K) rfl) (pv 1) po_none (po_some pe_int)) (pa_cons (pe_slice (sl_listK (K := K) rfl) (pv 2) po_none (po_some pe_int)) pa_nil)))) (nomark _))))) (pss_one (ps_ret pe_bl)) pss_nil)
      (pss_cons (ps_if (PW.pt (pw_or (pt_cmpR (op_ownEq (ok_Network__eq T) T.e_Network.1 T.e_Network.2 T.b_Network__eq (hr.mono (by decide))) (pv 3) (pe_make T.k_Network (ok_Network__init T) (hr.mono (by decide)) rfl T.g_Network hb_Network__init_3 hd_Network__init_3 pass0 (pa_cons pe_int (pa_cons (pv 1) (pa_cons (pe_slice (sl_listK (K := K) rfl) (pv 2) po_none (po_some pe_int)) pa_nil)))) (nomark _)) (pw_or (pt_cmpR (op_ownEq (ok_Network__eq T) T.e_Network.1 T.e_Network.2 T.b_Network__eq (hr.mono (by decide))) (pv 3) (pe_make T.k_Network (ok_Network__init T) (hr.mono (by decide)) rfl T.g_Network hb_Network__init_3 hd_Network__init_3 pass0 (pa_cons pe_int (pa_cons (pe_slice (sl_listK (K := K) rfl) (pv 1) po_none (po_some pe_int)) (pa_cons (pv 2) pa_nil)))) (nomark _)) (pw_or1 (pt_cmpR (op_ownEq (ok_Network__eq T) T.e_Network.1 T.e_Network.2 T.b_Network__eq (hr.mono (by decide))) (pv 3) (pv 1) (nomark _)))))) (pss_one (ps_ret pe_bl)) pss_nil)
      (pss_one (ps_ret (pe_not (pe_cmpR (op_ownEq (ok_Network__eq T) T.e_Network.1 T.e_Network.2 T.b_Network__eq (hr.mono (by decide))) (pv 3) (pe_make T.k_Network (ok_Network__init T) (hr.mono (by decide)) rfl T.g_Network T.b_Network__init .nil pass0 (pa_cons pe_int (pa_cons (pe_slice (sl_listK (K := K) rfl) (pv 1) po_none (po_some pe_int)) (pa_cons (pe_slice (sl_listK (K := K) rfl) (pv 2) po_none (po_some pe_int)) (pa_cons (pe_make T.k_Rule (ok_Rule__init T) (hr.mono (by decide)) rfl T.g_Rule T.b_Rule__init .nil pass0 (pa_cons pe_int (pa_cons pe_int (pa_cons pe_int (pa_cons pe_int (pa_cons pe_int pa_nil)))))) pa_nil))))) (nomark _))))))))))))), ?_⟩
  rintro _ _ ⟨script, r, rfl, rfl, h⟩
  unfold m_u_law_lists at h
  refine s_from (Γ' := [.val ((pScr K) script), .any, .any, .any]) ?_ rfl
  obtain ⟨rv1, h2, h⟩ := bs h
  obtain ⟨neuron3, h4, h⟩ := bs h
  obtain ⟨neurons5, e6, h⟩ := bndv_some h
  refine s_seq (Γ1 := [.val ((pScr K) script), .own (oL (neurons5.map (rNeuron K))), .any, .any]) (s_asgW (w_as (r := (rNeuron K)) (w_to (r := (rNeuron K)) (xs := ([neuron3] : (List Neuron))) (w_lst (a_cons (e_make (Ds := [(pI 0), (pI 0), (pI 0), (pB false)]) (a_cons (e_op rr_I0 e_int (e_op (rr_I (by decide)) (e_call0 (a_cons (e_var rfl) (a_cons e_int a_nil)) ⟨script, 6, rv1, rfl, rfl, h2⟩) e_int)) a_nil) (fun _ => ⟨rfl, rfl, rfl, rfl, trivial⟩) ⟨(1 + (rv1 % 9)), 0, 0, 0, false, neuron3, rfl, rfl, h4⟩) a_nil) (Nat.le_of_ble_eq_true rfl)) rfl) e6) (show (1 : Nat) < 4 by decide)) ?_
  obtain ⟨synapse7, h8, h⟩ := bs h
  obtain ⟨synapses9, e10, h⟩ := bndv_some h
  refine s_seq (Γ1 := [.val ((pScr K) script), .own (oL (neurons5.map (rNeuron K))), .own (oL (synapses9.map (rSynapse K))), .any]) (s_asgW (w_as (r := (rSynapse K)) (w_to (r := (rSynapse K)) (xs := ([synapse7] : (List Synapse))) (w_lst (a_cons (e_make (Ds := [(pB false)]) (a_cons e_int (a_cons e_int (a_cons e_int (a_cons e_int a_nil)))) (fun _ => ⟨rfl, trivial⟩) ⟨0, 0, 1, 1, false, synapse7, rfl, rfl, h8⟩) a_nil) (Nat.le_of_ble_eq_true rfl)) rfl) e10) (show (2 : Nat) < 4 by decide)) ?_
  obtain ⟨network11, h12, h⟩ := bs h
  refine s_seq (Γ1 := [.val ((pScr K) script), .own (oL (neurons5.map (rNeuron K))), .own (oL (synapses9.map (rSynapse K))), .val ((rNetwork K) network11)]) (s_asg (e_frz (frz_Network K _) (w_lendL (i := 1) rfl frz_L lw_L ((nlw_Network K) _) (w_lendL (i := 2) rfl frz_L lw_L ((nlw_Network K) _) (e_makeU (Ds := [((pOpt (rRule K)) none)]) (a_cons e_int (a_cons (e_var rfl) (a_cons (e_var rfl) a_nil))) (fun _ => ⟨rfl, trivial⟩) ⟨1, neurons5, synapses9, none, network11, rfl, rfl, rfl, rfl, h12⟩)))) (show (3 : Nat) < 4 by decide)) ?_
  obtain ⟨neuron13, h14, h⟩ := bs h
  obtain ⟨neurons15, h16, h⟩ := bs h
  refine s_seq (Γ1 := [.val ((pScr K) script), .own (oL (neurons15.map (rNeuron K))), .own (oL (synapses9.map (rSynapse K))), .val ((rNetwork K) network11)]) (s_appM (r := (rNeuron K)) (i := 1) rfl (e_make (Ds := [(pI 0), (pI 0), (pI 0), (pB false)]) (a_cons e_int a_nil) (fun _ => ⟨rfl, rfl, rfl, rfl, trivial⟩) ⟨2, 0, 0, 0, false, neuron13, rfl, rfl, h14⟩) h16) ?_
  obtain ⟨synapse17, h18, h⟩ := bs h
  obtain ⟨synapses19, h20, h⟩ := bs h
  refine s_seq (Γ1 := [.val ((pScr K) script), .own (oL (neurons15.map (rNeuron K))), .own (oL (synapses19.map (rSynapse K))), .val ((rNetwork K) network11)]) (s_appM (r := (rSynapse K)) (i := 2) rfl (e_make (Ds := [(pB false)]) (a_cons e_int (a_cons e_int (a_cons e_int (a_cons e_int a_nil)))) (fun _ => ⟨rfl, trivial⟩) ⟨0, 0, 2, 2, false, synapse17, rfl, rfl, h18⟩) h20) ?_
  obtain ⟨c26, h27, h⟩ := bs h
  refine s_ifK (b := c26) (t_orM (t_test (e_op rr_neI (e_lenM (r_E (e_fld T.c_Network T.n_Network_neurons nd_Network (i := 1) rfl rfl (e_var rfl)))) e_int)) (fun b hc h28 => by obtain ⟨c23, h24, h28⟩ := bs h28; have h28 := Option.some.inj h28; subst h28; exact (t_orM (t_test (e_op rr_neI (e_lenM (r_E (e_fld T.c_Network T.n_Network_synapses nd_Network (i := 2) rfl rfl (e_var rfl)))) e_int)) (fun b hc h25 => by obtain ⟨rv21, h22, h25⟩ := bs h25; have h25 := Option.some.inj h25; subst h25; exact (t_or (t_test (e_op rr_neI (e_meth0 (e_var rfl) (by decide +kernel) a_nil ⟨network11, rv21, rfl, rfl, h22⟩) e_int)) (fun _ => (t_test (e_op (rr_notN nn_Rule) (e_fld T.c_Network T.n_Network_rule nd_Network (i := 3) rfl rfl (e_var rfl)) e_non))) rfl)) h24)) h27) (fun hc => ?_) (fun hc => ?_)
  ·   have h := if_t hc h
      have h := Option.some.inj h
      subst h
      exact s_seqR (s_ret (e_to (P' := (pB false)) e_bl rfl))
  ·   have h := if_f hc h
      refine s_nxK ?_
      obtain ⟨network29, h30, h⟩ := bs h
      obtain ⟨eq31, h32, h⟩ := bs h
      obtain ⟨c37, h38, h⟩ := bs h
      refine s_ifK (b := c37) (t_lend (i := 1) rfl frz_L (t_lend (i := 2) rfl frz_L (t_orM (t_not (t_test (e_ownEq (e_var rfl) (e_frz (frz_Network K _) (e_makeU (Ds := [((pOpt (rRule K)) none)]) (a_cons e_int (a_cons (e_L (w_sliceM (r_E (e_var rfl)) o_none (o_some e_int))) (a_cons (e_L (w_sliceM (r_E (e_var rfl)) o_none (o_some e_int))) a_nil))) (fun _ => ⟨rfl, trivial⟩) ⟨1, (cutP neurons15 none (some 1)), (cutP synapses19 none (some 1)), none, network29, rfl, rfl, rfl, rfl, h30⟩)) tw_O notFirst_self (.inl ⟨network11, network29, eq31, rfl, rfl, h32⟩)))) (fun b hc h39 => by obtain ⟨network33, h34, h39⟩ := bs h39; obtain ⟨eq35, h36, h39⟩ := bs h39; have h39 := Option.some.inj h39; subst h39; exact (t_test (e_ownEq (e_var rfl) (e_frz (frz_Network K _) (e_makeU (Ds := [((pOpt (rRule K)) none)]) (a_cons e_int (a_cons (e_L (w_sliceM (r_E (e_var rfl)) o_none (o_some e_int))) (a_cons (e_L (w_sliceM (r_E (e_var rfl)) o_none (o_some e_int))) a_nil))) (fun _ => ⟨rfl, trivial⟩) ⟨2, (cutP neurons15 none (some 1)), (cutP synapses19 none (some 1)), none, network33, rfl, rfl, rfl, rfl, h34⟩)) tw_O notFirst_self (.inl ⟨network11, network33, eq35, rfl, rfl, h36⟩)))) h38))) (fun hc => ?_) (fun hc => ?_)
      ·   have h := if_t hc h
          have h := Option.some.inj h
          subst h
          exact s_seqR (s_ret (e_to (P' := (pB false)) e_bl rfl))
      ·   have h := if_f hc h
          refine s_nxK ?_
          obtain ⟨network40, h41, h⟩ := bs h
          obtain ⟨eq42, h43, h⟩ := bs h
          obtain ⟨c48, h49, h⟩ := bs h
          refine s_ifK (b := c48) (t_lend (i := 1) rfl frz_L (t_lend (i := 2) rfl frz_L (t_orM (t_test (e_ownEq (e_var rfl) (e_frz (frz_Network K _) (e_makeU (Ds := [((pOpt (rRule K)) none)]) (a_cons e_int (a_cons (e_var rfl) (a_cons (e_L (w_sliceM (r_E (e_var rfl)) o_none (o_some e_int))) a_nil))) (fun _ => ⟨rfl, trivial⟩) ⟨1, neurons15, (cutP synapses19 none (some 1)), none, network40, rfl, rfl, rfl, rfl, h41⟩)) tw_O notFirst_self (.inl ⟨network11, network40, eq42, rfl, rfl, h43⟩))) (fun b hc h50 => by obtain ⟨network44, h45, h50⟩ := bs h50; obtain ⟨eq46, h47, h50⟩ := bs h50; have h50 := Option.some.inj h50; subst h50; exact (t_or (t_test (e_ownEq (e_var rfl) (e_frz (frz_Network K _) (e_makeU (Ds := [((pOpt (rRule K)) none)]) (a_cons e_int (a_cons (e_L (w_sliceM (r_E (e_var rfl)) o_none (o_some e_int))) (a_cons (e_var rfl) a_nil))) (fun _ => ⟨rfl, trivial⟩) ⟨1, (cutP neurons15 none (some 1)), synapses19, none, network44, rfl, rfl, rfl, rfl, h45⟩)) tw_O notFirst_self (.inl ⟨network11, network44, eq46, rfl, rfl, h47⟩))) (fun _ => (t_test (e_ownEq (e_var rfl) (e_var rfl) tw_L T.nf_Network_list (.inr ⟨network11, _, _, rfl, rfl, ty_L, T.ki_list_Network⟩)))) rfl)) h49))) (fun hc => ?_) (fun hc => ?_)
          ·   have h := if_t hc h
              have h := Option.some.inj h
              subst h
              exact s_seqR (s_ret (e_to (P' := (pB false)) e_bl rfl))
          ·   have h := if_f hc h
              refine s_nxK ?_
              refine s_frz (i := 1) rfl frz_L (s_from (Γ' := [.val ((pScr K) script), .val ((rL (rNeuron K)) neurons15), .own (oL (synapses19.map (rSynapse K))), .val ((rNetwork K) network11)]) ?_ rfl)
              refine s_frz (i := 2) rfl frz_L (s_from (Γ' := [.val ((pScr K) script), .val ((rL (rNeuron K)) neurons15), .val ((rL (rSynapse K)) synapses19), .val ((rNetwork K) network11)]) ?_ rfl)
              obtain ⟨rule51, h52, h⟩ := bs h
              obtain ⟨network53, h54, h⟩ := bs h
              obtain ⟨eq55, h56, h⟩ := bs h
              have h := Option.some.inj h
              subst h
              exact (s_ret (e_to (P' := (pB (!eq55))) (e_not (e_ownEq (e_var rfl) (e_frz (frz_Network K _) (e_makeU0 (a_cons e_int (a_cons (e_L (w_sliceM (r_E (e_var rfl)) o_none (o_some e_int))) (a_cons (e_L (w_sliceM (r_E (e_var rfl)) o_none (o_some e_int))) (a_cons (e_make0 (a_cons e_int (a_cons e_int (a_cons e_int (a_cons e_int (a_cons e_int a_nil))))) ⟨1, 1, 1, 0, 9, rule51, rfl, rfl, h52⟩) a_nil)))) ⟨1, (cutP neurons15 none (some 1)), (cutP synapses19 none (some 1)), (some rule51), network53, rfl, rfl, rfl, rfl, h54⟩)) tw_O notFirst_self (.inl ⟨network11, network53, eq55, rfl, rfl, h56⟩))) rfl))

def m_u_law_mappings (script : (List Int)) : Option Bool :=
  (m_u_law_cell script 7).bind fun rv1 =>
  bndv ((([(rv1 % 5)] : (List Int)), ([((rv1 / 5) % 5)] : (List Int)), ([([0] : (List Int)), ([1] : (List Int))] : (List (List Int))), ([([(0, 0, 1, 1, false)] : (List (Int × Int × Int × Int × Bool))), ([] : (List (Int × Int × Int × Int × Bool)))] : (List (List (Int × Int × Int × Int × Bool))))) : ((List Int) × (List Int) × (List (List Int)) × (List (List (Int × Int × Int × Int × Bool))))) fun parts3 =>
  (m_Mapping__init parts3.1 parts3.2.1 parts3.2.2.1 parts3.2.2.2).bind fun mapping5 =>
  (m_Mapping__init ([(rv1 % 5)] : (List Int)) ([((rv1 / 5) % 5)] : (List Int)) ([([0] : (List Int)), ([1] : (List Int))] : (List (List Int))) ([([(0, 0, 1, 1, false)] : (List (Int × Int × Int × Int × Bool))), ([] : (List (Int × Int × Int × Int × Bool)))] : (List (List (Int × Int × Int × Int × Bool))))).bind fun mapping7 =>
  (appM parts3.1 1).bind fun parts9 =>
  (atI ((parts9, parts3.2.1, parts3.2.2.1, parts3.2.2.2).2.2.1) 0).bind fun v11 =>
  (appM v11 1).bind fun parts13 =>
  (setM ((parts9, parts3.2.1, parts3.2.2.1, parts3.2.2.2).2.2.1) 0 parts13).bind fun parts15 =>
  (atI (((parts9, parts3.2.1, parts3.2.2.1, parts3.2.2.2).1, (parts9, parts3.2.1, parts3.2.2.1, parts3.2.2.2).2.1, parts15, (parts9, parts3.2.1, parts3.2.2.1, parts3.2.2.2).2.2.2).2.2.2) 1).bind fun v17 =>
  (appM v17 (0, 0, 1, 1, false)).bind fun parts19 =>
  (setM (((parts9, parts3.2.1, parts3.2.2.1, parts3.2.2.2).1, (parts9, parts3.2.1, parts3.2.2.1, parts3.2.2.2).2.1, parts15, (parts9, parts3.2.1, parts3.2.2.1, parts3.2.2.2).2.2.2).2.2.2) 1 parts19).bind fun parts21 =>
  (m_Mapping__eq mapping5 mapping7).bind fun eq23 =>
  (if (!eq23) then some true else (if (!(decide (mapping5.homes = ([(rv1 % 5)] : (List Int))))) then some true else (if (!(decide (mapping5.routes = ([([0] : (List Int)), ([1] : (List Int))] : (List (List Int)))))) then some true else (atI mapping5.rows 1).bind fun v25 => some (!(decide (v25 = ([] : (List (Int × Int × Int × Int × Bool))))))).bind fun c27 => some c27).bind fun c30 => some c30).bind fun c33 =>
  if c33 then some false
  else bndv ((rv1 / 25) % 4) fun turn36 =>
  (m_Mapping__init ((((parts9, parts3.2.1, parts3.2.2.1, parts3.2.2.2).1, (parts9, parts3.2.1, parts3.2.2.1, parts3.2.2.2).2.1, parts15, (parts9, parts3.2.1, parts3.2.2.1, parts3.2.2.2).2.2.2).1, ((parts9, parts3.2.1, parts3.2.2.1, parts3.2.2.2).1, (parts9, parts3.2.1, parts3.2.2.1, parts3.2.2.2).2.1, parts15, (parts9, parts3.2.1, parts3.2.2.1, parts3.2.2.2).2.2.2).2.1, ((parts9, parts3.2.1, parts3.2.2.1, parts3.2.2.2).1, (parts9, parts3.2.1, parts3.2.2.1, parts3.2.2.2).2.1, parts15, (parts9, parts3.2.1, parts3.2.2.1, parts3.2.2.2).2.2.2).2.2.1, parts21).1) mapping7.gates mapping7.routes mapping7.rows).bind fun mapping38 =>
  (m_Mapping__init mapping7.homes ([9] : (List Int)) mapping7.routes ([([] : (List (Int × Int × Int × Int × Bool)))] : (List (List (Int × Int × Int × Int × Bool))))).bind fun mapping40 =>
  (m_Mapping__init mapping7.homes mapping7.gates ((((parts9, parts3.2.1, parts3.2.2.1, parts3.2.2.2).1, (parts9, parts3.2.1, parts3.2.2.1, parts3.2.2.2).2.1, parts15, (parts9, parts3.2.1, parts3.2.2.1, parts3.2.2.2).2.2.2).1, ((parts9, parts3.2.1, parts3.2.2.1, parts3.2.2.2).1, (parts9, parts3.2.1, parts3.2.2.1, parts3.2.2.2).2.1, parts15, (parts9, parts3.2.1, parts3.2.2.1, parts3.2.2.2).2.2.2).2.1, ((parts9, parts3.2.1, parts3.2.2.1, parts3.2.2.2).1, (parts9, parts3.2.1, parts3.2.2.1, parts3.2.2.2).2.1, parts15, (parts9, parts3.2.1, parts3.2.2.1, parts3.2.2.2).2.2.2).2.2.1, parts21).2.2.1) mapping7.rows).bind fun mapping42 =>
  (m_Mapping__init mapping7.homes mapping7.gates mapping7.routes ((((parts9, parts3.2.1, parts3.2.2.1, parts3.2.2.2).1, (parts9, parts3.2.1, parts3.2.2.1, parts3.2.2.2).2.1, parts15, (parts9, parts3.2.1, parts3.2.2.1, parts3.2.2.2).2.2.2).1, ((parts9, parts3.2.1, parts3.2.2.1, parts3.2.2.2).1, (parts9, parts3.2.1, parts3.2.2.1, parts3.2.2.2).2.1, parts15, (parts9, parts3.2.1, parts3.2.2.1, parts3.2.2.2).2.2.2).2.1, ((parts9, parts3.2.1, parts3.2.2.1, parts3.2.2.2).1, (parts9, parts3.2.1, parts3.2.2.1, parts3.2.2.2).2.1, parts15, (parts9, parts3.2.1, parts3.2.2.1, parts3.2.2.2).2.2.2).2.2.1, parts21).2.2.2)).bind fun mapping44 =>
  (atI ([mapping38, mapping40, mapping42, mapping44] : (List Mapping)) turn36).bind fun v46 =>
  (m_Mapping__eq mapping5 v46).bind fun eq48 =>
  some (!eq48)
def R_u_law_mappings (K : PySem.W.Frag) : List Pr → Pr → Prop := fun Ps Q => ∃ (script : (List Int)) (r : Bool), Ps = [((pScr K) script)] ∧ Q = (pB r) ∧ m_u_law_mappings script = some r
theorem sc_u_law_mappings : FnScope ["script", "cell", "parts", "one", "same", "turn"] ["script"] (defScope st_u_law_mappings) := ⟨rfl, rfl, rfl, by decide +kernel, rfl, by decide +kernel, by decide +kernel⟩
theorem ok_u_law_mappings (T : Txt P w K mg base D) : FnOk P w K mg base CX0 29 (He.fAd K ("_law_mappings", none)) D.u_law_mappings ["script"] (spR (R_u_law_mappings K)) := by
  refine fn_R T.F_u_law_mappings sc_u_law_mappings (by rintro _ _ ⟨script, _, rfl, rfl, _⟩; rfl) (by decide) fun cdv A outer s H E hr => ⟨_, (pss_cons (ps_set (i := 1) sc_u_law_mappings.nd rfl (.inl rfl) (pe_call (ok_u_law_cell T) (hr.mono (by decide)) rfl T.g_u_law_cell T.F_u_law_cell.kp T.b_u_law_cell .nil pass0 (pa_cons (pv 0) (pa_cons pe_int pa_nil))))
      (pss_cons (ps_set (i := 2) sc_u_law_mappings.nd rfl (.inl rfl) (pe_lst (pa_cons (pe_lst (pa_cons (pe_op op_mod (pv 1) pe_int) pa_nil)) (pa_cons (pe_lst (pa_cons (pe_op op_mod (pe_op op_fdiv (pv 1) pe_int) pe_int) pa_nil)) (pa_cons (pe_lst (pa_cons (pe_lst (pa_cons pe_int pa_nil)) (pa_cons (pe_lst (pa_cons pe_int pa_nil)) pa_nil))) (pa_cons (pe_lst (pa_cons (pe_lst (pa_cons (pe_tup (pa_cons pe_int (pa_cons pe_int (pa_cons pe_int (pa_cons pe_int (pa_cons pe_bl pa_nil)))))) pa_nil)) (pa_cons (pe_lst pa_nil) pa_nil))) pa_nil))))))
      (pss_cons (ps_set (i := 3) sc_u_law_mappings.nd rfl (.inl rfl) (pe_make T.k_Mapping (ok_Mapping__init T) (hr.mono (by decide)) rfl T.g_Mapping T.b_Mapping__init .nil pass0 (pa_cons (pe_ix (ix_listK (K := K) rfl) (pv 2) pe_int (fun _ _ => rfl)) (pa_cons (pe_ix (ix_listK (K := K) rfl) (pv 2) pe_int (fun _ _ => rfl)) (pa_cons (pe_ix (ix_listK (K := K) rfl) (pv 2) pe_int (fun _ _ => rfl)) (pa_cons (pe_ix (ix_listK (K := K) rfl) (pv 2) pe_int (fun _ _ => rfl)) pa_nil))))))
      (pss_cons (ps_set (i := 4) sc_u_law_mappings.nd rfl (.inl rfl) (pe_make T.k_Mapping (ok_Mapping__init T) (hr.mono (by decide)) rfl T.g_Mapping T.b_Mapping__init .nil pass0 (pa_cons (pe_lst (pa_cons (pe_op op_mod (pv 1) pe_int) pa_nil)) (pa_cons (pe_lst (pa_cons (pe_op op_mod (pe_op op_fdiv (pv 1) pe_int) pe_int) pa_nil)) (pa_cons (pe_lst (pa_cons (pe_lst (pa_cons pe_int pa_nil)) (pa_cons (pe_lst (pa_cons pe_int pa_nil)) pa_nil))) (pa_cons (pe_lst (pa_cons (pe_lst (pa_cons (pe_tup (pa_cons pe_int (pa_cons pe_int (pa_cons pe_int (pa_cons pe_int (pa_cons pe_bl pa_nil)))))) pa_nil)) (pa_cons (pe_lst pa_nil) pa_nil))) pa_nil))))))
      (pss_cons (ps_expr (pe_bm PySem.F.plainAttrs_list PySem.F.slot_list_append PySem.F.type_list_append mt_append (pe_ix (ix_listK (K := K) rfl) (pv 2) pe_int (fun _ _ => rfl)) (pa_cons pe_int pa_nil)))
      (pss_cons (ps_expr (pe_bm PySem.F.plainAttrs_list PySem.F.slot_list_append PySem.F.type_list_append mt_append (pe_ix (ix_listK (K := K) rfl) (pe_ix (ix_listK (K := K) rfl) (pv 2) pe_int (fun _ _ => rfl)) pe_int (fun _ _ => rfl)) (pa_cons pe_int pa_nil)))
      (pss_cons (ps_expr (pe_bm PySem.F.plainAttrs_list PySem.F.slot_list_append PySem.F.type_list_append mt_append (pe_ix (ix_listK (K := K) rfl) (pe_ix (ix_listK (K := K) rfl) (pv 2) pe_int (fun _ _ => rfl)) pe_int (fun _ _ => rfl)) (pa_cons (pe_tup (pa_cons pe_int (pa_cons pe_int (pa_cons pe_int (pa_cons pe_int (pa_cons pe_bl pa_nil)))))) pa_nil)))
      (pss_cons (ps_if (PW.pt (pw_or (pt_not (pt_cmpR (op_ownEq (ok_Mapping__eq T) T.e_Mapping.1 T.e_Mapping.2 T.b_Mapping__eq (hr.mono (by decide))) (pv 3) (pv 4) (nomark _))) (pw_or (pt_cmpR (neDK (K := K) rfl hr.units) (pe_fldK (K := K) rfl (pv 3) rfl) (pe_lst (pa_cons (pe_op op_mod (pv 1) pe_int) pa_nil)) (nomark _)) (pw_or (pt_cmpR (neDK (K := K) rfl hr.units) (pe_fldK (K := K) rfl (pv 3) rfl) (pe_lst (pa_cons (pe_lst (pa_cons pe_int pa_nil)) (pa_cons (pe_lst (pa_cons pe_int pa_nil)) pa_nil))) (nomark _)) (pw_or1 (pt_cmpR (neDK (K := K) rfl hr.units) (pe_ix (ix_listK (K := K) rfl) (pe_fldK (K := K) rfl (pv 3) rfl) pe_int (fun _ _ => rfl)) (pe_lst pa_nil) (nomark _))))))) (pss_one (ps_ret pe_bl)) pss_nil)
      (pss_cons (ps_set (i := 5) sc_u_law_mappings.nd rfl (.inl rfl) (pe_op op_mod (pe_op op_fdiv (pv 1) pe_int) pe_int))
      (pss_one (ps_ret (pe_not (pe_cmpR (op_ownEq (ok_Mapping__eq T) T.e_Mapping.1 T.e_Mapping.2 T.b_Mapping__eq (hr.mono (by decide))) (pv 3) (pe_ix (ix_listK (K := K) rfl) (pe_lst (pa_cons (pe_make T.k_Mapping (ok_Mapping__init T) (hr.mono (by decide)) rfl T.g_Mapping T.b_Mapping__init .nil pass0 (pa_cons (pe_ix (ix_listK (K := K) rfl) (pv 2) pe_int (fun _ _ => rfl)) (pa_cons (pe_fldK (K := K) rfl (pv 4) rfl) (pa_cons (pe_fldK (K := K) rfl (pv 4) rfl) (pa_cons (pe_fldK (K := K) rfl (pv 4) rfl) pa_nil))))) (pa_cons (pe_make T.k_Mapping (ok_Mapping__init T) (hr.mono (by decide)) rfl T.g_Mapping T.b_Mapping__init .nil pass0 (pa_cons (pe_fldK (K := K) rfl (pv 4) rfl) (pa_cons (pe_lst (pa_cons pe_int pa_nil)) (pa_cons (pe_fldK (K := K) rfl (pv 4) rfl) (pa_cons (pe_lst (pa_cons (pe_lst pa_nil) pa_nil)) pa_nil))))) (pa_cons (pe_make T.k_Mapping (ok_Mapping__init T) (hr.mono (by decide)) rfl T.g_Mapping T.b_Mapping__init .nil pass0 (pa_cons (pe_fldK (K := K) rfl (pv 4) rfl) (pa_cons (pe_fldK (K := K) rfl (pv 4) rfl) (pa_cons (pe_ix (ix_listK (K := K) rfl) (pv 2) pe_int (fun _ _ => rfl)) (pa_cons (pe_fldK (K := K) rfl (pv 4) rfl) pa_nil))))) (pa_cons (pe_make T.k_Mapping (ok_Mapping__init T) (hr.mono (by decide)) rfl T.g_Mapping T.b_Mapping__init .nil pass0 (pa_cons (pe_fldK (K := K) rfl (pv 4) rfl) (pa_cons (pe_fldK (K := K) rfl (pv 4) rfl) (pa_cons (pe_fldK (K := K) rfl (pv 4) rfl) (pa_cons (pe_ix (ix_listK (K := K) rfl) (pv 2) pe_int (fun _ _ => rfl)) pa_nil))))) pa_nil))))) (pv 5) (fun _ _ => rfl)) (nomark _)))))))))))))), ?_⟩
  rintro _ _ ⟨script, r, rfl, rfl, h⟩
  unfold m_u_law_mappings at h
  refine s_from (Γ' := [.val ((pScr K) script), .any, .any, .any, .any, .any]) ?_ rfl
  obtain ⟨rv1, h2, h⟩ := bs h
  refine s_seq (Γ1 := [.val ((pScr K) script), .val (pI rv1), .any, .any, .any, .any]) (s_asg (e_call0 (a_cons (e_var rfl) (a_cons e_int a_nil)) ⟨script, 7, rv1, rfl, rfl, h2⟩) (show (1 : Nat) < 6 by decide)) ?_
  obtain ⟨parts3, e4, h⟩ := bndv_some h
  refine s_seq (Γ1 := [.val ((pScr K) script), .val (pI rv1), .own (oLs [(oL (parts3.1.map pI)), (oL (parts3.2.1.map pI)), (oLs (parts3.2.2.1.map (fun x => (oL (x.map pI))))), (oLs (parts3.2.2.2.map (fun x => (oL (x.map (r5 pI pI pI pI pB))))))]), .any, .any, .any]) (s_asgW (w_asO (o := (fun x => (oLs [(oL (x.1.map pI)), (oL (x.2.1.map pI)), (oLs (x.2.2.1.map (fun x => (oL (x.map pI))))), (oLs (x.2.2.2.map (fun x => (oL (x.map (r5 pI pI pI pI pB))))))]))) (show EvW _ _ (oLs [(oL ((((([(rv1 % 5)] : (List Int)), ([((rv1 / 5) % 5)] : (List Int)), ([([0] : (List Int)), ([1] : (List Int))] : (List (List Int))), ([([(0, 0, 1, 1, false)] : (List (Int × Int × Int × Int × Bool))), ([] : (List (Int × Int × Int × Int × Bool)))] : (List (List (Int × Int × Int × Int × Bool))))) : ((List Int) × (List Int) × (List (List Int)) × (List (List (Int × Int × Int × Int × Bool))))).1).map pI)), (oL ((((([(rv1 % 5)] : (List Int)), ([((rv1 / 5) % 5)] : (List Int)), ([([0] : (List Int)), ([1] : (List Int))] : (List (List Int))), ([([(0, 0, 1, 1, false)] : (List (Int × Int × Int × Int × Bool))), ([] : (List (Int × Int × Int × Int × Bool)))] : (List (List (Int × Int × Int × Int × Bool))))) : ((List Int) × (List Int) × (List (List Int)) × (List (List (Int × Int × Int × Int × Bool))))).2.1).map pI)), (oLs ((((([(rv1 % 5)] : (List Int)), ([((rv1 / 5) % 5)] : (List Int)), ([([0] : (List Int)), ([1] : (List Int))] : (List (List Int))), ([([(0, 0, 1, 1, false)] : (List (Int × Int × Int × Int × Bool))), ([] : (List (Int × Int × Int × Int × Bool)))] : (List (List (Int × Int × Int × Int × Bool))))) : ((List Int) × (List Int) × (List (List Int)) × (List (List (Int × Int × Int × Int × Bool))))).2.2.1).map (fun x => (oL (x.map pI))))), (oLs ((((([(rv1 % 5)] : (List Int)), ([((rv1 / 5) % 5)] : (List Int)), ([([0] : (List Int)), ([1] : (List Int))] : (List (List Int))), ([([(0, 0, 1, 1, false)] : (List (Int × Int × Int × Int × Bool))), ([] : (List (Int × Int × Int × Int × Bool)))] : (List (List (Int × Int × Int × Int × Bool))))) : ((List Int) × (List Int) × (List (List Int)) × (List (List (Int × Int × Int × Int × Bool))))).2.2.2).map (fun x => (oL (x.map (r5 pI pI pI pI pB))))))]) from w_lstO (aw_cons (W := (oL (([(rv1 % 5)] : (List Int)).map pI))) (w_to (r := pI) (xs := ([(rv1 % 5)] : (List Int))) (w_lst (a_cons (e_op (rr_I (by decide)) (e_var rfl) e_int) a_nil) (Nat.le_of_ble_eq_true rfl)) rfl) (aw_cons (W := (oL (([((rv1 / 5) % 5)] : (List Int)).map pI))) (w_to (r := pI) (xs := ([((rv1 / 5) % 5)] : (List Int))) (w_lst (a_cons (e_op (rr_I (by decide)) (e_op (rr_I (by exact ⟨by decide, by decide⟩)) (e_var rfl) e_int) e_int) a_nil) (Nat.le_of_ble_eq_true rfl)) rfl) (aw_cons (W := (oLs (([([0] : (List Int)), ([1] : (List Int))] : (List (List Int))).map (fun x => (oL (x.map pI)))))) (show EvW _ _ (oLs (([([0] : (List Int)), ([1] : (List Int))] : (List (List Int))).map (fun x => (oL (x.map pI))))) from w_lstO (aw_cons (W := (oL (([0] : (List Int)).map pI))) (w_to (r := pI) (xs := ([0] : (List Int))) (w_lst (a_cons e_int a_nil) (Nat.le_of_ble_eq_true rfl)) rfl) (aw_cons (W := (oL (([1] : (List Int)).map pI))) (w_to (r := pI) (xs := ([1] : (List Int))) (w_lst (a_cons e_int a_nil) (Nat.le_of_ble_eq_true rfl)) rfl) aw_nil)) (Nat.le_of_ble_eq_true rfl)) (aw_cons (W := (oLs (([([(0, 0, 1, 1, false)] : (List (Int × Int × Int × Int × Bool))), ([] : (List (Int × Int × Int × Int × Bool)))] : (List (List (Int × Int × Int × Int × Bool)))).map (fun x => (oL (x.map (r5 pI pI pI pI pB))))))) (show EvW _ _ (oLs (([([(0, 0, 1, 1, false)] : (List (Int × Int × Int × Int × Bool))), ([] : (List (Int × Int × Int × Int × Bool)))] : (List (List (Int × Int × Int × Int × Bool)))).map (fun x => (oL (x.map (r5 pI pI pI pI pB)))))) from w_lstO (aw_cons (W := (oL (([(0, 0, 1, 1, false)] : (List (Int × Int × Int × Int × Bool))).map (r5 pI pI pI pI pB)))) (w_to (r := (r5 pI pI pI pI pB)) (xs := ([(0, 0, 1, 1, false)] : (List (Int × Int × Int × Int × Bool)))) (w_lst (a_cons (e_tup (a_cons e_int (a_cons e_int (a_cons e_int (a_cons e_int (a_cons e_bl a_nil))))) (Nat.le_of_ble_eq_true rfl)) a_nil) (Nat.le_of_ble_eq_true rfl)) rfl) (aw_cons (W := (oL (([] : (List (Int × Int × Int × Int × Bool))).map (r5 pI pI pI pI pB)))) (w_to (r := (r5 pI pI pI pI pB)) (xs := ([] : (List (Int × Int × Int × Int × Bool)))) (w_lst a_nil (Nat.le_of_ble_eq_true rfl)) rfl) aw_nil)) (Nat.le_of_ble_eq_true rfl)) aw_nil)))) (Nat.le_of_ble_eq_true rfl)) e4) (show (2 : Nat) < 6 by decide)) ?_
  obtain ⟨mapping5, h6, h⟩ := bs h
  refine s_seq (Γ1 := [.val ((pScr K) script), .val (pI rv1), .own (oLs [(oL (parts3.1.map pI)), (oL (parts3.2.1.map pI)), (oLs (parts3.2.2.1.map (fun x => (oL (x.map pI))))), (oLs (parts3.2.2.2.map (fun x => (oL (x.map (r5 pI pI pI pI pB))))))]), .val ((rMapping K) mapping5), .any, .any]) (s_asg (e_frz (frz_Mapping K _) (w_lendL (i := 2) rfl (frz_Ls (.cons frz_L (.cons frz_L (.cons (frz_Ls (frzA_map (o := (fun x => (oL (x.map pI)))) (r := (rL pI)) (fun _ => frz_L) _)) (.cons (frz_Ls (frzA_map (o := (fun x => (oL (x.map (r5 pI pI pI pI pB))))) (r := (rL (r5 pI pI pI pI pB))) (fun _ => frz_L) _)) .nil))))) (lw_Ls (lw_cons lw_L (lw_cons lw_L (lw_cons (lw_Ls (lw_map (fun _ => lw_L) _)) (lw_cons (lw_Ls (lw_map (fun _ => lw_L) _)) lw_nil))))) ((nlw_Mapping K) _) (e_makeU0 (a_cons (e_ixL (r_E (e_var rfl)) e_int (atT 0 rfl)) (a_cons (e_ixL (r_E (e_var rfl)) e_int (atT 1 rfl)) (a_cons (e_ixL (r_E (e_var rfl)) e_int (atT 2 rfl)) (a_cons (e_ixL (r_E (e_var rfl)) e_int (atT 3 rfl)) a_nil)))) ⟨parts3.1, parts3.2.1, parts3.2.2.1, parts3.2.2.2, mapping5, rfl, rfl, rfl, rfl, h6⟩))) (show (3 : Nat) < 6 by decide)) ?_
  obtain ⟨mapping7, h8, h⟩ := bs h
  refine s_seq (Γ1 := [.val ((pScr K) script), .val (pI rv1), .own (oLs [(oL (parts3.1.map pI)), (oL (parts3.2.1.map pI)), (oLs (parts3.2.2.1.map (fun x => (oL (x.map pI))))), (oLs (parts3.2.2.2.map (fun x => (oL (x.map (r5 pI pI pI pI pB))))))]), .val ((rMapping K) mapping5), .val ((rMapping K) mapping7), .any]) (s_asg (e_frz (frz_Mapping K _) (e_makeU0 (a_cons (e_L (w_to (r := pI) (xs := ([(rv1 % 5)] : (List Int))) (w_lst (a_cons (e_op (rr_I (by decide)) (e_var rfl) e_int) a_nil) (Nat.le_of_ble_eq_true rfl)) rfl)) (a_cons (e_L (w_to (r := pI) (xs := ([((rv1 / 5) % 5)] : (List Int))) (w_lst (a_cons (e_op (rr_I (by decide)) (e_op (rr_I (by exact ⟨by decide, by decide⟩)) (e_var rfl) e_int) e_int) a_nil) (Nat.le_of_ble_eq_true rfl)) rfl)) (a_cons (e_L (w_to (r := (rL pI)) (xs := ([([0] : (List Int)), ([1] : (List Int))] : (List (List Int)))) (w_lst (a_cons (e_L (w_to (r := pI) (xs := ([0] : (List Int))) (w_lst (a_cons e_int a_nil) (Nat.le_of_ble_eq_true rfl)) rfl)) (a_cons (e_L (w_to (r := pI) (xs := ([1] : (List Int))) (w_lst (a_cons e_int a_nil) (Nat.le_of_ble_eq_true rfl)) rfl)) a_nil)) (Nat.le_of_ble_eq_true rfl)) rfl)) (a_cons (e_L (w_to (r := (rL (r5 pI pI pI pI pB))) (xs := ([([(0, 0, 1, 1, false)] : (List (Int × Int × Int × Int × Bool))), ([] : (List (Int × Int × Int × Int × Bool)))] : (List (List (Int × Int × Int × Int × Bool))))) (w_lst (a_cons (e_L (w_to (r := (r5 pI pI pI pI pB)) (xs := ([(0, 0, 1, 1, false)] : (List (Int × Int × Int × Int × Bool)))) (w_lst (a_cons (e_tup (a_cons e_int (a_cons e_int (a_cons e_int (a_cons e_int (a_cons e_bl a_nil))))) (Nat.le_of_ble_eq_true rfl)) a_nil) (Nat.le_of_ble_eq_true rfl)) rfl)) (a_cons (e_L (w_to (r := (r5 pI pI pI pI pB)) (xs := ([] : (List (Int × Int × Int × Int × Bool)))) (w_lst a_nil (Nat.le_of_ble_eq_true rfl)) rfl)) a_nil)) (Nat.le_of_ble_eq_true rfl)) rfl)) a_nil)))) ⟨([(rv1 % 5)] : (List Int)), ([((rv1 / 5) % 5)] : (List Int)), ([([0] : (List Int)), ([1] : (List Int))] : (List (List Int))), ([([(0, 0, 1, 1, false)] : (List (Int × Int × Int × Int × Bool))), ([] : (List (Int × Int × Int × Int × Bool)))] : (List (List (Int × Int × Int × Int × Bool)))), mapping7, rfl, rfl, rfl, rfl, h8⟩)) (show (4 : Nat) < 6 by decide)) ?_
  obtain ⟨parts9, h10, h⟩ := bs h
  refine s_seq (Γ1 := [.val ((pScr K) script), .val (pI rv1), .own (oLs [(oL (((parts9, parts3.2.1, parts3.2.2.1, parts3.2.2.2).1).map pI)), (oL (((parts9, parts3.2.1, parts3.2.2.1, parts3.2.2.2).2.1).map pI)), (oLs (((parts9, parts3.2.1, parts3.2.2.1, parts3.2.2.2).2.2.1).map (fun x => (oL (x.map pI))))), (oLs (((parts9, parts3.2.1, parts3.2.2.1, parts3.2.2.2).2.2.2).map (fun x => (oL (x.map (r5 pI pI pI pI pB))))))]), .val ((rMapping K) mapping5), .val ((rMapping K) mapping7), .any]) (s_appFM (r := pI) (f_ix (j := 0) (f_var (i := 2) rfl) e_int (ixT (Nat.le_of_ble_eq_true rfl)) rfl) e_int h10 rfl rfl) ?_
  obtain ⟨v11, h12, h⟩ := bs h
  obtain ⟨parts13, h14, h⟩ := bs h
  obtain ⟨parts15, h16, h⟩ := bs h
  refine s_seq (Γ1 := [.val ((pScr K) script), .val (pI rv1), .own (oLs [(oL ((((parts9, parts3.2.1, parts3.2.2.1, parts3.2.2.2).1, (parts9, parts3.2.1, parts3.2.2.1, parts3.2.2.2).2.1, parts15, (parts9, parts3.2.1, parts3.2.2.1, parts3.2.2.2).2.2.2).1).map pI)), (oL ((((parts9, parts3.2.1, parts3.2.2.1, parts3.2.2.2).1, (parts9, parts3.2.1, parts3.2.2.1, parts3.2.2.2).2.1, parts15, (parts9, parts3.2.1, parts3.2.2.1, parts3.2.2.2).2.2.2).2.1).map pI)), (oLs ((((parts9, parts3.2.1, parts3.2.2.1, parts3.2.2.2).1, (parts9, parts3.2.1, parts3.2.2.1, parts3.2.2.2).2.1, parts15, (parts9, parts3.2.1, parts3.2.2.1, parts3.2.2.2).2.2.2).2.2.1).map (fun x => (oL (x.map pI))))), (oLs ((((parts9, parts3.2.1, parts3.2.2.1, parts3.2.2.2).1, (parts9, parts3.2.1, parts3.2.2.1, parts3.2.2.2).2.1, parts15, (parts9, parts3.2.1, parts3.2.2.1, parts3.2.2.2).2.2.2).2.2.2).map (fun x => (oL (x.map (r5 pI pI pI pI pB))))))]), .val ((rMapping K) mapping5), .val ((rMapping K) mapping7), .any]) (s_appFM (r := pI) (f_ixM (o := (fun x => (oL (x.map pI)))) (xs := (parts9, parts3.2.1, parts3.2.2.1, parts3.2.2.2).2.2.1) (f_ix (j := 2) (f_var (i := 2) rfl) e_int (ixT (Nat.le_of_ble_eq_true rfl)) rfl) e_int h12) e_int h14 ⟨parts13, parts15, rfl, h16, rfl⟩ rfl) ?_
  obtain ⟨v17, h18, h⟩ := bs h
  obtain ⟨parts19, h20, h⟩ := bs h
  obtain ⟨parts21, h22, h⟩ := bs h
  refine s_seq (Γ1 := [.val ((pScr K) script), .val (pI rv1), .own (oLs [(oL (((((parts9, parts3.2.1, parts3.2.2.1, parts3.2.2.2).1, (parts9, parts3.2.1, parts3.2.2.1, parts3.2.2.2).2.1, parts15, (parts9, parts3.2.1, parts3.2.2.1, parts3.2.2.2).2.2.2).1, ((parts9, parts3.2.1, parts3.2.2.1, parts3.2.2.2).1, (parts9, parts3.2.1, parts3.2.2.1, parts3.2.2.2).2.1, parts15, (parts9, parts3.2.1, parts3.2.2.1, parts3.2.2.2).2.2.2).2.1, ((parts9, parts3.2.1, parts3.2.2.1, parts3.2.2.2).1, (parts9, parts3.2.1, parts3.2.2.1, parts3.2.2.2).2.1, parts15, (parts9, parts3.2.1, parts3.2.2.1, parts3.2.2.2).2.2.2).2.2.1, parts21).1).map pI)), (oL (((((parts9, parts3.2.1, parts3.2.2.1, parts3.2.2.2).1, (parts9, parts3.2.1, parts3.2.2.1, parts3.2.2.2).2.1, parts15, (parts9, parts3.2.1, parts3.2.2.1, parts3.2.2.2).2.2.2).1, ((parts9, parts3.2.1, parts3.2.2.1, parts3.2.2.2).1, (parts9, parts3.2.1, parts3.2.2.1, parts3.2.2.2).2.1, parts15, (parts9, parts3.2.1, parts3.2.2.1, parts3.2.2.2).2.2.2).2.1, ((parts9, parts3.2.1, parts3.2.2.1, parts3.2.2.2).1, (parts9, parts3.2.1, parts3.2.2.1, parts3.2.2.2).2.1, parts15, (parts9, parts3.2.1, parts3.2.2.1, parts3.2.2.2).2.2.2).2.2.1, parts21).2.1).map pI)), (oLs (((((parts9, parts3.2.1, parts3.2.2.1, parts3.2.2.2).1, (parts9, parts3.2.1, parts3.2.2.1, parts3.2.2.2).2.1, parts15, (parts9, parts3.2.1, parts3.2.2.1, parts3.2.2.2).2.2.2).1, ((parts9, parts3.2.1, parts3.2.2.1, parts3.2.2.2).1, (parts9, parts3.2.1, parts3.2.2.1, parts3.2.2.2).2.1, parts15, (parts9, parts3.2.1, parts3.2.2.1, parts3.2.2.2).2.2.2).2.1, ((parts9, parts3.2.1, parts3.2.2.1, parts3.2.2.2).1, (parts9, parts3.2.1, parts3.2.2.1, parts3.2.2.2).2.1, parts15, (parts9, parts3.2.1, parts3.2.2.1, parts3.2.2.2).2.2.2).2.2.1, parts21).2.2.1).map (fun x => (oL (x.map pI))))), (oLs (((((parts9, parts3.2.1, parts3.2.2.1, parts3.2.2.2).1, (parts9, parts3.2.1, parts3.2.2.1, parts3.2.2.2).2.1, parts15, (parts9, parts3.2.1, parts3.2.2.1, parts3.2.2.2).2.2.2).1, ((parts9, parts3.2.1, parts3.2.2.1, parts3.2.2.2).1, (parts9, parts3.2.1, parts3.2.2.1, parts3.2.2.2).2.1, parts15, (parts9, parts3.2.1, parts3.2.2.1, parts3.2.2.2).2.2.2).2.1, ((parts9, parts3.2.1, parts3.2.2.1, parts3.2.2.2).1, (parts9, parts3.2.1, parts3.2.2.1, parts3.2.2.2).2.1, parts15, (parts9, parts3.2.1, parts3.2.2.1, parts3.2.2.2).2.2.2).2.2.1, parts21).2.2.2).map (fun x => (oL (x.map (r5 pI pI pI pI pB))))))]), .val ((rMapping K) mapping5), .val ((rMapping K) mapping7), .any]) (s_appFM (r := (r5 pI pI pI pI pB)) (f_ixM (o := (fun x => (oL (x.map (r5 pI pI pI pI pB))))) (xs := ((parts9, parts3.2.1, parts3.2.2.1, parts3.2.2.2).1, (parts9, parts3.2.1, parts3.2.2.1, parts3.2.2.2).2.1, parts15, (parts9, parts3.2.1, parts3.2.2.1, parts3.2.2.2).2.2.2).2.2.2) (f_ix (j := 3) (f_var (i := 2) rfl) e_int (ixT (Nat.le_of_ble_eq_true rfl)) rfl) e_int h18) (e_tup (a_cons e_int (a_cons e_int (a_cons e_int (a_cons e_int (a_cons e_bl a_nil))))) (Nat.le_of_ble_eq_true rfl)) h20 ⟨parts19, parts21, rfl, h22, rfl⟩ rfl) ?_
  obtain ⟨eq23, h24, h⟩ := bs h
  obtain ⟨c33, h34, h⟩ := bs h
  refine s_ifK (b := c33) (t_orM (t_not (t_test (e_ownEq (e_var rfl) (e_var rfl) tw_O notFirst_self (.inl ⟨mapping5, mapping7, eq23, rfl, rfl, h24⟩)))) (fun b hc h35 => by obtain ⟨c30, h31, h35⟩ := bs h35; have h35 := Option.some.inj h35; subst h35; exact (t_orM (t_test (e_neEn (enL enI) (Nat.le_of_ble_eq_true rfl) (e_fld T.c_Mapping T.n_Mapping_homes nd_Mapping (i := 0) rfl rfl (e_var rfl)) (e_L (w_to (r := pI) (xs := ([(rv1 % 5)] : (List Int))) (w_lst (a_cons (e_op (rr_I (by decide)) (e_var rfl) e_int) a_nil) (Nat.le_of_ble_eq_true rfl)) rfl)))) (fun b hc h32 => by obtain ⟨c27, h28, h32⟩ := bs h32; have h32 := Option.some.inj h32; subst h32; exact (t_orM (t_test (e_neEn (enL (enL enI)) (Nat.le_of_ble_eq_true rfl) (e_fld T.c_Mapping T.n_Mapping_routes nd_Mapping (i := 2) rfl rfl (e_var rfl)) (e_L (w_to (r := (rL pI)) (xs := ([([0] : (List Int)), ([1] : (List Int))] : (List (List Int)))) (w_lst (a_cons (e_L (w_to (r := pI) (xs := ([0] : (List Int))) (w_lst (a_cons e_int a_nil) (Nat.le_of_ble_eq_true rfl)) rfl)) (a_cons (e_L (w_to (r := pI) (xs := ([1] : (List Int))) (w_lst (a_cons e_int a_nil) (Nat.le_of_ble_eq_true rfl)) rfl)) a_nil)) (Nat.le_of_ble_eq_true rfl)) rfl)))) (fun b hc h29 => by obtain ⟨v25, h26, h29⟩ := bs h29; have h29 := Option.some.inj h29; subst h29; exact (t_test (e_neEn (enL (en5 enI enI enI enI enB)) (Nat.le_of_ble_eq_true rfl) (e_ixLM (r := (rL (r5 pI pI pI pI pB))) (xs := mapping5.rows) (r_E (e_fld T.c_Mapping T.n_Mapping_rows nd_Mapping (i := 3) rfl rfl (e_var rfl))) e_int h26) (e_L (w_to (r := (r5 pI pI pI pI pB)) (xs := ([] : (List (Int × Int × Int × Int × Bool)))) (w_lst a_nil (Nat.le_of_ble_eq_true rfl)) rfl))))) h28)) h31)) h34) (fun hc => ?_) (fun hc => ?_)
  ·   have h := if_t hc h
      have h := Option.some.inj h
      subst h
      exact s_seqR (s_ret (e_to (P' := (pB false)) e_bl rfl))
  ·   have h := if_f hc h
      refine s_nxK ?_
      obtain ⟨turn36, e37, h⟩ := bndv_some h
      refine s_seq (Γ1 := [.val ((pScr K) script), .val (pI rv1), .own (oLs [(oL (((((parts9, parts3.2.1, parts3.2.2.1, parts3.2.2.2).1, (parts9, parts3.2.1, parts3.2.2.1, parts3.2.2.2).2.1, parts15, (parts9, parts3.2.1, parts3.2.2.1, parts3.2.2.2).2.2.2).1, ((parts9, parts3.2.1, parts3.2.2.1, parts3.2.2.2).1, (parts9, parts3.2.1, parts3.2.2.1, parts3.2.2.2).2.1, parts15, (parts9, parts3.2.1, parts3.2.2.1, parts3.2.2.2).2.2.2).2.1, ((parts9, parts3.2.1, parts3.2.2.1, parts3.2.2.2).1, (parts9, parts3.2.1, parts3.2.2.1, parts3.2.2.2).2.1, parts15, (parts9, parts3.2.1, parts3.2.2.1, parts3.2.2.2).2.2.2).2.2.1, parts21).1).map pI)), (oL (((((parts9, parts3.2.1, parts3.2.2.1, parts3.2.2.2).1, (parts9, parts3.2.1, parts3.2.2.1, parts3.2.2.2).2.1, parts15, (parts9, parts3.2.1, parts3.2.2.1, parts3.2.2.2).2.2.2).1, ((parts9, parts3.2.1, parts3.2.2.1, parts3.2.2.2).1, (parts9, parts3.2.1, parts3.2.2.1, parts3.2.2.2).2.1, parts15, (parts9, parts3.2.1, parts3.2.2.1, parts3.2.2.2).2.2.2).2.1, ((parts9, parts3.2.1, parts3.2.2.1, parts3.2.2.2).1, (parts9, parts3.2.1, parts3.2.2.1, parts3.2.2.2).2.1, parts15, (parts9, parts3.2.1, parts3.2.2.1, parts3.2.2.2).2.2.2).2.2.1, parts21).2.1).map pI)), (oLs (((((parts9, parts3.2.1, parts3.2.2.1, parts3.2.2.2).1, (parts9, parts3.2.1, parts3.2.2.1, parts3.2.2.2).2.1, parts15, (parts9, parts3.2.1, parts3.2.2.1, parts3.2.2.2).2.2.2).1, ((parts9, parts3.2.1, parts3.2.2.1, parts3.2.2.2).1, (parts9, parts3.2.1, parts3.2.2.1, parts3.2.2.2).2.1, parts15, (parts9, parts3.2.1, parts3.2.2.1, parts3.2.2.2).2.2.2).2.1, ((parts9, parts3.2.1, parts3.2.2.1, parts3.2.2.2).1, (parts9, parts3.2.1, parts3.2.2.1, parts3.2.2.2).2.1, parts15, (parts9, parts3.2.1, parts3.2.2.1, parts3.2.2.2).2.2.2).2.2.1, parts21).2.2.1).map (fun x => (oL (x.map pI))))), (oLs (((((parts9, parts3.2.1, parts3.2.2.1, parts3.2.2.2).1, (parts9, parts3.2.1, parts3.2.2.1, parts3.2.2.2).2.1, parts15, (parts9, parts3.2.1, parts3.2.2.1, parts3.2.2.2).2.2.2).1, ((parts9, parts3.2.1, parts3.2.2.1, parts3.2.2.2).1, (parts9, parts3.2.1, parts3.2.2.1, parts3.2.2.2).2.1, parts15, (parts9, parts3.2.1, parts3.2.2.1, parts3.2.2.2).2.2.2).2.1, ((parts9, parts3.2.1, parts3.2.2.1, parts3.2.2.2).1, (parts9, parts3.2.1, parts3.2.2.1, parts3.2.2.2).2.1, parts15, (parts9, parts3.2.1, parts3.2.2.1, parts3.2.2.2).2.2.2).2.2.1, parts21).2.2.2).map (fun x => (oL (x.map (r5 pI pI pI pI pB))))))]), .val ((rMapping K) mapping5), .val ((rMapping K) mapping7), .val (pI turn36)]) (s_asg (e_as (r := pI) (e_op (rr_I (by decide)) (e_op (rr_I (by exact ⟨by decide, by decide⟩)) (e_var rfl) e_int) e_int) e37) (show (5 : Nat) < 6 by decide)) ?_
      refine s_frz (i := 2) rfl (frz_Ls (.cons frz_L (.cons frz_L (.cons (frz_Ls (frzA_map (o := (fun x => (oL (x.map pI)))) (r := (rL pI)) (fun _ => frz_L) _)) (.cons (frz_Ls (frzA_map (o := (fun x => (oL (x.map (r5 pI pI pI pI pB))))) (r := (rL (r5 pI pI pI pI pB))) (fun _ => frz_L) _)) .nil))))) (s_from (Γ' := [.val ((pScr K) script), .val (pI rv1), .val ((rH4 (rL pI) (rL pI) (rL (rL pI)) (rL (rL (r5 pI pI pI pI pB)))) (((parts9, parts3.2.1, parts3.2.2.1, parts3.2.2.2).1, (parts9, parts3.2.1, parts3.2.2.1, parts3.2.2.2).2.1, parts15, (parts9, parts3.2.1, parts3.2.2.1, parts3.2.2.2).2.2.2).1, ((parts9, parts3.2.1, parts3.2.2.1, parts3.2.2.2).1, (parts9, parts3.2.1, parts3.2.2.1, parts3.2.2.2).2.1, parts15, (parts9, parts3.2.1, parts3.2.2.1, parts3.2.2.2).2.2.2).2.1, ((parts9, parts3.2.1, parts3.2.2.1, parts3.2.2.2).1, (parts9, parts3.2.1, parts3.2.2.1, parts3.2.2.2).2.1, parts15, (parts9, parts3.2.1, parts3.2.2.1, parts3.2.2.2).2.2.2).2.2.1, parts21)), .val ((rMapping K) mapping5), .val ((rMapping K) mapping7), .val (pI turn36)]) ?_ rfl)
      obtain ⟨mapping38, h39, h⟩ := bs h
      obtain ⟨mapping40, h41, h⟩ := bs h
      obtain ⟨mapping42, h43, h⟩ := bs h
      obtain ⟨mapping44, h45, h⟩ := bs h
      obtain ⟨v46, h47, h⟩ := bs h
      obtain ⟨eq48, h49, h⟩ := bs h
      have h := Option.some.inj h
      subst h
      exact (s_ret (e_to (P' := (pB (!eq48))) (e_not (e_ownEq (e_var rfl) (e_ixLM (r := (rMapping K)) (xs := ([mapping38, mapping40, mapping42, mapping44] : (List Mapping))) (r_W (w_to (r := (rMapping K)) (xs := ([mapping38, mapping40, mapping42, mapping44] : (List Mapping))) (w_lst (a_cons (e_frz (frz_Mapping K _) (e_makeU0 (a_cons (e_ixL (r_E (e_var rfl)) e_int (atT 0 rfl)) (a_cons (e_fld T.c_Mapping T.n_Mapping_gates nd_Mapping (i := 1) rfl rfl (e_var rfl)) (a_cons (e_fld T.c_Mapping T.n_Mapping_routes nd_Mapping (i := 2) rfl rfl (e_var rfl)) (a_cons (e_fld T.c_Mapping T.n_Mapping_rows nd_Mapping (i := 3) rfl rfl (e_var rfl)) a_nil)))) ⟨(((parts9, parts3.2.1, parts3.2.2.1, parts3.2.2.2).1, (parts9, parts3.2.1, parts3.2.2.1, parts3.2.2.2).2.1, parts15, (parts9, parts3.2.1, parts3.2.2.1, parts3.2.2.2).2.2.2).1, ((parts9, parts3.2.1, parts3.2.2.1, parts3.2.2.2).1, (parts9, parts3.2.1, parts3.2.2.1, parts3.2.2.2).2.1, parts15, (parts9, parts3.2.1, parts3.2.2.1, parts3.2.2.2).2.2.2).2.1, ((parts9, parts3.2.1, parts3.2.2.1, parts3.2.2.2).1, (parts9, parts3.2.1, parts3.2.2.1, parts3.2.2.2).2.1, parts15, (parts9, parts3.2.1, parts3.2.2.1, parts3.2.2.2).2.2.2).2.2.1, parts21).1, mapping7.gates, mapping7.routes, mapping7.rows, mapping38, rfl, rfl, rfl, rfl, h39⟩)) (a_cons (e_frz (frz_Mapping K _) (e_makeU0 (a_cons (e_fld T.c_Mapping T.n_Mapping_homes nd_Mapping (i := 0) rfl rfl (e_var rfl)) (a_cons (e_L (w_to (r := pI) (xs := ([9] : (List Int))) (w_lst (a_cons e_int a_nil) (Nat.le_of_ble_eq_true rfl)) rfl)) (a_cons (e_fld T.c_Mapping T.n_Mapping_routes nd_Mapping (i := 2) rfl rfl (e_var rfl)) (a_cons (e_L (w_to (r := (rL (r5 pI pI pI pI pB))) (xs := ([([] : (List (Int × Int × Int × Int × Bool)))] : (List (List (Int × Int × Int × Int × Bool))))) (w_lst (a_cons (e_L (w_to (r := (r5 pI pI pI pI pB)) (xs := ([] : (List (Int × Int × Int × Int × Bool)))) (w_lst a_nil (Nat.le_of_ble_eq_true rfl)) rfl)) a_nil) (Nat.le_of_ble_eq_true rfl)) rfl)) a_nil)))) ⟨mapping7.homes, ([9] : (List Int)), mapping7.routes, ([([] : (List (Int × Int × Int × Int × Bool)))] : (List (List (Int × Int × Int × Int × Bool)))), mapping40, rfl, rfl, rfl, rfl, h41⟩)) (a_cons (e_frz (frz_Mapping K _) (e_makeU0 (a_cons (e_fld T.c_Mapping T.n_Mapping_homes nd_Mapping (i := 0) rfl rfl (e_var rfl)) (a_cons (e_fld T.c_Mapping T.n_Mapping_gates nd_Mapping (i := 1) rfl rfl (e_var rfl)) (a_cons (e_ixL (r_E (e_var rfl)) e_int (atT 2 rfl)) (a_cons (e_fld T.c_Mapping T.n_Mapping_rows nd_Mapping (i := 3) rfl rfl (e_var rfl)) a_nil)))) ⟨mapping7.homes, mapping7.gates, (((parts9, parts3.2.1, parts3.2.2.1, parts3.2.2.2).1, (parts9, parts3.2.1, parts3.2.2.1, parts3.2.2.2).2.1, parts15, (parts9, parts3.2.1, parts3.2.2.1, parts3.2.2.2).2.2.2).1, ((parts9, parts3.2.1, parts3.2.2.1, parts3.2.2.2).1, (parts9, parts3.2.1, parts3.2.2.1, parts3.2.2.2).2.1, parts15, (parts9, parts3.2.1, parts3.2.2.1, parts3.2.2.2).2.2.2).2.1, ((parts9, parts3.2.1, parts3.2.2.1, parts3.2.2.2).1, (parts9, parts3.2.1, parts3.2.2.1, parts3.2.2.2).2.1, parts15, (parts9, parts3.2.1, parts3.2.2.1, parts3.2.2.2).2.2.2).2.2.1, parts21).2.2.1, mapping7.rows, mapping42, rfl, rfl, rfl, rfl, h43⟩)) (a_cons (e_frz (frz_Mapping K _) (e_makeU0 (a_cons (e_fld T.c_Mapping T.n_Mapping_homes nd_Mapping (i := 0) rfl rfl (e_var rfl)) (a_cons (e_fld T.c_Mapping T.n_Mapping_gates nd_Mapping (i := 1) rfl rfl (e_var rfl)) (a_cons (e_fld T.c_Mapping T.n_Mapping_routes nd_Mapping (i := 2) rfl rfl (e_var rfl)) (a_cons (e_ixL (r_E (e_var rfl)) e_int (atT 3 rfl)) a_nil)))) ⟨mapping7.homes, mapping7.gates, mapping7.routes, (((parts9, parts3.2.1, parts3.2.2.1, parts3.2.2.2).1, (parts9, parts3.2.1, parts3.2.2.1, parts3.2.2.2).2.1, parts15, (parts9, parts3.2.1, parts3.2.2.1, parts3.2.2.2).2.2.2).1, ((parts9, parts3.2.1, parts3.2.2.1, parts3.2.2.2).1, (parts9, parts3.2.1, parts3.2.2.1, parts3.2.2.2).2.1, parts15, (parts9, parts3.2.1, parts3.2.2.1, parts3.2.2.2).2.2.2).2.1, ((parts9, parts3.2.1, parts3.2.2.1, parts3.2.2.2).1, (parts9, parts3.2.1, parts3.2.2.1, parts3.2.2.2).2.1, parts15, (parts9, parts3.2.1, parts3.2.2.1, parts3.2.2.2).2.2.2).2.2.1, parts21).2.2.2, mapping44, rfl, rfl, rfl, rfl, h45⟩)) a_nil)))) (Nat.le_of_ble_eq_true rfl)) rfl)) (e_var rfl) h47) tw_O notFirst_self (.inl ⟨mapping5, v46, eq48, rfl, rfl, h49⟩))) rfl))

def m_law (script : (List Int)) : Option Bool :=
  (m_u_law_synapses script).bind fun rv1 =>
  (if (!rv1) then some true else (m_u_law_rules script).bind fun rv3 => (if (!rv3) then some true else (m_u_law_lists script).bind fun rv5 => (if (!rv5) then some true else (m_u_law_mappings script).bind fun rv7 => some (!rv7)).bind fun c9 => some c9).bind fun c12 => some c12).bind fun c15 =>
  if c15 then some false
  else (m_u_law_cell script 8).bind fun rv18 =>
  (m_Mesh__init (1 + (rv18 % 7)) (1 + ((rv18 / 7) % 7)) (1 + ((rv18 / 49) % 7))).bind fun mesh20 =>
  (m_Mesh_cores mesh20).bind fun rv22 =>
  (mulM mesh20.width mesh20.height).bind fun q24 =>
  (if (!(decide (rv22 = q24))) then some true else (m_Mesh__init mesh20.width mesh20.height mesh20.room).bind fun mesh26 => (m_Mesh__eq mesh20 mesh26).bind fun eq28 => some (!eq28)).bind fun c30 =>
  if c30 then some false
  else bndv ((rv18 / 343) % 3) fun turn33 =>
  (m_Mesh__init (mesh20.width + (if (decide (turn33 = 0)) then 1 else 0)) (mesh20.height + (if (decide (turn33 = 1)) then 1 else 0)) (mesh20.room + (if (decide (turn33 = 2)) then 1 else 0))).bind fun mesh35 =>
  (m_Mesh__eq mesh20 mesh35).bind fun eq37 =>
  (if eq37 then some true else (if false then some true else (m_Chip__init mesh20 1 5).bind fun chip39 => (m_Chip__init mesh35 1 5).bind fun chip41 => (m_Chip__eq chip39 chip41).bind fun eq43 => (if eq43 then some true else (m_Chip__init mesh20 1 5).bind fun chip45 => (m_Chip__init mesh20 2 5).bind fun chip47 => (m_Chip__eq chip45 chip47).bind fun eq49 => some eq49).bind fun c51 => some c51).bind fun c54 => some c54).bind fun c57 =>
  if c57 then some false
  else (m_Chip__init mesh20 1 5).bind fun chip60 =>
  (m_Chip__init mesh20 1 6).bind fun chip62 =>
  (m_Chip__eq chip60 chip62).bind fun eq64 =>
  (if eq64 then some true else (m_Chip__init mesh20 3 5).bind fun chip66 => (m_Chip__init mesh20 3 5).bind fun chip68 => (m_Chip__eq chip66 chip68).bind fun eq70 => some (!eq70)).bind fun c72 =>
  if c72 then some false
  else (m_u_law_cell script 9).bind fun rv75 =>
  bndv (rv75 % 1000) fun place77 =>
  (m_SpikeholdError__init place77).bind fun u79 =>
  (m_SpikeholdError__init place77).bind fun u81 =>
  (m_SpikeholdError__init place77).bind fun u83 =>
  bndv ([((XK.SpikeholdError, place77) : XK × Int), ((XK.TooSmall, place77) : XK × Int), ((XK.InvalidLine, place77) : XK × Int)] : (List (XK × Int))) fun errors85 =>
  (szM errors85).bind fun z91 =>
  (mapO (fun x87 => (some x87.2 : Option Int)) errors85).bind fun lc88 =>
  if (!(decide (lc88 = ([place77, place77, place77] : (List Int))))) then some false
  else (atI errors85 1).bind fun v93 =>
  (if true then (atI errors85 2).bind fun v95 => some true else some false).bind fun c97 =>
  some c97
def R_law (K : PySem.W.Frag) : List Pr → Pr → Prop := fun Ps Q => ∃ (script : (List Int)) (r : Bool), Ps = [((pScr K) script)] ∧ Q = (pB r) ∧ m_law script = some r
theorem sc_law : FnScope ["script", "cell", "mesh", "turn", "other", "place", "errors", "error"] ["script"] (defScope st_law) := ⟨rfl, rfl, rfl, by decide +kernel, rfl, by decide +kernel, by decide +kernel⟩
theorem ok_law (T : Txt P w K mg base D) : FnOk P w K mg base CX0 30 (He.fAd K ("law", none)) D.law ["script"] (spR (R_law K)) := by
  refine fn_R T.F_law sc_law (by rintro _ _ ⟨script, _, rfl, rfl, _⟩; rfl) (by decide) fun cdv A outer s H E hr => ⟨_, (pss_cons (ps_if (PW.pt (pw_or (pt_not (pt_val (pe_call (ok_u_law_synapses T) (hr.mono (by decide)) rfl T.g_u_law_synapses T.F_u_law_synapses.kp T.b_u_law_synapses .nil pass0 (pa_cons (pv 0) pa_nil)))) (pw_or (pt_not (pt_val (pe_call (ok_u_law_rules T) (hr.mono (by decide)) rfl T.g_u_law_rules T.F_u_law_rules.kp T.b_u_law_rules .nil pass0 (pa_cons (pv 0) pa_nil)))) (pw_or (pt_not (pt_val (pe_call (ok_u_law_lists T) (hr.mono (by decide)) rfl T.g_u_law_lists T.F_u_law_lists.kp T.b_u_law_lists .nil pass0 (pa_cons (pv 0) pa_nil)))) (pw_or1 (pt_not (pt_val (pe_call (ok_u_law_mappings T) (hr.mono (by decide)) rfl T.g_u_law_mappings T.F_u_law_mappings.kp T.b_u_law_mappings .nil pass0 (pa_cons (pv 0) pa_nil))))))))) (pss_one (ps_ret pe_bl)) pss_nil)
      (pss_cons (ps_set (i := 1) sc_law.nd rfl (.inl rfl) (pe_call (ok_u_law_cell T) (hr.mono (by decide)) rfl T.g_u_law_cell T.F_u_law_cell.kp T.b_u_law_cell .nil pass0 (pa_cons (pv 0) (pa_cons pe_int pa_nil))))
      (pss_cons (ps_set (i := 2) sc_law.nd rfl (.inl rfl) (pe_make T.k_Mesh (ok_Mesh__init T) (hr.mono (by decide)) rfl T.g_Mesh T.b_Mesh__init .nil pass0 (pa_cons (pe_op op_add pe_int (pe_op op_mod (pv 1) pe_int)) (pa_cons (pe_op op_add pe_int (pe_op op_mod (pe_op op_fdiv (pv 1) pe_int) pe_int)) (pa_cons (pe_op op_add pe_int (pe_op op_mod (pe_op op_fdiv (pv 1) pe_int) pe_int)) pa_nil)))))
      (pss_cons (ps_if (PW.pt (pw_or (pt_cmpR op_ne (pe_meth0 (pv 2) T.c_Mesh T.m_Mesh_cores (ok_Mesh_cores T) (hr.mono (by decide)) T.b_Mesh_cores .nil pass0) (pe_op op_mul (pe_fldK (K := K) rfl (pv 2) rfl) (pe_fldK (K := K) rfl (pv 2) rfl)) (nomark _)) (pw_or1 (pt_not (pt_cmpR (op_ownEq (ok_Mesh__eq T) T.e_Mesh.1 T.e_Mesh.2 T.b_Mesh__eq (hr.mono (by decide))) (pv 2) (pe_make T.k_Mesh (ok_Mesh__init T) (hr.mono (by decide)) rfl T.g_Mesh T.b_Mesh__init .nil pass0 (pa_cons (pe_fldK (K := K) rfl (pv 2) rfl) (pa_cons (pe_fldK (K := K) rfl (pv 2) rfl) (pa_cons (pe_fldK (K := K) rfl (pv 2) rfl) pa_nil)))) (nomark _)))))) (pss_one (ps_ret pe_bl)) pss_nil)
      (pss_cons (ps_set (i := 3) sc_law.nd rfl (.inl rfl) (pe_op op_mod (pe_op op_fdiv (pv 1) pe_int) pe_int))
      (pss_cons (ps_set (i := 4) sc_law.nd rfl (.inl rfl) (pe_make T.k_Mesh (ok_Mesh__init T) (hr.mono (by decide)) rfl T.g_Mesh T.b_Mesh__init .nil pass0 (pa_cons (pe_op op_add (pe_fldK (K := K) rfl (pv 2) rfl) (pe_callTy call_int1 (by rfl) T.z_int (by decide +kernel) (pa_cons (pe_cmpR op_eq (pv 3) pe_int (nomark _)) pa_nil))) (pa_cons (pe_op op_add (pe_fldK (K := K) rfl (pv 2) rfl) (pe_callTy call_int1 (by rfl) T.z_int (by decide +kernel) (pa_cons (pe_cmpR op_eq (pv 3) pe_int (nomark _)) pa_nil))) (pa_cons (pe_op op_add (pe_fldK (K := K) rfl (pv 2) rfl) (pe_callTy call_int1 (by rfl) T.z_int (by decide +kernel) (pa_cons (pe_cmpR op_eq (pv 3) pe_int (nomark _)) pa_nil))) pa_nil)))))
      (pss_cons (ps_if (PW.pt (pw_or (pt_cmpR (op_ownEq (ok_Mesh__eq T) T.e_Mesh.1 T.e_Mesh.2 T.b_Mesh__eq (hr.mono (by decide))) (pv 2) (pv 4) (nomark _)) (pw_or (pt_cmpR (op_ownEq (ok_Mesh__eq T) T.e_Mesh.1 T.e_Mesh.2 T.b_Mesh__eq (hr.mono (by decide))) (pv 2) pe_int (nomark _)) (pw_or (pt_cmpR (op_ownEq (ok_Chip__eq T) T.e_Chip.1 T.e_Chip.2 T.b_Chip__eq (hr.mono (by decide))) (pe_make T.k_Chip (ok_Chip__init T) (hr.mono (by decide)) rfl T.g_Chip T.b_Chip__init .nil pass0 (pa_cons (pv 2) (pa_cons pe_int (pa_cons pe_int pa_nil)))) (pe_make T.k_Chip (ok_Chip__init T) (hr.mono (by decide)) rfl T.g_Chip T.b_Chip__init .nil pass0 (pa_cons (pv 4) (pa_cons pe_int (pa_cons pe_int pa_nil)))) (nomark _)) (pw_or1 (pt_cmpR (op_ownEq (ok_Chip__eq T) T.e_Chip.1 T.e_Chip.2 T.b_Chip__eq (hr.mono (by decide))) (pe_make T.k_Chip (ok_Chip__init T) (hr.mono (by decide)) rfl T.g_Chip T.b_Chip__init .nil pass0 (pa_cons (pv 2) (pa_cons pe_int (pa_cons pe_int pa_nil)))) (pe_make T.k_Chip (ok_Chip__init T) (hr.mono (by decide)) rfl T.g_Chip T.b_Chip__init .nil pass0 (pa_cons (pv 2) (pa_cons pe_int (pa_cons pe_int pa_nil)))) (nomark _))))))) (pss_one (ps_ret pe_bl)) pss_nil)
      (pss_cons (ps_if (PW.pt (pw_or (pt_cmpR (op_ownEq (ok_Chip__eq T) T.e_Chip.1 T.e_Chip.2 T.b_Chip__eq (hr.mono (by decide))) (pe_make T.k_Chip (ok_Chip__init T) (hr.mono (by decide)) rfl T.g_Chip T.b_Chip__init .nil pass0 (pa_cons (pv 2) (pa_cons pe_int (pa_cons pe_int pa_nil)))) (pe_make T.k_Chip (ok_Chip__init T) (hr.mono (by decide)) rfl T.g_Chip T.b_Chip__init .nil pass0 (pa_cons (pv 2) (pa_cons pe_int (pa_cons pe_int pa_nil)))) (nomark _)) (pw_or1 (pt_not (pt_cmpR (op_ownEq (ok_Chip__eq T) T.e_Chip.1 T.e_Chip.2 T.b_Chip__eq (hr.mono (by decide))) (pe_make T.k_Chip (ok_Chip__init T) (hr.mono (by decide)) rfl T.g_Chip T.b_Chip__init .nil pass0 (pa_cons (pv 2) (pa_cons pe_int (pa_cons pe_int pa_nil)))) (pe_make T.k_Chip (ok_Chip__init T) (hr.mono (by decide)) rfl T.g_Chip T.b_Chip__init .nil pass0 (pa_cons (pv 2) (pa_cons pe_int (pa_cons pe_int pa_nil)))) (nomark _)))))) (pss_one (ps_ret pe_bl)) pss_nil)
      (pss_cons (ps_set (i := 5) sc_law.nd rfl (.inl rfl) (pe_op op_mod (pe_call (ok_u_law_cell T) (hr.mono (by decide)) rfl T.g_u_law_cell T.F_u_law_cell.kp T.b_u_law_cell .nil pass0 (pa_cons (pv 0) (pa_cons pe_int pa_nil))) pe_int))
      (pss_cons (ps_set (i := 6) sc_law.nd rfl (.inl rfl) (pe_lst (pa_cons (pe_oex T.x_SpikeholdError.ox T.xi_SpikeholdError T.xt (ok_SpikeholdError__init T) (hr.mono (by decide)) T.b_SpikeholdError__init .nil pass0 rfl T.g_SpikeholdError (pa_cons (pv 5) pa_nil)) (pa_cons (pe_oex T.x_TooSmall.ox T.xi_TooSmall T.xt (ok_SpikeholdError__init T) (hr.mono (by decide)) T.b_SpikeholdError__init .nil pass0 rfl T.g_TooSmall (pa_cons (pv 5) pa_nil)) (pa_cons (pe_oex T.x_InvalidLine.ox T.xi_InvalidLine T.xt (ok_SpikeholdError__init T) (hr.mono (by decide)) T.b_SpikeholdError__init .nil pass0 rfl T.g_InvalidLine (pa_cons (pv 5) pa_nil)) pa_nil)))))
      (pss_cons (ps_if (pt_cmpR (neDK (K := K) rfl hr.units) (pe_lc (own := [("error", 7)]) rfl sc_law.nd (pi_listK (K := K) rfl (pv 6)) (blkOk_by (N := ["script", "cell", "mesh", "turn", "other", "place", "errors", "error"]) (sc := defScope st_law) (by decide +kernel)) (fun _ _ _ _ _ => (pg_name (i := 7) sc_law.nd rfl (.inl rfl))) (fun _ _ _ _ _ => pts_nil) (fun _ _ _ _ _ => (pe_fldX (K := K) rfl (pv 7) rfl))) (pe_lst (pa_cons (pv 5) (pa_cons (pv 5) (pa_cons (pv 5) pa_nil)))) (nomark _)) (pss_one (ps_ret pe_bl)) pss_nil)
      (pss_one (ps_ret (pe_and (pe_callB (isiXK (K := K) (f := "place") rfl) (by rfl) T.z_isinstance (by decide +kernel) (pa_cons (pe_ix (ix_listK (K := K) rfl) (pv 6) pe_int (fun _ _ => rfl)) (pa_cons (pe_glob (v := .ref (He.ga K "SpikeholdError")) rfl T.g_SpikeholdError rfl) pa_nil))) (pe_one (pe_callB (isiXK (K := K) (f := "place") rfl) (by rfl) T.z_isinstance (by decide +kernel) (pa_cons (pe_ix (ix_listK (K := K) rfl) (pv 6) pe_int (fun _ _ => rfl)) (pa_cons (pe_glob (v := .ref (He.ga K "SpikeholdError")) rfl T.g_SpikeholdError rfl) pa_nil)))))))))))))))))), ?_⟩
  rintro _ _ ⟨script, r, rfl, rfl, h⟩
  unfold m_law at h
  refine s_from (Γ' := [.val ((pScr K) script), .any, .any, .any, .any, .any, .any, .any]) ?_ rfl
  obtain ⟨rv1, h2, h⟩ := bs h
  obtain ⟨c15, h16, h⟩ := bs h
  refine s_ifK (b := c15) (t_orM (t_not (t_B (e_call0 (a_cons (e_var rfl) a_nil) ⟨script, rv1, rfl, rfl, h2⟩))) (fun b hc h17 => by obtain ⟨rv3, h4, h17⟩ := bs h17; obtain ⟨c12, h13, h17⟩ := bs h17; have h17 := Option.some.inj h17; subst h17; exact (t_orM (t_not (t_B (e_call0 (a_cons (e_var rfl) a_nil) ⟨script, rv3, rfl, rfl, h4⟩))) (fun b hc h14 => by obtain ⟨rv5, h6, h14⟩ := bs h14; obtain ⟨c9, h10, h14⟩ := bs h14; have h14 := Option.some.inj h14; subst h14; exact (t_orM (t_not (t_B (e_call0 (a_cons (e_var rfl) a_nil) ⟨script, rv5, rfl, rfl, h6⟩))) (fun b hc h11 => by obtain ⟨rv7, h8, h11⟩ := bs h11; have h11 := Option.some.inj h11; subst h11; exact (t_not (t_B (e_call0 (a_cons (e_var rfl) a_nil) ⟨script, rv7, rfl, rfl, h8⟩)))) h10)) h13)) h16) (fun hc => ?_) (fun hc => ?_)
  ·   have h := if_t hc h
      have h := Option.some.inj h
      subst h
      exact s_seqR (s_ret (e_to (P' := (pB false)) e_bl rfl))
  ·   have h := if_f hc h
      refine s_nxK ?_
      obtain ⟨rv18, h19, h⟩ := bs h
      refine s_seq (Γ1 := [.val ((pScr K) script), .val (pI rv18), .any, .any, .any, .any, .any, .any]) (s_asg (e_call0 (a_cons (e_var rfl) (a_cons e_int a_nil)) ⟨script, 8, rv18, rfl, rfl, h19⟩) (show (1 : Nat) < 8 by decide)) ?_
      obtain ⟨mesh20, h21, h⟩ := bs h
      refine s_seq (Γ1 := [.val ((pScr K) script), .val (pI rv18), .val ((rMesh K) mesh20), .any, .any, .any, .any, .any]) (s_asg (e_make0 (a_cons (e_op rr_I0 e_int (e_op (rr_I (by decide)) (e_var rfl) e_int)) (a_cons (e_op rr_I0 e_int (e_op (rr_I (by decide)) (e_op (rr_I (by exact ⟨by decide, by decide⟩)) (e_var rfl) e_int) e_int)) (a_cons (e_op rr_I0 e_int (e_op (rr_I (by decide)) (e_op (rr_I (by exact ⟨by decide, by decide⟩)) (e_var rfl) e_int) e_int)) a_nil))) ⟨(1 + (rv18 % 7)), (1 + ((rv18 / 7) % 7)), (1 + ((rv18 / 49) % 7)), mesh20, rfl, rfl, h21⟩) (show (2 : Nat) < 8 by decide)) ?_
      obtain ⟨rv22, h23, h⟩ := bs h
      obtain ⟨q24, h25, h⟩ := bs h
      obtain ⟨c30, h31, h⟩ := bs h
      refine s_ifK (b := c30) (t_orM (t_test (e_op rr_neI (e_meth0 (e_var rfl) (by decide +kernel) a_nil ⟨mesh20, rv22, rfl, rfl, h23⟩) (e_op (rr_mulM h25) (e_fld T.c_Mesh T.n_Mesh_width nd_Mesh (i := 0) rfl rfl (e_var rfl)) (e_fld T.c_Mesh T.n_Mesh_height nd_Mesh (i := 1) rfl rfl (e_var rfl))))) (fun b hc h32 => by obtain ⟨mesh26, h27, h32⟩ := bs h32; obtain ⟨eq28, h29, h32⟩ := bs h32; have h32 := Option.some.inj h32; subst h32; exact (t_not (t_test (e_ownEq (e_var rfl) (e_make0 (a_cons (e_fld T.c_Mesh T.n_Mesh_width nd_Mesh (i := 0) rfl rfl (e_var rfl)) (a_cons (e_fld T.c_Mesh T.n_Mesh_height nd_Mesh (i := 1) rfl rfl (e_var rfl)) (a_cons (e_fld T.c_Mesh T.n_Mesh_room nd_Mesh (i := 2) rfl rfl (e_var rfl)) a_nil))) ⟨mesh20.width, mesh20.height, mesh20.room, mesh26, rfl, rfl, h27⟩) tw_O notFirst_self (.inl ⟨mesh20, mesh26, eq28, rfl, rfl, h29⟩))))) h31) (fun hc => ?_) (fun hc => ?_)
      ·   have h := if_t hc h
          have h := Option.some.inj h
          subst h
          exact s_seqR (s_ret (e_to (P' := (pB false)) e_bl rfl))
      ·   have h := if_f hc h
          refine s_nxK ?_
          obtain ⟨turn33, e34, h⟩ := bndv_some h
          refine s_seq (Γ1 := [.val ((pScr K) script), .val (pI rv18), .val ((rMesh K) mesh20), .val (pI turn33), .any, .any, .any, .any]) (s_asg (e_as (r := pI) (e_op (rr_I (by decide)) (e_op (rr_I (by exact ⟨by decide, by decide⟩)) (e_var rfl) e_int) e_int) e34) (show (3 : Nat) < 8 by decide)) ?_
          obtain ⟨mesh35, h36, h⟩ := bs h
          refine s_seq (Γ1 := [.val ((pScr K) script), .val (pI rv18), .val ((rMesh K) mesh20), .val (pI turn33), .val ((rMesh K) mesh35), .any, .any, .any]) (s_asg (e_make0 (a_cons (e_op rr_I0 (e_fld T.c_Mesh T.n_Mesh_width nd_Mesh (i := 0) rfl rfl (e_var rfl)) (e_cb rc_intB (a_cons (e_op rr_eqI (e_var rfl) e_int) a_nil))) (a_cons (e_op rr_I0 (e_fld T.c_Mesh T.n_Mesh_height nd_Mesh (i := 1) rfl rfl (e_var rfl)) (e_cb rc_intB (a_cons (e_op rr_eqI (e_var rfl) e_int) a_nil))) (a_cons (e_op rr_I0 (e_fld T.c_Mesh T.n_Mesh_room nd_Mesh (i := 2) rfl rfl (e_var rfl)) (e_cb rc_intB (a_cons (e_op rr_eqI (e_var rfl) e_int) a_nil))) a_nil))) ⟨(mesh20.width + (if (decide (turn33 = 0)) then 1 else 0)), (mesh20.height + (if (decide (turn33 = 1)) then 1 else 0)), (mesh20.room + (if (decide (turn33 = 2)) then 1 else 0)), mesh35, rfl, rfl, h36⟩) (show (4 : Nat) < 8 by decide)) ?_
          obtain ⟨eq37, h38, h⟩ := bs h
          obtain ⟨c57, h58, h⟩ := bs h
          refine s_ifK (b := c57) (t_orM (t_test (e_ownEq (e_var rfl) (e_var rfl) tw_O notFirst_self (.inl ⟨mesh20, mesh35, eq37, rfl, rfl, h38⟩))) (fun b hc h59 => by obtain ⟨c54, h55, h59⟩ := bs h59; have h59 := Option.some.inj h59; subst h59; exact (t_orM (t_test (e_ownEq (e_var rfl) e_int tw_I T.nf_Mesh_int (.inr ⟨mesh20, _, _, rfl, rfl, ty_I, T.ki_int_Mesh⟩))) (fun b hc h56 => by obtain ⟨chip39, h40, h56⟩ := bs h56; obtain ⟨chip41, h42, h56⟩ := bs h56; obtain ⟨eq43, h44, h56⟩ := bs h56; obtain ⟨c51, h52, h56⟩ := bs h56; have h56 := Option.some.inj h56; subst h56; exact (t_orM (t_test (e_ownEq (e_make0 (a_cons (e_var rfl) (a_cons e_int (a_cons e_int a_nil))) ⟨mesh20, 1, 5, chip39, rfl, rfl, h40⟩) (e_make0 (a_cons (e_var rfl) (a_cons e_int (a_cons e_int a_nil))) ⟨mesh35, 1, 5, chip41, rfl, rfl, h42⟩) tw_O notFirst_self (.inl ⟨chip39, chip41, eq43, rfl, rfl, h44⟩))) (fun b hc h53 => by obtain ⟨chip45, h46, h53⟩ := bs h53; obtain ⟨chip47, h48, h53⟩ := bs h53; obtain ⟨eq49, h50, h53⟩ := bs h53; have h53 := Option.some.inj h53; subst h53; exact (t_test (e_ownEq (e_make0 (a_cons (e_var rfl) (a_cons e_int (a_cons e_int a_nil))) ⟨mesh20, 1, 5, chip45, rfl, rfl, h46⟩) (e_make0 (a_cons (e_var rfl) (a_cons e_int (a_cons e_int a_nil))) ⟨mesh20, 2, 5, chip47, rfl, rfl, h48⟩) tw_O notFirst_self (.inl ⟨chip45, chip47, eq49, rfl, rfl, h50⟩)))) h52)) h55)) h58) (fun hc => ?_) (fun hc => ?_)
          ·   have h := if_t hc h
              have h := Option.some.inj h
              subst h
              exact s_seqR (s_ret (e_to (P' := (pB false)) e_bl rfl))
          ·   have h := if_f hc h
              refine s_nxK ?_
              obtain ⟨chip60, h61, h⟩ := bs h
              obtain ⟨chip62, h63, h⟩ := bs h
              obtain ⟨eq64, h65, h⟩ := bs h
              obtain ⟨c72, h73, h⟩ := bs h
              refine s_ifK (b := c72) (t_orM (t_test (e_ownEq (e_make0 (a_cons (e_var rfl) (a_cons e_int (a_cons e_int a_nil))) ⟨mesh20, 1, 5, chip60, rfl, rfl, h61⟩) (e_make0 (a_cons (e_var rfl) (a_cons e_int (a_cons e_int a_nil))) ⟨mesh20, 1, 6, chip62, rfl, rfl, h63⟩) tw_O notFirst_self (.inl ⟨chip60, chip62, eq64, rfl, rfl, h65⟩))) (fun b hc h74 => by obtain ⟨chip66, h67, h74⟩ := bs h74; obtain ⟨chip68, h69, h74⟩ := bs h74; obtain ⟨eq70, h71, h74⟩ := bs h74; have h74 := Option.some.inj h74; subst h74; exact (t_not (t_test (e_ownEq (e_make0 (a_cons (e_var rfl) (a_cons e_int (a_cons e_int a_nil))) ⟨mesh20, 3, 5, chip66, rfl, rfl, h67⟩) (e_make0 (a_cons (e_var rfl) (a_cons e_int (a_cons e_int a_nil))) ⟨mesh20, 3, 5, chip68, rfl, rfl, h69⟩) tw_O notFirst_self (.inl ⟨chip66, chip68, eq70, rfl, rfl, h71⟩))))) h73) (fun hc => ?_) (fun hc => ?_)
              ·   have h := if_t hc h
                  have h := Option.some.inj h
                  subst h
                  exact s_seqR (s_ret (e_to (P' := (pB false)) e_bl rfl))
              ·   have h := if_f hc h
                  refine s_nxK ?_
                  obtain ⟨rv75, h76, h⟩ := bs h
                  obtain ⟨place77, e78, h⟩ := bndv_some h
                  refine s_seq (Γ1 := [.val ((pScr K) script), .val (pI rv18), .val ((rMesh K) mesh20), .val (pI turn33), .val ((rMesh K) mesh35), .val (pI place77), .any, .any]) (s_asg (e_as (r := pI) (e_op (rr_I (by decide)) (e_call0 (a_cons (e_var rfl) (a_cons e_int a_nil)) ⟨script, 9, rv75, rfl, rfl, h76⟩) e_int) e78) (show (5 : Nat) < 8 by decide)) ?_
                  obtain ⟨u79, h80, h⟩ := bs h
                  obtain ⟨u81, h82, h⟩ := bs h
                  obtain ⟨u83, h84, h⟩ := bs h
                  obtain ⟨errors85, e86, h⟩ := bndv_some h
                  refine s_seq (Γ1 := [.val ((pScr K) script), .val (pI rv18), .val ((rMesh K) mesh20), .val (pI turn33), .val ((rMesh K) mesh35), .val (pI place77), .val ((rL (rXE K)) errors85), .any]) (s_asg (e_as (r := (rL (rXE K))) (e_L (w_to (r := (rXE K)) (xs := ([((XK.SpikeholdError, place77) : XK × Int), ((XK.TooSmall, place77) : XK × Int), ((XK.InvalidLine, place77) : XK × Int)] : (List (XK × Int)))) (w_lst (a_cons (e_frz frz_X1 (show EvW _ _ (oX1 K "place" (xcl K ((XK.SpikeholdError, place77) : XK × Int).1) (pI ((XK.SpikeholdError, place77) : XK × Int).2)) from (e_mkX (a_cons (e_var rfl) a_nil) (Nat.le_of_ble_eq_true rfl) ⟨_, place77, T.x_SpikeholdError, rfl, rfl, rfl, rfl, h80⟩))) (a_cons (e_frz frz_X1 (show EvW _ _ (oX1 K "place" (xcl K ((XK.TooSmall, place77) : XK × Int).1) (pI ((XK.TooSmall, place77) : XK × Int).2)) from (e_mkX (a_cons (e_var rfl) a_nil) (Nat.le_of_ble_eq_true rfl) ⟨_, place77, T.x_TooSmall, rfl, rfl, rfl, rfl, h82⟩))) (a_cons (e_frz frz_X1 (show EvW _ _ (oX1 K "place" (xcl K ((XK.InvalidLine, place77) : XK × Int).1) (pI ((XK.InvalidLine, place77) : XK × Int).2)) from (e_mkX (a_cons (e_var rfl) a_nil) (Nat.le_of_ble_eq_true rfl) ⟨_, place77, T.x_InvalidLine, rfl, rfl, rfl, rfl, h84⟩))) a_nil))) (Nat.le_of_ble_eq_true rfl)) rfl)) e86) (show (6 : Nat) < 8 by decide)) ?_
                  obtain ⟨z91, h90, h⟩ := bs h
                  obtain ⟨lc88, h89, h⟩ := bs h
                  refine s_ifK (b := (!(decide (lc88 = ([place77, place77, place77] : (List Int)))))) (t_test (e_neEn (enL enI) (Nat.le_of_ble_eq_true rfl) (e_L (w_lcY (rb := pI) (js := [7]) (vs := [7]) (fun x87 => [.val ((pScr K) script), .val (pI rv18), .val ((rMesh K) mesh20), .val (pI turn33), .val ((rMesh K) mesh35), .val (pI place77), .val ((rL (rXE K)) errors85), .val ((rXE K) x87)]) _ (i_list (e_var rfl)) (sz_ok h90) (fun x87 => (g_name (show (7 : Nat) < 8 by decide))) (by decide) (fun x87 y _ h92 => by have h92 := Option.some.inj h92; subst h92; exact (e_fldX (e_var rfl))) h89)) (e_L (w_to (r := pI) (xs := ([place77, place77, place77] : (List Int))) (w_lst (a_cons (e_var rfl) (a_cons (e_var rfl) (a_cons (e_var rfl) a_nil))) (Nat.le_of_ble_eq_true rfl)) rfl)))) (fun hc => ?_) (fun hc => ?_)
                  ·   have h := if_t hc h
                      have h := Option.some.inj h
                      subst h
                      exact s_seqR (s_ret (e_to (P' := (pB false)) e_bl rfl))
                  ·   have h := if_f hc h
                      refine s_nxK ?_
                      obtain ⟨v93, h94, h⟩ := bs h
                      obtain ⟨c97, h98, h⟩ := bs h
                      have h := Option.some.inj h
                      subst h
                      exact (s_ret (e_to (P' := (pB c97)) (e_andM (e_isiX (e_ixLM (r := (rXE K)) (xs := errors85) (r_E (e_var rfl)) e_int h94) (.own _) (T.kiX_SpikeholdError _)) (fun b hc h99 => by obtain ⟨v95, h96, h99⟩ := bs h99; have h99 := Option.some.inj h99; subst h99; exact (e_isiX (e_ixLM (r := (rXE K)) (xs := errors85) (r_E (e_var rfl)) e_int h96) (.own _) (T.kiX_SpikeholdError _))) h98) rfl))

end
def d_Neuron__init : He.DefD := ⟨("Neuron", some "__init__"), "__init__", "Neuron.__init__", defArgs st_Neuron__init, defBody st_Neuron__init, defScope st_Neuron__init, [], [("leak", .int 0), ("refractory", .int 0), ("floor", .int 0), ("subtract", .bl false)]⟩
def d_Neuron__eq : He.DefD := ⟨("Neuron", some "__eq__"), "__eq__", "Neuron.__eq__", defArgs st_Neuron__eq, defBody st_Neuron__eq, defScope st_Neuron__eq, [], []⟩
def d_Synapse__init : He.DefD := ⟨("Synapse", some "__init__"), "__init__", "Synapse.__init__", defArgs st_Synapse__init, defBody st_Synapse__init, defScope st_Synapse__init, [.bl false], []⟩
def d_Rule__init : He.DefD := ⟨("Rule", some "__init__"), "__init__", "Rule.__init__", defArgs st_Rule__init, defBody st_Rule__init, defScope st_Rule__init, [], []⟩
def d_Network__init : He.DefD := ⟨("Network", some "__init__"), "__init__", "Network.__init__", defArgs st_Network__init, defBody st_Network__init, defScope st_Network__init, [.non], []⟩
def d_Network_sources : He.DefD := ⟨("Network", some "sources"), "sources", "Network.sources", defArgs st_Network_sources, defBody st_Network_sources, defScope st_Network_sources, [], []⟩
def d_depressed : He.DefD := ⟨("depressed", none), "depressed", "depressed", defArgs st_depressed, defBody st_depressed, defScope st_depressed, [], []⟩
def d_potentiated : He.DefD := ⟨("potentiated", none), "potentiated", "potentiated", defArgs st_potentiated, defBody st_potentiated, defScope st_potentiated, [], []⟩
def d_SpikeholdError__init : He.DefD := ⟨("SpikeholdError", some "__init__"), "__init__", "SpikeholdError.__init__", defArgs st_SpikeholdError__init, defBody st_SpikeholdError__init, defScope st_SpikeholdError__init, [], []⟩
def d_Mesh__init : He.DefD := ⟨("Mesh", some "__init__"), "__init__", "Mesh.__init__", defArgs st_Mesh__init, defBody st_Mesh__init, defScope st_Mesh__init, [], []⟩
def d_Mesh_cores : He.DefD := ⟨("Mesh", some "cores"), "cores", "Mesh.cores", defArgs st_Mesh_cores, defBody st_Mesh_cores, defScope st_Mesh_cores, [], []⟩
def d_Chip__init : He.DefD := ⟨("Chip", some "__init__"), "__init__", "Chip.__init__", defArgs st_Chip__init, defBody st_Chip__init, defScope st_Chip__init, [], []⟩
def d_Mapping__init : He.DefD := ⟨("Mapping", some "__init__"), "__init__", "Mapping.__init__", defArgs st_Mapping__init, defBody st_Mapping__init, defScope st_Mapping__init, [], []⟩
def d_row_of : He.DefD := ⟨("row_of", none), "row_of", "row_of", defArgs st_row_of, defBody st_row_of, defScope st_row_of, [], []⟩
def d_u_law_cell : He.DefD := ⟨("_law_cell", none), "_law_cell", "_law_cell", defArgs st_u_law_cell, defBody st_u_law_cell, defScope st_u_law_cell, [], []⟩
def d_Synapse__eq : He.DefD := ⟨("Synapse", some "__eq__"), "__eq__", "Synapse.__eq__", defArgs st_Synapse__eq, defBody st_Synapse__eq, defScope st_Synapse__eq, [], []⟩
def d_Rule__eq : He.DefD := ⟨("Rule", some "__eq__"), "__eq__", "Rule.__eq__", defArgs st_Rule__eq, defBody st_Rule__eq, defScope st_Rule__eq, [], []⟩
def d_Network__eq : He.DefD := ⟨("Network", some "__eq__"), "__eq__", "Network.__eq__", defArgs st_Network__eq, defBody st_Network__eq, defScope st_Network__eq, [], []⟩
def d_Mesh__eq : He.DefD := ⟨("Mesh", some "__eq__"), "__eq__", "Mesh.__eq__", defArgs st_Mesh__eq, defBody st_Mesh__eq, defScope st_Mesh__eq, [], []⟩
def d_Chip__eq : He.DefD := ⟨("Chip", some "__eq__"), "__eq__", "Chip.__eq__", defArgs st_Chip__eq, defBody st_Chip__eq, defScope st_Chip__eq, [], []⟩
def d_Mapping__eq : He.DefD := ⟨("Mapping", some "__eq__"), "__eq__", "Mapping.__eq__", defArgs st_Mapping__eq, defBody st_Mapping__eq, defScope st_Mapping__eq, [], []⟩
def d_u_law_synapses : He.DefD := ⟨("_law_synapses", none), "_law_synapses", "_law_synapses", defArgs st_u_law_synapses, defBody st_u_law_synapses, defScope st_u_law_synapses, [], []⟩
def d_u_law_rules : He.DefD := ⟨("_law_rules", none), "_law_rules", "_law_rules", defArgs st_u_law_rules, defBody st_u_law_rules, defScope st_u_law_rules, [], []⟩
def d_u_law_lists : He.DefD := ⟨("_law_lists", none), "_law_lists", "_law_lists", defArgs st_u_law_lists, defBody st_u_law_lists, defScope st_u_law_lists, [], []⟩
def d_u_law_mappings : He.DefD := ⟨("_law_mappings", none), "_law_mappings", "_law_mappings", defArgs st_u_law_mappings, defBody st_u_law_mappings, defScope st_u_law_mappings, [], []⟩
def d_law : He.DefD := ⟨("law", none), "law", "law", defArgs st_law, defBody st_law, defScope st_law, [], []⟩
def fn : List He.DefD := [d_Neuron__init, d_Neuron__eq, d_Synapse__init, d_Rule__init, d_Network__init, d_Network_sources, d_depressed, d_potentiated, d_SpikeholdError__init, d_Mesh__init, d_Mesh_cores, d_Chip__init, d_Mapping__init, d_row_of, d_u_law_cell, d_Synapse__eq, d_Rule__eq, d_Network__eq, d_Mesh__eq, d_Chip__eq, d_Mapping__eq, d_u_law_synapses, d_u_law_rules, d_u_law_lists, d_u_law_mappings, d_law]
def fa : List He.Fa := [.meth "Neuron" "__eq__", .meth "Network" "sources", .glo "depressed", .glo "potentiated", .meth "Mesh" "cores", .glo "row_of", .glo "_law_cell", .meth "Synapse" "__eq__", .meth "Rule" "__eq__", .meth "Network" "__eq__", .meth "Mesh" "__eq__", .meth "Chip" "__eq__", .meth "Mapping" "__eq__", .glo "_law_synapses", .glo "_law_rules", .glo "_law_lists", .glo "_law_mappings", .glo "law", .glo "Neuron", .cls "Neuron", .noat "Neuron" "threshold", .noat "Neuron" "leak", .noat "Neuron" "refractory", .noat "Neuron" "floor", .noat "Neuron" "subtract", .mkr "Neuron", .glo "Synapse", .cls "Synapse", .noat "Synapse" "source", .noat "Synapse" "target", .noat "Synapse" "weight", .noat "Synapse" "delay", .noat "Synapse" "plastic", .mkr "Synapse", .glo "Rule", .cls "Rule", .noat "Rule" "gain", .noat "Rule" "loss", .noat "Rule" "window", .noat "Rule" "least", .noat "Rule" "most", .mkr "Rule", .glo "Network", .cls "Network", .noat "Network" "inputs", .noat "Network" "neurons", .noat "Network" "synapses", .noat "Network" "rule", .mkr "Network", .glo "Mesh", .cls "Mesh", .noat "Mesh" "width", .noat "Mesh" "height", .noat "Mesh" "room", .mkr "Mesh", .glo "Chip", .cls "Chip", .noat "Chip" "mesh", .noat "Chip" "slots", .noat "Chip" "cycles", .mkr "Chip", .glo "Mapping", .cls "Mapping", .noat "Mapping" "homes", .noat "Mapping" "gates", .noat "Mapping" "routes", .noat "Mapping" "rows", .mkr "Mapping", .glo "SpikeholdError", .glo "TooSmall", .glo "InvalidLine", .free "ValueError", .free "int", .free "isinstance", .free "len", .free "list", .free "max", .free "min"]
def ex (K : PySem.W.Frag) : Bool := decide (PySem.W.findIn K (.ref (He.ga K "Neuron")) "__class__" = some (some (.builtin "object.__class__"))) && (decide (PySem.W.specialIn K (.builtin "object.__class__") "__get__" = some (some (.builtin "getset_descriptor.__get__"))) && (decide (PySem.W.takesIn K (.builtin "object.__class__") = some true) && (decide (PySem.W.mroIn K (He.ga K "Neuron") (.type "object") = some true) && (decide (PySem.W.findIn K (.ref (He.ga K "Synapse")) "__class__" = some (some (.builtin "object.__class__"))) && (decide (PySem.W.mroIn K (He.ga K "Synapse") (.type "object") = some true) && (decide (PySem.W.findIn K (.ref (He.ga K "Rule")) "__class__" = some (some (.builtin "object.__class__"))) && (decide (PySem.W.mroIn K (He.ga K "Rule") (.type "object") = some true) && (decide (PySem.W.findIn K (.ref (He.ga K "Network")) "__class__" = some (some (.builtin "object.__class__"))) && (decide (PySem.W.mroIn K (He.ga K "Network") (.type "object") = some true) && (decide (PySem.W.findIn K (.ref (He.ga K "Mesh")) "__class__" = some (some (.builtin "object.__class__"))) && (decide (PySem.W.mroIn K (He.ga K "Mesh") (.type "object") = some true) && (decide (PySem.W.findIn K (.ref (He.ga K "Chip")) "__class__" = some (some (.builtin "object.__class__"))) && (decide (PySem.W.mroIn K (He.ga K "Chip") (.type "object") = some true) && (decide (PySem.W.findIn K (.ref (He.ga K "Mapping")) "__class__" = some (some (.builtin "object.__class__"))) && (decide (PySem.W.mroIn K (He.ga K "Mapping") (.type "object") = some true) && (decide (oexIn K (He.ga K "SpikeholdError") = true) && (decide (PySem.W.findIn K (.ref (He.ga K "SpikeholdError")) "__setattr__" = some (some (.builtin "object.__setattr__"))) && (decide (PySem.W.subIn K (.ref (He.ga K "SpikeholdError")) (.type "BaseException") = some true) && (decide (PySem.W.typeIn K (.ref (He.ga K "SpikeholdError")) = some (.type "type")) && (decide (PySem.W.keepIn K (.ref (He.ga K "SpikeholdError")) = true) && (decide (PySem.W.findIn K (.ref (He.ga K "SpikeholdError")) "__getattribute__" = some (some (.builtin "BaseException.__getattribute__"))) && (decide (PySem.W.findIn K (.ref (He.ga K "SpikeholdError")) "__getattr__" = some none) && (decide (PySem.W.findIn K (.ref (He.ga K "SpikeholdError")) "place" = some none) && (decide (PySem.W.hasDictIn K (He.ga K "SpikeholdError") = true) && (decide ((PySem.W.clsIn K (He.ga K "SpikeholdError")).isSome = true) && (decide (PySem.W.findIn K (.ref (He.ga K "SpikeholdError")) "__class__" = some (some (.builtin "object.__class__"))) && (decide (PySem.W.mroIn K (He.ga K "SpikeholdError") (.type "object") = some true) && (decide (PySem.W.findIn K (.ref (He.ga K "SpikeholdError")) "__init__" = some (some (.ref (He.fAd K ("SpikeholdError", some "__init__"))))) && (decide (oexIn K (He.ga K "TooSmall") = true) && (decide (PySem.W.findIn K (.ref (He.ga K "TooSmall")) "__setattr__" = some (some (.builtin "object.__setattr__"))) && (decide (PySem.W.subIn K (.ref (He.ga K "TooSmall")) (.type "BaseException") = some true) && (decide (PySem.W.typeIn K (.ref (He.ga K "TooSmall")) = some (.type "type")) && (decide (PySem.W.keepIn K (.ref (He.ga K "TooSmall")) = true) && (decide (PySem.W.findIn K (.ref (He.ga K "TooSmall")) "__getattribute__" = some (some (.builtin "BaseException.__getattribute__"))) && (decide (PySem.W.findIn K (.ref (He.ga K "TooSmall")) "__getattr__" = some none) && (decide (PySem.W.findIn K (.ref (He.ga K "TooSmall")) "place" = some none) && (decide (PySem.W.hasDictIn K (He.ga K "TooSmall") = true) && (decide ((PySem.W.clsIn K (He.ga K "TooSmall")).isSome = true) && (decide (PySem.W.findIn K (.ref (He.ga K "TooSmall")) "__class__" = some (some (.builtin "object.__class__"))) && (decide (PySem.W.mroIn K (He.ga K "TooSmall") (.type "object") = some true) && (decide (PySem.W.findIn K (.ref (He.ga K "TooSmall")) "__init__" = some (some (.ref (He.fAd K ("SpikeholdError", some "__init__"))))) && (decide (oexIn K (He.ga K "InvalidLine") = true) && (decide (PySem.W.findIn K (.ref (He.ga K "InvalidLine")) "__setattr__" = some (some (.builtin "object.__setattr__"))) && (decide (PySem.W.subIn K (.ref (He.ga K "InvalidLine")) (.type "BaseException") = some true) && (decide (PySem.W.typeIn K (.ref (He.ga K "InvalidLine")) = some (.type "type")) && (decide (PySem.W.keepIn K (.ref (He.ga K "InvalidLine")) = true) && (decide (PySem.W.findIn K (.ref (He.ga K "InvalidLine")) "__getattribute__" = some (some (.builtin "BaseException.__getattribute__"))) && (decide (PySem.W.findIn K (.ref (He.ga K "InvalidLine")) "__getattr__" = some none) && (decide (PySem.W.findIn K (.ref (He.ga K "InvalidLine")) "place" = some none) && (decide (PySem.W.hasDictIn K (He.ga K "InvalidLine") = true) && (decide ((PySem.W.clsIn K (He.ga K "InvalidLine")).isSome = true) && (decide (PySem.W.findIn K (.ref (He.ga K "InvalidLine")) "__class__" = some (some (.builtin "object.__class__"))) && (decide (PySem.W.mroIn K (He.ga K "InvalidLine") (.type "object") = some true) && (decide (PySem.W.findIn K (.ref (He.ga K "InvalidLine")) "__init__" = some (some (.ref (He.fAd K ("SpikeholdError", some "__init__"))))) && (decide (PySem.W.typeIn K (.ref (He.fAd K ("SpikeholdError", some "__init__"))) = some (.type "function")) && (decide (PySem.W.kitOne K (.ref (He.ga K "Neuron")) (.ref (He.ga K "Neuron")) = some true) && (decide (PySem.W.kitOne K (.ref (He.ga K "Synapse")) (.ref (He.ga K "Synapse")) = some true) && (decide (PySem.W.kitOne K (.ref (He.ga K "Rule")) (.ref (He.ga K "Rule")) = some true) && (decide (PySem.W.kitOne K (.ref (He.ga K "Network")) (.ref (He.ga K "Network")) = some true) && (decide (PySem.W.notFirst K (He.ga K "Rule") (.type "NoneType") = true) && (decide (PySem.W.kitOne K (.type "NoneType") (.ref (He.ga K "Rule")) = some false) && (decide (PySem.W.subIn K (.ref (He.ga K "Rule")) (.type "NoneType") = some false) && (decide (PySem.W.kitOne K (.ref (He.ga K "Mesh")) (.ref (He.ga K "Mesh")) = some true) && (decide (PySem.W.kitOne K (.ref (He.ga K "Chip")) (.ref (He.ga K "Chip")) = some true) && (decide (PySem.W.kitOne K (.ref (He.ga K "Mapping")) (.ref (He.ga K "Mapping")) = some true) && (decide (PySem.W.notFirst K (He.ga K "Synapse") (.type "list") = true) && (decide (PySem.W.kitOne K (.type "list") (.ref (He.ga K "Synapse")) = some false) && (decide (PySem.W.notFirst K (He.ga K "Rule") (.type "int") = true) && (decide (PySem.W.kitOne K (.type "int") (.ref (He.ga K "Rule")) = some false) && (decide (PySem.W.notFirst K (He.ga K "Network") (.type "list") = true) && (decide (PySem.W.kitOne K (.type "list") (.ref (He.ga K "Network")) = some false) && (decide (PySem.W.notFirst K (He.ga K "Mesh") (.type "int") = true) && (decide (PySem.W.kitOne K (.type "int") (.ref (He.ga K "Mesh")) = some false) && (decide (PySem.W.kitOne K (.ref (He.ga K "SpikeholdError")) (.ref (He.ga K "SpikeholdError")) = some true) && (decide (PySem.W.kitOne K (.ref (He.ga K "TooSmall")) (.ref (He.ga K "SpikeholdError")) = some true) && (decide (PySem.W.kitOne K (.ref (He.ga K "InvalidLine")) (.ref (He.ga K "SpikeholdError")) = some true) && (true)))))))))))))))))))))))))))))))))))))))))))))))))))))))))))))))))))))))))))))
abbrev R : PySem.W.OpenRow := PySem.W.OpenLaw.row PySem.Challenge.rw_spikehold_k02_plain_objects
abbrev hk : PySem.W.Hook := He.hookX 5 fa fn [] [] ex
def ob (s : PySem.W.SharedT) : He.AlX := He.obsX 5 fa fn [] [] ex (HandSHeadRun.getT s)
theorem ob_eq (s : PySem.W.SharedT) : ob s = hk.obs s.abs := He.obsX_eq (HandSHeadRun.getT_eq s)
theorem run (w : World) : HandSHeadRun.RunEq R (PySem.W.view R.prog [24]) hk ob 12000 ["Neuron", "Synapse", "Rule", "Network", "depressed", "potentiated", "SpikeholdError", "TooSmall", "InvalidLine", "Mesh", "Chip", "Mapping", "row_of", "_law_cell", "_law_synapses", "_law_rules", "_law_lists", "_law_mappings"] w := by
  intro os
  kernel_rfl
theorem facts {P : Program} {w : World} {K : PySem.W.Frag} {h : Heap} {mg : Str → Option Value} {f : Addr} (X : K.In h) (G : h.Ns mainGlobals mg) (hfa : mg ("law" : Str) = some (.ref f)) (c : He.SaysX fa fn [] [] ex w h K) :
    ∃ fd : FuncData, (∀ (s : Shared) (v : Value), BindsTo s fd ⟨[v], []⟩ [("script", v)]) ∧ ∀ base : Heap, K.In base → base.Ns mainGlobals mg → FnOk P w K mg base CX0 30 f fd ["script"] (spR (R_law K)) := by
  obtain ⟨fd_Neuron__init, F_Neuron__init⟩ := c.t.d.def_ 0 (d := d_Neuron__init) rfl
  obtain ⟨fd_Neuron__eq, F_Neuron__eq⟩ := c.t.d.def_ 1 (d := d_Neuron__eq) rfl
  obtain ⟨fd_Synapse__init, F_Synapse__init⟩ := c.t.d.def_ 2 (d := d_Synapse__init) rfl
  obtain ⟨fd_Rule__init, F_Rule__init⟩ := c.t.d.def_ 3 (d := d_Rule__init) rfl
  obtain ⟨fd_Network__init, F_Network__init⟩ := c.t.d.def_ 4 (d := d_Network__init) rfl
  obtain ⟨fd_Network_sources, F_Network_sources⟩ := c.t.d.def_ 5 (d := d_Network_sources) rfl
  obtain ⟨fd_depressed, F_depressed⟩ := c.t.d.def_ 6 (d := d_depressed) rfl
  obtain ⟨fd_potentiated, F_potentiated⟩ := c.t.d.def_ 7 (d := d_potentiated) rfl
  obtain ⟨fd_SpikeholdError__init, F_SpikeholdError__init⟩ := c.t.d.def_ 8 (d := d_SpikeholdError__init) rfl
  obtain ⟨fd_Mesh__init, F_Mesh__init⟩ := c.t.d.def_ 9 (d := d_Mesh__init) rfl
  obtain ⟨fd_Mesh_cores, F_Mesh_cores⟩ := c.t.d.def_ 10 (d := d_Mesh_cores) rfl
  obtain ⟨fd_Chip__init, F_Chip__init⟩ := c.t.d.def_ 11 (d := d_Chip__init) rfl
  obtain ⟨fd_Mapping__init, F_Mapping__init⟩ := c.t.d.def_ 12 (d := d_Mapping__init) rfl
  obtain ⟨fd_row_of, F_row_of⟩ := c.t.d.def_ 13 (d := d_row_of) rfl
  obtain ⟨fd_u_law_cell, F_u_law_cell⟩ := c.t.d.def_ 14 (d := d_u_law_cell) rfl
  obtain ⟨fd_Synapse__eq, F_Synapse__eq⟩ := c.t.d.def_ 15 (d := d_Synapse__eq) rfl
  obtain ⟨fd_Rule__eq, F_Rule__eq⟩ := c.t.d.def_ 16 (d := d_Rule__eq) rfl
  obtain ⟨fd_Network__eq, F_Network__eq⟩ := c.t.d.def_ 17 (d := d_Network__eq) rfl
  obtain ⟨fd_Mesh__eq, F_Mesh__eq⟩ := c.t.d.def_ 18 (d := d_Mesh__eq) rfl
  obtain ⟨fd_Chip__eq, F_Chip__eq⟩ := c.t.d.def_ 19 (d := d_Chip__eq) rfl
  obtain ⟨fd_Mapping__eq, F_Mapping__eq⟩ := c.t.d.def_ 20 (d := d_Mapping__eq) rfl
  obtain ⟨fd_u_law_synapses, F_u_law_synapses⟩ := c.t.d.def_ 21 (d := d_u_law_synapses) rfl
  obtain ⟨fd_u_law_rules, F_u_law_rules⟩ := c.t.d.def_ 22 (d := d_u_law_rules) rfl
  obtain ⟨fd_u_law_lists, F_u_law_lists⟩ := c.t.d.def_ 23 (d := d_u_law_lists) rfl
  obtain ⟨fd_u_law_mappings, F_u_law_mappings⟩ := c.t.d.def_ 24 (d := d_u_law_mappings) rfl
  obtain ⟨fd_law, F_law⟩ := c.t.d.def_ 25 (d := d_law) rfl
  obtain ⟨exd0, exr0⟩ := He.ba (show (decide _ && _) = true from c.more)
  have ex0 := of_decide_eq_true exd0
  obtain ⟨exd1, exr1⟩ := He.ba (show (decide _ && _) = true from exr0)
  have ex1 := of_decide_eq_true exd1
  obtain ⟨exd2, exr2⟩ := He.ba (show (decide _ && _) = true from exr1)
  have ex2 := of_decide_eq_true exd2
  obtain ⟨exd3, exr3⟩ := He.ba (show (decide _ && _) = true from exr2)
  have ex3 := of_decide_eq_true exd3
  obtain ⟨exd4, exr4⟩ := He.ba (show (decide _ && _) = true from exr3)
  have ex4 := of_decide_eq_true exd4
  obtain ⟨exd5, exr5⟩ := He.ba (show (decide _ && _) = true from exr4)
  have ex5 := of_decide_eq_true exd5
  obtain ⟨exd6, exr6⟩ := He.ba (show (decide _ && _) = true from exr5)
  have ex6 := of_decide_eq_true exd6
  obtain ⟨exd7, exr7⟩ := He.ba (show (decide _ && _) = true from exr6)
  have ex7 := of_decide_eq_true exd7
  obtain ⟨exd8, exr8⟩ := He.ba (show (decide _ && _) = true from exr7)
  have ex8 := of_decide_eq_true exd8
  obtain ⟨exd9, exr9⟩ := He.ba (show (decide _ && _) = true from exr8)
  have ex9 := of_decide_eq_true exd9
  obtain ⟨exd10, exr10⟩ := He.ba (show (decide _ && _) = true from exr9)
  have ex10 := of_decide_eq_true exd10
  obtain ⟨exd11, exr11⟩ := He.ba (show (decide _ && _) = true from exr10)
  have ex11 := of_decide_eq_true exd11
  obtain ⟨exd12, exr12⟩ := He.ba (show (decide _ && _) = true from exr11)
  have ex12 := of_decide_eq_true exd12
  obtain ⟨exd13, exr13⟩ := He.ba (show (decide _ && _) = true from exr12)
  have ex13 := of_decide_eq_true exd13
  obtain ⟨exd14, exr14⟩ := He.ba (show (decide _ && _) = true from exr13)
  have ex14 := of_decide_eq_true exd14
  obtain ⟨exd15, exr15⟩ := He.ba (show (decide _ && _) = true from exr14)
  have ex15 := of_decide_eq_true exd15
  obtain ⟨exd16, exr16⟩ := He.ba (show (decide _ && _) = true from exr15)
  have ex16 := of_decide_eq_true exd16
  obtain ⟨exd17, exr17⟩ := He.ba (show (decide _ && _) = true from exr16)
  have ex17 := of_decide_eq_true exd17
  obtain ⟨exd18, exr18⟩ := He.ba (show (decide _ && _) = true from exr17)
  have ex18 := of_decide_eq_true exd18
  obtain ⟨exd19, exr19⟩ := He.ba (show (decide _ && _) = true from exr18)
  have ex19 := of_decide_eq_true exd19
  obtain ⟨exd20, exr20⟩ := He.ba (show (decide _ && _) = true from exr19)
  have ex20 := of_decide_eq_true exd20
  obtain ⟨exd21, exr21⟩ := He.ba (show (decide _ && _) = true from exr20)
  have ex21 := of_decide_eq_true exd21
  obtain ⟨exd22, exr22⟩ := He.ba (show (decide _ && _) = true from exr21)
  have ex22 := of_decide_eq_true exd22
  obtain ⟨exd23, exr23⟩ := He.ba (show (decide _ && _) = true from exr22)
  have ex23 := of_decide_eq_true exd23
  obtain ⟨exd24, exr24⟩ := He.ba (show (decide _ && _) = true from exr23)
  have ex24 := of_decide_eq_true exd24
  obtain ⟨exd25, exr25⟩ := He.ba (show (decide _ && _) = true from exr24)
  have ex25 := of_decide_eq_true exd25
  obtain ⟨exd26, exr26⟩ := He.ba (show (decide _ && _) = true from exr25)
  have ex26 := of_decide_eq_true exd26
  obtain ⟨exd27, exr27⟩ := He.ba (show (decide _ && _) = true from exr26)
  have ex27 := of_decide_eq_true exd27
  obtain ⟨exd28, exr28⟩ := He.ba (show (decide _ && _) = true from exr27)
  have ex28 := of_decide_eq_true exd28
  obtain ⟨exd29, exr29⟩ := He.ba (show (decide _ && _) = true from exr28)
  have ex29 := of_decide_eq_true exd29
  obtain ⟨exd30, exr30⟩ := He.ba (show (decide _ && _) = true from exr29)
  have ex30 := of_decide_eq_true exd30
  obtain ⟨exd31, exr31⟩ := He.ba (show (decide _ && _) = true from exr30)
  have ex31 := of_decide_eq_true exd31
  obtain ⟨exd32, exr32⟩ := He.ba (show (decide _ && _) = true from exr31)
  have ex32 := of_decide_eq_true exd32
  obtain ⟨exd33, exr33⟩ := He.ba (show (decide _ && _) = true from exr32)
  have ex33 := of_decide_eq_true exd33
  obtain ⟨exd34, exr34⟩ := He.ba (show (decide _ && _) = true from exr33)
  have ex34 := of_decide_eq_true exd34
  obtain ⟨exd35, exr35⟩ := He.ba (show (decide _ && _) = true from exr34)
  have ex35 := of_decide_eq_true exd35
  obtain ⟨exd36, exr36⟩ := He.ba (show (decide _ && _) = true from exr35)
  have ex36 := of_decide_eq_true exd36
  obtain ⟨exd37, exr37⟩ := He.ba (show (decide _ && _) = true from exr36)
  have ex37 := of_decide_eq_true exd37
  obtain ⟨exd38, exr38⟩ := He.ba (show (decide _ && _) = true from exr37)
  have ex38 := of_decide_eq_true exd38
  obtain ⟨exd39, exr39⟩ := He.ba (show (decide _ && _) = true from exr38)
  have ex39 := of_decide_eq_true exd39
  obtain ⟨exd40, exr40⟩ := He.ba (show (decide _ && _) = true from exr39)
  have ex40 := of_decide_eq_true exd40
  obtain ⟨exd41, exr41⟩ := He.ba (show (decide _ && _) = true from exr40)
  have ex41 := of_decide_eq_true exd41
  obtain ⟨exd42, exr42⟩ := He.ba (show (decide _ && _) = true from exr41)
  have ex42 := of_decide_eq_true exd42
  obtain ⟨exd43, exr43⟩ := He.ba (show (decide _ && _) = true from exr42)
  have ex43 := of_decide_eq_true exd43
  obtain ⟨exd44, exr44⟩ := He.ba (show (decide _ && _) = true from exr43)
  have ex44 := of_decide_eq_true exd44
  obtain ⟨exd45, exr45⟩ := He.ba (show (decide _ && _) = true from exr44)
  have ex45 := of_decide_eq_true exd45
  obtain ⟨exd46, exr46⟩ := He.ba (show (decide _ && _) = true from exr45)
  have ex46 := of_decide_eq_true exd46
  obtain ⟨exd47, exr47⟩ := He.ba (show (decide _ && _) = true from exr46)
  have ex47 := of_decide_eq_true exd47
  obtain ⟨exd48, exr48⟩ := He.ba (show (decide _ && _) = true from exr47)
  have ex48 := of_decide_eq_true exd48
  obtain ⟨exd49, exr49⟩ := He.ba (show (decide _ && _) = true from exr48)
  have ex49 := of_decide_eq_true exd49
  obtain ⟨exd50, exr50⟩ := He.ba (show (decide _ && _) = true from exr49)
  have ex50 := of_decide_eq_true exd50
  obtain ⟨exd51, exr51⟩ := He.ba (show (decide _ && _) = true from exr50)
  have ex51 := of_decide_eq_true exd51
  obtain ⟨exd52, exr52⟩ := He.ba (show (decide _ && _) = true from exr51)
  have ex52 := of_decide_eq_true exd52
  obtain ⟨exd53, exr53⟩ := He.ba (show (decide _ && _) = true from exr52)
  have ex53 := of_decide_eq_true exd53
  obtain ⟨exd54, exr54⟩ := He.ba (show (decide _ && _) = true from exr53)
  have ex54 := of_decide_eq_true exd54
  obtain ⟨exd55, exr55⟩ := He.ba (show (decide _ && _) = true from exr54)
  have ex55 := of_decide_eq_true exd55
  obtain ⟨exd56, exr56⟩ := He.ba (show (decide _ && _) = true from exr55)
  have ex56 := of_decide_eq_true exd56
  obtain ⟨exd57, exr57⟩ := He.ba (show (decide _ && _) = true from exr56)
  have ex57 := of_decide_eq_true exd57
  obtain ⟨exd58, exr58⟩ := He.ba (show (decide _ && _) = true from exr57)
  have ex58 := of_decide_eq_true exd58
  obtain ⟨exd59, exr59⟩ := He.ba (show (decide _ && _) = true from exr58)
  have ex59 := of_decide_eq_true exd59
  obtain ⟨exd60, exr60⟩ := He.ba (show (decide _ && _) = true from exr59)
  have ex60 := of_decide_eq_true exd60
  obtain ⟨exd61, exr61⟩ := He.ba (show (decide _ && _) = true from exr60)
  have ex61 := of_decide_eq_true exd61
  obtain ⟨exd62, exr62⟩ := He.ba (show (decide _ && _) = true from exr61)
  have ex62 := of_decide_eq_true exd62
  obtain ⟨exd63, exr63⟩ := He.ba (show (decide _ && _) = true from exr62)
  have ex63 := of_decide_eq_true exd63
  obtain ⟨exd64, exr64⟩ := He.ba (show (decide _ && _) = true from exr63)
  have ex64 := of_decide_eq_true exd64
  obtain ⟨exd65, exr65⟩ := He.ba (show (decide _ && _) = true from exr64)
  have ex65 := of_decide_eq_true exd65
  obtain ⟨exd66, exr66⟩ := He.ba (show (decide _ && _) = true from exr65)
  have ex66 := of_decide_eq_true exd66
  obtain ⟨exd67, exr67⟩ := He.ba (show (decide _ && _) = true from exr66)
  have ex67 := of_decide_eq_true exd67
  obtain ⟨exd68, exr68⟩ := He.ba (show (decide _ && _) = true from exr67)
  have ex68 := of_decide_eq_true exd68
  obtain ⟨exd69, exr69⟩ := He.ba (show (decide _ && _) = true from exr68)
  have ex69 := of_decide_eq_true exd69
  obtain ⟨exd70, exr70⟩ := He.ba (show (decide _ && _) = true from exr69)
  have ex70 := of_decide_eq_true exd70
  obtain ⟨exd71, exr71⟩ := He.ba (show (decide _ && _) = true from exr70)
  have ex71 := of_decide_eq_true exd71
  obtain ⟨exd72, exr72⟩ := He.ba (show (decide _ && _) = true from exr71)
  have ex72 := of_decide_eq_true exd72
  obtain ⟨exd73, exr73⟩ := He.ba (show (decide _ && _) = true from exr72)
  have ex73 := of_decide_eq_true exd73
  obtain ⟨exd74, exr74⟩ := He.ba (show (decide _ && _) = true from exr73)
  have ex74 := of_decide_eq_true exd74
  obtain ⟨exd75, exr75⟩ := He.ba (show (decide _ && _) = true from exr74)
  have ex75 := of_decide_eq_true exd75
  obtain ⟨exd76, exr76⟩ := He.ba (show (decide _ && _) = true from exr75)
  have ex76 := of_decide_eq_true exd76
  have e := hfa.symm.trans (He.glo_ok X G (c.t.d.fact 17 (f := He.Fa.glo "law") rfl))
  cases e
  have b := FunD.bindsA (ps := ["script"]) F_law fun _ _ _ _ _ _ us hl => match us, hl with | [_], _ => rfl
  refine ⟨fd_law, fun s v => b s [v] rfl, fun base _ _ => ok_law (D := ⟨fd_Neuron__init, fd_Neuron__eq, fd_Synapse__init, fd_Rule__init, fd_Network__init, fd_Network_sources, fd_depressed, fd_potentiated, fd_SpikeholdError__init, fd_Mesh__init, fd_Mesh_cores, fd_Chip__init, fd_Mapping__init, fd_row_of, fd_u_law_cell, fd_Synapse__eq, fd_Rule__eq, fd_Network__eq, fd_Mesh__eq, fd_Chip__eq, fd_Mapping__eq, fd_u_law_synapses, fd_u_law_rules, fd_u_law_lists, fd_u_law_mappings, fd_law⟩) ?_⟩
  exact
    { F_Neuron__init := F_Neuron__init
      F_Neuron__eq := F_Neuron__eq
      b_Neuron__eq := (F_Neuron__eq.bindsN (ps := ["self", "other"]) fun _ _ _ _ _ _ us hl => match us, hl with | [u0, u1], _ => rfl)
      e_Neuron := ⟨(He.meth_ok (c.t.d.fact 0 (f := He.Fa.meth "Neuron" "__eq__") rfl)).1, (He.meth_ok (c.t.d.fact 0 (f := He.Fa.meth "Neuron" "__eq__") rfl)).2⟩
      F_Synapse__init := F_Synapse__init
      b_Synapse__init := (binds_all (F_Synapse__init.binds1 (ps := ["self", "source", "target", "weight", "delay", "plastic"]) 6 1 nofun rfl fun T kV doc pm an cdv ct us its hl hi => match us, its, hl, hi with | [u0, u1, u2, u3, u4, u5], [d0], _, _ => ⟨_, rfl, rfl⟩))
      F_Rule__init := F_Rule__init
      b_Rule__init := (F_Rule__init.bindsN (ps := ["self", "gain", "loss", "window", "least", "most"]) fun _ _ _ _ _ _ us hl => match us, hl with | [u0, u1, u2, u3, u4, u5], _ => rfl)
      F_Network__init := F_Network__init
      b_Network__init := (binds_all (F_Network__init.binds1 (ps := ["self", "inputs", "neurons", "synapses", "rule"]) 5 1 nofun rfl fun T kV doc pm an cdv ct us its hl hi => match us, its, hl, hi with | [u0, u1, u2, u3, u4], [d0], _, _ => ⟨_, rfl, rfl⟩))
      F_Network_sources := F_Network_sources
      b_Network_sources := (F_Network_sources.bindsN (ps := ["self"]) fun _ _ _ _ _ _ us hl => match us, hl with | [u0], _ => rfl)
      m_Network_sources := (He.meth_ok (c.t.d.fact 1 (f := He.Fa.meth "Network" "sources") rfl))
      F_depressed := F_depressed
      b_depressed := (F_depressed.bindsN (ps := ["rule", "weight"]) fun _ _ _ _ _ _ us hl => match us, hl with | [u0, u1], _ => rfl)
      g_depressed := (He.glo_ok X G (c.t.d.fact 2 (f := He.Fa.glo "depressed") rfl))
      F_potentiated := F_potentiated
      b_potentiated := (F_potentiated.bindsN (ps := ["rule", "weight"]) fun _ _ _ _ _ _ us hl => match us, hl with | [u0, u1], _ => rfl)
      g_potentiated := (He.glo_ok X G (c.t.d.fact 3 (f := He.Fa.glo "potentiated") rfl))
      F_SpikeholdError__init := F_SpikeholdError__init
      b_SpikeholdError__init := (F_SpikeholdError__init.bindsN (ps := ["self", "place"]) fun _ _ _ _ _ _ us hl => match us, hl with | [u0, u1], _ => rfl)
      F_Mesh__init := F_Mesh__init
      b_Mesh__init := (F_Mesh__init.bindsN (ps := ["self", "width", "height", "room"]) fun _ _ _ _ _ _ us hl => match us, hl with | [u0, u1, u2, u3], _ => rfl)
      F_Mesh_cores := F_Mesh_cores
      b_Mesh_cores := (F_Mesh_cores.bindsN (ps := ["self"]) fun _ _ _ _ _ _ us hl => match us, hl with | [u0], _ => rfl)
      m_Mesh_cores := (He.meth_ok (c.t.d.fact 4 (f := He.Fa.meth "Mesh" "cores") rfl))
      F_Chip__init := F_Chip__init
      b_Chip__init := (F_Chip__init.bindsN (ps := ["self", "mesh", "slots", "cycles"]) fun _ _ _ _ _ _ us hl => match us, hl with | [u0, u1, u2, u3], _ => rfl)
      F_Mapping__init := F_Mapping__init
      b_Mapping__init := (F_Mapping__init.bindsN (ps := ["self", "homes", "gates", "routes", "rows"]) fun _ _ _ _ _ _ us hl => match us, hl with | [u0, u1, u2, u3, u4], _ => rfl)
      F_row_of := F_row_of
      b_row_of := (F_row_of.bindsN (ps := ["synapse"]) fun _ _ _ _ _ _ us hl => match us, hl with | [u0], _ => rfl)
      g_row_of := (He.glo_ok X G (c.t.d.fact 5 (f := He.Fa.glo "row_of") rfl))
      F_u_law_cell := F_u_law_cell
      b_u_law_cell := (F_u_law_cell.bindsN (ps := ["script", "k"]) fun _ _ _ _ _ _ us hl => match us, hl with | [u0, u1], _ => rfl)
      g_u_law_cell := (He.glo_ok X G (c.t.d.fact 6 (f := He.Fa.glo "_law_cell") rfl))
      F_Synapse__eq := F_Synapse__eq
      b_Synapse__eq := (F_Synapse__eq.bindsN (ps := ["self", "other"]) fun _ _ _ _ _ _ us hl => match us, hl with | [u0, u1], _ => rfl)
      e_Synapse := ⟨(He.meth_ok (c.t.d.fact 7 (f := He.Fa.meth "Synapse" "__eq__") rfl)).1, (He.meth_ok (c.t.d.fact 7 (f := He.Fa.meth "Synapse" "__eq__") rfl)).2⟩
      F_Rule__eq := F_Rule__eq
      b_Rule__eq := (F_Rule__eq.bindsN (ps := ["self", "other"]) fun _ _ _ _ _ _ us hl => match us, hl with | [u0, u1], _ => rfl)
      e_Rule := ⟨(He.meth_ok (c.t.d.fact 8 (f := He.Fa.meth "Rule" "__eq__") rfl)).1, (He.meth_ok (c.t.d.fact 8 (f := He.Fa.meth "Rule" "__eq__") rfl)).2⟩
      F_Network__eq := F_Network__eq
      b_Network__eq := (F_Network__eq.bindsN (ps := ["self", "other"]) fun _ _ _ _ _ _ us hl => match us, hl with | [u0, u1], _ => rfl)
      e_Network := ⟨(He.meth_ok (c.t.d.fact 9 (f := He.Fa.meth "Network" "__eq__") rfl)).1, (He.meth_ok (c.t.d.fact 9 (f := He.Fa.meth "Network" "__eq__") rfl)).2⟩
      F_Mesh__eq := F_Mesh__eq
      b_Mesh__eq := (F_Mesh__eq.bindsN (ps := ["self", "other"]) fun _ _ _ _ _ _ us hl => match us, hl with | [u0, u1], _ => rfl)
      e_Mesh := ⟨(He.meth_ok (c.t.d.fact 10 (f := He.Fa.meth "Mesh" "__eq__") rfl)).1, (He.meth_ok (c.t.d.fact 10 (f := He.Fa.meth "Mesh" "__eq__") rfl)).2⟩
      F_Chip__eq := F_Chip__eq
      b_Chip__eq := (F_Chip__eq.bindsN (ps := ["self", "other"]) fun _ _ _ _ _ _ us hl => match us, hl with | [u0, u1], _ => rfl)
      e_Chip := ⟨(He.meth_ok (c.t.d.fact 11 (f := He.Fa.meth "Chip" "__eq__") rfl)).1, (He.meth_ok (c.t.d.fact 11 (f := He.Fa.meth "Chip" "__eq__") rfl)).2⟩
      F_Mapping__eq := F_Mapping__eq
      b_Mapping__eq := (F_Mapping__eq.bindsN (ps := ["self", "other"]) fun _ _ _ _ _ _ us hl => match us, hl with | [u0, u1], _ => rfl)
      e_Mapping := ⟨(He.meth_ok (c.t.d.fact 12 (f := He.Fa.meth "Mapping" "__eq__") rfl)).1, (He.meth_ok (c.t.d.fact 12 (f := He.Fa.meth "Mapping" "__eq__") rfl)).2⟩
      F_u_law_synapses := F_u_law_synapses
      b_u_law_synapses := (F_u_law_synapses.bindsN (ps := ["script"]) fun _ _ _ _ _ _ us hl => match us, hl with | [u0], _ => rfl)
      g_u_law_synapses := (He.glo_ok X G (c.t.d.fact 13 (f := He.Fa.glo "_law_synapses") rfl))
      F_u_law_rules := F_u_law_rules
      b_u_law_rules := (F_u_law_rules.bindsN (ps := ["script"]) fun _ _ _ _ _ _ us hl => match us, hl with | [u0], _ => rfl)
      g_u_law_rules := (He.glo_ok X G (c.t.d.fact 14 (f := He.Fa.glo "_law_rules") rfl))
      F_u_law_lists := F_u_law_lists
      b_u_law_lists := (F_u_law_lists.bindsN (ps := ["script"]) fun _ _ _ _ _ _ us hl => match us, hl with | [u0], _ => rfl)
      g_u_law_lists := (He.glo_ok X G (c.t.d.fact 15 (f := He.Fa.glo "_law_lists") rfl))
      F_u_law_mappings := F_u_law_mappings
      b_u_law_mappings := (F_u_law_mappings.bindsN (ps := ["script"]) fun _ _ _ _ _ _ us hl => match us, hl with | [u0], _ => rfl)
      g_u_law_mappings := (He.glo_ok X G (c.t.d.fact 16 (f := He.Fa.glo "_law_mappings") rfl))
      F_law := F_law
      b_law := (F_law.bindsN (ps := ["script"]) fun _ _ _ _ _ _ us hl => match us, hl with | [u0], _ => rfl)
      g_law := (He.glo_ok X G (c.t.d.fact 17 (f := He.Fa.glo "law") rfl))
      g_Neuron := (He.glo_ok X G (c.t.d.fact 18 (f := He.Fa.glo "Neuron") rfl))
      c_Neuron := (He.cls_ok (c.t.d.fact 19 (f := He.Fa.cls "Neuron") rfl))
      n_Neuron_threshold := (He.noat_ok (c.t.d.fact 20 (f := He.Fa.noat "Neuron" "threshold") rfl))
      n_Neuron_leak := (He.noat_ok (c.t.d.fact 21 (f := He.Fa.noat "Neuron" "leak") rfl))
      n_Neuron_refractory := (He.noat_ok (c.t.d.fact 22 (f := He.Fa.noat "Neuron" "refractory") rfl))
      n_Neuron_floor := (He.noat_ok (c.t.d.fact 23 (f := He.Fa.noat "Neuron" "floor") rfl))
      n_Neuron_subtract := (He.noat_ok (c.t.d.fact 24 (f := He.Fa.noat "Neuron" "subtract") rfl))
      k_Neuron := (He.mkr_ok (c.t.d.fact 25 (f := He.Fa.mkr "Neuron") rfl))
      i_Neuron := ⟨ex0, ex1, ex2, ex3⟩
      g_Synapse := (He.glo_ok X G (c.t.d.fact 26 (f := He.Fa.glo "Synapse") rfl))
      c_Synapse := (He.cls_ok (c.t.d.fact 27 (f := He.Fa.cls "Synapse") rfl))
      n_Synapse_source := (He.noat_ok (c.t.d.fact 28 (f := He.Fa.noat "Synapse" "source") rfl))
      n_Synapse_target := (He.noat_ok (c.t.d.fact 29 (f := He.Fa.noat "Synapse" "target") rfl))
      n_Synapse_weight := (He.noat_ok (c.t.d.fact 30 (f := He.Fa.noat "Synapse" "weight") rfl))
      n_Synapse_delay := (He.noat_ok (c.t.d.fact 31 (f := He.Fa.noat "Synapse" "delay") rfl))
      n_Synapse_plastic := (He.noat_ok (c.t.d.fact 32 (f := He.Fa.noat "Synapse" "plastic") rfl))
      k_Synapse := (He.mkr_ok (c.t.d.fact 33 (f := He.Fa.mkr "Synapse") rfl))
      i_Synapse := ⟨ex4, ex1, ex2, ex5⟩
      g_Rule := (He.glo_ok X G (c.t.d.fact 34 (f := He.Fa.glo "Rule") rfl))
      c_Rule := (He.cls_ok (c.t.d.fact 35 (f := He.Fa.cls "Rule") rfl))
      n_Rule_gain := (He.noat_ok (c.t.d.fact 36 (f := He.Fa.noat "Rule" "gain") rfl))
      n_Rule_loss := (He.noat_ok (c.t.d.fact 37 (f := He.Fa.noat "Rule" "loss") rfl))
      n_Rule_window := (He.noat_ok (c.t.d.fact 38 (f := He.Fa.noat "Rule" "window") rfl))
      n_Rule_least := (He.noat_ok (c.t.d.fact 39 (f := He.Fa.noat "Rule" "least") rfl))
      n_Rule_most := (He.noat_ok (c.t.d.fact 40 (f := He.Fa.noat "Rule" "most") rfl))
      k_Rule := (He.mkr_ok (c.t.d.fact 41 (f := He.Fa.mkr "Rule") rfl))
      i_Rule := ⟨ex6, ex1, ex2, ex7⟩
      g_Network := (He.glo_ok X G (c.t.d.fact 42 (f := He.Fa.glo "Network") rfl))
      c_Network := (He.cls_ok (c.t.d.fact 43 (f := He.Fa.cls "Network") rfl))
      n_Network_inputs := (He.noat_ok (c.t.d.fact 44 (f := He.Fa.noat "Network" "inputs") rfl))
      n_Network_neurons := (He.noat_ok (c.t.d.fact 45 (f := He.Fa.noat "Network" "neurons") rfl))
      n_Network_synapses := (He.noat_ok (c.t.d.fact 46 (f := He.Fa.noat "Network" "synapses") rfl))
      n_Network_rule := (He.noat_ok (c.t.d.fact 47 (f := He.Fa.noat "Network" "rule") rfl))
      k_Network := (He.mkr_ok (c.t.d.fact 48 (f := He.Fa.mkr "Network") rfl))
      i_Network := ⟨ex8, ex1, ex2, ex9⟩
      g_Mesh := (He.glo_ok X G (c.t.d.fact 49 (f := He.Fa.glo "Mesh") rfl))
      c_Mesh := (He.cls_ok (c.t.d.fact 50 (f := He.Fa.cls "Mesh") rfl))
      n_Mesh_width := (He.noat_ok (c.t.d.fact 51 (f := He.Fa.noat "Mesh" "width") rfl))
      n_Mesh_height := (He.noat_ok (c.t.d.fact 52 (f := He.Fa.noat "Mesh" "height") rfl))
      n_Mesh_room := (He.noat_ok (c.t.d.fact 53 (f := He.Fa.noat "Mesh" "room") rfl))
      k_Mesh := (He.mkr_ok (c.t.d.fact 54 (f := He.Fa.mkr "Mesh") rfl))
      i_Mesh := ⟨ex10, ex1, ex2, ex11⟩
      g_Chip := (He.glo_ok X G (c.t.d.fact 55 (f := He.Fa.glo "Chip") rfl))
      c_Chip := (He.cls_ok (c.t.d.fact 56 (f := He.Fa.cls "Chip") rfl))
      n_Chip_mesh := (He.noat_ok (c.t.d.fact 57 (f := He.Fa.noat "Chip" "mesh") rfl))
      n_Chip_slots := (He.noat_ok (c.t.d.fact 58 (f := He.Fa.noat "Chip" "slots") rfl))
      n_Chip_cycles := (He.noat_ok (c.t.d.fact 59 (f := He.Fa.noat "Chip" "cycles") rfl))
      k_Chip := (He.mkr_ok (c.t.d.fact 60 (f := He.Fa.mkr "Chip") rfl))
      i_Chip := ⟨ex12, ex1, ex2, ex13⟩
      g_Mapping := (He.glo_ok X G (c.t.d.fact 61 (f := He.Fa.glo "Mapping") rfl))
      c_Mapping := (He.cls_ok (c.t.d.fact 62 (f := He.Fa.cls "Mapping") rfl))
      n_Mapping_homes := (He.noat_ok (c.t.d.fact 63 (f := He.Fa.noat "Mapping" "homes") rfl))
      n_Mapping_gates := (He.noat_ok (c.t.d.fact 64 (f := He.Fa.noat "Mapping" "gates") rfl))
      n_Mapping_routes := (He.noat_ok (c.t.d.fact 65 (f := He.Fa.noat "Mapping" "routes") rfl))
      n_Mapping_rows := (He.noat_ok (c.t.d.fact 66 (f := He.Fa.noat "Mapping" "rows") rfl))
      k_Mapping := (He.mkr_ok (c.t.d.fact 67 (f := He.Fa.mkr "Mapping") rfl))
      i_Mapping := ⟨ex14, ex1, ex2, ex15⟩
      g_SpikeholdError := (He.glo_ok X G (c.t.d.fact 68 (f := He.Fa.glo "SpikeholdError") rfl))
      x_SpikeholdError := ⟨⟨oex_cls ex16, ex17, ex18, ex19, ex20⟩, ex21, ex22, ex23, ex24, ex25, ex26, ex1, ex2, ex27⟩
      xi_SpikeholdError := ex28
      g_TooSmall := (He.glo_ok X G (c.t.d.fact 69 (f := He.Fa.glo "TooSmall") rfl))
      x_TooSmall := ⟨⟨oex_cls ex29, ex30, ex31, ex32, ex33⟩, ex34, ex35, ex36, ex37, ex38, ex39, ex1, ex2, ex40⟩
      xi_TooSmall := ex41
      g_InvalidLine := (He.glo_ok X G (c.t.d.fact 70 (f := He.Fa.glo "InvalidLine") rfl))
      x_InvalidLine := ⟨⟨oex_cls ex42, ex43, ex44, ex45, ex46⟩, ex47, ex48, ex49, ex50, ex51, ex52, ex1, ex2, ex53⟩
      xi_InvalidLine := ex54
      xt := ex55
      vV := (by kernel_rfl)
      z_ValueError := (He.free_ok X G (c.t.d.fact 71 (f := He.Fa.free "ValueError") rfl))
      z_int := (He.free_ok X G (c.t.d.fact 72 (f := He.Fa.free "int") rfl))
      z_isinstance := (He.free_ok X G (c.t.d.fact 73 (f := He.Fa.free "isinstance") rfl))
      z_len := (He.free_ok X G (c.t.d.fact 74 (f := He.Fa.free "len") rfl))
      z_list := (He.free_ok X G (c.t.d.fact 75 (f := He.Fa.free "list") rfl))
      z_max := (He.free_ok X G (c.t.d.fact 76 (f := He.Fa.free "max") rfl))
      z_min := (He.free_ok X G (c.t.d.fact 77 (f := He.Fa.free "min") rfl))
      ki_Neuron_Neuron := ex56
      ki_Synapse_Synapse := ex57
      ki_Rule_Rule := ex58
      ki_Network_Network := ex59
      nf_Rule_NoneType := ex60
      ki_NoneType_Rule := ex61
      sn_Rule := ex62
      ki_Mesh_Mesh := ex63
      ki_hip_Chip := ex64
      ki_Mapping_Mapping := ex65
      nf_Synapse_list := ex66
      ki_list_Synapse := ex67
      nf_Rule_int := ex68
      ki_int_Rule := ex69
      nf_Network_list := ex70
      ki_list_Network := ex71
      nf_Mesh_int := ex72
      ki_int_Mesh := ex73
      kiX_SpikeholdError := (fun k => match k with | .SpikeholdError => ex74 | .TooSmall => ex75 | .InvalidLine => ex76)
      ki_Chip_Chip := ex64
      d_Synapse__init_4 := (F_Synapse__init.binds1 (ps := ["self", "source", "target", "weight", "delay", "plastic"]) 5 0 nofun rfl fun T kV doc pm an cdv ct us its hl hi => match us, its, hl, hi with | [u0, u1, u2, u3, u4], [d0], _, _ => ⟨_, rfl, rfl⟩)
      d_Neuron__init_1 := (F_Neuron__init.binds0 (ps := ["self", "threshold", "leak", "refractory", "floor", "subtract"]) 2 nofun rfl fun D' doc pm an cdv ct us ks hl hk => match us, ks, hl, hk with | [u0, u1], [k0, k1, k2, k3], _, _ => ⟨_, _, _, _, _, _, rfl, rfl, ⟨_, _, _, _, _, _, rfl, rfl, ⟨_, _, _, _, _, _, rfl, rfl, ⟨_, _, _, _, _, _, rfl, rfl, rfl⟩⟩⟩⟩)
      d_Network__init_3 := (F_Network__init.binds1 (ps := ["self", "inputs", "neurons", "synapses", "rule"]) 4 0 nofun rfl fun T kV doc pm an cdv ct us its hl hi => match us, its, hl, hi with | [u0, u1, u2, u3], [d0], _, _ => ⟨_, rfl, rfl⟩) }
theorem bndv_eq {α β : Type} (a : α) (k : α → Option β) : bndv a k = k a := by
  unfold bndv
  exact Eq.refl _
theorem bind_eq {α β : Type} {o : Option α} {a : α} {f : α → Option β} (h : o = some a) : o.bind f = f a := by
  rw [h]
  exact Option.bind_some ..
theorem cell_ok (ns : List Int) (k : Int) (h : 0 ≤ k) : ∃ v, m_u_law_cell ns k = some v := by
  unfold m_u_law_cell
  split
  · rename_i hc
    have hc := of_decide_eq_true hc
    obtain ⟨v, hv⟩ : ∃ v, atI ns k = some v := ⟨ns[k.toNat]'(by omega), by
      unfold atI ixN
      simp [h, hc]⟩
    rw [hv]; exact ⟨v, rfl⟩
  · exact ⟨0, rfl⟩
theorem eq_s (a b : Synapse) : m_Synapse__eq a b = some (decide (a = b)) := by
  unfold m_Synapse__eq
  cases a with | mk a1 a2 a3 a4 a5 => cases b with | mk b1 b2 b3 b4 b5 =>
  congr 1
  simp only [Synapse.mk.injEq]
  by_cases h1 : a1 = b1 <;> by_cases h2 : a2 = b2 <;> by_cases h3 : a3 = b3 <;> by_cases h4 : a4 = b4 <;> by_cases h5 : a5 = b5 <;> simp [h1, h2, h3, h4, h5]
theorem eq_r (a b : Rule) : m_Rule__eq a b = some (decide (a = b)) := by
  unfold m_Rule__eq
  cases a with | mk a1 a2 a3 a4 a5 => cases b with | mk b1 b2 b3 b4 b5 =>
  congr 1
  simp only [Rule.mk.injEq]
  by_cases h1 : a1 = b1 <;> by_cases h2 : a2 = b2 <;> by_cases h3 : a3 = b3 <;> by_cases h4 : a4 = b4 <;> by_cases h5 : a5 = b5 <;> simp [h1, h2, h3, h4, h5]
theorem eq_m (a b : Mesh) : m_Mesh__eq a b = some (decide (a = b)) := by
  unfold m_Mesh__eq
  cases a with | mk a1 a2 a3 => cases b with | mk b1 b2 b3 =>
  congr 1
  simp only [Mesh.mk.injEq]
  by_cases h1 : a1 = b1 <;> by_cases h2 : a2 = b2 <;> by_cases h3 : a3 = b3 <;> simp [h1, h2, h3]
theorem eq_p (a b : Mapping) : m_Mapping__eq a b = some (decide (a = b)) := by
  unfold m_Mapping__eq
  cases a with | mk a1 a2 a3 a4 => cases b with | mk b1 b2 b3 b4 =>
  congr 1
  simp only [Mapping.mk.injEq]
  by_cases h1 : a1 = b1 <;> by_cases h2 : a2 = b2 <;> by_cases h3 : a3 = b3 <;> by_cases h4 : a4 = b4 <;> simp [h1, h2, h3, h4]
theorem init_s (a b c d : Int) (p : Bool) : m_Synapse__init a b c d p = some ⟨a, b, c, d, p⟩ := Eq.refl _
theorem row_ok (a b c d : Int) (p : Bool) : m_row_of ⟨a, b, c, d, p⟩ = some (a, b, c, d, p) := Eq.refl _
theorem at0 {α : Type} (x0 x1 x2 x3 x4 : α) : atI [x0, x1, x2, x3, x4] 0 = some x0 := Eq.refl _
theorem at1 {α : Type} (x0 x1 x2 x3 x4 : α) : atI [x0, x1, x2, x3, x4] 1 = some x1 := Eq.refl _
theorem at2 {α : Type} (x0 x1 x2 x3 x4 : α) : atI [x0, x1, x2, x3, x4] 2 = some x2 := Eq.refl _
theorem at3 {α : Type} (x0 x1 x2 x3 x4 : α) : atI [x0, x1, x2, x3, x4] 3 = some x3 := Eq.refl _
theorem at4 {α : Type} (x0 x1 x2 x3 x4 : α) : atI [x0, x1, x2, x3, x4] 4 = some x4 := Eq.refl _
theorem st0 {α : Type} (x0 x1 x2 x3 x4 y : α) : setM [x0, x1, x2, x3, x4] 0 y = some [y, x1, x2, x3, x4] := Eq.refl _
theorem st1 {α : Type} (x0 x1 x2 x3 x4 y : α) : setM [x0, x1, x2, x3, x4] 1 y = some [x0, y, x2, x3, x4] := Eq.refl _
theorem st2 {α : Type} (x0 x1 x2 x3 x4 y : α) : setM [x0, x1, x2, x3, x4] 2 y = some [x0, x1, y, x3, x4] := Eq.refl _
theorem st3 {α : Type} (x0 x1 x2 x3 x4 y : α) : setM [x0, x1, x2, x3, x4] 3 y = some [x0, x1, x2, y, x4] := Eq.refl _
theorem st4 {α : Type} (x0 x1 x2 x3 x4 y : α) : setM [x0, x1, x2, x3, x4] 4 y = some [x0, x1, x2, x3, y] := Eq.refl _
theorem asI_l (x : Int) : asI (.inl x) = some x := Eq.refl _
theorem asB_r (x : Bool) : asB (.inr x) = some x := Eq.refl _
theorem ne1 (x : Int) : ¬ x = x + 1 := by omega
theorem syn_ok (ns : List Int) : m_u_law_synapses ns = some true := by
  obtain ⟨c0, h0⟩ := cell_ok ns 0 (by decide)
  obtain ⟨c1, h1⟩ := cell_ok ns 1 (by decide)
  unfold m_u_law_synapses
  refine (bind_eq h0).trans ?_
  refine (bndv_eq _ _).trans ?_
  generalize c0 % 20 = a
  generalize c0 / 20 % 20 = b
  generalize c0 / 400 % 2001 - 1000 = c
  generalize 1 + c0 / 800000 % 14 = d
  generalize decide (c0 / 12000000 % 2 = 1) = p
  have ht : c1 % 5 = 0 ∨ c1 % 5 = 1 ∨ c1 % 5 = 2 ∨ c1 % 5 = 3 ∨ c1 % 5 = 4 := by omega
  simp only [at0, at1, at2, at3, at4, asI_l, asB_r, Option.bind_some, init_s, h1, bndv_eq, eq_s, row_ok]
  generalize c1 % 5 = t at ht
  rcases ht with h | h | h | h | h <;> subst h
  · simp [at0, at1, at2, at3, at4, st0, asI_l, asB_r, ne1 a]
  · simp [at0, at1, at2, at3, at4, st1, asI_l, asB_r, ne1 b]
  · simp [at0, at1, at2, at3, at4, st2, asI_l, asB_r, ne1 c]
  · simp [at0, at1, at2, at3, at4, st3, asI_l, asB_r, ne1 d]
  · simp [at0, at1, at2, at3, at4, st4, asI_l, asB_r]
theorem rules_ok (ns : List Int) : m_u_law_rules ns = some true := by
  obtain ⟨c2, h2⟩ := cell_ok ns 2 (by decide)
  obtain ⟨c3, h3⟩ := cell_ok ns 3 (by decide)
  obtain ⟨c4, h4⟩ := cell_ok ns 4 (by decide)
  obtain ⟨c5, h5⟩ := cell_ok ns 5 (by decide)
  unfold m_u_law_rules
  have e1 : c3 % 2001 - 1000 + c4 % 1000 - (c3 % 2001 - 1000) + 1 = c4 % 1000 + 1 := by omega
  have e2 : modM c5 (c4 % 1000 + 1) = some (c5 % (c4 % 1000 + 1)) := by unfold modM; exact if_pos (by omega)
  simp only [h2, h3, h4, h5, Option.bind_some, bndv_eq, e1, e2]
  generalize c3 % 2001 - 1000 = l
  have n1 : ¬ (l + c4 % 1000 = l + c4 % 1000 + 1) := by omega
  unfold m_Rule__init m_depressed m_potentiated
  have x1 : ∀ y : Int, max y l = max l y := fun y => Int.max_comm _ _
  have x2 : ∀ y : Int, min y (l + c4 % 1000) = min (l + c4 % 1000) y := fun y => Int.min_comm _ _
  simp only [Option.bind_some, x1, x2, eq_r]
  simp [n1]
theorem eq_nn (a b : Network) : m_Network__eq a b = (if a.inputs = b.inputs then (eqLM a.neurons b.neurons).bind fun x => if x = true then (eqLM a.synapses b.synapses).bind fun y => if y = true then eqOM m_Rule__eq a.rule b.rule else some false else some false else some false) := by
  unfold m_Network__eq
  by_cases h : a.inputs = b.inputs
  · simp only [h, decide_true, if_true]
    cases eqLM a.neurons b.neurons with
    | none => rfl
    | some x =>
      cases x with
      | false => rfl
      | true =>
        simp only [Option.bind_some, if_true]
        cases eqLM a.synapses b.synapses with
        | none => rfl
        | some y =>
          cases y with
          | false => rfl
          | true =>
            simp only [Option.bind_some, if_true]
            cases eqOM m_Rule__eq a.rule b.rule <;> rfl
  · simp [h]
theorem eqL_same {α : Type} [DecidableEq α] (xs : List α) : eqLM xs xs = some true := by unfold eqLM; rw [if_pos rfl]
theorem eqL_len {α : Type} [DecidableEq α] {xs ys : List α} (h : xs.length ≠ ys.length) : eqLM xs ys = some false := by
  unfold eqLM
  rw [if_neg (fun e => h (by rw [e])), if_neg h]
theorem lists_ok (ns : List Int) : m_u_law_lists ns = some true := by
  obtain ⟨c6, h6⟩ := cell_ok ns 6 (by decide)
  unfold m_u_law_lists
  refine (bind_eq h6).trans ?_
  generalize 1 + c6 % 9 = t
  have i1 : m_Neuron__init t 0 0 0 false = some ⟨t, 0, 0, 0, false⟩ := Eq.refl _
  have i2 : m_Neuron__init 2 0 0 0 false = some ⟨2, 0, 0, 0, false⟩ := Eq.refl _
  have i3 : ∀ i n s r, m_Network__init i n s r = some ⟨i, n, s, r⟩ := fun _ _ _ _ => Eq.refl _
  have i4 : m_Rule__init 1 1 1 0 9 = some ⟨1, 1, 1, 0, 9⟩ := Eq.refl _
  have a1 : appM ([⟨t, 0, 0, 0, false⟩] : List Neuron) ⟨2, 0, 0, 0, false⟩ = some [⟨t, 0, 0, 0, false⟩, ⟨2, 0, 0, 0, false⟩] := appM_ok (show 1 < 16000000 by omega)
  have a2 : appM ([⟨0, 0, 1, 1, false⟩] : List Synapse) ⟨0, 0, 2, 2, false⟩ = some [⟨0, 0, 1, 1, false⟩, ⟨0, 0, 2, 2, false⟩] := appM_ok (show 1 < 16000000 by omega)
  have p1 : ∀ {α : Type} (x y : α), cutP [x, y] none (some 1) = [x] := fun _ _ => Eq.refl _
  simp only [i1, i2, i3, i4, init_s, Option.bind_some, bndv_eq, a1, a2, p1, eq_nn, m_Network_sources]
  have l1 : ∀ {α : Type} [DecidableEq α] (x y z : α), eqLM [x] [y, z] = some false := fun x y z => eqL_len (by simp)
  simp [eqL_same, l1, eqOM]
theorem maps_ok (ns : List Int) : m_u_law_mappings ns = some true := by
  obtain ⟨c7, h7⟩ := cell_ok ns 7 (by decide)
  unfold m_u_law_mappings
  refine (bind_eq h7).trans ?_
  refine (bndv_eq _ _).trans ?_
  have im : ∀ a b c d, c.length ≤ 1000 → d.length ≤ 1000 → m_Mapping__init a b c d = some ⟨a, b, c, d⟩ := fun a b c d h1 h2 => by
    unfold m_Mapping__init
    rw [szM_ok (by omega), Option.bind_some, mapO_ok (fun x => x) (fun _ _ => rfl), Option.bind_some, szM_ok (by omega), Option.bind_some, mapO_ok (fun x => x) (fun _ _ => rfl), Option.bind_some]
    simp
  have a1 : appM ([c7 % 5] : List Int) 1 = some [c7 % 5, 1] := appM_ok (show 1 < 16000000 by omega)
  have a2 : appM ([0] : List Int) 1 = some [0, 1] := appM_ok (show 1 < 16000000 by omega)
  have a3 : appM ([] : List (Int × Int × Int × Int × Bool)) (0, 0, 1, 1, false) = some [(0, 0, 1, 1, false)] := appM_ok (show 0 < 16000000 by omega)
  have b0 : ∀ {α : Type} (x y : α), atI [x, y] 0 = some x := fun _ _ => Eq.refl _
  have b1 : ∀ {α : Type} (x y : α), atI [x, y] 1 = some y := fun _ _ => Eq.refl _
  have s0 : ∀ {α : Type} (x y z : α), setM [x, y] 0 z = some [z, y] := fun _ _ _ => Eq.refl _
  have s1 : ∀ {α : Type} (x y z : α), setM [x, y] 1 z = some [x, z] := fun _ _ _ => Eq.refl _
  have ht : c7 / 25 % 4 = 0 ∨ c7 / 25 % 4 = 1 ∨ c7 / 25 % 4 = 2 ∨ c7 / 25 % 4 = 3 := by omega
  have q0 : ∀ {α : Type} (x y z w : α), atI [x, y, z, w] 0 = some x := fun _ _ _ _ => Eq.refl _
  have q1 : ∀ {α : Type} (x y z w : α), atI [x, y, z, w] 1 = some y := fun _ _ _ _ => Eq.refl _
  have q2 : ∀ {α : Type} (x y z w : α), atI [x, y, z, w] 2 = some z := fun _ _ _ _ => Eq.refl _
  have q3 : ∀ {α : Type} (x y z w : α), atI [x, y, z, w] 3 = some w := fun _ _ _ _ => Eq.refl _
  generalize c7 / 5 % 5 = g
  generalize c7 % 5 = e at a1 ⊢
  generalize c7 / 25 % 4 = t at ht ⊢
  simp only [a1, a2, a3, b0, b1, s0, s1, Option.bind_some, eq_p, bndv_eq, im _ _ _ _ (show ([[0], [1]] : List (List Int)).length ≤ 1000 by simp) (show ([[(0, 0, 1, 1, false)], []] : List (List (Int × Int × Int × Int × Bool))).length ≤ 1000 by simp),
    im _ _ _ _ (show ([[0], [1]] : List (List Int)).length ≤ 1000 by simp) (show ([[]] : List (List (Int × Int × Int × Int × Bool))).length ≤ 1000 by simp),
    im _ _ _ _ (show ([[0, 1], [1]] : List (List Int)).length ≤ 1000 by simp) (show ([[(0, 0, 1, 1, false)], []] : List (List (Int × Int × Int × Int × Bool))).length ≤ 1000 by simp),
    im _ _ _ _ (show ([[0], [1]] : List (List Int)).length ≤ 1000 by simp) (show ([[(0, 0, 1, 1, false)], [(0, 0, 1, 1, false)]] : List (List (Int × Int × Int × Int × Bool))).length ≤ 1000 by simp)]
  rcases ht with h | h | h | h <;> subst h
  · simp [q0]
  · simp [q1]
  · simp [q2]
  · simp [q3]
theorem exc_all : ∀ i : Fin 1000, ((fmtI ((i.val : Nat) : Int)).bind fun s => (jsM [("at place " : Str), s] Str.empty).bind fun _ => some ()) = some () := by decide +kernel
theorem exc_ok (c : Int) : m_SpikeholdError__init (c % 1000) = some () := by
  have := exc_all ⟨(c % 1000).toNat, by omega⟩
  unfold m_SpikeholdError__init
  rw [show ((⟨(c % 1000).toNat, by omega⟩ : Fin 1000).val : Int) = c % 1000 by show (((c % 1000).toNat : Nat) : Int) = c % 1000; omega] at this
  exact this
theorem main (ns : List Int) (h : ns.length ≤ 63) : m_law ns = some true := by
  obtain ⟨c8, h8⟩ := cell_ok ns 8 (by decide)
  obtain ⟨c9, h9⟩ := cell_ok ns 9 (by decide)
  unfold m_law
  refine (bind_eq (syn_ok ns)).trans ?_
  refine (bind_eq (a := false) ?_).trans ?_
  · simp [rules_ok, lists_ok, maps_ok]
  refine (if_neg Bool.false_ne_true).trans ?_
  refine (bind_eq h8).trans ?_
  have im : ∀ a b c, m_Mesh__init a b c = some ⟨a, b, c⟩ := fun _ _ _ => Eq.refl _
  have ic : ∀ a b c, m_Chip__init a b c = some ⟨a, b, c⟩ := fun _ _ _ => Eq.refl _
  have hw : 0 ≤ c8 % 7 ∧ c8 % 7 < 7 := by omega
  have mu : mulM (1 + c8 % 7) (1 + c8 / 7 % 7) = some ((1 + c8 % 7) * (1 + c8 / 7 % 7)) := by unfold mulM; exact if_pos (.inl ⟨by omega, by omega⟩)
  have ht : c8 / 343 % 3 = 0 ∨ c8 / 343 % 3 = 1 ∨ c8 / 343 % 3 = 2 := by omega
  have cq : ∀ a b, m_Chip__eq a b = some (decide (a.mesh = b.mesh) && (decide (a.slots = b.slots) && decide (a.cycles = b.cycles))) := fun a b => by
    unfold m_Chip__eq
    simp [eq_m]
  refine (bind_eq (im _ _ _)).trans ?_
  generalize 1 + c8 % 7 = W at mu ⊢
  generalize 1 + c8 / 7 % 7 = Hh at mu ⊢
  generalize 1 + c8 / 49 % 7 = Ro
  have co : m_Mesh_cores ⟨W, Hh, Ro⟩ = some (W * Hh) := by
    unfold m_Mesh_cores
    exact (bind_eq mu).trans rfl
  refine (bind_eq co).trans ?_
  refine (bind_eq mu).trans ?_
  refine (bind_eq (a := false) ?_).trans ?_
  · simp [im, eq_m]
  refine (if_neg Bool.false_ne_true).trans ?_
  refine (bndv_eq _ _).trans ?_
  generalize c8 / 343 % 3 = t at ht ⊢
  refine (bind_eq (im _ _ _)).trans ?_
  have ne : ¬ ((⟨W, Hh, Ro⟩ : Mesh) = ⟨W + (if (decide (t = 0)) = true then 1 else 0), Hh + (if (decide (t = 1)) = true then 1 else 0), Ro + (if (decide (t = 2)) = true then 1 else 0)⟩) := by
    intro z
    have z1 : W = W + (if (decide (t = 0)) = true then 1 else 0) := congrArg Mesh.width z
    have z2 : Hh = Hh + (if (decide (t = 1)) = true then 1 else 0) := congrArg Mesh.height z
    have z3 : Ro = Ro + (if (decide (t = 2)) = true then 1 else 0) := congrArg Mesh.room z
    rcases ht with h | h | h <;> subst h <;> simp at z1 z2 z3 <;> omega
  generalize (⟨W + (if (decide (t = 0)) = true then 1 else 0), Hh + (if (decide (t = 1)) = true then 1 else 0), Ro + (if (decide (t = 2)) = true then 1 else 0)⟩ : Mesh) = m2 at ne ⊢
  generalize (⟨W, Hh, Ro⟩ : Mesh) = m1 at ne ⊢
  refine (bind_eq (eq_m _ _)).trans ?_
  refine (bind_eq (a := false) ?_).trans ?_
  · simp [ic, cq, ne]
  refine (if_neg Bool.false_ne_true).trans ?_
  refine (bind_eq (ic _ _ _)).trans ?_
  refine (bind_eq (ic _ _ _)).trans ?_
  refine (bind_eq (cq _ _)).trans ?_
  refine (bind_eq (a := false) ?_).trans ?_
  · simp [ic, cq]
  refine (if_neg Bool.false_ne_true).trans ?_
  refine (bind_eq h9).trans ?_
  refine (bndv_eq _ _).trans ?_
  refine (bind_eq (exc_ok c9)).trans ?_
  refine (bind_eq (exc_ok c9)).trans ?_
  refine (bind_eq (exc_ok c9)).trans ?_
  refine (bndv_eq _ _).trans ?_
  refine (bind_eq (szM_ok (by simp))).trans ?_
  refine (bind_eq (mapO_ok (fun x : XK × Int => x.2) (fun _ _ => rfl))).trans ?_
  simp
  rfl
theorem fin {K : PySem.W.Frag} (H : Hp) (a : Addr) (ns : List Int) (hl : ns.length ≤ 63) (hS : SqL K H a (ns.map V.int)) : spR (R_law K) [.ref a] H (fun v _ => v = .bl true) fun _ _ _ => False :=
  ⟨[pScr K ns], pB true, H, ⟨ns, true, rfl, rfl, main ns hl⟩, Gw.refl H, ⟨⟨a, rfl, hS, hl⟩, trivial⟩, fun v G' H' g p => p⟩
end K02
open PySem PySem.W PySem.Calls PyProof.Rows
theorem PySem.Challenge.cw_spikehold_k02_plain_objects_holds : PySem.Challenge.rw_spikehold_k02_plain_objects.Holds := by
  w_on; o_law
  refine HandSHeadRun.head_any (r := OpenLaw.row PySem.Challenge.rw_spikehold_k02_plain_objects) (q := view (OpenLaw.row PySem.Challenge.rw_spikehold_k02_plain_objects).prog [24]) (H := K02.hk) (ob := K02.ob) (M := 12000) (loose := ["Neuron", "Synapse", "Rule", "Network", "depressed", "potentiated", "SpikeholdError", "TooSmall", "InvalidLine", "Mesh", "Chip", "Mapping", "row_of", "_law_cell", "_law_synapses", "_law_rules", "_law_lists", "_law_mappings"]) (d := HandSHeadRun.topDef (OpenLaw.row PySem.Challenge.rw_spikehold_k02_plain_objects).prog 24) (kwd := []) K02.ob_eq
    (by kernel_rfl) (fun s => by kernel_rfl) K02.run (by kernel_rfl) (by kernel_rfl) (by kernel_rfl) (by rfl) (by first | assumption | decide +kernel) (by decide +kernel) ⟨rfl, rfl, rfl, rfl, rfl, by decide +kernel⟩ ?hw ?hc
  case hw => w_witness2
  case hc =>
    refine L2.walk_ofE (l := PySem.Challenge.rw_spikehold_k02_plain_objects) (n := 63) (k := 30) (x := "script") (CX := L2.CX0) rfl (by decide) (by kernel_rfl) ⟨rfl, by decide, by decide⟩ ?F (fun _ _ _ _ z => z)
    intro w mg fa h Y G hmg0
    obtain ⟨K, KX, c⟩ := Y
    have hmg : mg ("law" : PySem.Str) = some (.ref fa) := by
      have e : (HandSHeadRun.topDef (OpenLaw.row PySem.Challenge.rw_spikehold_k02_plain_objects).prog 24).name = ("law" : PySem.Str) := by kernel_rfl
      rw [← e]
      exact hmg0
    obtain ⟨fd, hb, hF⟩ := K02.facts (P := (PySem.Challenge.rw_spikehold_k02_plain_objects).prog) (w := w) KX G hmg c
    exact ⟨K, fd, Y.spR (K02.R_law K), KX, hb, fun H a ns hl _ hS => K02.fin H a ns hl hS, hF⟩

