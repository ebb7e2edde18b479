import PyProof.Rows.All
import Wide.All
import OpenK.AllK
import Wide.FinOn
import HandS.ForMost
import HandS.ForExc
import HandS.Wide
import HandS.CallSlots
import HandS.ExcIs
import HandS.IsInst
import HandS.TupAny
import HandS.TupMul
import HandS.Zip
import HandS.FStr
import HandS.Flow
import HandS.Conv
import HandS.Deep
import HandS.ExcCtx
import HandS.HotCalls
import HandS.Dict
import HandS.Small
import HandS.WordsDict
import HandS.GenBody
import HandS.GenList
import HandS.EndTab
import HandS.EndOwn
import HandS.AnyAll
import HandS.Star
import HandS.Text
import HandS.RaiseMore
import KE.GoesComp
import PyProof.WalksMore
import PyProof.SumWalkG
import PyProof.MinMaxWalk
import HandS.Iter
import HandS.StrMore
import KE.KTryMore
import KE.KUnpackStar
import KE.GoesMore
import PySem.Challenge.RW_cloak_k75_polynomials
set_option Elab.async false
set_option linter.all false
set_option maxRecDepth 100000
set_option maxHeartbeats 4000000
/-! # J: readings as functions of plain data -/
namespace J
open PySem PySem.Spec PyProof.Rows L2

abbrev D := PyData
/-- the program's own errors -/
inductive Xc where
  | cloakError | notAllowed | badForm | badPaper | missing | used | full | down
  deriving DecidableEq
inductive Res (α : Type) where
  | ok (a : α) | ex (c : Xc) | bad
def Res.bind {α β : Type} : Res α → (α → Res β) → Res β
  | .ok a, f => f a
  | .ex c, _ => .ex c
  | .bad, _ => .bad
@[simp] theorem bind_ok {α β : Type} (a : α) (f : α → Res β) : (Res.ok a).bind f = f a := rfl
@[simp] theorem bind_ex {α β : Type} (c : Xc) (f : α → Res β) : (Res.ex c : Res α).bind f = .ex c := rfl
@[simp] theorem bind_bad {α β : Type} (f : α → Res β) : (Res.bad : Res α).bind f = .bad := rfl

inductive Sl where
  | un | sh (d : D) | ow (xs : List D) | exn (c : Xc)
  /-- an own dict; one that all may see -/
  | od (es : List (Int × D)) | fd (es : List (Int × D))
abbrev Rho := List Sl

/-- not a code object's table -/
def nt : HO → Bool
  | .tbl _ => false
  | _ => true
def Kp (G H : Hp) : Prop := ∀ a o, G a = some o → nt o = true → H a = some o
theorem Kp.refl (H : Hp) : Kp H H := fun _ _ h _ => h
theorem Kp.trans {A B C : Hp} (a : Kp A B) (b : Kp B C) : Kp A C := fun x o h n => b x o (a x o h n) n
/-- G tells a part of H, without tables -/
def Gs (G H : Hp) : Prop := ∀ a o, G a = some o → nt o = true ∧ H a = some o
theorem Gs.kp {G H : Hp} (k : Gs G H) : Kp G H := fun a o h _ => (k a o h).2
theorem Gs.none {G H : Hp} (k : Gs G H) {a : Addr} (h : H a = none) : G a = none := by
  cases q : G a with
  | none => rfl
  | some o => rw [(k a o q).2] at h; cases h
theorem Gs.trans {G H H' : Hp} (k : Gs G H) (h : Kp H H') : Gs G H' := fun a o z => ⟨(k a o z).1, h a o (k a o z).2 (k a o z).1⟩
structure Ext (G H G' H' : Hp) : Prop where
  g : Kp G G'
  h : Kp H H'
  gh : Gs G' H'
  n : ∀ a, G' a ≠ none → G a ≠ none ∨ H a = none
  t : ∀ a ps, H a = some (.tbl ps) → ∃ ps', H' a = some (.tbl ps') ∧ (TriplesOk ps.toList → TriplesOk ps'.toList)
theorem Ext.refl {G H : Hp} (k : Gs G H) : Ext G H G H := ⟨Kp.refl _, Kp.refl _, k, fun _ h => .inl h, fun _ ps h => ⟨ps, h, id⟩⟩
theorem Ext.free {G H G' H' : Hp} (e : Ext G H G' H') {a : Addr} (h : H' a = none) : H a = none := by
  cases q : H a with
  | none => rfl
  | some o =>
    by_cases hn : nt o = true
    · rw [e.h a o q hn] at h; cases h
    · cases o with
      | tbl ps => obtain ⟨ps', h', _⟩ := e.t a ps q; rw [h'] at h; cases h
      | _ => exact absurd rfl hn
theorem Ext.trans {G H G1 H1 G2 H2 : Hp} (a : Ext G H G1 H1) (b : Ext G1 H1 G2 H2) : Ext G H G2 H2 where
  g := a.g.trans b.g
  h := a.h.trans b.h
  gh := b.gh
  n := fun x h => by
    rcases b.n x h with h1 | h1
    · exact a.n x h1
    · exact .inr (a.free h1)
  t := fun x ps h => by
    obtain ⟨p1, h1, i1⟩ := a.t x ps h
    obtain ⟨p2, h2, i2⟩ := b.t x p1 h1
    exact ⟨p2, h2, fun z => i2 (i1 z)⟩
theorem Kp.new {H : Hp} {p : Addr} {o : HO} (h : H p = none) : Kp H (upd H p o) := fun a u e _ => by
  rw [upd_ne (ne_of_none e h)]; exact e
/-- a new object that all may see -/
theorem Ext.new {G H : Hp} {p : Addr} {o : HO} (k : Gs G H) (h : H p = none) (hn : nt o = true := by rfl) : Ext G H (upd G p o) (upd H p o) where
  g := Kp.new (k.none h)
  h := Kp.new h
  gh := fun a u e => by
    by_cases ha : a = p
    · subst ha
      rw [upd_same] at e ⊢
      cases e
      exact ⟨hn, rfl⟩
    · rw [upd_ne ha] at e ⊢; exact k a u e
  n := fun a z => by
    by_cases ha : a = p
    · subst ha; exact .inr h
    · rw [upd_ne ha] at z; exact .inl z
  t := fun a ps z => ⟨ps, by rw [upd_ne (ne_of_none z h)]; exact z, id⟩
/-- a new object of the frame's own -/
theorem Ext.newO {G H : Hp} {p : Addr} {o : HO} (k : Gs G H) (h : H p = none) : Ext G H G (upd H p o) where
  g := Kp.refl _
  h := Kp.new h
  gh := k.trans (Kp.new h)
  n := fun a z => .inl z
  t := fun a ps z => ⟨ps, by rw [upd_ne (ne_of_none z h)]; exact z, id⟩

theorem Kp.rd {G H : Hp} (k : Kp G H) {a : Addr} {u : HO} (hu : nt u = true) (r : Rd G a u) : Rd H a u := by
  rcases r with r | ⟨o, r⟩
  · exact .inl (k _ _ r hu)
  · exact .inr ⟨o, k _ _ r rfl⟩
theorem Kp.sqL {K : PySem.W.Frag} {G H : Hp} (k : Kp G H) {a : Addr} {xs : List V} (h : SqL K G a xs) : SqL K H a xs := by
  rcases h with h | h
  · exact .inl (k.rd rfl h)
  · exact .inr h
theorem Kp.sqT {K : PySem.W.Frag} {G H : Hp} (k : Kp G H) {a : Addr} {xs : List V} (h : SqT K G a xs) : SqT K H a xs := by
  rcases h with h | h
  · exact .inl (k.rd rfl h)
  · exact .inr h
theorem Gs.rd {G H : Hp} (k : Gs G H) {a : Addr} {u : HO} (hu : nt u = true) (r : Rd G a u) : Rd H a u := k.kp.rd hu r
theorem Gs.sqL {K : PySem.W.Frag} {G H : Hp} (k : Gs G H) {a : Addr} {xs : List V} (h : SqL K G a xs) : SqL K H a xs := k.kp.sqL h
theorem Gs.sqT {K : PySem.W.Frag} {G H : Hp} (k : Gs G H) {a : Addr} {xs : List V} (h : SqT K G a xs) : SqT K H a xs := k.kp.sqT h
mutual
/-- the value v is the data d, by what G tells -/
inductive Dv (K : PySem.W.Frag) (G : Hp) : V → D → Prop where
  | non : Dv K G .non .none
  | bl (b : Bool) : Dv K G (.bl b) (.bool b)
  | int (i : Int) : Dv K G (.int i) (.int i)
  | str (x : Str) : Dv K G (.str x) (.str x)
  | lst {a : Addr} {xs : List V} {ds : List D} : SqL K G a xs → DvAll K G xs ds → Dv K G (.ref a) (.list ds)
  | tup {a : Addr} {xs : List V} {ds : List D} : SqT K G a xs → DvAll K G xs ds → Dv K G (.ref a) (.tuple ds)
inductive DvAll (K : PySem.W.Frag) (G : Hp) : List V → List D → Prop where
  | nil : DvAll K G [] []
  | cons {v : V} {vs : List V} {d : D} {ds : List D} : Dv K G v d → DvAll K G vs ds → DvAll K G (v :: vs) (d :: ds)
end
mutual
theorem Dv.kp {K : PySem.W.Frag} {G H : Hp} (k : Kp G H) : ∀ {v : V} {d : D}, Dv K G v d → Dv K H v d
  | _, _, .non => .non
  | _, _, .bl b => .bl b
  | _, _, .int i => .int i
  | _, _, .str x => .str x
  | _, _, .lst h a => .lst (k.sqL h) (DvAll.kp k a)
  | _, _, .tup h a => .tup (k.sqT h) (DvAll.kp k a)
theorem DvAll.kp {K : PySem.W.Frag} {G H : Hp} (k : Kp G H) : ∀ {vs : List V} {ds : List D}, DvAll K G vs ds → DvAll K H vs ds
  | _, _, .nil => .nil
  | _, _, .cons h t => .cons (Dv.kp k h) (DvAll.kp k t)
end
mutual
theorem Dv.dp {K : PySem.W.Frag} {G : Hp} : ∀ {v : V} {d : D}, Dv K G v d → Dp K G v d
  | _, _, .non => .non
  | _, _, .bl b => .bl b
  | _, _, .int i => .int i
  | _, _, .str x => .str x
  | _, _, .lst h a => .lst h (DvAll.dp a)
  | _, _, .tup h a => .tup h (DvAll.dp a)
theorem DvAll.dp {K : PySem.W.Frag} {G : Hp} : ∀ {vs : List V} {ds : List D}, DvAll K G vs ds → DpAll K G vs ds
  | _, _, .nil => .nil
  | _, _, .cons h t => .cons (Dv.dp h) (DvAll.dp t)
end
theorem DvAll.length {K : PySem.W.Frag} {G : Hp} : ∀ {vs : List V} {ds : List D}, DvAll K G vs ds → vs.length = ds.length
  | _, _, .nil => rfl
  | _, _, .cons _ t => congrArg (· + 1) (DvAll.length t)
theorem DvAll.get {K : PySem.W.Frag} {G : Hp} : ∀ {vs : List V} {ds : List D} {i : Nat} {d : D}, DvAll K G vs ds → ds[i]? = some d → ∃ v, vs[i]? = some v ∧ Dv K G v d
  | _, _, _, _, .nil, h => by simp at h
  | _, _, 0, _, .cons h _, e => ⟨_, rfl, by have := Option.some.inj e; subst this; exact h⟩
  | _, _, i + 1, _, .cons _ t, e => DvAll.get (i := i) t e
theorem DvAll.get' {K : PySem.W.Frag} {G : Hp} : ∀ {vs : List V} {ds : List D} {i : Nat} {v : V}, DvAll K G vs ds → vs[i]? = some v → ∃ d, ds[i]? = some d ∧ Dv K G v d
  | _, _, _, _, .nil, h => by simp at h
  | _, _, 0, _, .cons h _, e => ⟨_, rfl, by have := Option.some.inj e; subst this; exact h⟩
  | _, _, i + 1, _, .cons _ t, e => DvAll.get' (i := i) t e
theorem DvAll.append {K : PySem.W.Frag} {G : Hp} : ∀ {vs ws : List V} {ds es : List D}, DvAll K G vs ds → DvAll K G ws es → DvAll K G (vs ++ ws) (ds ++ es)
  | _, _, _, _, .nil, b => b
  | _, _, _, _, .cons h t, b => .cons h (DvAll.append t b)
theorem DvAll.take {K : PySem.W.Frag} {G : Hp} : ∀ {vs : List V} {ds : List D} (n : Nat), DvAll K G vs ds → DvAll K G (vs.take n) (ds.take n)
  | _, _, 0, _ => .nil
  | _, _, _ + 1, .nil => .nil
  | _, _, n + 1, .cons h t => .cons h (DvAll.take n t)
theorem DvAll.drop {K : PySem.W.Frag} {G : Hp} : ∀ {vs : List V} {ds : List D} (n : Nat), DvAll K G vs ds → DvAll K G (vs.drop n) (ds.drop n)
  | _, _, 0, h => h
  | _, _, _ + 1, .nil => .nil
  | _, _, n + 1, .cons _ t => DvAll.drop n t
theorem DvAll.set {K : PySem.W.Frag} {G : Hp} {v : V} {d : D} (hd : Dv K G v d) : ∀ {vs : List V} {ds : List D} (n : Nat), DvAll K G vs ds → DvAll K G (vs.set n v) (ds.set n d)
  | _, _, _, .nil => .nil
  | _, _, 0, .cons _ t => .cons hd t
  | _, _, n + 1, .cons h t => .cons h (DvAll.set hd n t)
theorem DvAll.rep {K : PySem.W.Frag} {G : Hp} {vs : List V} {ds : List D} (h : DvAll K G vs ds) : ∀ n : Nat, DvAll K G (List.replicate n vs).flatten (List.replicate n ds).flatten
  | 0 => .nil
  | n + 1 => by
    rw [List.replicate_succ, List.replicate_succ, List.flatten_cons, List.flatten_cons]
    exact h.append (DvAll.rep h n)
theorem DvAll.ints {K : PySem.W.Frag} {G : Hp} : ∀ ns : List Int, DvAll K G (ns.map V.int) (ns.map PyData.int)
  | [] => .nil
  | n :: r => .cons (.int n) (DvAll.ints r)

/-- data that lie nowhere in the heap -/
def scalD : D → Bool
  | .none | .bool _ | .int _ | .str _ => true
  | _ => false
theorem Dv.scal {K : PySem.W.Frag} {G H : Hp} {v : V} {d : D} (h : Dv K G v d) (s : scalD d = true) : Dv K H v d := by
  cases h with
  | non => exact .non
  | bl b => exact .bl b
  | int i => exact .int i
  | str x => exact .str x
  | lst _ _ => cases s
  | tup _ _ => cases s

structure Pm where
  K : PySem.W.Frag
  ec : Xc → Addr
  tb : List Addr
  W : WX
  /-- the exception that a suite holds: its class, dict, address -/
  xc : Value
  xd : Option Addr
  xa : Addr
def W0 : WX := fun _ _ _ _ => False

def TBs (tb : List Addr) (H : Hp) : Prop := ∀ P ∈ tb, ∃ ps : Array Value, H P = some (.tbl ps) ∧ TriplesOk ps.toList
theorem TBs.ext {tb : List Addr} {G H G' H' : Hp} (t : TBs tb H) (e : Ext G H G' H') : TBs tb H' := fun P hP => by
  obtain ⟨ps, h, o⟩ := t P hP
  obtain ⟨ps', h', i⟩ := e.t P ps h
  exact ⟨ps', h', i o⟩

/-- a scalar's value, a dict's entries -/
def scV : D → V
  | .bool b => .bl b
  | .int i => .int i
  | .str x => .str x
  | _ => .non
def dkV (es : List (Int × D)) : List (Key × V) := es.map fun p => (Sum.inl p.1, scV p.2)
/-- what the slots hold that all may see -/
structure EnvE (p : Pm) (G : Hp) (σ : L2.St) (ρ : Rho) : Prop where
  len : σ.length = ρ.length
  sh : ∀ (i : Nat) (d : D), ρ[i]? = some (Sl.sh d) → ∃ v, σ[i]? = some (some v) ∧ Dv p.K G v d
  ex : ∀ (i : Nat) (c : Xc), ρ[i]? = some (Sl.exn c) → σ[i]? = some (some (.ref p.xa)) ∧ p.xc = .ref (p.ec c) ∧ p.xd = none
  fd : ∀ (i : Nat) (es : List (Int × D)), ρ[i]? = some (Sl.fd es) → ∃ a, σ[i]? = some (some (.ref a)) ∧ G a = some (.dK (dkV es))
theorem EnvE.kp {p : Pm} {G G' : Hp} {σ : L2.St} {ρ : Rho} (k : Kp G G') (e : EnvE p G σ ρ) : EnvE p G' σ ρ := ⟨e.len, fun i d h => by
  obtain ⟨v, h1, h2⟩ := e.sh i d h
  exact ⟨v, h1, h2.kp k⟩, e.ex, fun i es h => by
  obtain ⟨a, h1, h2⟩ := e.fd i es h
  exact ⟨a, h1, k _ _ h2 rfl⟩⟩
theorem get_set {α : Type} {l : List α} {i j : Nat} {x y : α} (h : (l.set i x)[j]? = some y) : (i = j ∧ i < l.length ∧ x = y) ∨ (i ≠ j ∧ l[j]? = some y) := by
  by_cases hij : i = j
  · subst hij
    by_cases hl : i < l.length
    · rw [List.getElem?_set_self hl] at h
      exact .inl ⟨rfl, hl, Option.some.inj h⟩
    · rw [List.getElem?_eq_none (by rw [List.length_set]; omega)] at h
      cases h
  · rw [List.getElem?_set_ne hij] at h
    exact .inr ⟨hij, h⟩
theorem EnvE.set {p : Pm} {G : Hp} {σ : L2.St} {ρ : Rho} (e : EnvE p G σ ρ) (i : Nat) {v : V} {d : D} (r : Dv p.K G v d) : EnvE p G (σ.set i (some v)) (ρ.set i (.sh d)) := by
  refine ⟨by rw [List.length_set, List.length_set]; exact e.len, fun j d' h => ?_, fun j c h => ?_, fun j c h => ?_⟩
  · rcases get_set h with ⟨rfl, hl, e1⟩ | ⟨hij, h⟩
    · cases e1
      exact ⟨v, List.getElem?_set_self (by rw [e.len]; exact hl), r⟩
    · rw [List.getElem?_set_ne hij]
      exact e.sh j d' h
  · rcases get_set h with ⟨rfl, hl, e1⟩ | ⟨hij, h⟩
    · cases e1
    · rw [List.getElem?_set_ne hij]
      exact e.ex j c h
  · rcases get_set h with ⟨rfl, hl, e1⟩ | ⟨hij, h⟩
    · cases e1
    · rw [List.getElem?_set_ne hij]
      exact e.fd j c h
/-- a slot is forgotten -/
theorem EnvE.drop {p : Pm} {G : Hp} {σ : L2.St} {ρ : Rho} (e : EnvE p G σ ρ) (i : Nat) (o : Option V) : EnvE p G (σ.set i o) (ρ.set i .un) := by
  refine ⟨by rw [List.length_set, List.length_set]; exact e.len, fun j d' h => ?_, fun j c h => ?_, fun j c h => ?_⟩
  · rcases get_set h with ⟨rfl, hl, e1⟩ | ⟨hij, h⟩
    · cases e1
    · rw [List.getElem?_set_ne hij]
      exact e.sh j d' h
  · rcases get_set h with ⟨rfl, hl, e1⟩ | ⟨hij, h⟩
    · cases e1
    · rw [List.getElem?_set_ne hij]
      exact e.ex j c h
  · rcases get_set h with ⟨rfl, hl, e1⟩ | ⟨hij, h⟩
    · cases e1
    · rw [List.getElem?_set_ne hij]
      exact e.fd j c h

/-! ### readings by functions -/
def rS (p : Pm) (σ : L2.St) (G H : Hp) {α β : Type} (rel : Hp → β → α → Prop) (r : Res α) (Q : β → Hp → Prop) : Prop :=
  match r with
  | .ok a => ∀ b G' H', Ext G H G' H' → rel G' b a → Q b H'
  | .ex c => ∀ G' H', Ext G H G' H' → p.W (.ref (p.ec c)) none σ H'
  | .bad => False
theorem rS_mono {p : Pm} {σ : L2.St} {G H : Hp} {α β : Type} {rel : Hp → β → α → Prop} {r : Res α} {Q Q' : β → Hp → Prop} (h : rS p σ G H rel r Q) (q : ∀ b H', Q b H' → Q' b H') : rS p σ G H rel r Q' := by
  cases r with
  | ok a => exact fun b G' H' e r => q _ _ (h b G' H' e r)
  | ex c => exact h
  | bad => exact h
theorem rS_ext {p : Pm} {σ : L2.St} {G H G1 H1 : Hp} {α β : Type} {rel : Hp → β → α → Prop} {r : Res α} {Q : β → Hp → Prop} (e : Ext G H G1 H1) (h : rS p σ G H rel r Q) : rS p σ G1 H1 rel r Q := by
  cases r with
  | ok a => exact fun b G' H' e' r => h b G' H' (e.trans e') r
  | ex c => exact fun G' H' e' => h G' H' (e.trans e')
  | bad => exact h
theorem rS_bind {p : Pm} {σ : L2.St} {G H : Hp} {α β α' β' : Type} {rel : Hp → β → α → Prop} {rel' : Hp → β' → α' → Prop} {r : Res α} {k : α → Res α'} {Q : β' → Hp → Prop}
    (h : rS p σ G H rel' (r.bind k) Q) : rS p σ G H rel r (fun b H1 => ∃ G1 a, Ext G H G1 H1 ∧ rel G1 b a ∧ rS p σ G1 H1 rel' (k a) Q) := by
  cases r with
  | ok a => exact fun b G' H' e r => ⟨G', a, e, r, rS_ext e h⟩
  | ex c => exact h
  | bad => exact h

def relV (K : PySem.W.Frag) : Hp → V → D → Prop := fun G v d => Dv K G v d
def relB : Hp → Bool → Bool → Prop := fun _ b a => b = a
def relA (K : PySem.W.Frag) : Hp → List V → List D → Prop := fun G vs ds => DvAll K G vs ds
def relO : Hp → Option Int → Option Int → Prop := fun _ b a => b = a
def sp0 (p : Pm) {α β : Type} (rel : Hp → β → α → Prop) (f : Rho → Res α) : L2.St → Hp → (β → Hp → Prop) → Prop := fun σ H Q =>
  ∃ G ρ, EnvE p G σ ρ ∧ Gs G H ∧ TBs p.tb H ∧ rS p σ G H rel (f ρ) Q
abbrev eS (p : Pm) (f : Rho → Res D) : TE := sp0 p (relV p.K) f
abbrev tS (p : Pm) (f : Rho → Res Bool) : TT := sp0 p relB f
abbrev aS (p : Pm) (f : Rho → Res (List D)) : TA := sp0 p (relA p.K) f
abbrev oS (p : Pm) (f : Rho → Res (Option Int)) : TO := sp0 p relO f
/-- one, then what follows -/
theorem sp_run {p : Pm} {α β α' β' : Type} {rel : Hp → β → α → Prop} {rel' : Hp → β' → α' → Prop} {f : Rho → Res α} {k : α → Res α'} {σ : L2.St} {G H : Hp} {ρ : Rho} {Q : β' → Hp → Prop} {Q1 : β → Hp → Prop}
    (he : EnvE p G σ ρ) (hk : Gs G H) (ht : TBs p.tb H) (h : rS p σ G H rel' ((f ρ).bind k) Q)
    (q : ∀ b a G1 H1, Ext G H G1 H1 → rel G1 b a → rS p σ G1 H1 rel' (k a) Q → Q1 b H1) : sp0 p rel f σ H Q1 :=
  ⟨G, ρ, he, hk, ht, rS_mono (rS_bind h) fun b H1 ⟨G1, a, e1, r1, h1⟩ => q b a G1 H1 e1 r1 h1⟩

section
variable {X : Cx} {p : Pm}
theorem _root_.L2.PE.imp {e : Expr} {t t' : TE} (h : PE X e t) (i : ∀ σ H Q, t' σ H Q → t σ H Q) : PE X e t' := ⟨fun pins s σ H Q I hw => h.run pins s σ H Q I (i σ H Q hw)⟩
theorem _root_.L2.PT.imp {e : Expr} {t t' : TT} (h : PT X e t) (i : ∀ σ H Q, t' σ H Q → t σ H Q) : PT X e t' := ⟨fun pins s σ H Q I hw => h.run pins s σ H Q I (i σ H Q hw)⟩
theorem _root_.L2.PA.imp {e : List Expr} {t t' : TA} (h : PA X e t) (i : ∀ σ H Q, t' σ H Q → t σ H Q) : PA X e t' := ⟨fun pos pins s σ H Q I hw => h.run pos pins s σ H Q I (i σ H Q hw)⟩
theorem _root_.L2.PS.imp {e : Stmt} {t t' : TS} (h : PS X e t) (i : ∀ De σ H, t' De σ H → t De σ H) : PS X e t' := ⟨fun pins s σ H De I hw => h.run pins s σ H De I (i De σ H hw)⟩
theorem _root_.L2.PSs.imp {e : List Stmt} {t t' : TS} (h : PSs X e t) (i : ∀ De σ H, t' De σ H → t De σ H) : PSs X e t' := ⟨fun pins s σ H De I hw => h.run pins s σ H De I (i De σ H hw)⟩
theorem _root_.L2.PO.imp {e : Option Expr} {t t' : TO} (h : PO X e t) (i : ∀ σ H Q, t' σ H Q → t σ H Q) : PO X e t' := ⟨fun pins s σ H Q I hw => h.run pins s σ H Q I (i σ H Q hw)⟩

/-! ### names, constants -/
def rd (i : Nat) (ρ : Rho) : Res D := match ρ[i]? with
  | some (.sh d) => .ok d
  | _ => .bad
theorem je_var {i : Nat} {e : Expr} (h : PE X e (tVar i)) : PE X e (eS p (rd i)) := PE.imp h fun σ H Q ⟨G, ρ, he, hk, ht, h⟩ => by
  unfold rd at h
  split at h
  · rename_i d hd
    obtain ⟨v, h1, h2⟩ := he.sh i d hd
    exact ⟨v, h1, h v G H (Ext.refl hk) h2⟩
  · exact h.elim
theorem je_c {v : V} {d : D} {e : Expr} (h : PE X e (tC v)) (r : Dv p.K (fun _ => none) v d) : PE X e (eS p fun _ => .ok d) := PE.imp h fun σ H Q ⟨G, ρ, he, hk, ht, h⟩ =>
  h v G H (Ext.refl hk) (r.kp fun _ _ z _ => by cases z)
def cI (i : Int) : Rho → Res D := fun _ => .ok (.int i)
def cS (s : Str) : Rho → Res D := fun _ => .ok (.str s)
def cB (b : Bool) : Rho → Res D := fun _ => .ok (.bool b)
def cN : Rho → Res D := fun _ => .ok .none
theorem je_int {i : Int} {j : Nat} {pos : Pos} : PE X (.Constant (.int i) j pos) (eS p (cI i)) := je_c pe_int (.int i)
theorem je_str {i : Str} {j : Nat} {pos : Pos} : PE X (.Constant (.str i) j pos) (eS p (cS i)) := je_c pe_str (.str i)
theorem je_bl {i : Bool} {j : Nat} {pos : Pos} : PE X (.Constant (.bool i) j pos) (eS p (cB i)) := je_c pe_bl (.bl i)
theorem je_non {j : Nat} {pos : Pos} : PE X (.Constant .none j pos) (eS p cN) := je_c pe_non .non

/-! ### operators -/
def Op2 (p : Pm) (r : R2) (k : D → D → Res D) : Prop := ∀ σ G H x y dx dy (Q : VK), Gs G H → Dv p.K G x dx → Dv p.K G y dy → rS p σ G H (relV p.K) (k dx dy) Q → r x y H Q
def do2 (f g : Rho → Res D) (k : D → D → Res D) : Rho → Res D := fun ρ => (f ρ).bind fun x => (g ρ).bind fun y => k x y
theorem op2 {r : R2} {k : D → D → Res D} {fa fb : Rho → Res D} (o : Op2 p r k) {σ : L2.St} {H : Hp} {Q : VK} (h : eS p (do2 fa fb k) σ H Q) : tOp r (eS p fa) (eS p fb) σ H Q := by
  obtain ⟨G, ρ, he, hk, ht, h⟩ := h
  refine sp_run he hk ht h fun x dx G1 H1 e1 rx h1 => ?_
  refine sp_run (f := fb) (he.kp e1.g) e1.gh (ht.ext e1) h1 fun y dy G2 H2 e2 ry h2 => ?_
  exact o σ G2 H2 x y dx dy Q e2.gh (rx.kp e2.g) ry h2
end
end J

set_option linter.all false
set_option maxRecDepth 100000
set_option maxHeartbeats 4000000
namespace J
open PySem PySem.Spec PyProof.Rows L2

/-! ### what the operators do with plain data -/
def addD : D → D → Res D
  | .int i, .int j => .ok (.int (i + j))
  | .str x, .str y => if x.length + y.length ≤ 16777216 then .ok (.str (x ++ y)) else .bad
  | .list xs, .list ys => if xs.length + ys.length ≤ 16777216 then .ok (.list (xs ++ ys)) else .bad
  | .tuple xs, .tuple ys => if xs.length + ys.length ≤ 16777216 then .ok (.tuple (xs ++ ys)) else .bad
  | _, _ => .bad
def subD : D → D → Res D
  | .int i, .int j => .ok (.int (i - j))
  | _, _ => .bad
def mulD : D → D → Res D
  | .int i, .int j => if (-(2 ^ 64) < i ∧ i < 2 ^ 64) ∨ (-(2 ^ 64) < j ∧ j < 2 ^ 64) then .ok (.int (i * j)) else .bad
  | .tuple xs, .int k => if xs ≠ [] ∧ 2 ≤ k ∧ k ≤ 1000 ∧ xs.length ≤ 1000 then .ok (.tuple (List.replicate k.toNat xs).flatten) else .bad
  | _, _ => .bad
def fdivD : D → D → Res D
  | .int i, .int j => if 0 < j ∧ j < 2 ^ 8000 then .ok (.int (i / j)) else .bad
  | _, _ => .bad
def modD : D → D → Res D
  | .int i, .int j => if 0 < j then .ok (.int (i % j)) else .bad
  | _, _ => .bad
def powD : D → D → Res D
  | .int i, .int j => if 0 ≤ j ∧ j ≤ 1000000 ∧ i.natAbs < 2 ^ 64 then .ok (.int (i ^ j.toNat)) else .bad
  | _, _ => .bad
def ltD : D → D → Res D
  | .int i, .int j => .ok (.bool (decide (i < j)))
  | _, _ => .bad
def leD : D → D → Res D
  | .int i, .int j => .ok (.bool (decide (i ≤ j)))
  | _, _ => .bad
def gtD : D → D → Res D
  | .int i, .int j => .ok (.bool (decide (j < i)))
  | _, _ => .bad
def geD : D → D → Res D
  | .int i, .int j => .ok (.bool (decide (j ≤ i)))
  | _, _ => .bad
def eqD (x y : D) : Res D := if SeqAt.shaped x = true ∧ SeqAt.shaped y = true then .ok (.bool (PyData.eqv x y)) else .bad
def neD (x y : D) : Res D := if SeqAt.shaped x = true ∧ SeqAt.shaped y = true then .ok (.bool (!PyData.eqv x y)) else .bad
def isNone : D → Bool
  | .none => true
  | _ => false
def isD : D → D → Res D
  | x, .none => .ok (.bool (isNone x))
  | _, _ => .bad
def isntD : D → D → Res D
  | x, .none => .ok (.bool (!isNone x))
  | _, _ => .bad
def inD : D → D → Res D
  | x, .list ds => if SeqAt.shaped x = true ∧ SeqAt.shaped (.list ds) = true then .ok (.bool (ds.any fun z => PyData.eqv z x)) else .bad
  | x, .tuple ds => if SeqAt.shaped x = true ∧ SeqAt.shaped (.list ds) = true then .ok (.bool (ds.any fun z => PyData.eqv z x)) else .bad
  | _, _ => .bad
def notInD : D → D → Res D
  | x, .list ds => if SeqAt.shaped x = true ∧ SeqAt.shaped (.list ds) = true then .ok (.bool (!ds.any fun z => PyData.eqv z x)) else .bad
  | x, .tuple ds => if SeqAt.shaped x = true ∧ SeqAt.shaped (.list ds) = true then .ok (.bool (!ds.any fun z => PyData.eqv z x)) else .bad
  | _, _ => .bad
def negD : D → Res D
  | .int i => .ok (.int (-i))
  | _ => .bad
def asB : D → Res Bool
  | .bool b => .ok b
  | _ => .bad
def truD : D → Res Bool
  | .none => .ok false
  | .bool b => .ok b
  | .int i => .ok (i != 0)
  | .list xs => .ok (!xs.isEmpty)
  | .tuple xs => .ok (!xs.isEmpty)
  | .str x => if x.length ≤ 16777216 then .ok (x.length != 0) else .bad
  | _ => .bad

theorem Ext.tupD {p : Pm} {σ : L2.St} {G H : Hp} {vs : List V} {ds : List D} {Q : VK} (k : Gs G H) (a : DvAll p.K G vs ds) (h : rS p σ G H (relV p.K) (.ok (.tuple ds)) Q) : ∀ q, H q = none → Q (.ref q) (upd H q (.tup vs)) := fun q hq =>
  h _ _ _ (Ext.new (o := .tup vs) k hq) (.tup (SqT.of upd_same) (a.kp (Ext.new (o := .tup vs) k hq).g))
theorem Ext.lstD {p : Pm} {σ : L2.St} {G H : Hp} {vs : List V} {ds : List D} {Q : VK} (k : Gs G H) (a : DvAll p.K G vs ds) (h : rS p σ G H (relV p.K) (.ok (.list ds)) Q) : ∀ q, H q = none → Q (.ref q) (upd H q (.lst vs)) := fun q hq =>
  h _ _ _ (Ext.new (o := .lst vs) k hq) (.lst (.inl (.inl upd_same)) (a.kp (Ext.new (o := .lst vs) k hq).g))
theorem rS_now {p : Pm} {σ : L2.St} {G H : Hp} {d : D} {v : V} {Q : VK} (k : Gs G H) (h : rS p σ G H (relV p.K) (.ok d) Q) (r : Dv p.K G v d) : Q v H := h v G H (Ext.refl k) r

section
variable {X : Cx} {p : Pm}
/-- list + list, for lists that are read -/
def rCatL (K : PySem.W.Frag) : R2 := fun x y H Q => ∃ l b xs zs, x = .ref l ∧ y = .ref b ∧ SqL K H l xs ∧ SqL K H b zs ∧ xs.length + zs.length ≤ sizeLine ∧ ∀ p, H p = none → Q (.ref p) (upd H p (.lst (xs ++ zs)))
theorem op_catL : OpR X (binaryOp .Add) (rCatL X.K) := by
  intro pins s σ H x y v u Q I rx ry h
  obtain ⟨l, b, xs, zs, rfl, rfl, hH, hB, hz, q⟩ := h
  cases rx
  cases ry
  obtain ⟨its, r, e, hs⟩ := I.list hH
  obtain ⟨its2, r2, e2, hs2⟩ := I.list hB
  have hl := r.length
  have hl2 := r2.length
  obtain ⟨⟨cls, dd, data, sl⟩, ho, hc, n, hd⟩ := e.isList
  obtain ⟨⟨cls2, dd2, data2, sl2⟩, ho2, hc2, n2, hd2⟩ := e2.isList
  simp only at hc hd hc2 hd2
  subst hc hd hc2 hd2
  have ea : its.toArray ++ its2.toArray = (its ++ its2).toArray := by simp
  refine concat_meets ⟨_, ho, rfl⟩ ⟨_, ho2, rfl⟩ noFill_list_add seq_list_add PySem.F.slot_list_add PySem.F.entry_list_add (PySem.F.args_list_add_2 _ _) (list_addW l b its.toArray its2.toArray n n2 dd dd2 sl sl2 (by rw [List.size_toArray, List.size_toArray]; omega)) ⟨ho, ho2, ?_⟩
  rw [ea]
  exact ⟨.ref _, _, I.lnew (t' := s.toks) (r.append r2) (by rw [List.length_append]; omega), rfl, q _ I.fresh⟩

theorem o_add : Op2 p (fun x y H Q => rI0 (fun i j => .int (i + j)) x y H Q ∨ (∃ i j, x = .str i ∧ y = .str j ∧ i.length + j.length ≤ sizeLine ∧ Q (.str (i ++ j)) H) ∨ rCatL p.K x y H Q ∨ rCatA p.K x y H Q) addD := by
  intro σ G H x y dx dy Q k rx ry h
  cases rx with
  | int i =>
    cases ry <;> first | exact (show False from h).elim | skip
    exact .inl ⟨_, _, rfl, rfl, rS_now k h (.int _)⟩
  | str a =>
    cases ry <;> first | exact (show False from h).elim | skip
    rename_i b
    have h : rS p σ G H (relV p.K) (if a.length + b.length ≤ 16777216 then .ok (.str (a ++ b)) else .bad) Q := h
    split at h
    · rename_i hz
      exact .inr (.inl ⟨_, _, rfl, rfl, by rw [sizeLine_eq]; exact hz, rS_now k h (.str _)⟩)
    · exact h.elim
  | lst r a =>
    cases ry <;> first | exact (show False from h).elim | skip
    rename_i xs ds _ ys es r2 a2
    have h : rS p σ G H (relV p.K) (if ds.length + es.length ≤ 16777216 then .ok (.list (ds ++ es)) else .bad) Q := h
    split at h
    · rename_i hz
      refine .inr (.inr (.inl ⟨_, _, _, _, rfl, rfl, k.sqL r, k.sqL r2, ?_, Ext.lstD k (a.append a2) h⟩))
      rw [sizeLine_eq, a.length, a2.length]; exact hz
    · exact h.elim
  | tup r a =>
    cases ry <;> first | exact (show False from h).elim | skip
    rename_i b xs ds c ys es r2 a2
    have h : rS p σ G H (relV p.K) (if ds.length + es.length ≤ 16777216 then .ok (.tuple (ds ++ es)) else .bad) Q := h
    split at h
    · rename_i hz
      refine .inr (.inr (.inr ⟨_, _, _, _, rfl, rfl, k.sqT r, k.sqT r2, ?_, fun e => ?_, fun _ e => ?_, fun _ _ => Ext.tupD k (a.append a2) h⟩))
      · rw [sizeLine_eq, a.length, a2.length]; exact hz
      · subst e
        cases a
        exact rS_now k h (.tup r2 a2)
      · subst e
        cases a2
        rw [List.append_nil] at h
        exact rS_now k h (.tup r a)
    · exact h.elim
  | non => cases ry <;> exact (show False from h).elim
  | bl _ => cases ry <;> exact (show False from h).elim
theorem o_int {C : Int → Int → Prop} [∀ i j, Decidable (C i j)] {g : Int → Int → Int} {kd : D → D → Res D} (hk : ∀ i j, kd (.int i) (.int j) = if C i j then .ok (.int (g i j)) else .bad) (hb : ∀ x y, (∀ i j, ¬ (x = .int i ∧ y = .int j)) → kd x y = .bad)
    {C' : Int → Int → Prop} (hc : ∀ i j, C i j → C' i j) : Op2 p (rI C' fun i j => .int (g i j)) kd := by
  intro σ G H x y dx dy Q k rx ry h
  by_cases e : ∃ i j, dx = .int i ∧ dy = .int j
  · obtain ⟨i, j, rfl, rfl⟩ := e
    cases rx
    cases ry
    rw [hk] at h
    split at h
    · rename_i hz
      exact ⟨_, _, rfl, rfl, hc _ _ hz, rS_now k h (.int _)⟩
    · exact h.elim
  · rw [hb _ _ fun i j z => e ⟨i, j, z⟩] at h
    exact h.elim
theorem o_sub : Op2 p (rI0 fun i j => .int (i - j)) subD := by
  intro σ G H x y dx dy Q k rx ry h
  cases rx <;> cases ry <;> first | exact (show False from h).elim | skip
  exact ⟨_, _, rfl, rfl, rS_now k h (.int _)⟩
theorem log2_lt_8000 {j : Int} (h0 : 0 < j) (h : j < 2 ^ 8000) : CDivW 0 j := by
  refine ⟨h0, ?_⟩
  have h1 : j.natAbs < 2 ^ 8000 := by
    have e : (2 : Int) ^ 8000 = ((2 ^ 8000 : Nat) : Int) := by rw [Int.natCast_pow]; rfl
    rw [e] at h
    omega
  exact Nat.lt_of_lt_of_le (PySem.Flt.log2_lt_of (by decide) h1) (by decide)
theorem o_fdiv : Op2 p (rI CDivW fun i j => .int (i / j)) fdivD := o_int (C := fun _ j => 0 < j ∧ j < 2 ^ 8000) (fun i j => rfl) (fun x y z => by
  unfold fdivD
  split
  · exact absurd ⟨rfl, rfl⟩ (z _ _)
  · rfl) fun i j h => log2_lt_8000 h.1 h.2
theorem o_mod : Op2 p (rI (fun _ j => 0 < j) fun i j => .int (i % j)) modD := o_int (C := fun _ j => 0 < j) (fun i j => rfl) (fun x y z => by
  unfold modD
  split
  · exact absurd ⟨rfl, rfl⟩ (z _ _)
  · rfl) fun i j h => h
theorem o_pow : Op2 p (rI CPow fun i j => .int (i ^ j.toNat)) powD := o_int (C := fun i j => 0 ≤ j ∧ j ≤ 1000000 ∧ i.natAbs < 2 ^ 64) (fun i j => rfl) (fun x y z => by
  unfold powD
  split
  · exact absurd ⟨rfl, rfl⟩ (z _ _)
  · rfl) fun i j h => h
theorem o_mul : Op2 p (fun x y H Q => rI CMul (fun i j => .int (i * j)) x y H Q ∨ rRepT p.K x y H Q) mulD := by
  intro σ G H x y dx dy Q k rx ry h
  cases rx with
  | int i =>
    cases ry <;> first | exact (show False from h).elim | skip
    rename_i j
    have h : rS p σ G H (relV p.K) (if (-(2 ^ 64) < i ∧ i < 2 ^ 64) ∨ (-(2 ^ 64) < j ∧ j < 2 ^ 64) then .ok (.int (i * j)) else .bad) Q := h
    split at h
    · rename_i hz
      exact .inl ⟨_, _, rfl, rfl, hz, rS_now k h (.int _)⟩
    · exact h.elim
  | tup r a =>
    cases ry <;> first | exact (show False from h).elim | skip
    rename_i b xs ds j
    have h : rS p σ G H (relV p.K) (if ds ≠ [] ∧ 2 ≤ j ∧ j ≤ 1000 ∧ ds.length ≤ 1000 then .ok (.tuple (List.replicate j.toNat ds).flatten) else .bad) Q := h
    split at h
    · rename_i hz
      refine .inr ⟨_, _, _, rfl, rfl, k.sqT r, ?_, hz.2.1, hz.2.2.1, by rw [a.length]; exact hz.2.2.2, Ext.tupD k (a.rep _) h⟩
      intro z
      subst z
      cases a
      exact hz.1 rfl
    · exact h.elim
  | _ => cases ry <;> exact (show False from h).elim
theorem o_cmp {g : Int → Int → Bool} {kd : D → D → Res D} (hk : ∀ i j, kd (.int i) (.int j) = .ok (.bool (g i j))) (hb : ∀ x y, (∀ i j, ¬ (x = .int i ∧ y = .int j)) → kd x y = .bad) : Op2 p (rI0 fun i j => .bl (g i j)) kd := by
  intro σ G H x y dx dy Q k rx ry h
  by_cases e : ∃ i j, dx = .int i ∧ dy = .int j
  · obtain ⟨i, j, rfl, rfl⟩ := e
    cases rx
    cases ry
    rw [hk] at h
    exact ⟨_, _, rfl, rfl, rS_now k h (.bl _)⟩
  · rw [hb _ _ fun i j z => e ⟨i, j, z⟩] at h
    exact h.elim
theorem o_lt : Op2 p (rI0 fun i j => .bl (decide (i < j))) ltD := o_cmp (fun i j => rfl) fun x y z => by
  unfold ltD
  split
  · exact absurd ⟨rfl, rfl⟩ (z _ _)
  · rfl
theorem o_le : Op2 p (rI0 fun i j => .bl (decide (i ≤ j))) leD := o_cmp (fun i j => rfl) fun x y z => by
  unfold leD
  split
  · exact absurd ⟨rfl, rfl⟩ (z _ _)
  · rfl
theorem o_gt : Op2 p (rI0 fun i j => .bl (decide (j < i))) gtD := o_cmp (fun i j => rfl) fun x y z => by
  unfold gtD
  split
  · exact absurd ⟨rfl, rfl⟩ (z _ _)
  · rfl
theorem o_ge : Op2 p (rI0 fun i j => .bl (decide (j ≤ i))) geD := o_cmp (fun i j => rfl) fun x y z => by
  unfold geD
  split
  · exact absurd ⟨rfl, rfl⟩ (z _ _)
  · rfl
theorem o_eq : Op2 p (rEqD p.K) eqD := by
  intro σ G H x y dx dy Q k rx ry h
  unfold eqD at h
  split at h
  · rename_i hz
    exact ⟨_, _, (rx.kp k.kp).dp, (ry.kp k.kp).dp, hz.1, hz.2, rS_now k h (.bl _)⟩
  · exact h.elim
theorem o_ne : Op2 p (rNeD p.K) neD := by
  intro σ G H x y dx dy Q k rx ry h
  unfold neD at h
  split at h
  · rename_i hz
    exact ⟨_, _, (rx.kp k.kp).dp, (ry.kp k.kp).dp, hz.1, hz.2, rS_now k h (.bl _)⟩
  · exact h.elim
theorem isNone_dv {K : PySem.W.Frag} {G : Hp} {v : V} {d : D} (r : Dv K G v d) : decide (v = V.non) = isNone d := by
  cases r <;> simp [isNone]
theorem o_is : Op2 p (fun x y H Q => y = .non ∧ Q (.bl (decide (x = .non))) H) isD := by
  intro σ G H x y dx dy Q k rx ry h
  cases ry <;> first | (cases rx <;> exact (show False from h).elim) | skip
  have h : rS p σ G H (relV p.K) (.ok (.bool (isNone dx))) Q := by cases rx <;> exact h
  refine ⟨rfl, ?_⟩
  rw [isNone_dv rx]
  exact rS_now k h (.bl _)
theorem o_isnt : Op2 p (fun x y H Q => y = .non ∧ Q (.bl (!decide (x = .non))) H) isntD := by
  intro σ G H x y dx dy Q k rx ry h
  cases ry <;> first | (cases rx <;> exact (show False from h).elim) | skip
  have h : rS p σ G H (relV p.K) (.ok (.bool (!isNone dx))) Q := by cases rx <;> exact h
  refine ⟨rfl, ?_⟩
  rw [isNone_dv rx]
  exact rS_now k h (.bl _)
/-- x in a list or tuple of data -/
def rInX (neg : Bool) (K : PySem.W.Frag) : R2 := fun x y H Q => ∃ d ds, Dp K H x d ∧ (Dp K H y (.list ds) ∨ Dp K H y (.tuple ds)) ∧ SeqAt.shaped d = true ∧ SeqAt.shaped (.list ds) = true ∧ Q (.bl (if neg = true then !ds.any fun z => PyData.eqv z d else ds.any fun z => PyData.eqv z d)) H
theorem op_inX {X : Cx} (hu : X.A.units + 65 < cLine) : OpR X (compareOp .In) (rInX false X.K) := fun pins s σ H x y v u Q I rx ry h => by
  obtain ⟨d, ds, hd, he, sd, se, q⟩ := h
  obtain ⟨as, r1⟩ := Dp.reads I d x v hd rx
  rcases he with he | he
  · obtain ⟨bs, r2⟩ := Dp.reads I (.list ds) y u he ry
    exact SeqAt.in_list_reads r2 r1 (SeqAt.canLay_of_shaped se) (SeqAt.canLay_of_shaped sd) (room_in_shaped sd hu) ⟨.bl _, H, I, rfl, q⟩
  · obtain ⟨bs, r2⟩ := Dp.reads I (.tuple ds) y u he ry
    exact SeqAt.in_tuple_reads r2 r1 (SeqAt.canLay_of_shaped se) (SeqAt.canLay_of_shaped sd) (room_in_shaped sd hu) ⟨.bl _, H, I, rfl, q⟩
theorem op_notInX {X : Cx} (hu : X.A.units + 65 < cLine) : OpR X (compareOp .NotIn) (rInX true X.K) := fun pins s σ H x y v u Q I rx ry h => by
  obtain ⟨d, ds, hd, he, sd, se, q⟩ := h
  obtain ⟨as, r1⟩ := Dp.reads I d x v hd rx
  rcases he with he | he
  · obtain ⟨bs, r2⟩ := Dp.reads I (.list ds) y u he ry
    exact SeqAt.notIn_list_reads r2 r1 (SeqAt.canLay_of_shaped se) (SeqAt.canLay_of_shaped sd) (room_in_shaped sd hu) ⟨.bl _, H, I, rfl, q⟩
  · obtain ⟨bs, r2⟩ := Dp.reads I (.tuple ds) y u he ry
    exact SeqAt.notIn_tuple_reads r2 r1 (SeqAt.canLay_of_shaped se) (SeqAt.canLay_of_shaped sd) (room_in_shaped sd hu) ⟨.bl _, H, I, rfl, q⟩
theorem o_in : Op2 p (rInX false p.K) inD := by
  intro σ G H x y dx dy Q k rx ry h
  cases ry with
  | lst r a =>
    rename_i q xs ds
    have h : rS p σ G H (relV p.K) (if SeqAt.shaped dx = true ∧ SeqAt.shaped (.list ds) = true then .ok (.bool (ds.any fun z => PyData.eqv z dx)) else .bad) Q := by cases rx <;> exact h
    split at h
    · rename_i hz
      exact ⟨_, _, (rx.kp k.kp).dp, .inl ((Dv.lst r a).kp k.kp).dp, hz.1, hz.2, rS_now k h (.bl _)⟩
    · exact h.elim
  | tup r a =>
    rename_i q xs ds
    have h : rS p σ G H (relV p.K) (if SeqAt.shaped dx = true ∧ SeqAt.shaped (.list ds) = true then .ok (.bool (ds.any fun z => PyData.eqv z dx)) else .bad) Q := by cases rx <;> exact h
    split at h
    · rename_i hz
      exact ⟨_, _, (rx.kp k.kp).dp, .inr ((Dv.tup r a).kp k.kp).dp, hz.1, hz.2, rS_now k h (.bl _)⟩
    · exact h.elim
  | _ => cases rx <;> exact (show False from h).elim
theorem o_notIn : Op2 p (rInX true p.K) notInD := by
  intro σ G H x y dx dy Q k rx ry h
  cases ry with
  | lst r a =>
    rename_i q xs ds
    have h : rS p σ G H (relV p.K) (if SeqAt.shaped dx = true ∧ SeqAt.shaped (.list ds) = true then .ok (.bool (!ds.any fun z => PyData.eqv z dx)) else .bad) Q := by cases rx <;> exact h
    split at h
    · rename_i hz
      exact ⟨_, _, (rx.kp k.kp).dp, .inl ((Dv.lst r a).kp k.kp).dp, hz.1, hz.2, rS_now k h (.bl _)⟩
    · exact h.elim
  | tup r a =>
    rename_i q xs ds
    have h : rS p σ G H (relV p.K) (if SeqAt.shaped dx = true ∧ SeqAt.shaped (.list ds) = true then .ok (.bool (!ds.any fun z => PyData.eqv z dx)) else .bad) Q := by cases rx <;> exact h
    split at h
    · rename_i hz
      exact ⟨_, _, (rx.kp k.kp).dp, .inr ((Dv.tup r a).kp k.kp).dp, hz.1, hz.2, rS_now k h (.bl _)⟩
    · exact h.elim
  | _ => cases rx <;> exact (show False from h).elim

/-! ### expressions -/
section
variable {a b c : Expr} {fa fb fc : Rho → Res D} {pos : Pos}
theorem e_op {op : Operator} {r : R2} {k : D → D → Res D} (ho : OpR X (binaryOp op) r) (o : Op2 p r k) (ha : PE X a (eS p fa)) (hb : PE X b (eS p fb)) : PE X (.BinOp a op b pos) (eS p (do2 fa fb k)) := (pe_op ho ha hb).imp fun _ _ _ h => op2 o h
theorem e_cmp {op : CmpOp} {r : R2} {k : D → D → Res D} (ho : OpR X (compareOp op) r) (o : Op2 p r k) (hm : behindInMarks op b = false) (ha : PE X a (eS p fa)) (hb : PE X b (eS p fb)) : PE X (.Compare a [op] [b] pos) (eS p (do2 fa fb k)) := (pe_cmpR ho ha hb hm).imp fun _ _ _ h => op2 o h
def tstR (f : Rho → Res D) : Rho → Res Bool := fun ρ => (f ρ).bind asB
theorem rS_asB {σ : L2.St} {G H : Hp} {d : D} {v : V} {Q : Bool → Hp → Prop} (k : Gs G H) (h : rS p σ G H relB (asB d) Q) (r : Dv p.K G v d) : ∃ b, v = .bl b ∧ Q b H := by
  cases r <;> first | exact (show False from h).elim | skip
  exact ⟨_, rfl, h _ G H (Ext.refl k) rfl⟩
theorem tB_of {f : Rho → Res D} {σ : L2.St} {H : Hp} {Q : Bool → Hp → Prop} (h : tS p (tstR f) σ H Q) : eS p f σ H fun x H1 => ∃ k, x = .bl k ∧ Q k H1 := by
  obtain ⟨G, ρ, he, hk, ht, h⟩ := h
  exact sp_run he hk ht h fun x dx G1 H1 e1 rx h1 => rS_asB e1.gh h1 rx
theorem op2T {r : R2} {k : D → D → Res D} (o : Op2 p r k) {σ : L2.St} {H : Hp} {Q : Bool → Hp → Prop} (h : tS p (tstR (do2 fa fb k)) σ H Q) : tTest (tOp r (eS p fa) (eS p fb)) σ H Q := by
  obtain ⟨G, ρ, he, hk, ht, h⟩ := h
  have h' : rS p σ G H relB ((fa ρ).bind fun x => ((fb ρ).bind fun y => k x y).bind asB) Q := by
    have e : (do2 fa fb k ρ).bind asB = (fa ρ).bind fun x => ((fb ρ).bind fun y => k x y).bind asB := by unfold do2; cases fa ρ <;> rfl
    unfold tstR at h
    rw [e] at h; exact h
  refine sp_run he hk ht h' fun x dx G1 H1 e1 rx h1 => ?_
  have h1' : rS p σ G1 H1 relB ((fb ρ).bind fun y => (k dx y).bind asB) Q := by
    have e : ((fb ρ).bind fun y => k dx y).bind asB = (fb ρ).bind fun y => (k dx y).bind asB := by cases fb ρ <;> rfl
    rw [e] at h1; exact h1
  refine sp_run (f := fb) (he.kp e1.g) e1.gh (ht.ext e1) h1' fun y dy G2 H2 e2 ry h2 => ?_
  refine o σ G2 H2 x y dx dy _ e2.gh (rx.kp e2.g) ry ?_
  refine rS_mono (rS_bind h2) fun v H3 hv => ?_
  obtain ⟨G3, d, e3, r3, h3⟩ := hv
  exact rS_asB e3.gh h3 r3
theorem t_cmp {op : CmpOp} {r : R2} {k : D → D → Res D} (ho : OpR X (compareOp op) r) (o : Op2 p r k) (hm : behindInMarks op b = false) (ha : PE X a (eS p fa)) (hb : PE X b (eS p fb)) : PT X (.Compare a [op] [b] pos) (tS p (tstR (do2 fa fb k))) := (pt_cmpR ho ha hb hm).imp fun _ _ _ h => op2T o h
/-- a op b op' c -/
def chn (f g h : Rho → Res D) (k k' : D → D → Res D) : Rho → Res D := fun ρ => (f ρ).bind fun x => (g ρ).bind fun y => (k x y).bind fun z => (asB z).bind fun t => if t = true then (h ρ).bind fun w => k' y w else .ok (.bool false)
theorem chain_of {r r' : R2} {k k' : D → D → Res D} (o : Op2 p r k) (o' : Op2 p r' k') {σ : L2.St} {H : Hp} {Q : VK} (h : eS p (chn fa fb fc k k') σ H Q) : tChain r r' (eS p fa) (eS p fb) (eS p fc) σ H Q := by
  obtain ⟨G, ρ, he, hk, ht, h⟩ := h
  refine sp_run he hk ht h fun x dx G1 H1 e1 rx h1 => ?_
  refine sp_run (f := fb) (he.kp e1.g) e1.gh (ht.ext e1) h1 fun y dy G2 H2 e2 ry h2 => ?_
  refine o σ G2 H2 x y dx dy _ e2.gh (rx.kp e2.g) ry ?_
  refine rS_mono (rS_bind h2) fun v H3 hv => ?_
  obtain ⟨G3, d, e3, r3, h3⟩ := hv
  cases r3 <;> first | exact (show False from h3).elim | skip
  rename_i t
  refine ⟨t, rfl, ?_⟩
  cases t with
  | false => exact rS_now e3.gh h3 (.bl _)
  | true =>
    refine sp_run (f := fc) (((he.kp e1.g).kp e2.g).kp e3.g) e3.gh (((ht.ext e1).ext e2).ext e3) h3 fun w dw G4 H4 e4 rw4 h4 => ?_
    exact o' σ G4 H4 y w dy dw Q e4.gh ((ry.kp e3.g).kp e4.g) rw4 h4
theorem e_chain {op op' : CmpOp} {r r' : R2} {k k' : D → D → Res D} (ho : OpR X (compareOp op) r) (ho' : OpR X (compareOp op') r') (o : Op2 p r k) (o' : Op2 p r' k') (hm : lastMarks [op, op'] [b, c] = false) (ha : PE X a (eS p fa)) (hb : PE X b (eS p fb)) (hc : PE X c (eS p fc)) :
    PE X (.Compare a [op, op'] [b, c] pos) (eS p (chn fa fb fc k k')) := (pe_chain ho ho' ha hb hc hm).imp fun _ _ _ h => chain_of o o' h
theorem e_test {e : Expr} {f : Rho → Res D} (h : PE X e (eS p f)) (he : ∀ whole, isTrue e X.env whole = (do let v ← whole; standAt e.pos; holding [v] (truthy v))) : PT X e (tS p (tstR f)) := (pt_val h he).imp fun _ _ _ h => tB_of h
theorem t_chain {op op' : CmpOp} {r r' : R2} {k k' : D → D → Res D} (ho : OpR X (compareOp op) r) (ho' : OpR X (compareOp op') r') (o : Op2 p r k) (o' : Op2 p r' k') (hm : lastMarks [op, op'] [b, c] = false) (ha : PE X a (eS p fa)) (hb : PE X b (eS p fb)) (hc : PE X c (eS p fc)) :
    PT X (.Compare a [op, op'] [b, c] pos) (tS p (tstR (chn fa fb fc k k'))) := (pt_chain ho ho' ha hb hc hm).imp fun σ H Q h => by
  obtain ⟨G, ρ, he, hk, ht, h⟩ := h
  show tChain _ _ _ _ _ σ H _
  exact chain_of o o' ⟨G, ρ, he, hk, ht, rS_mono (rS_bind h) fun v H1 ⟨G1, d, e1, r1, h1⟩ => rS_asB e1.gh h1 r1⟩
/-- truth of anything -/
def truR (f : Rho → Res D) : Rho → Res Bool := fun ρ => (f ρ).bind truD
theorem t_truth {e : Expr} {f : Rho → Res D} (hK : X.K = p.K) (h : PE X e (eS p f)) (he : ∀ whole, isTrue e X.env whole = (do let v ← whole; standAt e.pos; holding [v] (truthy v))) : PT X e (tS p (truR f)) := (pt_truth h he).imp fun σ H Q h => by
  obtain ⟨G, ρ, he, hk, ht, h⟩ := h
  refine sp_run he hk ht h fun x dx G1 H1 e1 rx h1 => ?_
  have k1 := e1.gh
  cases rx with
  | non => exact ⟨false, rfl, h1 _ G1 H1 (Ext.refl k1) rfl⟩
  | bl b => exact ⟨b, rfl, h1 _ G1 H1 (Ext.refl k1) rfl⟩
  | int i => exact ⟨i != 0, rfl, h1 _ G1 H1 (Ext.refl k1) rfl⟩
  | str z =>
    have h1 : rS p σ G1 H1 relB (if z.length ≤ 16777216 then .ok (z.length != 0) else .bad) Q := h1
    split at h1
    · rename_i hz
      exact ⟨z.length != 0, ⟨by rw [sizeLine_eq]; exact hz, by rw [Bool.eq_iff_iff]; simp⟩, h1 _ G1 H1 (Ext.refl k1) rfl⟩
    · exact h1.elim
  | lst r a =>
    rename_i xs ds
    refine ⟨!xs.isEmpty, .inl ⟨xs, by rw [hK]; exact k1.sqL r, rfl⟩, h1 _ G1 H1 (Ext.refl k1) ?_⟩
    cases a <;> rfl
  | tup r a =>
    rename_i xs ds
    refine ⟨!xs.isEmpty, .inr (.inl ⟨xs, by rw [hK]; exact k1.sqT r, rfl⟩), h1 _ G1 H1 (Ext.refl k1) ?_⟩
    cases a <;> rfl
/-! tests by and, or, not -/
section
variable {u v : Rho → Res Bool} {rest : List Expr}
def andT (u v : Rho → Res Bool) : Rho → Res Bool := fun ρ => (u ρ).bind fun c => if c = true then v ρ else .ok false
def orT (u v : Rho → Res Bool) : Rho → Res Bool := fun ρ => (u ρ).bind fun c => if c = true then .ok true else v ρ
def notT (u : Rho → Res Bool) : Rho → Res Bool := fun ρ => (u ρ).bind fun c => .ok (!c)
theorem t_and (ha : PT X a (tS p u)) (hb : PT X (.BoolOp .And (b :: rest) pos) (tS p v)) (hb' : PW X (.BoolOp .And (b :: rest) pos) (tS p v)) : PW X (.BoolOp .And (a :: b :: rest) pos) (tS p (andT u v)) := ⟨fun w pins s σ H Q I h => (pw_and ha hb').run w pins s σ H Q I (by
  obtain ⟨G, ρ, he, hk, ht, h⟩ := h
  refine sp_run he hk ht h fun c c' G1 H1 e1 r1 h1 => ?_
  obtain rfl : c = c' := r1
  cases c with
  | true =>
    rw [if_pos rfl] at h1 ⊢
    exact ⟨G1, ρ, he.kp e1.g, e1.gh, ht.ext e1, h1⟩
  | false =>
    rw [if_neg Bool.false_ne_true] at h1 ⊢
    exact h1 _ G1 H1 (Ext.refl e1.gh) rfl)⟩
theorem t_or (ha : PT X a (tS p u)) (hb' : PW X (.BoolOp .Or (b :: rest) pos) (tS p v)) : PW X (.BoolOp .Or (a :: b :: rest) pos) (tS p (orT u v)) := ⟨fun w pins s σ H Q I h => (pw_or ha hb').run w pins s σ H Q I (by
  obtain ⟨G, ρ, he, hk, ht, h⟩ := h
  refine sp_run he hk ht h fun c c' G1 H1 e1 r1 h1 => ?_
  obtain rfl : c = c' := r1
  cases c with
  | true =>
    rw [if_pos rfl] at h1 ⊢
    exact h1 _ G1 H1 (Ext.refl e1.gh) rfl
  | false =>
    rw [if_neg Bool.false_ne_true] at h1 ⊢
    exact ⟨G1, ρ, he.kp e1.g, e1.gh, ht.ext e1, h1⟩)⟩
theorem t_and' (ha : PT X a (tS p u)) (hb' : PW X (.BoolOp .And (b :: rest) pos) (tS p v)) : PW X (.BoolOp .And (a :: b :: rest) pos) (tS p (andT u v)) := t_and ha hb'.pt hb'
theorem t_not (ha : PT X a (tS p u)) : PT X (.UnaryOp .Not a pos) (tS p (notT u)) := (pt_not ha).imp fun σ H Q h => by
  obtain ⟨G, ρ, he, hk, ht, h⟩ := h
  refine sp_run he hk ht h fun c c' G1 H1 e1 r1 h1 => ?_
  obtain rfl : c = c' := r1
  exact h1 _ G1 H1 (Ext.refl e1.gh) rfl
end
/-! and, or, not as values (all but the last True or False) -/
def andV (f g : Rho → Res D) : Rho → Res D := fun ρ => (f ρ).bind fun x => (asB x).bind fun c => if c = true then g ρ else .ok (.bool false)
def orV (f g : Rho → Res D) : Rho → Res D := fun ρ => (f ρ).bind fun x => (asB x).bind fun c => if c = true then .ok (.bool true) else g ρ
def notV (f : Rho → Res D) : Rho → Res D := fun ρ => (f ρ).bind fun x => (asB x).bind fun c => .ok (.bool (!c))
theorem e_and {rest : List Expr} (ha : PE X a (eS p fa)) (hb : PE X (.BoolOp .And (b :: rest) pos) (eS p fb)) : PE X (.BoolOp .And (a :: b :: rest) pos) (eS p (andV fa fb)) := (pe_and ha hb).imp fun σ H Q h => by
  obtain ⟨G, ρ, he, hk, ht, h⟩ := h
  refine sp_run he hk ht h fun x dx G1 H1 e1 rx h1 => ?_
  cases rx <;> first | exact (show False from h1).elim | skip
  rename_i c
  refine ⟨c, rfl, ?_⟩
  cases c with
  | true =>
    rw [if_pos rfl]
    exact ⟨G1, ρ, he.kp e1.g, e1.gh, ht.ext e1, h1⟩
  | false =>
    rw [if_neg Bool.false_ne_true]
    exact rS_now e1.gh h1 (.bl _)
theorem e_or {rest : List Expr} (ha : PE X a (eS p fa)) (hb : PE X (.BoolOp .Or (b :: rest) pos) (eS p fb)) : PE X (.BoolOp .Or (a :: b :: rest) pos) (eS p (orV fa fb)) := (pe_or ha hb).imp fun σ H Q h => by
  obtain ⟨G, ρ, he, hk, ht, h⟩ := h
  refine sp_run he hk ht h fun x dx G1 H1 e1 rx h1 => ?_
  cases rx <;> first | exact (show False from h1).elim | skip
  rename_i c
  refine ⟨c, rfl, ?_⟩
  cases c with
  | true =>
    rw [if_pos rfl]
    exact rS_now e1.gh h1 (.bl _)
  | false =>
    rw [if_neg Bool.false_ne_true]
    exact ⟨G1, ρ, he.kp e1.g, e1.gh, ht.ext e1, h1⟩
theorem e_not (ha : PE X a (eS p fa)) : PE X (.UnaryOp .Not a pos) (eS p (notV fa)) := (pe_not ha).imp fun σ H Q h => by
  obtain ⟨G, ρ, he, hk, ht, h⟩ := h
  refine sp_run he hk ht h fun x dx G1 H1 e1 rx h1 => ?_
  cases rx <;> first | exact (show False from h1).elim | skip
  exact ⟨_, rfl, rS_now e1.gh h1 (.bl _)⟩
def ifE (t : Rho → Res Bool) (f g : Rho → Res D) : Rho → Res D := fun ρ => (t ρ).bind fun c => if c = true then f ρ else g ρ
theorem e_if {t : Rho → Res Bool} (hc : PT X c (tS p t)) (ha : PE X a (eS p fa)) (hb : PE X b (eS p fb)) : PE X (.IfExp c a b pos) (eS p (ifE t fa fb)) := (pe_ifExp hc ha hb).imp fun σ H Q h => by
  obtain ⟨G, ρ, he, hk, ht, h⟩ := h
  refine sp_run he hk ht h fun c c' G1 H1 e1 r1 h1 => ?_
  obtain rfl : c = c' := r1
  cases c with
  | true => exact ⟨G1, ρ, he.kp e1.g, e1.gh, ht.ext e1, h1⟩
  | false => exact ⟨G1, ρ, he.kp e1.g, e1.gh, ht.ext e1, h1⟩
def do1 (f : Rho → Res D) (k : D → Res D) : Rho → Res D := fun ρ => (f ρ).bind k
theorem e_neg (ha : PE X a (eS p fa)) : PE X (.UnaryOp .USub a pos) (eS p (do1 fa negD)) := (pe_un un_neg ha).imp fun σ H Q h => by
  obtain ⟨G, ρ, he, hk, ht, h⟩ := h
  refine sp_run he hk ht h fun x dx G1 H1 e1 rx h1 => ?_
  cases rx <;> first | exact (show False from h1).elim | skip
  exact ⟨_, rfl, rS_now e1.gh h1 (.int _)⟩
/-! argument lists, tuples, lists -/
def consR (f : Rho → Res D) (g : Rho → Res (List D)) : Rho → Res (List D) := fun ρ => (f ρ).bind fun x => (g ρ).bind fun xs => .ok (x :: xs)
def nilR : Rho → Res (List D) := fun _ => .ok []
theorem a_nil : PA X [] (aS p nilR) := pa_nil.imp fun σ H Q ⟨G, ρ, he, hk, ht, h⟩ => h [] G H (Ext.refl hk) .nil
theorem a_cons {es : List Expr} {g : Rho → Res (List D)} (ha : PE X a (eS p fa)) (hr : PA X es (aS p g)) (hs : starEach (a :: es) X.env = (false, eval a X.env) :: starEach es X.env) : PA X (a :: es) (aS p (consR fa g)) := (pa_cons ha hr hs).imp fun σ H Q h => by
  obtain ⟨G, ρ, he, hk, ht, h⟩ := h
  refine sp_run he hk ht h fun x dx G1 H1 e1 rx h1 => ?_
  refine sp_run (f := g) (he.kp e1.g) e1.gh (ht.ext e1) h1 fun xs dxs G2 H2 e2 rs h2 => ?_
  exact h2 _ G2 H2 (Ext.refl e2.gh) (.cons (rx.kp e2.g) rs)
def tupR (f : Rho → Res (List D)) : Rho → Res D := fun ρ => (f ρ).bind fun xs => if xs.length ≤ 16777216 then .ok (.tuple xs) else .bad
def lstR (f : Rho → Res (List D)) : Rho → Res D := fun ρ => (f ρ).bind fun xs => if xs.length ≤ 16777216 then .ok (.list xs) else .bad
theorem e_tup {es : List Expr} {x1} {f : Rho → Res (List D)} (h : PA X es (aS p f)) : PE X (.Tuple es x1 pos) (eS p (tupR f)) := (pe_tup h).imp fun σ H Q h => by
  obtain ⟨G, ρ, he, hk, ht, h⟩ := h
  refine sp_run he hk ht h fun xs dxs G1 H1 e1 rx h1 => ?_
  have rx : DvAll p.K G1 xs dxs := rx
  have h1 : rS p σ G1 H1 (relV p.K) (if dxs.length ≤ 16777216 then .ok (.tuple dxs) else .bad) Q := h1
  split at h1
  · rename_i hz
    exact ⟨by rw [sizeLine_eq, rx.length]; exact hz, Ext.tupD e1.gh rx h1⟩
  · exact h1.elim
theorem e_lst {es : List Expr} {f : Rho → Res (List D)} (h : PA X es (aS p f)) : PE X (.List es pos) (eS p (lstR f)) := (pe_lst h).imp fun σ H Q h => by
  obtain ⟨G, ρ, he, hk, ht, h⟩ := h
  refine sp_run he hk ht h fun xs dxs G1 H1 e1 rx h1 => ?_
  have rx : DvAll p.K G1 xs dxs := rx
  have h1 : rS p σ G1 H1 (relV p.K) (if dxs.length ≤ 16777216 then .ok (.list dxs) else .bad) Q := h1
  split at h1
  · rename_i hz
    exact ⟨by rw [sizeLine_eq, rx.length]; exact hz, Ext.lstD e1.gh rx h1⟩
  · exact h1.elim
end
end
end J

set_option linter.all false
set_option maxRecDepth 100000
set_option maxHeartbeats 4000000
namespace J
open PySem PySem.Spec PyProof.Rows L2

/-! ### subscripts, slices -/
def ixD : D → D → Res D
  | .list xs, .int i => match atI xs i with | some d => .ok d | none => .bad
  | .tuple xs, .int i => match atI xs i with | some d => .ok d | none => .bad
  | .str z, .int i => if z.length ≤ 16777216 then (match atI z.cps.toList i with | some c => .ok (.str ⟨#[c]⟩) | none => .bad) else .bad
  | _, _ => .bad
def cutL {α : Type} (xs : List α) (lo hi : Option Int) : List α := (xs.drop (HT.sIx xs.length 0 lo)).take (HT.sIx xs.length xs.length hi - HT.sIx xs.length 0 lo)
def cutD : D → Option Int → Option Int → Res D
  | .list xs, lo, hi => .ok (.list (cutL xs lo hi))
  | .tuple xs, lo, hi => .ok (.tuple (cutL xs lo hi))
  | .str z, lo, hi => if z.length ≤ 16777216 then .ok (.str (cutS z lo hi)) else .bad
  | _, _, _ => .bad
def asI : D → Res Int
  | .int i => .ok i
  | _ => .bad
theorem DvAll.atI {K : PySem.W.Frag} {G : Hp} {vs : List V} {ds : List D} {i : Int} {d : D} (a : DvAll K G vs ds) (h : L2.atI ds i = some d) : ∃ v, L2.atI vs i = some v ∧ Dv K G v d := by
  unfold L2.atI at h ⊢
  rw [a.length]
  cases e : ixN ds.length i with
  | none => rw [e] at h; cases h
  | some j =>
    rw [e] at h
    exact a.get h
theorem cutL_whole {α : Type} {xs : List α} {lo hi : Option Int} (h : HT.sIx xs.length 0 lo = 0 ∧ HT.sIx xs.length xs.length hi = xs.length) : cutL xs lo hi = xs := by
  unfold cutL
  rw [h.1, h.2]
  simp

section
variable {X : Cx} {p : Pm}
theorem o_ix : Op2 p (rIx p.K) ixD := by
  intro σ G H x y dx dy Q k rx ry h
  cases ry with
  | int i =>
    cases rx with
    | lst r a =>
      rename_i q xs ds
      have h : rS p σ G H (relV p.K) (match atI ds i with | some d => Res.ok d | none => .bad) Q := h
      split at h
      · rename_i d hd
        obtain ⟨v, hv, rv⟩ := a.atI hd
        exact .inl ⟨_, _, _, v, rfl, rfl, k.sqL r, hv, rS_now k h rv⟩
      · exact h.elim
    | tup r a =>
      rename_i q xs ds
      have h : rS p σ G H (relV p.K) (match atI ds i with | some d => Res.ok d | none => .bad) Q := h
      split at h
      · rename_i d hd
        obtain ⟨v, hv, rv⟩ := a.atI hd
        exact .inr (.inl ⟨_, _, _, v, rfl, rfl, k.sqT r, hv, rS_now k h rv⟩)
      · exact h.elim
    | str z =>
      have h : rS p σ G H (relV p.K) (if z.length ≤ 16777216 then (match atI z.cps.toList i with | some c => Res.ok (.str ⟨#[c]⟩) | none => .bad) else .bad) Q := h
      split at h
      · rename_i hz
        split at h
        · rename_i c hc
          exact .inr (.inr ⟨_, _, c, rfl, rfl, by rw [sizeLine_eq]; exact hz, hc, rS_now k h (.str _)⟩)
        · exact h.elim
      · exact h.elim
    | _ => exact (show False from h).elim
  | _ => cases rx <;> exact (show False from h).elim
section
variable {a b c : Expr} {fa fb fc : Rho → Res D} {pos : Pos}
theorem e_ix (hK : X.K = p.K) (hs : PlainIx b) (ha : PE X a (eS p fa)) (hb : PE X b (eS p fb)) : PE X (.Subscript a b pos) (eS p (do2 fa fb ixD)) := (pe_ix ix_seq ha hb hs).imp fun _ _ _ h => by
  rw [hK]; exact op2 o_ix h
def oNone : Rho → Res (Option Int) := fun _ => .ok none
def oSome (f : Rho → Res D) : Rho → Res (Option Int) := fun ρ => (f ρ).bind fun d => (asI d).bind fun i => .ok (some i)
theorem op_none : PO X none (oS p oNone) := po_none.imp fun σ H Q ⟨G, ρ, he, hk, ht, h⟩ => h _ G H (Ext.refl hk) rfl
theorem op_some (ha : PE X a (eS p fa)) : PO X (some a) (oS p (oSome fa)) := (po_some ha).imp fun σ H Q h => by
  obtain ⟨G, ρ, he, hk, ht, h⟩ := h
  refine sp_run he hk ht h fun x dx G1 H1 e1 rx h1 => ?_
  cases rx <;> first | exact (show False from h1).elim | skip
  exact ⟨_, rfl, h1 _ G1 H1 (Ext.refl e1.gh) rfl⟩
def cutR (f : Rho → Res D) (g h : Rho → Res (Option Int)) : Rho → Res D := fun ρ => (f ρ).bind fun x => (g ρ).bind fun lo => (h ρ).bind fun hi => cutD x lo hi
theorem cutL_dv {K : PySem.W.Frag} {G : Hp} {vs : List V} {ds : List D} (lo hi : Option Int) (r : DvAll K G vs ds) : DvAll K G (cutV vs lo hi) (cutL ds lo hi) := by
  unfold cutV cutL
  rw [r.length]
  exact (r.drop _).take _
theorem e_slice {lo hi : Option Expr} {g h : Rho → Res (Option Int)} {p2 : Pos} (hK : X.K = p.K) (ha : PE X a (eS p fa)) (hl : PO X lo (oS p g)) (hh : PO X hi (oS p h)) : PE X (.Subscript a (.Slice lo hi none p2) pos) (eS p (cutR fa g h)) := by
  refine (pe_slice (sl_list.or (sl_tupA.or sl_str)) ha hl hh).imp fun σ H Q hw => ?_
  obtain ⟨G, ρ, he, hk, ht, hw⟩ := hw
  refine sp_run he hk ht hw fun x dx G1 H1 e1 rx h1 => ?_
  refine sp_run (f := g) (he.kp e1.g) e1.gh (ht.ext e1) h1 fun l l' G2 H2 e2 rl h2 => ?_
  obtain rfl : l = l' := rl
  refine sp_run (f := h) ((he.kp e1.g).kp e2.g) e2.gh ((ht.ext e1).ext e2) h2 fun u u' G3 H3 e3 ru h3 => ?_
  obtain rfl : u = u' := ru
  have rx := (rx.kp e2.g).kp e3.g
  have k := e3.gh
  cases rx with
  | lst r q =>
    rename_i xs ds
    exact .inl ⟨_, _, rfl, by rw [hK]; exact k.sqL r, fun z hz => Ext.lstD k (cutL_dv l u q) h3 z hz⟩
  | tup r q =>
    rename_i b xs ds
    refine .inr (.inl ⟨_, _, rfl, by rw [hK]; exact k.sqT r, fun hw => ?_, fun _ => Ext.tupD k (cutL_dv l u q) h3⟩)
    have h3 : rS p σ G3 H3 (relV p.K) (.ok (.tuple (cutL ds l u))) Q := h3
    rw [q.length] at hw
    rw [cutL_whole hw] at h3
    exact rS_now k h3 (.tup r q)
  | str z =>
    have h3 : rS p σ G3 H3 (relV p.K) (if z.length ≤ 16777216 then .ok (.str (cutS z l u)) else .bad) Q := h3
    split at h3
    · rename_i hz
      exact .inr (.inr ⟨_, rfl, by rw [sizeLine_eq]; exact hz, rS_now k h3 (.str _)⟩)
    · exact h3.elim
  | _ => exact (show False from h3).elim

/-! ### built-ins called -/
def CallD (p : Pm) (r : List V → Hp → VK → Prop) (k : List D → Res D) : Prop := ∀ σ G H vs ds (Q : VK), Gs G H → DvAll p.K G vs ds → rS p σ G H (relV p.K) (k ds) Q → r vs H Q
def callR (f : Rho → Res (List D)) (k : List D → Res D) : Rho → Res D := fun ρ => (f ρ).bind k
theorem call_of {r : List V → Hp → VK → Prop} {k : List D → Res D} {f : Rho → Res (List D)} (o : CallD p r k) {σ : L2.St} {H : Hp} {Q : VK} (h : eS p (callR f k) σ H Q) : tCB r (aS p f) σ H Q := by
  obtain ⟨G, ρ, he, hk, ht, h⟩ := h
  exact sp_run he hk ht h fun x dx G1 H1 e1 rx h1 => o σ G1 H1 x dx Q e1.gh rx h1
def lenD : List D → Res D
  | [.list xs] => .ok (.int xs.length)
  | [.tuple xs] => .ok (.int xs.length)
  | [.str z] => if z.length ≤ 16777216 then .ok (.int z.length) else .bad
  | _ => .bad
theorem c_len : CallD p (fun xs H Q => ∃ x n, xs = [x] ∧ LenV p.K x H n ∧ Q (.int n) H) lenD := by
  intro σ G H vs ds Q k a h
  cases a with
  | nil => exact (show False from h).elim
  | cons r a =>
    cases a with
    | cons r2 a => cases r <;> exact (show False from h).elim
    | nil =>
      cases r with
      | lst r q =>
        rename_i xs ds
        refine ⟨_, xs.length, rfl, .inl ⟨xs, k.sqL r, rfl⟩, ?_⟩
        rw [q.length]
        exact rS_now k h (.int _)
      | tup r q =>
        rename_i xs ds
        refine ⟨_, xs.length, rfl, .inr ⟨xs, k.sqT r, rfl⟩, ?_⟩
        rw [q.length]
        exact rS_now k h (.int _)
      | str z =>
        have h : rS p σ G H (relV p.K) (if z.length ≤ 16777216 then .ok (.int z.length) else .bad) Q := h
        split at h
        · rename_i hz
          exact ⟨_, z.length, rfl, ⟨by rw [sizeLine_eq]; exact hz, rfl⟩, rS_now k h (.int _)⟩
        · exact h.elim
      | _ => exact (show False from h).elim
def intD : List D → Res D
  | [.int i] => .ok (.int i)
  | [.bool b] => .ok (.int (if b then 1 else 0))
  | _ => .bad
theorem c_int : CallD p (fun xs H Q => (∃ i, xs = [.int i] ∧ Q (.int i) H) ∨ ∃ k, xs = [.bl k] ∧ Q (.int (if k then 1 else 0)) H) intD := by
  intro σ G H vs ds Q k a h
  cases a with
  | nil => exact (show False from h).elim
  | cons r a =>
    cases a with
    | cons r2 a => cases r <;> exact (show False from h).elim
    | nil =>
      cases r <;> first | exact (show False from h).elim | skip
      · exact .inr ⟨_, rfl, rS_now k h (.int _)⟩
      · exact .inl ⟨_, rfl, rS_now k h (.int _)⟩
def absD : List D → Res D
  | [.int i] => .ok (.int (if i < 0 then -i else i))
  | _ => .bad
theorem c_abs : CallD p (fun xs H Q => ∃ i, xs = [.int i] ∧ Q (.int (if i < 0 then -i else i)) H) absD := by
  intro σ G H vs ds Q k a h
  cases a with
  | nil => exact (show False from h).elim
  | cons r a =>
    cases a with
    | cons r2 a => cases r <;> exact (show False from h).elim
    | nil =>
      cases r <;> first | exact (show False from h).elim | skip
      exact ⟨_, rfl, rS_now k h (.int _)⟩
def maxD : List D → Res D
  | [.int i, .int j] => .ok (.int (if j > i then j else i))
  | _ => .bad
def minD : List D → Res D
  | [.int i, .int j] => .ok (.int (if j < i then j else i))
  | _ => .bad
theorem c_max : CallD p (fun xs H Q => ∃ i j, xs = [.int i, .int j] ∧ Q (.int (if j > i then j else i)) H) maxD := by
  intro σ G H vs ds Q k a h
  unfold maxD at h
  split at h
  · cases a with
    | cons r a =>
      cases a with
      | cons r2 a =>
        cases a
        cases r
        cases r2
        exact ⟨_, _, rfl, rS_now k h (.int _)⟩
  · exact h.elim
theorem c_min : CallD p (fun xs H Q => ∃ i j, xs = [.int i, .int j] ∧ Q (.int (if j < i then j else i)) H) minD := by
  intro σ G H vs ds Q k a h
  unfold minD at h
  split at h
  · cases a with
    | cons r a =>
      cases a with
      | cons r2 a =>
        cases a
        cases r
        cases r2
        exact ⟨_, _, rfl, rS_now k h (.int _)⟩
  · exact h.elim
def ordD : List D → Res D
  | [.str x] => if x.length = 1 then .ok (.int (x.cps.getD 0 0 : Nat)) else .bad
  | _ => .bad
theorem c_ord : CallD p (fun xs H Q => ∃ x, xs = [.str x] ∧ x.length = 1 ∧ Q (.int (x.cps.getD 0 0 : Nat)) H) ordD := by
  intro σ G H vs ds Q k a h
  unfold ordD at h
  split at h
  · rename_i x
    cases a with
    | cons r a =>
      cases a
      cases r
      split at h
      · rename_i hz
        exact ⟨_, rfl, hz, rS_now k h (.int _)⟩
      · exact h.elim
  · exact h.elim
def listD : List D → Res D
  | [.list xs] => .ok (.list xs)
  | [.tuple xs] => .ok (.list xs)
  | _ => .bad
def tupleD : List D → Res D
  | [.list xs] => .ok (.tuple xs)
  | [.tuple xs] => .ok (.tuple xs)
  | _ => .bad
theorem c_list : CallD p (fun xs H Q => ∃ q ys, xs = [.ref q] ∧ (SqL p.K H q ys ∨ SqT p.K H q ys) ∧ ∀ l, H l = none → Q (.ref l) (upd H l (.lst ys))) listD := by
  intro σ G H vs ds Q k a h
  cases a with
  | nil => exact (show False from h).elim
  | cons r a =>
    cases a with
    | cons r2 a => cases r <;> exact (show False from h).elim
    | nil =>
      cases r <;> first | exact (show False from h).elim | skip
      · rename_i r q
        exact ⟨_, _, rfl, .inl (k.sqL r), Ext.lstD k q h⟩
      · rename_i r q
        exact ⟨_, _, rfl, .inr (k.sqT r), Ext.lstD k q h⟩
theorem c_tuple : CallD p (fun xs H Q => ∃ q ys, xs = [.ref q] ∧ ((SqL p.K H q ys ∧ ∀ l, H l = none → Q (.ref l) (upd H l (.tup ys))) ∨ (SqT p.K H q ys ∧ Q (.ref q) H))) tupleD := by
  intro σ G H vs ds Q k a h
  cases a with
  | nil => exact (show False from h).elim
  | cons r a =>
    cases a with
    | cons r2 a => cases r <;> exact (show False from h).elim
    | nil =>
      cases r <;> first | exact (show False from h).elim | skip
      · rename_i r q
        exact ⟨_, _, rfl, .inl ⟨k.sqL r, Ext.tupD k q h⟩⟩
      · rename_i r q
        exact ⟨_, _, rfl, .inr ⟨k.sqT r, rS_now k h (.tup r q)⟩⟩
/-- the ints of a list -/
def intsOf : List D → Option (List Int)
  | [] => some []
  | .int i :: r => (intsOf r).map (i :: ·)
  | _ => none
theorem intsOf_vals {K : PySem.W.Frag} {G : Hp} : ∀ {vs : List V} {ds : List D} {ns : List Int}, DvAll K G vs ds → intsOf ds = some ns → vs = ns.map V.int
  | _, _, _, .nil, h => by cases h; rfl
  | _, _, _, .cons (d := d) r a, h => by
    cases r with
    | int i =>
      unfold intsOf at h
      obtain ⟨ms, e, rfl⟩ := Option.map_eq_some_iff.mp h
      rw [intsOf_vals a e]
      rfl
    | _ => exact absurd h (by simp [intsOf])
@[simp] theorem intsOf_map (ns : List Int) : intsOf (ns.map PyData.int) = some ns := by
  induction ns with
  | nil => rfl
  | cons n r ih => simp [intsOf, ih]
def sumD : List D → Res D
  | [.list xs] => match intsOf xs with | some ns => .ok (.int ns.sum) | none => .bad
  | _ => .bad
theorem c_sum : CallD p (rSum p.K) sumD := by
  intro σ G H vs ds Q k a h
  unfold sumD at h
  split at h
  · cases a with
    | cons r a =>
      cases a
      cases r
      rename_i r q
      split at h
      · rename_i ns hn
        have e := intsOf_vals q hn
        subst e
        exact ⟨_, _, rfl, k.sqL r, rS_now k h (.int _)⟩
      · exact h.elim
  · exact h.elim
theorem e_callB {id : String} {r : List V → Hp → VK → Prop} {k : List D → Res D} {x : Str} {es : List Expr} {f : Rho → Res (List D)} {p1 : Pos} (o : CallD p r k) (hc : CallR X (.builtin id) r) (hg : Gl X x) (hm : X.mg x = none) (hv : bootBuiltins x = some (.builtin id)) (ha : PA X (a :: es) (aS p f))
    (he : starEach (a :: es) X.env = (false, eval a X.env) :: starEach es X.env) (hpl : (backTo pos (starEach es X.env)).any (·.1) = false) (hn : x ≠ "__name__" := by decide) (hdb : (x == ("__debug__" : Str)) = false := by decide) : PE X (.Call (.Name x p1) (a :: es) [] pos) (eS p (callR f k)) :=
  (pe_callB hc hg hm hv ha hn hdb he hpl).imp fun _ _ _ h => call_of o h
theorem e_callTy {T : String} {r : List V → Hp → VK → Prop} {k : List D → Res D} {x : Str} {es : List Expr} {f : Rho → Res (List D)} {p1 : Pos} (o : CallD p r k) (hc : CallR X (.type T) r) (hg : Gl X x) (hm : X.mg x = none) (hv : bootBuiltins x = some (.type T)) (ha : PA X (a :: es) (aS p f))
    (he : starEach (a :: es) X.env = (false, eval a X.env) :: starEach es X.env) (hpl : (backTo pos (starEach es X.env)).any (·.1) = false) (hn : x ≠ "__name__" := by decide) (hdb : (x == ("__debug__" : Str)) = false := by decide) : PE X (.Call (.Name x p1) (a :: es) [] pos) (eS p (callR f k)) :=
  (pe_callTy hc hg hm hv ha hn hdb he hpl).imp fun _ _ _ h => call_of o h
/-! isinstance with a built-in type -/
def tyN : D → String
  | .none => "NoneType"
  | .bool _ => "bool"
  | .int _ => "int"
  | .str _ => "str"
  | .list _ => "list"
  | .tuple _ => "tuple"
  | .dict _ => "dict"
def isiD (n : String) (d : D) : Res D := match kitB (tyN d) n with
  | some b => .ok (.bool b)
  | none => .bad
theorem Dv.tyx {K : PySem.W.Frag} {G H : Hp} {v : V} {d : D} (k : Gs G H) (r : Dv K G v d) : TyX K H v (.type (tyN d)) := by
  cases r with
  | non => exact .base .non
  | bl b => exact .base (.bl b)
  | int i => exact .base (.int i)
  | str x => exact .base (.str x)
  | lst r _ =>
    rcases k.sqL r with (h | ⟨o, h⟩) | ⟨o, its, n, hk, hc, _⟩
    · exact .base (.lst h)
    · exact .base (.frz h)
    · exact .kList hk hc
  | tup r _ =>
    rcases k.sqT r with (h | ⟨o, h⟩) | ⟨o, its, n, hk, hc, _⟩
    · exact .base (.tup h)
    · exact .fTuple h
    · exact .kTuple hk hc
theorem e_isi {n : String} {x : Str} {p1 : Pos} (hK : X.K = p.K) (hg : Gl X x) (hm : X.mg x = none) (hv : bootBuiltins x = some (.builtin "isinstance")) (ha : PE X a (eS p fa)) (hb : PE X b (tC (.ty n)))
    (he1 : starEach (a :: [b]) X.env = (false, eval a X.env) :: starEach [b] X.env) (he2 : starEach (b :: []) X.env = (false, eval b X.env) :: starEach [] X.env) (hpl : (backTo pos (starEach [b] X.env)).any (·.1) = false) (hn : x ≠ "__name__" := by decide) (hdb : (x == ("__debug__" : Str)) = false := by decide) :
    PE X (.Call (.Name x p1) [a, b] [] pos) (eS p (do1 fa (isiD n))) := (pe_callB call_isi hg hm hv (pa_cons ha (pa_cons hb pa_nil he2) he1) hn hdb he1 hpl).imp fun σ H Q h => by
  obtain ⟨G, ρ, he, hk, ht, h⟩ := h
  refine sp_run he hk ht h fun x dx G1 H1 e1 rx h1 => ?_
  have rx : Dv p.K G1 x dx := rx
  have h1 : rS p σ G1 H1 (relV p.K) (match kitB (tyN dx) n with | some b => Res.ok (.bool b) | none => .bad) Q := h1
  split at h1
  · rename_i b hb
    refine ⟨x, .ty n, _, _, b, rfl, .ty n, by rw [hK]; exact rx.tyx e1.gh, kit_ty hb, rS_now e1.gh h1 (.bl _)⟩
  · exact h1.elim
end
end
end J

set_option linter.all false
set_option maxRecDepth 100000
set_option maxHeartbeats 4000000
namespace J
open PySem PySem.Spec PyProof.Rows L2 RZ

/-! ### what is walked -/
def Walks (K : PySem.W.Frag) (J : It) (G : Hp) (ds : List D) : Prop := ∀ (G1 H1 : Hp) (i : Nat), Kp G G1 → Gs G1 H1 →
  (i < ds.length → J.go i H1 ∧ ∀ x H2, J.yld i H1 x H2 → ∃ G2 d, Ext G1 H1 G2 H2 ∧ ds[i]? = some d ∧ Dv K G2 x d) ∧ (ds.length ≤ i → J.stop i H1)
def relI (K : PySem.W.Frag) : Hp → It → List D → Prop := fun G J ds => Walks K J G ds
abbrev iS (p : Pm) (f : Rho → Res (List D)) : TI := sp0 p (relI p.K) f
theorem _root_.L2.PI.imp {X : Cx} {tg it : Expr} {t t' : TI} (h : PI X tg it t) (i : ∀ σ H Q, t' σ H Q → t σ H Q) : PI X tg it t' := ⟨fun pins s σ H Q I hw => h.run pins s σ H Q I (i σ H Q hw)⟩
theorem PI.or {X : Cx} {tg it : Expr} {t t' : TI} (h : PI X tg it t) (h' : PI X tg it t') : PI X tg it (fun σ H Q => t σ H Q ∨ t' σ H Q) := ⟨fun pins s σ H Q I hw => hw.elim (h.run pins s σ H Q I) (h'.run pins s σ H Q I)⟩
def walkD : D → Res (List D)
  | .list xs => .ok xs
  | .tuple xs => .ok xs
  | .str z => .ok (z.cps.toList.map fun c => .str ⟨#[c]⟩)
  | _ => .bad
def rngD (lo hi : Int) : List D := (List.range (hi - lo).toNat).map fun (k : Nat) => .int (lo + k)
theorem walks_list {K : PySem.W.Frag} {G : Hp} {a : Addr} {xs : List V} {ds : List D} (r : SqL K G a xs) (q : DvAll K G xs ds) : Walks K (Itl K a) G ds := fun G1 H1 i k k1 => by
  have s1 : SqL K H1 a xs := (k.trans k1.kp).sqL r
  refine ⟨fun hi => ?_, fun hi => ⟨xs, s1, by rw [q.length]; exact hi⟩⟩
  have hi' : i < xs.length := by rw [q.length]; exact hi
  refine ⟨⟨xs, xs[i], s1, by simp [hi']⟩, fun x H2 y => ?_⟩
  obtain ⟨rfl, y⟩ := y
  obtain ⟨d, hd, rd⟩ := q.get' (y xs s1)
  exact ⟨G1, d, Ext.refl k1, hd, rd.kp k⟩
theorem walks_tup {K : PySem.W.Frag} {G : Hp} {a : Addr} {xs : List V} {ds : List D} (r : SqT K G a xs) (q : DvAll K G xs ds) : Walks K (Itt K a) G ds := fun G1 H1 i k k1 => by
  have s1 : SqT K H1 a xs := (k.trans k1.kp).sqT r
  refine ⟨fun hi => ?_, fun hi => ⟨xs, s1, by rw [q.length]; exact hi⟩⟩
  have hi' : i < xs.length := by rw [q.length]; exact hi
  refine ⟨⟨xs, xs[i], s1, by simp [hi']⟩, fun x H2 y => ?_⟩
  obtain ⟨rfl, y⟩ := y
  obtain ⟨d, hd, rd⟩ := q.get' (y xs s1)
  exact ⟨G1, d, Ext.refl k1, hd, rd.kp k⟩
theorem walks_str {K : PySem.W.Frag} {G : Hp} {z : Str} : Walks K (Its z) G (z.cps.toList.map fun c => .str ⟨#[c]⟩) := fun G1 H1 i k k1 => by
  rw [List.length_map, Array.length_toList]
  refine ⟨fun hi => ⟨hi, fun x H2 y => ?_⟩, fun hi => hi⟩
  obtain ⟨rfl, c, hc, rfl⟩ := y
  refine ⟨G1, .str ⟨#[c]⟩, Ext.refl k1, ?_, .str _⟩
  rw [List.getElem?_map, Array.getElem?_toList, hc]
  rfl
theorem walks_rng {K : PySem.W.Frag} {G : Hp} {lo hi : Int} : Walks K (Itr lo (hi - lo).toNat) G (rngD lo hi) := fun G1 H1 i k k1 => by
  unfold rngD
  rw [List.length_map, List.length_range]
  refine ⟨fun hi' => ⟨hi', fun x H2 y => ?_⟩, fun hi => hi⟩
  obtain ⟨rfl, rfl⟩ := y
  refine ⟨G1, .int (lo + i), Ext.refl k1, ?_, .int _⟩
  rw [List.getElem?_map, List.getElem?_range hi']
  rfl
def zip2 (xs ys : List D) : List D := List.zipWith (fun a b => PyData.tuple [a, b]) xs ys
def enumD (xs : List D) : List D := List.zipWith (fun (k : Nat) a => PyData.tuple [.int k, a]) (List.range xs.length) xs
theorem walks_zip {K : PySem.W.Frag} {G : Hp} {a b : Addr} {xs ys : List V} {ds es : List D} (r : SqL K G a xs) (q : DvAll K G xs ds) (r2 : SqL K G b ys) (q2 : DvAll K G ys es) : Walks K (Itz K a b) G (zip2 ds es) := fun G1 H1 i k k1 => by
  have s1 : SqL K H1 a xs := (k.trans k1.kp).sqL r
  have s2 : SqL K H1 b ys := (k.trans k1.kp).sqL r2
  unfold zip2
  rw [List.length_zipWith]
  have l1 := q.length
  have l2 := q2.length
  refine ⟨fun hi => ?_, fun hi => ⟨xs, ys, s1, s2, by omega⟩⟩
  have h1 : i < xs.length := by omega
  have h2 : i < ys.length := by omega
  refine ⟨⟨xs, ys, xs[i], ys[i], s1, s2, by simp [h1], by simp [h2]⟩, fun x H2 y => ?_⟩
  obtain ⟨T, u, v, rfl, hT, rfl, g1, g2⟩ := y
  obtain ⟨d, hd, rd⟩ := q.get' (g1 xs s1)
  obtain ⟨e, he, re⟩ := q2.get' (g2 ys s2)
  have E : Ext G1 H1 (upd G1 T (.tup [u, v])) (upd H1 T (.tup [u, v])) := Ext.new k1 hT
  refine ⟨_, .tuple [d, e], E, ?_, .tup (SqT.of upd_same) (.cons (rd.kp (k.trans E.g)) (.cons (re.kp (k.trans E.g)) .nil))⟩
  rw [List.getElem?_zipWith, hd, he]
theorem walks_zipT {K : PySem.W.Frag} {G : Hp} {a b : Addr} {xs ys : List V} {ds es : List D} (r : SqT K G a xs) (q : DvAll K G xs ds) (r2 : SqT K G b ys) (q2 : DvAll K G ys es) : Walks K (ItzT K a b) G (zip2 ds es) := fun G1 H1 i k k1 => by
  have s1 : SqT K H1 a xs := (k.trans k1.kp).sqT r
  have s2 : SqT K H1 b ys := (k.trans k1.kp).sqT r2
  unfold zip2
  rw [List.length_zipWith]
  have l1 := q.length
  have l2 := q2.length
  refine ⟨fun hi => ?_, fun hi => ⟨xs, ys, s1, s2, by omega⟩⟩
  have h1 : i < xs.length := by omega
  have h2 : i < ys.length := by omega
  refine ⟨⟨xs, ys, xs[i], ys[i], s1, s2, by simp [h1], by simp [h2]⟩, fun x H2 y => ?_⟩
  obtain ⟨T, u, v, rfl, hT, rfl, g1, g2⟩ := y
  obtain ⟨d, hd, rd⟩ := q.get' (g1 xs s1)
  obtain ⟨e, he, re⟩ := q2.get' (g2 ys s2)
  have E : Ext G1 H1 (upd G1 T (.tup [u, v])) (upd H1 T (.tup [u, v])) := Ext.new k1 hT
  refine ⟨_, .tuple [d, e], E, ?_, .tup (SqT.of upd_same) (.cons (rd.kp (k.trans E.g)) (.cons (re.kp (k.trans E.g)) .nil))⟩
  rw [List.getElem?_zipWith, hd, he]
theorem walks_enum {K : PySem.W.Frag} {G : Hp} {a : Addr} {xs : List V} {ds : List D} (r : SqL K G a xs) (q : DvAll K G xs ds) : Walks K (Ite K a) G (enumD ds) := fun G1 H1 i k k1 => by
  have s1 : SqL K H1 a xs := (k.trans k1.kp).sqL r
  unfold enumD
  rw [List.length_zipWith, List.length_range]
  have l1 := q.length
  refine ⟨fun hi => ?_, fun hi => ⟨xs, s1, by omega⟩⟩
  have h1 : i < xs.length := by omega
  refine ⟨⟨xs, xs[i], s1, by simp [h1]⟩, fun x H2 y => ?_⟩
  obtain ⟨T, u, rfl, hT, rfl, g1⟩ := y
  obtain ⟨d, hd, rd⟩ := q.get' (g1 xs s1)
  have E : Ext G1 H1 (upd G1 T (.tup [.int (i : Nat), u])) (upd H1 T (.tup [.int (i : Nat), u])) := Ext.new k1 hT
  refine ⟨_, .tuple [.int (i : Nat), d], E, ?_, .tup (SqT.of upd_same) (.cons (.int _) (.cons (rd.kp (k.trans E.g)) .nil))⟩
  rw [List.getElem?_zipWith, List.getElem?_range (by omega), hd]

section
variable {X : Cx} {p : Pm} {tg a b : Expr} {fa fb : Rho → Res D} {pos : Pos}
def itR (f : Rho → Res D) : Rho → Res (List D) := fun ρ => (f ρ).bind walkD
def relR (K : PySem.W.Frag) : Hp → It → List D → Prop := fun _ J ds => ∀ G, Walks K J G ds
abbrev rgS (p : Pm) (f : Rho → Res (List D)) : TI := sp0 p (relR p.K) f
theorem rS_rel {σ : L2.St} {G H : Hp} {α β : Type} {rel rel' : Hp → β → α → Prop} {r : Res α} {Q : β → Hp → Prop} (i : ∀ G b a, rel' G b a → rel G b a) (h : rS p σ G H rel r Q) : rS p σ G H rel' r Q := by
  cases r with
  | ok a => exact fun b G' H' e r => h b G' H' e (i _ _ _ r)
  | ex c => exact h
  | bad => exact h
theorem i_of_r {it : Expr} {f : Rho → Res (List D)} (h : PI X tg it (rgS p f)) : PI X tg it (iS p f) := h.imp fun σ H Q ⟨G, ρ, he, hk, ht, h⟩ => ⟨G, ρ, he, hk, ht, rS_rel (fun G b a r => r G) h⟩
theorem rS_nowR {σ : L2.St} {G H : Hp} {ds : List D} {J : It} {Q : It → Hp → Prop} (k : Gs G H) (h : rS p σ G H (relR p.K) (.ok ds) Q) (r : ∀ G, Walks p.K J G ds) : Q J H := h J G H (Ext.refl k) r
theorem rS_nowI {σ : L2.St} {G H : Hp} {ds : List D} {J : It} {Q : It → Hp → Prop} (k : Gs G H) (h : rS p σ G H (relI p.K) (.ok ds) Q) (r : Walks p.K J G ds) : Q J H := h J G H (Ext.refl k) r
theorem sp_res {α β : Type} {rel : Hp → β → α → Prop} {f : Rho → Res α} {σ : L2.St} {G H : Hp} {ρ : Rho} {Q : β → Hp → Prop} (he : EnvE p G σ ρ) (hk : Gs G H) (ht : TBs p.tb H) (h : rS p σ G H rel (f ρ) Q) : sp0 p rel f σ H Q := ⟨G, ρ, he, hk, ht, h⟩
theorem i_any (hK : X.K = p.K) (ha : PE X a (eS p fa)) : PI X tg a (iS p (itR fa)) := by
  refine (PI.or (pi_list ha) (PI.or (pi_tup ha) (pi_str ha))).imp fun σ H Q h => ?_
  obtain ⟨G, ρ, he, hk, ht, h⟩ := h
  unfold itR at h
  cases e : fa ρ with
  | bad => rw [e] at h; exact h.elim
  | ex c =>
    rw [e] at h
    exact .inl ⟨G, ρ, he, hk, ht, by rw [e]; exact h⟩
  | ok d =>
    rw [e] at h
    have h : rS p σ G H (relI p.K) (walkD d) Q := h
    have go : ∀ Q1 : VK, (∀ v G' H', Ext G H G' H' → Dv p.K G' v d → Q1 v H') → eS p fa σ H Q1 := fun Q1 q => ⟨G, ρ, he, hk, ht, by rw [e]; exact q⟩
    cases d with
    | list xs =>
      refine .inl (go _ fun v G' H' ex r => ?_)
      cases r with
      | lst r q => exact ⟨_, rfl, ⟨_, by rw [hK]; exact ex.gh.sqL r⟩, by rw [hK]; exact rS_nowI ex.gh (rS_ext ex h) (walks_list r q)⟩
    | tuple xs =>
      refine .inr (.inl (go _ fun v G' H' ex r => ?_))
      cases r with
      | tup r q => exact ⟨_, rfl, ⟨_, by rw [hK]; exact ex.gh.sqT r⟩, by rw [hK]; exact rS_nowI ex.gh (rS_ext ex h) (walks_tup r q)⟩
    | str z =>
      refine .inr (.inr (go _ fun v G' H' ex r => ?_))
      cases r with
      | str _ => exact ⟨_, rfl, rS_nowI ex.gh (rS_ext ex h) walks_str⟩
    | _ => exact (show False from h).elim
def rng1R (f : Rho → Res (List D)) : Rho → Res (List D) := fun ρ => (f ρ).bind fun xs => match xs with
  | [.int j] => if -(2 ^ 62) ≤ j ∧ j < 2 ^ 62 then .ok (rngD 0 j) else .bad
  | _ => .bad
def rng2R (f : Rho → Res (List D)) : Rho → Res (List D) := fun ρ => (f ρ).bind fun xs => match xs with
  | [.int i, .int j] => if (-(2 ^ 62) ≤ i ∧ i < 2 ^ 62) ∧ -(2 ^ 62) ≤ j ∧ j < 2 ^ 62 then .ok (rngD i j) else .bad
  | _ => .bad
theorem i_range1 {f : Rho → Res (List D)} {p1 : Pos} (hg : Gl X "range") (hm : X.mg "range" = none) (ha : PA X [a] (aS p f)) (hs : starEach [a] X.env = [(false, eval a X.env)]) : PI X tg (.Call (.Name "range" p1) [a] [] pos) (rgS p (rng1R f)) := by
  refine (pi_range1 hg hm ha hs).imp fun σ H Q h => ?_
  obtain ⟨G, ρ, he, hk, ht, h⟩ := h
  refine sp_run he hk ht h fun xs dxs G1 H1 e1 rx h1 => ?_
  have rx : DvAll p.K G1 xs dxs := rx
  split at h1
  · cases rx with
    | cons r rx =>
      cases rx
      cases r
      rename_i j
      split at h1
      · rename_i hz
        refine ⟨j, rfl, hz.1, hz.2, ?_⟩
        have := rS_nowR e1.gh h1 fun G => walks_rng (lo := 0) (hi := j)
        rw [Int.sub_zero] at this
        exact this
      · exact h1.elim
  · exact h1.elim
theorem i_range2 {f : Rho → Res (List D)} {p1 : Pos} (hg : Gl X "range") (hm : X.mg "range" = none) (ha : PA X [a, b] (aS p f)) (hs : starEach [a, b] X.env = [(false, eval a X.env), (false, eval b X.env)]) (hs2 : starEach [b] X.env = [(false, eval b X.env)]) : PI X tg (.Call (.Name "range" p1) [a, b] [] pos) (rgS p (rng2R f)) := by
  refine (pi_range2 hg hm ha hs hs2).imp fun σ H Q h => ?_
  obtain ⟨G, ρ, he, hk, ht, h⟩ := h
  refine sp_run he hk ht h fun xs dxs G1 H1 e1 rx h1 => ?_
  have rx : DvAll p.K G1 xs dxs := rx
  split at h1
  · cases rx with
    | cons r rx =>
      cases rx with
      | cons r2 rx =>
        cases rx
        cases r
        cases r2
        split at h1
        · rename_i hz
          exact ⟨_, _, rfl, ⟨hz.1.1, hz.1.2, hz.2.1, hz.2.2⟩, rS_nowR e1.gh h1 fun G => walks_rng⟩
        · exact h1.elim
  · exact h1.elim
def zipR (f : Rho → Res (List D)) : Rho → Res (List D) := fun ρ => (f ρ).bind fun xs => match xs with
  | [.list u, .list v] => .ok (zip2 u v)
  | [.tuple u, .tuple v] => .ok (zip2 u v)
  | _ => .bad
theorem i_zip {f : Rho → Res (List D)} {p1 tpos : Pos} {elts : List Expr} {kk : Nat} (hK : X.K = p.K) (hg : Gl X "zip") (hm : X.mg "zip" = none) (ha : PA X [a, b] (aS p f)) (hs : starEach [a, b] X.env = (false, eval a X.env) :: starEach [b] X.env) (hpl : (backTo pos (starEach [b] X.env)).any (·.1) = false) :
    PI X (.Tuple elts kk tpos) (.Call (.Name "zip" p1) [a, b] [] pos) (iS p (zipR f)) := by
  refine (pi_zipA hg hm ha hs hpl).imp fun σ H Q h => ?_
  obtain ⟨G, ρ, he, hk, ht, h⟩ := h
  refine sp_run he hk ht h fun xs dxs G1 H1 e1 rx h1 => ?_
  have rx : DvAll p.K G1 xs dxs := rx
  split at h1
  · cases rx with
    | cons r rx =>
      cases rx with
      | cons r2 rx =>
        cases rx
        cases r
        cases r2
        rename_i r q _ _ r2 q2
        exact ⟨_, _, _, _, rfl, .inl ⟨by rw [hK]; exact e1.gh.sqL r, by rw [hK]; exact e1.gh.sqL r2, by rw [hK]; exact rS_nowI e1.gh h1 (walks_zip r q r2 q2)⟩⟩
  · cases rx with
    | cons r rx =>
      cases rx with
      | cons r2 rx =>
        cases rx
        cases r
        cases r2
        rename_i r q _ _ r2 q2
        exact ⟨_, _, _, _, rfl, .inr ⟨by rw [hK]; exact e1.gh.sqT r, by rw [hK]; exact e1.gh.sqT r2, by rw [hK]; exact rS_nowI e1.gh h1 (walks_zipT r q r2 q2)⟩⟩
  · exact h1.elim
def enumR (f : Rho → Res (List D)) : Rho → Res (List D) := fun ρ => (f ρ).bind fun xs => match xs with
  | [.list u] => .ok (enumD u)
  | _ => .bad
theorem i_enum {f : Rho → Res (List D)} {p1 tpos : Pos} {elts : List Expr} {kk : Nat} (hK : X.K = p.K) (hg : Gl X "enumerate") (hm : X.mg "enumerate" = none) (ha : PA X [a] (aS p f)) (hs : starEach [a] X.env = [(false, eval a X.env)]) :
    PI X (.Tuple elts kk tpos) (.Call (.Name "enumerate" p1) [a] [] pos) (iS p (enumR f)) := by
  refine (pi_enum hg hm ha hs).imp fun σ H Q h => ?_
  obtain ⟨G, ρ, he, hk, ht, h⟩ := h
  refine sp_run he hk ht h fun xs dxs G1 H1 e1 rx h1 => ?_
  have rx : DvAll p.K G1 xs dxs := rx
  split at h1
  · cases rx with
    | cons r rx =>
      cases rx
      cases r
      rename_i r q
      exact ⟨_, _, rfl, by rw [hK]; exact e1.gh.sqL r, by rw [hK]; exact rS_nowI e1.gh h1 (walks_enum r q)⟩
  · exact h1.elim
end

/-! ### targets -/
abbrev Sto := List (Nat × V × D)
def Stores (K : PySem.W.Frag) (G : Hp) (L : Sto) : Prop := ∀ t ∈ L, Dv K G t.2.1 t.2.2
def stV (L : Sto) (σ : L2.St) : L2.St := L.foldl (fun σ t => σ.set t.1 (some t.2.1)) σ
def stD (L : Sto) (ρ : Rho) : Rho := L.foldl (fun ρ t => ρ.set t.1 (.sh t.2.2)) ρ
/-- a target's reading is told by the function b -/
def GD (K : PySem.W.Frag) (g : TG) (b : D → Rho → Res Rho) (vs : List Nat) : Prop := ∀ v d G H, Dv K G v d → Gs G H → (∃ L, Stores K G L ∧ (∀ t ∈ L, t.1 ∈ vs) ∧ (∀ ρ, b d ρ = .ok (stD L ρ)) ∧ ∀ σ Q, Q (stV L σ) H → g v σ H Q) ∨ ∀ ρ, b d ρ = .bad
def GDs (K : PySem.W.Frag) (g : TGs) (b : List D → Rho → Res Rho) (vs : List Nat) (n : Nat) : Prop := ∀ us ds G H, DvAll K G us ds → ds.length = n → Gs G H → (∃ L, Stores K G L ∧ (∀ t ∈ L, t.1 ∈ vs) ∧ (∀ ρ, b ds ρ = .ok (stD L ρ)) ∧ ∀ σ Q, Q (stV L σ) H → g us σ H Q) ∨ ∀ ρ, b ds ρ = .bad
def bNm (i : Nat) : D → Rho → Res Rho := fun d ρ => .ok (ρ.set i (.sh d))
def bNil : List D → Rho → Res Rho := fun _ ρ => .ok ρ
def bCons (b : D → Rho → Res Rho) (bs : List D → Rho → Res Rho) : List D → Rho → Res Rho
  | d :: ds, ρ => (b d ρ).bind (bs ds)
  | [], _ => .bad
def bTp (n : Nat) (bs : List D → Rho → Res Rho) : D → Rho → Res Rho
  | .tuple ds, ρ => if ds.length = n then bs ds ρ else .bad
  | _, _ => .bad
theorem gd_nm {K : PySem.W.Frag} {i : Nat} : GD K (gName i) (bNm i) [i] := fun v d G H r k => .inl ⟨[(i, v, d)], fun t ht => by cases List.mem_singleton.mp ht; exact r, fun t ht => by cases List.mem_singleton.mp ht; exact List.mem_singleton.mpr rfl, fun ρ => rfl, fun σ Q q => q⟩
theorem gd_nil {K : PySem.W.Frag} : GDs K gNil bNil [] 0 := fun us ds G H r hn k => by
  refine .inl ⟨[], ?_, ?_, fun ρ => rfl, fun σ Q q => ⟨?_, q⟩⟩
  · intro t ht; cases ht
  · intro t ht; cases ht
  · cases r
    · rfl
    · cases hn
theorem stD_append (L M : Sto) (ρ : Rho) : stD (L ++ M) ρ = stD M (stD L ρ) := List.foldl_append
theorem stV_append (L M : Sto) (σ : L2.St) : stV (L ++ M) σ = stV M (stV L σ) := List.foldl_append
theorem gd_cons {K : PySem.W.Frag} {g : TG} {gs : TGs} {b : D → Rho → Res Rho} {bs : List D → Rho → Res Rho} {vs ws : List Nat} {n : Nat} (h : GD K g b vs) (hs : GDs K gs bs ws n) : GDs K (gCons g gs) (bCons b bs) (vs ++ ws) (n + 1) := fun us ds G H r hn k => by
  cases r with
  | nil => cases hn
  | cons r rs =>
    rename_i v us d ds
    have hn' : ds.length = n := Nat.succ.inj hn
    rcases h v d G H r k with ⟨L, s1, m1, e1, q1⟩ | z
    · rcases hs us ds G H rs hn' k with ⟨M, s2, m2, e2, q2⟩ | z
      · refine .inl ⟨L ++ M, fun t ht => ?_, fun t ht => ?_, fun ρ => ?_, fun σ Q q => ?_⟩
        · rcases List.mem_append.mp ht with h | h
          · exact s1 t h
          · exact s2 t h
        · rcases List.mem_append.mp ht with h | h
          · exact List.mem_append_left _ (m1 t h)
          · exact List.mem_append_right _ (m2 t h)
        · show (b d ρ).bind (bs ds) = _
          rw [e1, bind_ok, e2, stD_append]
        · exact ⟨v, us, rfl, q1 σ _ (q2 _ _ (by rw [← stV_append]; exact q))⟩
      · refine .inr fun ρ => ?_
        show (b d ρ).bind (bs ds) = _
        rw [e1, bind_ok, z]
    · refine .inr fun ρ => ?_
      show (b d ρ).bind (bs ds) = _
      rw [z]
      rfl
theorem gd_tp {K : PySem.W.Frag} {gs : TGs} {bs : List D → Rho → Res Rho} {vs : List Nat} {n : Nat} (h : GDs K gs bs vs n) : GD K (gTup K n gs) (bTp n bs) vs := fun v d G H r k => by
  cases r with
  | tup r q =>
    rename_i a xs ds
    by_cases hn : ds.length = n
    · rcases h xs ds G H q hn k with ⟨L, s1, m1, e1, q1⟩ | z
      · refine .inl ⟨L, s1, m1, fun ρ => ?_, fun σ Q q2 => ⟨a, xs, rfl, k.sqT r, by rw [q.length]; exact hn, q1 σ Q q2⟩⟩
        show (if ds.length = n then bs ds ρ else .bad) = _
        rw [if_pos hn, e1]
      · refine .inr fun ρ => ?_
        show (if ds.length = n then bs ds ρ else .bad) = _
        rw [if_pos hn, z]
    · refine .inr fun ρ => ?_
      show (if ds.length = n then bs ds ρ else .bad) = _
      rw [if_neg hn]
  | _ => exact .inr fun ρ => rfl
theorem EnvE.sto {p : Pm} {G : Hp} : ∀ {L : Sto} {σ : L2.St} {ρ : Rho}, Stores p.K G L → EnvE p G σ ρ → EnvE p G (stV L σ) (stD L ρ)
  | [], _, _, _, e => e
  | t :: L, _, _, s, e => EnvE.sto (L := L) (fun u hu => s u (List.mem_cons_of_mem _ hu)) (e.set t.1 (s t List.mem_cons_self))

/-! ### comprehensions -/
def wipeR (ρ : Rho) : List Nat → Rho
  | [] => ρ
  | v :: vs => (wipeR ρ vs).set v .un
theorem EnvE.wipe {p : Pm} {G : Hp} {σ : L2.St} {ρ : Rho} (e : EnvE p G σ ρ) : ∀ vs, EnvE p G (L2.wipe σ vs) (wipeR ρ vs)
  | [] => e
  | v :: vs => (EnvE.wipe e vs).drop v none
theorem wipe_get {σ : L2.St} {j : Nat} : ∀ {vs : List Nat}, (L2.wipe σ vs)[j]? = if j ∈ vs ∧ j < σ.length then some none else σ[j]?
  | [] => by simp [L2.wipe]
  | v :: vs => by
    unfold L2.wipe
    rw [List.getElem?_set, wipe_length, wipe_get]
    by_cases h1 : v = j
    · subst h1
      by_cases h2 : v < σ.length
      · simp [h2]
      · rw [if_pos rfl, if_neg h2, if_neg (by simp [h2]), List.getElem?_eq_none (by omega)]
    · rw [if_neg h1]
      have : j ∈ v :: vs ↔ j ∈ vs := by simp [Ne.symm h1]
      simp only [this]
theorem wipe_sto {vs : List Nat} : ∀ {L : Sto} {σ : L2.St}, (∀ t ∈ L, t.1 ∈ vs) → L2.wipe (stV L σ) vs = L2.wipe σ vs
  | [], _, _ => rfl
  | t :: L, σ, h => by
    show L2.wipe (stV L (σ.set t.1 (some t.2.1))) vs = _
    rw [wipe_sto (fun u hu => h u (List.mem_cons_of_mem _ hu))]
    apply List.ext_getElem?
    intro j
    rw [wipe_get, wipe_get, List.length_set]
    by_cases hj : j ∈ vs ∧ j < σ.length
    · rw [if_pos hj, if_pos hj]
    · rw [if_neg hj, if_neg hj]
      by_cases ht : t.1 = j
      · subst ht
        have : ¬ t.1 < σ.length := fun z => hj ⟨h t List.mem_cons_self, z⟩
        rw [List.getElem?_eq_none (by rw [List.length_set]; omega), List.getElem?_eq_none (by omega)]
      · rw [List.getElem?_set_ne ht]
theorem wipe_wipe {σ : L2.St} {vs : List Nat} : L2.wipe (L2.wipe σ vs) vs = L2.wipe σ vs := by
  apply List.ext_getElem?
  intro j
  rw [wipe_get, wipe_get, wipe_length]
  by_cases hj : j ∈ vs ∧ j < σ.length
  · rw [if_pos hj]
    rw [if_pos hj]
  · rw [if_neg hj]
/-- nothing may be raised here -/
def noEx {α : Type} : Res α → Res α
  | .ex _ => .bad
  | r => r
@[simp] theorem noEx_ok {α : Type} (a : α) : noEx (Res.ok a) = .ok a := rfl
def lcL (b : D → Rho → Res Rho) (tt : Rho → Res Bool) (fe : Rho → Res D) (ρ : Rho) : List D → Res (List D)
  | [] => .ok []
  | d :: ds => (b d ρ).bind fun ρ1 => (noEx (tt ρ1)).bind fun c => if c = true then (noEx (fe ρ1)).bind fun x => (lcL b tt fe ρ ds).bind fun xs => .ok (x :: xs) else lcL b tt fe ρ ds
/-- a new list of one's own -/
def nS (p : Pm) (f : Rho → Res (List D)) : TE := fun σ H Q => ∃ G ρ, EnvE p G σ ρ ∧ Gs G H ∧ TBs p.tb H ∧ match f ρ with
  | .ok ds => ∀ q vs G' H', Ext G H G' H' → H q = none → G' q = none → H' q = some (.lst vs) → DvAll p.K G' vs ds → Q (.ref q) H'
  | .ex c => ∀ G' H', Ext G H G' H' → p.W (.ref (p.ec c)) none σ H'
  | .bad => False
/-- all may see it now -/
theorem Ext.show {G H G' H' : Hp} {q : Addr} {vs : List V} (e : Ext G H G' H') (h : H q = none) (g : G' q = none) (h' : H' q = some (.lst vs)) : Ext G H (upd G' q (.lst vs)) H' where
  g := e.g.trans fun a o z n => by
    by_cases ha : a = q
    · subst ha; rw [g] at z; cases z
    · rw [upd_ne ha]; exact z
  h := e.h
  gh := fun a o z => by
    by_cases ha : a = q
    · subst ha
      rw [upd_same] at z
      cases z
      exact ⟨rfl, h'⟩
    · rw [upd_ne ha] at z; exact e.gh a o z
  n := fun a z => by
    by_cases ha : a = q
    · subst ha; exact .inr h
    · rw [upd_ne ha] at z; exact e.n a z
  t := e.t
theorem Kp.upd {G : Hp} {q : Addr} {o : HO} (g : G q = none) : Kp G (upd G q o) := fun a u z n => by
  by_cases ha : a = q
  · subst ha; rw [g] at z; cases z
  · rw [upd_ne ha]; exact z
def nE (f : Rho → Res (List D)) : Rho → Res D := fun ρ => (f ρ).bind fun ds => .ok (.list ds)
theorem e_of_n {X : Cx} {p : Pm} {a : Expr} {f : Rho → Res (List D)} (h : PE X a (nS p f)) : PE X a (eS p (nE f)) := h.imp fun σ H Q h => by
  obtain ⟨G, ρ, he, hk, ht, h⟩ := h
  refine ⟨G, ρ, he, hk, ht, ?_⟩
  unfold nE at h
  cases e : f ρ with
  | ok ds =>
    rw [e] at h
    intro q vs G' H' ex hq gq hq' r
    exact h _ _ _ (ex.show hq gq hq') (.lst (.inl (.inl upd_same)) (r.kp (Kp.upd gq)))
  | ex c => rw [e] at h; exact h
  | bad => rw [e] at h; exact h
/-- a list of one's own changes -/
theorem Ext.mut {G H G' H' : Hp} {a : Addr} {xs ys : List V} (e : Ext G H G' H') (h : H a = none) (g : G' a = none) (h' : H' a = some (.lst xs)) : Ext G H G' (L2.upd H' a (.lst ys)) where
  g := e.g
  h := fun b o z n => by rw [upd_ne (ne_of_none z h)]; exact e.h b o z n
  gh := fun b o z => by rw [upd_ne (ne_of_none z g)]; exact e.gh b o z
  n := e.n
  t := fun b ps z => by
    obtain ⟨ps', h1, h2⟩ := e.t b ps z
    exact ⟨ps', by rw [upd_ne (ne_of_none z h)]; exact h1, h2⟩
section
variable {X : Cx} {p : Pm} {tg elt iter : Expr} {pos : Pos}
def lcR (fi : Rho → Res (List D)) (b : D → Rho → Res Rho) (tt : Rho → Res Bool) (fe : Rho → Res D) (vs : List Nat) : Rho → Res (List D) := fun ρ => (fi ρ).bind fun ds => if ds.length ≤ 16777216 then noEx (lcL b tt fe (wipeR ρ vs) ds) else .bad
theorem lc_read {fi : Rho → Res (List D)} {g : TG} {b : D → Rho → Res Rho} {tt : Rho → Res Bool} {fe : Rho → Res D} {vs : List Nat} (gd : GD p.K g b vs) {σ : L2.St} {H : Hp} {Q : VK} (h : nS p (lcR fi b tt fe vs) σ H Q) :
    tLc (iS p fi) g (tS { p with W := W0 } tt) (eS { p with W := W0 } fe) vs σ H Q := by
  obtain ⟨G, ρ, he, hk, ht, h⟩ := h
  refine ⟨G, ρ, he, hk, ht, ?_⟩
  unfold lcR at h
  cases e : fi ρ with
  | bad => rw [e] at h; exact h.elim
  | ex c => rw [e] at h; exact h
  | ok ds =>
    rw [e, bind_ok] at h
    by_cases hz : ds.length ≤ 16777216
    · rw [if_pos hz] at h
      intro J G1 H1 e1 wk A hA
      have hA0 : H A = none := e1.free hA
      -- the rest of the walk gives the rest of the list
      let W : Nat → Nat → Hp → Prop := fun i m H2 => m = ds.length - i ∧ i ≤ ds.length ∧ ∃ G2 acc done, Ext G1 H1 G2 H2 ∧ G2 A = none ∧ H2 A = some (.lst acc) ∧ DvAll p.K G2 acc done ∧ done.length ≤ i ∧
        (match (lcL b tt fe (wipeR ρ vs) (ds.drop i)).bind fun r => Res.ok (done ++ r) with
          | .ok all => lcL b tt fe (wipeR ρ vs) ds = .ok all
          | _ => False)
      have gA : G1 A = none := e1.gh.none hA
      let rest : Nat → Res (List D) := fun i => lcL b tt fe (wipeR ρ vs) (ds.drop i)
      refine ⟨fun i m H2 => m = ds.length - i ∧ i ≤ ds.length ∧ ∃ G2 acc done all, Ext G1 H1 G2 H2 ∧ G2 A = none ∧ H2 A = some (.lst acc) ∧ DvAll p.K G2 acc done ∧ done.length ≤ i ∧ ((rest i).bind fun r => Res.ok (done ++ r)) = .ok all ∧ lcL b tt fe (wipeR ρ vs) ds = .ok all, ?_, ?_⟩
      · cases e2 : lcL b tt fe (wipeR ρ vs) ds with
        | ok all => exact ⟨_, rfl, Nat.zero_le _, G1, [], [], all, Ext.newO e1.gh hA, gA, upd_same, .nil, Nat.le_refl _, by show (lcL b tt fe (wipeR ρ vs) ds).bind _ = _; rw [e2]; rfl, rfl⟩
        | ex c => rw [e2] at h; exact h.elim
        | bad => rw [e2] at h; exact h.elim
      · rintro i m H2 ⟨rfl, hi, G2, acc, done, all, e2, g2, h2, r2, hd, hrest, hall⟩
        have w := wk G2 H2 i e2.g e2.gh
        by_cases hlt : i < ds.length
        · obtain ⟨w1, w2⟩ := w.1 hlt
          refine .inr ⟨w1, fun H3 => ∃ G3 acc done, Ext G1 H1 G3 H3 ∧ G3 A = none ∧ H3 A = some (.lst acc) ∧ DvAll p.K G3 acc done ∧ done.length ≤ i + 1 ∧ ((rest (i + 1)).bind fun r => Res.ok (done ++ r)) = .ok all, fun H3 ⟨G3, acc, done, a1, a2, a3, a4, a5, a6⟩ => ⟨_, by omega, rfl, by omega, G3, acc, done, all, a1, a2, a3, a4, a5, a6, hall⟩, fun x H3 y => ?_⟩
          obtain ⟨G3, d, e3, hdi, rd⟩ := w2 x H3 y
          have ed : ds.drop i = d :: ds.drop (i + 1) := by
            obtain ⟨h5, h6⟩ := List.getElem?_eq_some_iff.mp hdi
            rw [List.drop_eq_getElem_cons h5, h6]
          have hr : ((lcL b tt fe (wipeR ρ vs) (d :: ds.drop (i + 1))).bind fun r => Res.ok (done ++ r)) = .ok all := by rw [← ed]; exact hrest
          unfold lcL at hr
          rcases gd x d G3 H3 rd e3.gh with ⟨L, s1, m1, eb, q1⟩ | z
          · rw [eb, bind_ok] at hr
            refine q1 _ _ ⟨by rw [wipe_sto m1, wipe_wipe], ?_⟩
            have en := EnvE.sto s1 ((he.kp (e1.g.trans (e2.g.trans e3.g))).wipe vs)
            have tb3 : TBs p.tb H3 := ((ht.ext e1).ext e2).ext e3
            cases ett : tt (stD L (wipeR ρ vs)) with
            | bad => rw [ett] at hr; cases hr
            | ex c => rw [ett] at hr; cases hr
            | ok c =>
              rw [ett, noEx_ok, bind_ok] at hr
              refine ⟨G3, _, ⟨en.len, en.sh, en.ex, en.fd⟩, e3.gh, tb3, ?_⟩
              rw [ett]
              intro c' G4 H4 e4 rc
              obtain rfl : c' = c := rc
              cases c' with
              | false =>
                rw [if_neg Bool.false_ne_true] at hr ⊢
                refine ⟨G4, acc, done, (e2.trans e3).trans e4, ?_, (e3.trans e4).h _ _ h2 rfl, r2.kp (e3.trans e4).g, by omega, hr⟩
                cases q : G4 A with
                | none => rfl
                | some o =>
                  rcases (e3.trans e4).n A (by rw [q]; simp) with z | z
                  · exact absurd g2 z
                  · rw [h2] at z; cases z
              | true =>
                rw [if_pos rfl] at hr ⊢
                cases efe : fe (stD L (wipeR ρ vs)) with
                | bad => rw [efe] at hr; cases hr
                | ex c => rw [efe] at hr; cases hr
                | ok dx =>
                  rw [efe, noEx_ok, bind_ok] at hr
                  have en4 := en.kp e4.g
                  refine ⟨G4, _, ⟨en4.len, en4.sh, en4.ex, en4.fd⟩, e4.gh, tb3.ext e4, ?_⟩
                  rw [efe]
                  intro y G5 H5 e5 ry
                  have E := (e3.trans e4).trans e5
                  have h5 : H5 A = some (.lst acc) := E.h _ _ h2 rfl
                  have g5 : G5 A = none := by
                    cases q : G5 A with
                    | none => rfl
                    | some o =>
                      rcases E.n A (by rw [q]; simp) with z | z
                      · exact absurd g2 z
                      · rw [h2] at z; cases z
                  refine ⟨acc, h5, by rw [sizeLine_eq, r2.length]; omega, G5, acc ++ [y], done ++ [dx], (e2.trans E).mut hA g5 h5, g5, upd_same, (r2.kp E.g).append (.cons ry .nil), by rw [List.length_append, List.length_singleton]; omega, ?_⟩
                  rw [← hr]
                  show (lcL b tt fe (wipeR ρ vs) (ds.drop (i + 1))).bind _ = _
                  cases lcL b tt fe (wipeR ρ vs) (ds.drop (i + 1)) with
                  | ok xs => simp
                  | ex c => rfl
                  | bad => rfl
          · rw [z] at hr; cases hr
        · have e5 : i = ds.length := by omega
          subst e5
          refine .inl ⟨w.2 (Nat.le_refl _), ?_⟩
          have e6 : rest ds.length = .ok [] := by
            show lcL b tt fe (wipeR ρ vs) (ds.drop ds.length) = _
            rw [List.drop_length]; rfl
          rw [e6, bind_ok, List.append_nil] at hrest
          cases hrest
          rw [hall] at h
          exact h A acc G2 H2 (e1.trans e2) hA0 g2 h2 r2
    · rw [if_neg hz] at h; exact h.elim
def noIf : Rho → Res Bool := fun _ => .ok true
theorem ts_nil : PTs X [] (tS p noIf) := ⟨fun pins s σ H Q I h => pts_nil.run pins s σ H Q I (by
  obtain ⟨G, ρ, he, hk, ht, h⟩ := h
  exact h true G H (Ext.refl hk) rfl)⟩
theorem n_lc {ifs : List Expr} {scope : Scope} {own : List (Str × Nat)} {fi : Rho → Res (List D)} {g : TG} {b : D → Rho → Res Rho} {tt : Rho → Res Bool} {fe : Rho → Res D} (gd : GD p.K g b (own.map (·.2))) (hc : X.calm = true) (hN : X.N.Nodup) (hi : PI X tg iter (iS p fi)) (ok : BlkOk X.N X.env.scope scope own)
    (hg : ∀ (s : Shared) (H : Hp) (C : Addr) (cl : List (Str × Addr)) (fp : List Addr), PG (X.blk s H scope (compEnvC scope cl C X.env) fp) tg g)
    (ht : ∀ (s : Shared) (H : Hp) (C : Addr) (cl : List (Str × Addr)) (fp : List Addr), PTs (X.blk s H scope (compEnvC scope cl C X.env) fp) ifs (tS { p with W := W0 } tt))
    (he : ∀ (s : Shared) (H : Hp) (C : Addr) (cl : List (Str × Addr)) (fp : List Addr), PE (X.blk s H scope (compEnvC scope cl C X.env) fp) elt (eS { p with W := W0 } fe)) (hs : ∀ x, foldedSetIterable iter X.env x = pure x) :
    PE X (.ListComp elt [⟨tg, iter, ifs, 0⟩] scope pos) (nS p (lcR fi b tt fe (own.map (·.2)))) := (pe_lc hc hN hi ok hg ht he hs).imp fun σ H Q h => lc_read gd h
theorem n_setLc {i : Nat} {y : Str} {py : Pos} {ifs : List Expr} {scope : Scope} {own : List (Str × Nat)} {spos : Pos} {fi : Rho → Res (List D)} {g : TG} {b : D → Rho → Res Rho} {tt : Rho → Res Bool} {fe : Rho → Res D} (gd : GD p.K g b (own.map (·.2))) (hc : X.calm = true) (hN : X.N.Nodup) (hy : X.N[i]? = some y) (hyl : X.env.scope.names.lookup y = some .local)
    (hsw : swapsWith (.ListComp elt [⟨tg, iter, ifs, 0⟩] scope pos) (some (.Name y py)) spos.line X.env = pure true) (hi : PI X tg iter (iS p fi)) (ok : BlkOk X.N X.env.scope scope own)
    (hg : ∀ (s : Shared) (H : Hp) (C : Addr) (cl : List (Str × Addr)) (fp : List Addr), PG (X.blk s H scope (compEnvC scope cl C X.env) fp) tg g)
    (ht : ∀ (s : Shared) (H : Hp) (C : Addr) (cl : List (Str × Addr)) (fp : List Addr), PTs (X.blk s H scope (compEnvC scope cl C X.env) fp) ifs (tS { p with W := W0 } tt))
    (he : ∀ (s : Shared) (H : Hp) (C : Addr) (cl : List (Str × Addr)) (fp : List Addr), PE (X.blk s H scope (compEnvC scope cl C X.env) fp) elt (eS { p with W := W0 } fe)) (hs : ∀ x, foldedSetIterable iter X.env x = pure x) :
    PS X (.Assign [.Name y py] (.ListComp elt [⟨tg, iter, ifs, 0⟩] scope pos) spos) (tAsg (nS p (lcR fi b tt fe (own.map (·.2)))) (gName i)) := (ps_setLc hc hN hy hyl hsw hi ok hg ht he hs).imp fun De σ H h => lc_read gd h
/-! other new lists -/
def nlR (f : Rho → Res (List D)) : Rho → Res (List D) := fun ρ => (f ρ).bind fun xs => if xs.length ≤ 16777216 then .ok xs else .bad
theorem n_lst {es : List Expr} {f : Rho → Res (List D)} (h : PA X es (aS p f)) : PE X (.List es pos) (nS p (nlR f)) := (pe_lst h).imp fun σ H Q h => by
  obtain ⟨G, ρ, he, hk, ht, h⟩ := h
  refine ⟨G, ρ, he, hk, ht, ?_⟩
  unfold nlR at h
  cases e : f ρ with
  | ex c => rw [e] at h; exact h
  | bad => rw [e] at h; exact h.elim
  | ok xs =>
    rw [e, bind_ok] at h
    intro vs G1 H1 e1 r
    have r : DvAll p.K G1 vs xs := r
    by_cases hz : xs.length ≤ 16777216
    · rw [if_pos hz] at h
      refine ⟨by rw [sizeLine_eq, r.length]; exact hz, fun q hq => ?_⟩
      exact h q vs G1 _ (e1.trans (Ext.newO e1.gh hq)) (e1.free hq) (e1.gh.none hq) upd_same r
    · rw [if_neg hz] at h; exact h.elim
def listL : List D → Res (List D)
  | [.list xs] => .ok xs
  | [.tuple xs] => .ok xs
  | _ => .bad
def nliR (f : Rho → Res (List D)) : Rho → Res (List D) := fun ρ => (f ρ).bind listL
theorem n_list {x : Str} {a : Expr} {f : Rho → Res (List D)} {p1 : Pos} (hK : X.K = p.K) (hg : Gl X x) (hm : X.mg x = none) (hv : bootBuiltins x = some (.type "list")) (ha : PA X [a] (aS p f))
    (he : starEach (a :: []) X.env = (false, eval a X.env) :: starEach [] X.env) (hpl : (backTo pos (starEach [] X.env)).any (·.1) = false) (hn : x ≠ "__name__" := by decide) (hdb : (x == ("__debug__" : Str)) = false := by decide) : PE X (.Call (.Name x p1) [a] [] pos) (nS p (nliR f)) :=
  (pe_callTy call_list_of hg hm hv ha hn hdb he hpl).imp fun σ H Q h => by
  obtain ⟨G, ρ, he, hk, ht, h⟩ := h
  refine ⟨G, ρ, he, hk, ht, ?_⟩
  unfold nliR at h
  cases e : f ρ with
  | ex c => rw [e] at h; exact h
  | bad => rw [e] at h; exact h.elim
  | ok xs =>
    rw [e, bind_ok] at h
    intro vs G1 H1 e1 r0
    have a : DvAll p.K G1 vs xs := r0
    clear r0
    cases a with
    | nil => exact (show False from h).elim
    | cons r a =>
      cases a with
      | cons r2 a => cases r <;> exact (show False from h).elim
      | nil =>
        cases r <;> first | exact (show False from h).elim | skip
        · rename_i r q
          exact ⟨_, _, rfl, .inl (by rw [hK]; exact e1.gh.sqL r), fun l hl => h l _ G1 _ (e1.trans (Ext.newO e1.gh hl)) (e1.free hl) (e1.gh.none hl) upd_same q⟩
        · rename_i r q
          exact ⟨_, _, rfl, .inr (by rw [hK]; exact e1.gh.sqT r), fun l hl => h l _ G1 _ (e1.trans (Ext.newO e1.gh hl)) (e1.free hl) (e1.gh.none hl) upd_same q⟩
end
end J

set_option linter.all false
set_option maxRecDepth 100000
set_option maxHeartbeats 4000000
namespace J
open PySem PySem.Spec PyProof.Rows L2 RZ

/-! ### the frame's own lists -/
structure EnvO (p : Pm) (B G : Hp) (σ : L2.St) (H : Hp) (ρ : Rho) : Prop where
  e : EnvE p G σ ρ
  ow : ∀ (i : Nat) (ds : List D), ρ[i]? = some (Sl.ow ds) → ∃ a vs, σ[i]? = some (some (V.ref a)) ∧ B a = none ∧ G a = none ∧ H a = some (.lst vs) ∧ DvAll p.K G vs ds
  ap : ∀ (i j : Nat) (ds es : List D) (a : Addr), i ≠ j → ρ[i]? = some (Sl.ow ds) → ρ[j]? = some (Sl.ow es) → σ[i]? = some (some (V.ref a)) → σ[j]? = some (some (V.ref a)) → False
  od : ∀ (i : Nat) (es : List (Int × D)), ρ[i]? = some (Sl.od es) → ∃ a, σ[i]? = some (some (V.ref a)) ∧ B a = none ∧ G a = none ∧ H a = some (.dK (dkV es))
  ad : ∀ (i j : Nat) (es fs : List (Int × D)) (a : Addr), i ≠ j → ρ[i]? = some (Sl.od es) → ρ[j]? = some (Sl.od fs) → σ[i]? = some (some (V.ref a)) → σ[j]? = some (some (V.ref a)) → False
section
variable {p : Pm} {B G H G' H' G0 : Hp} {σ : L2.St} {ρ : Rho}
theorem Ext.noG (e : Ext G H G' H') {a : Addr} {o : HO} (g : G a = none) (h : H a = some o) : G' a = none := by
  cases q : G' a with
  | none => rfl
  | some o =>
    rcases e.n a (by rw [q]; simp) with z | z
    · exact absurd g z
    · rw [h] at z; cases z
theorem EnvO.ext (x : Ext G H G' H') (e : EnvO p B G σ H ρ) : EnvO p B G' σ H' ρ where
  e := e.e.kp x.g
  ow := fun i ds h => by
    obtain ⟨a, vs, h1, h2, h3, h4, h5⟩ := e.ow i ds h
    exact ⟨a, vs, h1, h2, x.noG h3 h4, x.h _ _ h4 rfl, h5.kp x.g⟩
  ap := e.ap
  od := fun i es h => by
    obtain ⟨a, h1, h2, h3, h4⟩ := e.od i es h
    exact ⟨a, h1, h2, x.noG h3 h4, x.h _ _ h4 rfl⟩
  ad := e.ad
/-- only the heap grows -/
theorem EnvO.grow (x : Kp H H') (e : EnvO p B G σ H ρ) : EnvO p B G σ H' ρ where
  e := e.e
  ow := fun i ds h => by
    obtain ⟨a, vs, h1, h2, h3, h4, h5⟩ := e.ow i ds h
    exact ⟨a, vs, h1, h2, h3, x _ _ h4 rfl, h5⟩
  ap := e.ap
  od := fun i es h => by
    obtain ⟨a, h1, h2, h3, h4⟩ := e.od i es h
    exact ⟨a, h1, h2, h3, x _ _ h4 rfl⟩
  ad := e.ad
theorem EnvO.set (e : EnvO p B G σ H ρ) (i : Nat) {v : V} {d : D} (r : Dv p.K G v d) : EnvO p B G (σ.set i (some v)) H (ρ.set i (.sh d)) where
  e := e.e.set i r
  ow := fun j ds h => by
    rcases get_set h with ⟨rfl, hl, e1⟩ | ⟨hij, h⟩
    · cases e1
    · rw [List.getElem?_set_ne hij]; exact e.ow j ds h
  ap := fun j k ds es a hjk h1 h2 s1 s2 => by
    rcases get_set h1 with ⟨rfl, hl, e1⟩ | ⟨hij, h1⟩
    · cases e1
    · rcases get_set h2 with ⟨rfl, hl, e1⟩ | ⟨hik, h2⟩
      · cases e1
      · rw [List.getElem?_set_ne hij] at s1
        rw [List.getElem?_set_ne hik] at s2
        exact e.ap j k ds es a hjk h1 h2 s1 s2
  od := fun j es h => by
    rcases get_set h with ⟨rfl, hl, e1⟩ | ⟨hij, h⟩
    · cases e1
    · rw [List.getElem?_set_ne hij]; exact e.od j es h
  ad := fun j k es fs a hjk h1 h2 s1 s2 => by
    rcases get_set h1 with ⟨rfl, hl, e1⟩ | ⟨hij, h1⟩
    · cases e1
    · rcases get_set h2 with ⟨rfl, hl, e1⟩ | ⟨hik, h2⟩
      · cases e1
      · rw [List.getElem?_set_ne hij] at s1
        rw [List.getElem?_set_ne hik] at s2
        exact e.ad j k es fs a hjk h1 h2 s1 s2
theorem EnvO.drop (e : EnvO p B G σ H ρ) (i : Nat) (o : Option V) : EnvO p B G (σ.set i o) H (ρ.set i .un) where
  e := e.e.drop i o
  ow := fun j ds h => by
    rcases get_set h with ⟨rfl, hl, e1⟩ | ⟨hij, h⟩
    · cases e1
    · rw [List.getElem?_set_ne hij]; exact e.ow j ds h
  ap := fun j k ds es a hjk h1 h2 s1 s2 => by
    rcases get_set h1 with ⟨rfl, hl, e1⟩ | ⟨hij, h1⟩
    · cases e1
    · rcases get_set h2 with ⟨rfl, hl, e1⟩ | ⟨hik, h2⟩
      · cases e1
      · rw [List.getElem?_set_ne hij] at s1
        rw [List.getElem?_set_ne hik] at s2
        exact e.ap j k ds es a hjk h1 h2 s1 s2
  od := fun j es h => by
    rcases get_set h with ⟨rfl, hl, e1⟩ | ⟨hij, h⟩
    · cases e1
    · rw [List.getElem?_set_ne hij]; exact e.od j es h
  ad := fun j k es fs a hjk h1 h2 s1 s2 => by
    rcases get_set h1 with ⟨rfl, hl, e1⟩ | ⟨hij, h1⟩
    · cases e1
    · rcases get_set h2 with ⟨rfl, hl, e1⟩ | ⟨hik, h2⟩
      · cases e1
      · rw [List.getElem?_set_ne hij] at s1
        rw [List.getElem?_set_ne hik] at s2
        exact e.ad j k es fs a hjk h1 h2 s1 s2
theorem EnvO.forget1 (e : EnvO p B G σ H ρ) (i : Nat) : EnvO p B G σ H (ρ.set i .un) where
  e := ⟨by rw [List.length_set]; exact e.e.len, fun j d h => by
    rcases get_set h with ⟨rfl, hl, e1⟩ | ⟨hij, h⟩
    · cases e1
    · exact e.e.sh j d h, fun j d h => by
    rcases get_set h with ⟨rfl, hl, e1⟩ | ⟨hij, h⟩
    · cases e1
    · exact e.e.ex j d h, fun j d h => by
    rcases get_set h with ⟨rfl, hl, e1⟩ | ⟨hij, h⟩
    · cases e1
    · exact e.e.fd j d h⟩
  ow := fun j ds h => by
    rcases get_set h with ⟨rfl, hl, e1⟩ | ⟨hij, h⟩
    · cases e1
    · exact e.ow j ds h
  ap := fun j k ds es a hjk h1 h2 s1 s2 => by
    rcases get_set h1 with ⟨rfl, hl, e1⟩ | ⟨hij, h1⟩
    · cases e1
    · rcases get_set h2 with ⟨rfl, hl, e1⟩ | ⟨hik, h2⟩
      · cases e1
      · exact e.ap j k ds es a hjk h1 h2 s1 s2
  od := fun j es h => by
    rcases get_set h with ⟨rfl, hl, e1⟩ | ⟨hij, h⟩
    · cases e1
    · exact e.od j es h
  ad := fun j k es fs a hjk h1 h2 s1 s2 => by
    rcases get_set h1 with ⟨rfl, hl, e1⟩ | ⟨hij, h1⟩
    · cases e1
    · rcases get_set h2 with ⟨rfl, hl, e1⟩ | ⟨hik, h2⟩
      · cases e1
      · exact e.ad j k es fs a hjk h1 h2 s1 s2
def forget (fs : List Nat) (ρ : Rho) : Rho := fs.foldl (fun ρ i => ρ.set i .un) ρ
theorem EnvO.forget : ∀ (fs : List Nat) {ρ : Rho}, EnvO p B G σ H ρ → EnvO p B G σ H (J.forget fs ρ)
  | [], _, e => e
  | i :: fs, _, e => EnvO.forget fs (e.forget1 i)
theorem EnvO.sto : ∀ {L : Sto} {σ : L2.St} {ρ : Rho}, Stores p.K G L → EnvO p B G σ H ρ → EnvO p B G (stV L σ) H (stD L ρ)
  | [], _, _, _, e => e
  | t :: L, _, _, s, e => EnvO.sto (L := L) (fun u hu => s u (List.mem_cons_of_mem _ hu)) (e.set t.1 (s t List.mem_cons_self))
/-- a new list of the frame's own is named -/
theorem EnvO.own (e : EnvO p B G σ H ρ) (i : Nat) {q : Addr} {vs : List V} {ds : List D} (hB : B q = none) (hG : G q = none) (hH : H q = some (.lst vs)) (r : DvAll p.K G vs ds) (hn : ∀ (j : Nat) (es : List D), i ≠ j → ρ[j]? = some (Sl.ow es) → σ[j]? ≠ some (some (V.ref q))) :
    EnvO p B G (σ.set i (some (.ref q))) H (ρ.set i (.ow ds)) where
  e := ⟨by rw [List.length_set, List.length_set]; exact e.e.len, fun j d h => by
    rcases get_set h with ⟨rfl, hl, e1⟩ | ⟨hij, h⟩
    · cases e1
    · rw [List.getElem?_set_ne hij]; exact e.e.sh j d h, fun j d h => by
    rcases get_set h with ⟨rfl, hl, e1⟩ | ⟨hij, h⟩
    · cases e1
    · rw [List.getElem?_set_ne hij]; exact e.e.ex j d h, fun j d h => by
    rcases get_set h with ⟨rfl, hl, e1⟩ | ⟨hij, h⟩
    · cases e1
    · rw [List.getElem?_set_ne hij]; exact e.e.fd j d h⟩
  ow := fun j ds' h => by
    rcases get_set h with ⟨rfl, hl, e1⟩ | ⟨hij, h⟩
    · cases e1
      exact ⟨q, vs, List.getElem?_set_self (by rw [e.e.len]; exact hl), hB, hG, hH, r⟩
    · rw [List.getElem?_set_ne hij]; exact e.ow j ds' h
  ap := fun j k ds' es a hjk h1 h2 s1 s2 => by
    rcases get_set h1 with ⟨rfl, hl, e1⟩ | ⟨hij, h1⟩
    · rcases get_set h2 with ⟨rfl, _, _⟩ | ⟨hik, h2⟩
      · exact hjk rfl
      · rw [List.getElem?_set_self (by rw [e.e.len]; exact hl)] at s1
        rw [List.getElem?_set_ne hik] at s2
        cases s1
        exact hn k es hik h2 s2
    · rw [List.getElem?_set_ne hij] at s1
      rcases get_set h2 with ⟨rfl, hl, e1⟩ | ⟨hik, h2⟩
      · rw [List.getElem?_set_self (by rw [e.e.len]; exact hl)] at s2
        cases s2
        exact hn j ds' hij h1 s1
      · rw [List.getElem?_set_ne hik] at s2
        exact e.ap j k ds' es a hjk h1 h2 s1 s2
  od := fun j es h => by
    rcases get_set h with ⟨rfl, hl, e1⟩ | ⟨hij, h⟩
    · cases e1
    · rw [List.getElem?_set_ne hij]; exact e.od j es h
  ad := fun j k es fs a hjk h1 h2 s1 s2 => by
    rcases get_set h1 with ⟨rfl, hl, e1⟩ | ⟨hij, h1⟩
    · cases e1
    · rcases get_set h2 with ⟨rfl, hl, e1⟩ | ⟨hik, h2⟩
      · cases e1
      · rw [List.getElem?_set_ne hij] at s1
        rw [List.getElem?_set_ne hik] at s2
        exact e.ad j k es fs a hjk h1 h2 s1 s2
/-- an own list changes -/
theorem EnvO.mut (x : Ext G0 B G H) (e : EnvO p B G σ H ρ) (i : Nat) {a : Addr} {vs ws : List V} {ds es : List D} (hi : ρ[i]? = some (Sl.ow ds)) (ha : σ[i]? = some (some (V.ref a))) (hH : H a = some (.lst vs)) (r : DvAll p.K G ws es) :
    EnvO p B G σ (upd H a (.lst ws)) (ρ.set i (.ow es)) ∧ Ext G0 B G (upd H a (.lst ws)) := by
  obtain ⟨a', vs', h1, h2, h3, h4, h5⟩ := e.ow i ds hi
  have ea : a' = a := by rw [ha] at h1; cases h1; rfl
  subst ea
  refine ⟨⟨⟨by rw [List.length_set]; exact e.e.len, fun j d h => ?_, fun j d h => ?_, fun j d h => ?_⟩, fun j ds' h => ?_, fun j k ds' es' b hjk g1 g2 s1 s2 => ?_, fun j ds' h => ?_, fun j k ds' es' b hjk g1 g2 s1 s2 => ?_⟩, x.mut h2 h3 h4⟩
  · rcases get_set h with ⟨rfl, hl, e1⟩ | ⟨hij, h⟩
    · cases e1
    · exact e.e.sh j d h
  · rcases get_set h with ⟨rfl, hl, e1⟩ | ⟨hij, h⟩
    · cases e1
    · exact e.e.ex j d h
  · rcases get_set h with ⟨rfl, hl, e1⟩ | ⟨hij, h⟩
    · cases e1
    · exact e.e.fd j d h
  · rcases get_set h with ⟨rfl, hl, e1⟩ | ⟨hij, h⟩
    · cases e1
      exact ⟨a', ws, ha, h2, h3, upd_same, r⟩
    · obtain ⟨b, us, q1, q2, q3, q4, q5⟩ := e.ow j ds' h
      refine ⟨b, us, q1, q2, q3, ?_, q5⟩
      rw [upd_ne (fun z => e.ap i j ds ds' a' hij hi h ha (by rw [← z]; exact q1))]
      exact q4
  · have k1 : ∃ d, ρ[j]? = some (Sl.ow d) := by
      rcases get_set g1 with ⟨rfl, hl, e1⟩ | ⟨hij, g1⟩
      · exact ⟨_, hi⟩
      · exact ⟨_, g1⟩
    have k2 : ∃ d, ρ[k]? = some (Sl.ow d) := by
      rcases get_set g2 with ⟨rfl, hl, e1⟩ | ⟨hij, g2⟩
      · exact ⟨_, hi⟩
      · exact ⟨_, g2⟩
    obtain ⟨d1, k1⟩ := k1
    obtain ⟨d2, k2⟩ := k2
    exact e.ap j k d1 d2 b hjk k1 k2 s1 s2
  · rcases get_set h with ⟨rfl, hl, e1⟩ | ⟨hij, h⟩
    · cases e1
    · obtain ⟨b, q1, q2, q3, q4⟩ := e.od j ds' h
      exact ⟨b, q1, q2, q3, by rw [upd_ne (fun z => by rw [z, h4] at q4; cases q4)]; exact q4⟩
  · rcases get_set g1 with ⟨rfl, hl, e1⟩ | ⟨hij, g1⟩
    · cases e1
    · rcases get_set g2 with ⟨rfl, hl, e1⟩ | ⟨hik, g2⟩
      · cases e1
      · exact e.ad j k ds' es' b hjk g1 g2 s1 s2
/-- an own list or dict is shown to all -/
def fz1 (ρ : Rho) (i : Nat) : Rho := match ρ[i]? with
  | some (.ow ds) => ρ.set i (.sh (.list ds))
  | some (.od es) => ρ.set i (.fd es)
  | _ => ρ
def fzs (S : List Nat) (ρ : Rho) : Rho := S.foldl fz1 ρ
theorem EnvO.fz1 (x : Ext G0 B G H) (e : EnvO p B G σ H ρ) (i : Nat) : ∃ G1, Kp G G1 ∧ Ext G0 B G1 H ∧ EnvO p B G1 σ H (J.fz1 ρ i) := by
  unfold J.fz1
  split
  · rename_i ds hi
    obtain ⟨a, vs, h1, h2, h3, h4, h5⟩ := e.ow i ds hi
    have k : Kp G (upd G a (.lst vs)) := Kp.new h3
    refine ⟨upd G a (.lst vs), k, ⟨x.g.trans k, x.h, fun b o z => ?_, fun b z => ?_, x.t⟩, ⟨⟨by rw [List.length_set]; exact e.e.len, fun j d h => ?_, fun j c h => ?_, fun j c h => ?_⟩, fun j ds' h => ?_, fun j k ds' es' b hjk g1 g2 s1 s2 => ?_, fun j ds' h => ?_, fun j k ds' es' b hjk g1 g2 s1 s2 => ?_⟩⟩
    · by_cases hb : b = a
      · subst hb
        rw [upd_same] at z
        cases z
        exact ⟨rfl, h4⟩
      · rw [upd_ne hb] at z; exact x.gh b o z
    · by_cases hb : b = a
      · subst hb; exact .inr h2
      · rw [upd_ne hb] at z; exact x.n b z
    · rcases get_set h with ⟨rfl, hl, e1⟩ | ⟨hij, h⟩
      · cases e1
        exact ⟨_, h1, .lst (.inl (.inl upd_same)) (h5.kp k)⟩
      · obtain ⟨v, q1, q2⟩ := e.e.sh j d h
        exact ⟨v, q1, q2.kp k⟩
    · rcases get_set h with ⟨rfl, hl, e1⟩ | ⟨hij, h⟩
      · cases e1
      · exact e.e.ex j c h
    · rcases get_set h with ⟨rfl, hl, e1⟩ | ⟨hij, h⟩
      · cases e1
      · obtain ⟨b, q1, q2⟩ := e.e.fd j c h
        exact ⟨b, q1, k _ _ q2 rfl⟩
    · rcases get_set h with ⟨rfl, hl, e1⟩ | ⟨hij, h⟩
      · cases e1
      · obtain ⟨b, us, q1, q2, q3, q4, q5⟩ := e.ow j ds' h
        refine ⟨b, us, q1, q2, ?_, q4, q5.kp k⟩
        rw [upd_ne (fun z => e.ap i j ds ds' a hij hi h h1 (by rw [← z]; exact q1))]
        exact q3
    · rcases get_set g1 with ⟨rfl, hl, e1⟩ | ⟨hij, g1⟩
      · cases e1
      · rcases get_set g2 with ⟨rfl, hl, e1⟩ | ⟨hik, g2⟩
        · cases e1
        · exact e.ap j _ ds' es' b hjk g1 g2 s1 s2
    · rcases get_set h with ⟨rfl, hl, e1⟩ | ⟨hij, h⟩
      · cases e1
      · obtain ⟨b, q1, q2, q3, q4⟩ := e.od j ds' h
        exact ⟨b, q1, q2, by rw [upd_ne (fun z => by rw [z, h4] at q4; cases q4)]; exact q3, q4⟩
    · rcases get_set g1 with ⟨rfl, hl, e1⟩ | ⟨hij, g1⟩
      · cases e1
      · rcases get_set g2 with ⟨rfl, hl, e1⟩ | ⟨hik, g2⟩
        · cases e1
        · exact e.ad j _ ds' es' b hjk g1 g2 s1 s2
  · rename_i es hi
    obtain ⟨a, h1, h2, h3, h4⟩ := e.od i es hi
    have k : Kp G (upd G a (.dK (dkV es))) := Kp.new h3
    refine ⟨upd G a (.dK (dkV es)), k, ⟨x.g.trans k, x.h, fun b o z => ?_, fun b z => ?_, x.t⟩, ⟨⟨by rw [List.length_set]; exact e.e.len, fun j d h => ?_, fun j c h => ?_, fun j c h => ?_⟩, fun j ds' h => ?_, fun j k ds' es' b hjk g1 g2 s1 s2 => ?_, fun j ds' h => ?_, fun j k ds' es' b hjk g1 g2 s1 s2 => ?_⟩⟩
    · by_cases hb : b = a
      · subst hb
        rw [upd_same] at z
        cases z
        exact ⟨rfl, h4⟩
      · rw [upd_ne hb] at z; exact x.gh b o z
    · by_cases hb : b = a
      · subst hb; exact .inr h2
      · rw [upd_ne hb] at z; exact x.n b z
    · rcases get_set h with ⟨rfl, hl, e1⟩ | ⟨hij, h⟩
      · cases e1
      · obtain ⟨v, q1, q2⟩ := e.e.sh j d h
        exact ⟨v, q1, q2.kp k⟩
    · rcases get_set h with ⟨rfl, hl, e1⟩ | ⟨hij, h⟩
      · cases e1
      · exact e.e.ex j c h
    · rcases get_set h with ⟨rfl, hl, e1⟩ | ⟨hij, h⟩
      · cases e1
        exact ⟨a, h1, upd_same⟩
      · obtain ⟨b, q1, q2⟩ := e.e.fd j c h
        exact ⟨b, q1, k _ _ q2 rfl⟩
    · rcases get_set h with ⟨rfl, hl, e1⟩ | ⟨hij, h⟩
      · cases e1
      · obtain ⟨b, us, q1, q2, q3, q4, q5⟩ := e.ow j ds' h
        exact ⟨b, us, q1, q2, by rw [upd_ne (fun z => by rw [z, h4] at q4; cases q4)]; exact q3, q4, q5.kp k⟩
    · rcases get_set g1 with ⟨rfl, hl, e1⟩ | ⟨hij, g1⟩
      · cases e1
      · rcases get_set g2 with ⟨rfl, hl, e1⟩ | ⟨hik, g2⟩
        · cases e1
        · exact e.ap j _ ds' es' b hjk g1 g2 s1 s2
    · rcases get_set h with ⟨rfl, hl, e1⟩ | ⟨hij, h⟩
      · cases e1
      · obtain ⟨b, q1, q2, q3, q4⟩ := e.od j ds' h
        exact ⟨b, q1, q2, by rw [upd_ne (fun z => e.ad i j es ds' a hij hi h h1 (by rw [← z]; exact q1))]; exact q3, q4⟩
    · rcases get_set g1 with ⟨rfl, hl, e1⟩ | ⟨hij, g1⟩
      · cases e1
      · rcases get_set g2 with ⟨rfl, hl, e1⟩ | ⟨hik, g2⟩
        · cases e1
        · exact e.ad j _ ds' es' b hjk g1 g2 s1 s2
  · exact ⟨G, Kp.refl _, x, e⟩
theorem EnvO.fzs : ∀ (S : List Nat) {G : Hp} {ρ : Rho}, Ext G0 B G H → EnvO p B G σ H ρ → ∃ G1, Kp G G1 ∧ Ext G0 B G1 H ∧ EnvO p B G1 σ H (J.fzs S ρ)
  | [], G, ρ, x, e => ⟨G, Kp.refl _, x, e⟩
  | i :: S, G, ρ, x, e => by
    obtain ⟨G1, k1, x1, e1⟩ := e.fz1 x i
    obtain ⟨G2, k2, x2, e2⟩ := EnvO.fzs S x1 e1
    exact ⟨G2, k1.trans k2, x2, e2⟩
end

/-! ### statements -/
inductive SRes where
  | nx (ρ : Rho) | rt (d : D) | rtO (ds : List D) | bk (ρ : Rho) | ct (ρ : Rho) | ex (c : Xc) (ρ : Rho) | bad
def Post (p : Pm) (G0 B G : Hp) (ρ : Rho) (Q : L2.St → Hp → Prop) : Prop := ∀ σ' G' H', Ext G0 B G' H' → Kp G G' → EnvO p B G' σ' H' ρ → Q σ' H'
def sR (p : Pm) (G0 B G : Hp) (De : Ends) : SRes → Prop
  | .nx ρ => Post p G0 B G ρ De.nx
  | .bk ρ => Post p G0 B G ρ De.bk
  | .ct ρ => Post p G0 B G ρ De.ct
  | .ex c ρ => Post p G0 B G ρ fun σ' H' => p.W (.ref (p.ec c)) none σ' H'
  | .rt d => ∀ v G' H', Ext G0 B G' H' → Dv p.K G' v d → De.rt v H'
  | .rtO ds => ∀ q vs G' H', Ext G0 B G' H' → B q = none → G' q = none → H' q = some (.lst vs) → DvAll p.K G' vs ds → De.rt (.ref q) H'
  | .bad => False
def sS (p : Pm) (g : Rho → SRes) : TS := fun De σ H => ∃ G0 B G ρ, Ext G0 B G H ∧ EnvO p B G σ H ρ ∧ TBs p.tb B ∧ sR p G0 B G De (g ρ)
theorem Post.kp {p : Pm} {G0 B G G1 : Hp} {ρ : Rho} {Q : L2.St → Hp → Prop} (h : Post p G0 B G ρ Q) (k : Kp G G1) : Post p G0 B G1 ρ Q := fun σ' G' H' x k' e => h σ' G' H' x (k.trans k') e
theorem sR.kp {p : Pm} {G0 B G G1 : Hp} {De : Ends} {r : SRes} (h : sR p G0 B G De r) (k : Kp G G1) : sR p G0 B G1 De r := by
  cases r <;> first | exact Post.kp h k | exact h
theorem sR.mono {p : Pm} {G0 B G : Hp} {De De' : Ends} {r : SRes} (h : sR p G0 B G De r) (nx : ∀ σ H, De.nx σ H → De'.nx σ H) (rt : ∀ v H, De.rt v H → De'.rt v H) (bk : ∀ σ H, De.bk σ H → De'.bk σ H) (ct : ∀ σ H, De.ct σ H → De'.ct σ H) : sR p G0 B G De' r := by
  cases r with
  | nx ρ => exact fun σ' G' H' x k e => nx _ _ (h σ' G' H' x k e)
  | bk ρ => exact fun σ' G' H' x k e => bk _ _ (h σ' G' H' x k e)
  | ct ρ => exact fun σ' G' H' x k e => ct _ _ (h σ' G' H' x k e)
  | ex c ρ => exact h
  | rt d => exact fun v G' H' x r => rt _ _ (h v G' H' x r)
  | rtO d => exact fun q vs G' H' x a b c r => rt _ _ (h q vs G' H' x a b c r)
  | bad => exact h
def evS {α : Type} (r : Res α) (ρ : Rho) (k : α → SRes) : SRes := match r with
  | .ok a => k a
  | .ex c => .ex c ρ
  | .bad => .bad
@[simp] theorem evS_ok {α : Type} (a : α) (ρ : Rho) (k : α → SRes) : evS (.ok a) ρ k = k a := rfl
@[simp] theorem evS_ex {α : Type} (c : Xc) (ρ : Rho) (k : α → SRes) : evS (.ex c) ρ k = .ex c ρ := rfl
@[simp] theorem evS_bad {α : Type} (ρ : Rho) (k : α → SRes) : evS .bad ρ k = .bad := rfl
section
variable {X : Cx} {p : Pm} {G0 B G H : Hp} {σ : L2.St} {ρ : Rho} {De : Ends}
/-- after a borrowed reading all is as it was, the heap grown -/
theorem Ext.back {G1 G' H' : Hp} (x : Ext G0 B G H) (e : Ext G1 H G' H') : Ext G0 B G H' where
  g := x.g
  h := x.h.trans e.h
  gh := x.gh.trans e.h
  n := x.n
  t := fun a ps z => by
    obtain ⟨p1, h1, i1⟩ := x.t a ps z
    obtain ⟨p2, h2, i2⟩ := e.t a p1 h1
    exact ⟨p2, h2, fun w => i2 (i1 w)⟩
theorem ev_st {α β : Type} {rel : Hp → β → α → Prop} {f : Rho → Res α} {k : α → SRes} {Q : β → Hp → Prop} (x : Ext G0 B G H) (e : EnvO p B G σ H ρ) (ht : TBs p.tb B) (S : List Nat) (h : sR p G0 B G De (evS (f (fzs S ρ)) ρ k))
    (q : ∀ a b G' H', sR p G0 B G De (k a) → Ext G0 B G' H' → Kp G G' → EnvO p B G' σ H' (fzs S ρ) → rel G' b a → Ext G0 B G H' → EnvO p B G σ H' ρ → Kp H H' → Q b H') : sp0 p rel f σ H Q := by
  obtain ⟨G1, k1, x1, e1⟩ := e.fzs S x
  refine ⟨G1, fzs S ρ, e1.e, x1.gh, ht.ext x, ?_⟩
  cases ef : f (fzs S ρ) with
  | ok a =>
    rw [ef] at h
    intro b G' H' ex r
    exact q a b G' H' h (x1.trans ex) (k1.trans ex.g) (e1.ext ex) r (x.back ex) (e.grow ex.h) ex.h
  | ex c =>
    rw [ef] at h
    intro G' H' ex
    exact h σ G H' (x.back ex) (Kp.refl _) (e.grow ex.h)
  | bad => rw [ef] at h; exact h.elim
/-- the same for a new list -/
theorem ev_stN {f : Rho → Res (List D)} {k : List D → SRes} {Q : VK} (x : Ext G0 B G H) (e : EnvO p B G σ H ρ) (ht : TBs p.tb B) (S : List Nat) (h : sR p G0 B G De (evS (f (fzs S ρ)) ρ k))
    (q : ∀ ds a vs G' H', sR p G0 B G De (k ds) → Ext G0 B G' H' → Kp G G' → EnvO p B G' σ H' (fzs S ρ) → H a = none → G' a = none → H' a = some (.lst vs) → DvAll p.K G' vs ds → Ext G0 B G H' → EnvO p B G σ H' ρ → Kp H H' → Q (.ref a) H') : nS p f σ H Q := by
  obtain ⟨G1, k1, x1, e1⟩ := e.fzs S x
  refine ⟨G1, fzs S ρ, e1.e, x1.gh, ht.ext x, ?_⟩
  cases ef : f (fzs S ρ) with
  | ok ds =>
    rw [ef] at h
    intro a vs G' H' ex h1 h2 h3 r
    exact q ds a vs G' H' h (x1.trans ex) (k1.trans ex.g) (e1.ext ex) h1 h2 h3 r (x.back ex) (e.grow ex.h) ex.h
  | ex c =>
    rw [ef] at h
    intro G' H' ex
    exact h σ G H' (x.back ex) (Kp.refl _) (e.grow ex.h)
  | bad => rw [ef] at h; exact h.elim
/-! rules -/
def setR (S : List Nat) (i : Nat) (f : Rho → Res D) : Rho → SRes := fun ρ => evS (f (fzs S ρ)) ρ fun d => if S = [] ∨ scalD d = true then .nx (ρ.set i (.sh d)) else .bad
theorem set_read {S : List Nat} {i : Nat} {f : Rho → Res D} (h : sS p (setR S i f) De σ H) : eS p f σ H fun v H1 => De.nx (σ.set i (some v)) H1 := by
  obtain ⟨G0, B, G, ρ, x, e, ht, h⟩ := h
  refine ev_st x e ht S h fun d v G' H' hk x' k' e' r xb eb kh => ?_
  split at hk
  · rename_i hz
    rcases hz with rfl | hz
    · exact hk _ G' H' x' k' (e'.set i r)
    · exact hk _ G H' xb (Kp.refl _) (eb.set i (Dv.scal r hz))
  · exact hk.elim
theorem s_set (S : List Nat) {i : Nat} {y : Str} {e : Expr} {f : Rho → Res D} {py pos : Pos} (hN : X.N.Nodup) (hi : X.N[i]? = some y) (hx : Loc X.env.scope y) (he : PE X e (eS p f)) (hs : swapsWith e (some (.Name y py)) pos.line X.env = pure false)
    (hf : X.fn y = true ∨ X.env.scope.names.lookup y = some .local) : PS X (.Assign [.Name y py] e pos) (sS p (setR S i f)) := (ps_set hN hi hx he hs).imp fun De σ H h => set_read h
end
end J

set_option linter.all false
set_option maxRecDepth 100000
set_option maxHeartbeats 4000000
namespace J
open PySem PySem.Spec PyProof.Rows L2 RZ
section
variable {X : Cx} {p : Pm} {σ : L2.St} {H : Hp} {De : Ends} {e : Expr} {f : Rho → Res D} {pos : Pos}
/-! blocks -/
def nxR : Rho → SRes := fun ρ => .nx ρ
def seqR (g h : Rho → SRes) : Rho → SRes := fun ρ => match g ρ with
  | .nx ρ' => h ρ'
  | r => r
theorem b_nil : PSs X [] (sS p nxR) := pss_nil.imp fun De σ H ⟨G0, B, G, ρ, x, e, ht, h⟩ => h σ G H x (Kp.refl _) e
theorem b_cons {st : Stmt} {rest : List Stmt} {g h : Rho → SRes} (h1 : PS X st (sS p g)) (h2 : PSs X rest (sS p h)) : PSs X (st :: rest) (sS p (seqR g h)) := (pss_cons h1 h2).imp fun De σ H hh => by
  obtain ⟨G0, B, G, ρ, x, e, ht, hh⟩ := hh
  refine ⟨G0, B, G, ρ, x, e, ht, ?_⟩
  unfold seqR at hh
  cases q : g ρ with
  | nx ρ' =>
    rw [q] at hh
    intro σ' G' H' x' k' e'
    exact ⟨G0, B, G', ρ', x', e', ht, sR.kp hh k'⟩
  | rt d => rw [q] at hh; exact hh
  | rtO d => rw [q] at hh; exact hh
  | bk ρ' => rw [q] at hh; exact hh
  | ct ρ' => rw [q] at hh; exact hh
  | ex c ρ' => rw [q] at hh; exact hh
  | bad => rw [q] at hh; exact hh
theorem b_one {st : Stmt} {g : Rho → SRes} (h1 : PS X st (sS p g)) : PSs X [st] (sS p g) := (pss_one h1).imp fun De σ H hh => hh
/-- own lists are shown to all ahead of a block -/
def fzR (S : List Nat) (g : Rho → SRes) : Rho → SRes := fun ρ => g (fzs S ρ)
theorem b_fz {sts : List Stmt} {g : Rho → SRes} (S : List Nat) (h : PSs X sts (sS p g)) : PSs X sts (sS p (fzR S g)) := h.imp fun De σ H hh => by
  obtain ⟨G0, B, G, ρ, x, e, ht, hh⟩ := hh
  obtain ⟨G1, k1, x1, e1⟩ := e.fzs S x
  exact ⟨G0, B, G1, _, x1, e1, ht, sR.kp hh k1⟩
/-- slots forgotten ahead of a block -/
def fgR (fs : List Nat) (g : Rho → SRes) : Rho → SRes := fun ρ => g (forget fs ρ)
theorem b_fg {sts : List Stmt} {g : Rho → SRes} (fs : List Nat) (h : PSs X sts (sS p g)) : PSs X sts (sS p (fgR fs g)) := h.imp fun De σ H hh => by
  obtain ⟨G0, B, G, ρ, x, e, ht, hh⟩ := hh
  exact ⟨G0, B, G, _, x, EnvO.forget fs e, ht, hh⟩
/-! stores -/
theorem s_setLc (S : List Nat) {i : Nat} {st : Stmt} {fn : Rho → Res (List D)} (h : PS X st (tAsg (nS p fn) (gName i))) : PS X st (sS p (setR [] i (nE fn))) := h.imp fun De σ H hh => by
  obtain ⟨G0, B, G, ρ, x, e, ht, hh⟩ := hh
  have hh' : sR p G0 B G De (evS (fn (fzs [] ρ)) ρ fun ds => .nx (ρ.set i (.sh (.list ds)))) := by
    unfold setR nE at hh
    cases q : fn (fzs [] ρ) with
    | ok ds => rw [q] at hh; simpa using hh
    | ex c => rw [q] at hh; exact hh
    | bad => rw [q] at hh; exact hh
  refine ev_stN x e ht [] hh' fun ds a vs G' H' hk x' k' e' h1 h2 h3 r xb eb kh => ?_
  have xs : Ext G0 B (upd G' a (.lst vs)) H' := x'.show (x.free h1) h2 h3
  have ks : Kp G' (upd G' a (.lst vs)) := Kp.upd h2
  refine hk _ (upd G' a (.lst vs)) H' xs (k'.trans ks) (EnvO.set ⟨e'.e.kp ks, fun j es hj => ?_, e'.ap, fun j es hj => ?_, e'.ad⟩ i (.lst (.inl (.inl upd_same)) (r.kp ks)))
  · obtain ⟨b, us, q1, q2, q3, q4, q5⟩ := e'.ow j es hj
    obtain ⟨b', us', q1', _, _, q4', _⟩ := e.ow j es hj
    refine ⟨b, us, q1, q2, ?_, q4, q5.kp ks⟩
    rw [upd_ne ?_]
    · exact q3
    · intro z
      subst z
      rw [q1] at q1'
      cases q1'
      rw [h1] at q4'
      cases q4'
  · obtain ⟨b, q1, q2, q3, q4⟩ := e'.od j es hj
    exact ⟨b, q1, q2, by rw [upd_ne (fun z => by rw [z, h3] at q4; cases q4)]; exact q3, q4⟩
def ownR (S : List Nat) (i : Nat) (f : Rho → Res (List D)) : Rho → SRes := fun ρ => evS (f (fzs S ρ)) ρ fun ds => if S = [] ∨ ds.all scalD = true then .nx (ρ.set i (.ow ds)) else .bad
theorem DvAll.scal {K : PySem.W.Frag} {G H : Hp} : ∀ {vs : List V} {ds : List D}, DvAll K G vs ds → ds.all scalD = true → DvAll K H vs ds
  | _, _, .nil, _ => .nil
  | _, _, .cons r a, h => by
    rw [List.all_cons, Bool.and_eq_true] at h
    exact .cons (Dv.scal r h.1) (DvAll.scal a h.2)
theorem own_read {S : List Nat} {i : Nat} {f : Rho → Res (List D)} (h : sS p (ownR S i f) De σ H) : nS p f σ H fun v H1 => De.nx (σ.set i (some v)) H1 := by
  obtain ⟨G0, B, G, ρ, x, e, ht, h⟩ := h
  refine ev_stN x e ht S h fun ds a vs G' H' hk x' k' e' h1 h2 h3 r xb eb kh => ?_
  have na : ∀ (j : Nat) (es : List D), ρ[j]? = some (Sl.ow es) → σ[j]? ≠ some (some (V.ref a)) := fun j es hj z => by
    obtain ⟨b, us, q1, _, _, q4, _⟩ := e.ow j es hj
    rw [z] at q1
    cases q1
    rw [h1] at q4
    cases q4
  split at hk
  · rename_i hz
    rcases hz with rfl | hz
    · exact hk _ G' H' x' k' (e'.own i (x.free h1) h2 h3 r fun j es _ hj => na j es hj)
    · exact hk _ G H' xb (Kp.refl _) (eb.own i (x.free h1) (x.gh.none h1) h3 (DvAll.scal r hz) fun j es _ hj => na j es hj)
  · exact hk.elim
theorem s_own (S : List Nat) {i : Nat} {y : Str} {fn : Rho → Res (List D)} {py : Pos} (hN : X.N.Nodup) (hi : X.N[i]? = some y) (hx : Loc X.env.scope y) (he : PE X e (nS p fn)) (hs : swapsWith e (some (.Name y py)) pos.line X.env = pure false)
    (hf : X.fn y = true ∨ X.env.scope.names.lookup y = some .local) : PS X (.Assign [.Name y py] e pos) (sS p (ownR S i fn)) := (ps_set hN hi hx he hs).imp fun De σ H h => own_read h
theorem s_ownLc (S : List Nat) {i : Nat} {st : Stmt} {fn : Rho → Res (List D)} (h : PS X st (tAsg (nS p fn) (gName i))) : PS X st (sS p (ownR S i fn)) := h.imp fun De σ H h => own_read h
/-! a, b = e -/
def asgR (b : D → Rho → Res Rho) (f : Rho → Res D) : Rho → SRes := fun ρ => evS (f ρ) ρ fun d => match b d ρ with
  | .ok ρ' => .nx ρ'
  | _ => .bad
theorem s_asg {tg : Expr} {g : TG} {b : D → Rho → Res Rho} {vs : List Nat} (gd : GD p.K g b vs) (he : PE X e (eS p f)) (hg : PG X tg g) (hs : swapsWithSole [tg] e pos.line X.env = pure false) (hw : swappedStores [tg] e X.env = pure none)
    (h1 : (assignEach [tg] X.env).map (·.2) = [assign tg X.env]) : PS X (.Assign [tg] e pos) (sS p (asgR b f)) := (ps_asg he hg hs hw h1).imp fun De σ H h => by
  obtain ⟨G0, B, G, ρ, x, e, ht, h⟩ := h
  refine ev_st x e ht [] h fun d v G' H' hk x' k' e' r xb eb kh => ?_
  rcases gd v d G' H' r x'.gh with ⟨L, s1, m1, eb1, q1⟩ | z
  · rw [eb1] at hk
    exact q1 _ _ (hk _ G' H' x' k' (EnvO.sto s1 e'))
  · rw [z] at hk
    exact hk.elim
/-- a, b = e1, e2 -/
def parR (S : List Nat) (i j : Nat) (f : Rho → Res (List D)) : Rho → SRes := fun ρ => evS (f (fzs S ρ)) ρ fun ds => match ds with
  | [u, v] => if S = [] ∨ (scalD u = true ∧ scalD v = true) then .nx ((ρ.set i (.sh u)).set j (.sh v)) else .bad
  | _ => .bad
theorem s_par (S : List Nat) {i j : Nat} {x y : Str} {a b : Expr} {fa : Rho → Res (List D)} {px py pt : Pos} {kt k2 pt2} (hc : X.calm = true) (hN : X.N.Nodup) (hi : X.N[i]? = some x) (hj : X.N[j]? = some y) (hij : i ≠ j)
    (hx : X.env.scope.names.lookup x = some .local) (hy : X.env.scope.names.lookup y = some .local) (ha : PA X [a, b] (aS p fa))
    (hw : swappedStores [.Tuple [.Name x px, .Name y py] kt pt] (.Tuple [a, b] k2 pt2) X.env = pure (some [x, y]))
    (hs : swapsWithSole [.Tuple [.Name x px, .Name y py] kt pt] (.Tuple [a, b] k2 pt2) pos.line X.env = pure false) :
    PS X (.Assign [.Tuple [.Name x px, .Name y py] kt pt] (.Tuple [a, b] k2 pt2) pos) (sS p (parR S i j fa)) := (ps_par hc hN hi hj hij hx hy ha hw hs).imp fun De σ H h => by
  obtain ⟨G0, B, G, ρ, x, e, ht, h⟩ := h
  refine ev_st x e ht S h fun ds vs G' H' hk x' k' e' r xb eb kh => ?_
  have r : DvAll p.K G' vs ds := r
  split at hk
  · cases r with
    | cons r1 r =>
      cases r with
      | cons r2 r =>
        cases r
        refine ⟨_, _, rfl, ?_⟩
        split at hk
        · rename_i hz
          rcases hz with rfl | hz
          · exact hk _ G' H' x' k' ((e'.set i r1).set j r2)
          · exact hk _ G H' xb (Kp.refl _) ((eb.set i (Dv.scal r1 hz.1)).set j (Dv.scal r2 hz.2))
        · exact hk.elim
  · exact hk.elim
/-- x += e (ints) -/
def addI : D → D → Res D
  | .int i, .int j => .ok (.int (i + j))
  | _, _ => .bad
def augR (S : List Nat) (i : Nat) (f : Rho → Res D) : Rho → SRes := fun ρ => (match ρ[i]? with
  | some (.sh a) => evS (f (fzs S ρ)) ρ fun d => evS (addI a d) ρ fun r => .nx (ρ.set i (.sh r))
  | _ => .bad)
theorem s_augAdd (S : List Nat) {i : Nat} {x : Str} {pos' : Pos} (hN : X.N.Nodup) (hi : X.N[i]? = some x) (hx : Loc X.env.scope x) (he : PE X e (eS p f)) (hf : X.fn x = true ∨ X.env.scope.names.lookup x = some .local) :
    PS X (.AugAssign (.Name x pos') .Add e pos) (sS p (augR S i f)) := (ps_aug hN hi hx he ip_add hf).imp fun De σ H h => by
  obtain ⟨G0, B, G, ρ, x, e, ht, h⟩ := h
  unfold augR at h
  split at h
  · rename_i a ha
    obtain ⟨v, hv, rv⟩ := e.e.sh i a ha
    refine ⟨v, hv, ev_st x e ht S h fun d w G' H' hk x' k' e' r xb eb kh => ?_⟩
    have r : Dv p.K G' w d := r
    cases rv <;> cases r <;> first | exact (show False from hk).elim | skip
    rename_i i1 j1
    exact ⟨i1, j1, rfl, rfl, hk _ G H' xb (Kp.refl _) (eb.set i (.int _))⟩
  · exact h.elim
/-! expressions as statements -/
def exR (S : List Nat) (f : Rho → Res D) : Rho → SRes := fun ρ => evS (f (fzs S ρ)) ρ fun _ => .nx ρ
theorem s_expr (S : List Nat) (he : PE X e (eS p f)) (hs : swapsWith e none pos.line X.env = pure false) : PS X (.Expr e pos) (sS p (exR S f)) := (ps_expr he hs).imp fun De σ H h => by
  obtain ⟨G0, B, G, ρ, x, e, ht, h⟩ := h
  exact ev_st x e ht S h fun d w G' H' hk x' k' e' r xb eb kh => hk _ G H' xb (Kp.refl _) eb
/-- xs.append(e) -/
def appR (S : List Nat) (i : Nat) (f : Rho → Res D) : Rho → SRes := fun ρ => (match ρ[i]? with
  | some (.ow ds) => evS (f (fzs S ρ)) ρ fun d => if (S = [] ∨ scalD d = true) ∧ ds.length < 16777216 then .nx (ρ.set i (.ow (ds ++ [d]))) else .bad
  | _ => .bad)
theorem s_app (S : List Nat) {i : Nat} {o : Expr} {apos cpos : Pos} (ho : PE X o (tVar i)) (he : PE X e (eS p f)) (hbase : attributeBase o "append" X.env (eval o X.env) = eval o X.env)
    (hfew : ((backTo cpos (starEach (e :: []) X.env)).all (fun x => !x.1) && (backToKw cpos (keywordEach [] X.env)).all (fun x => x.1.isSome) && decide ((e :: []).length + ([] : List Keyword).length + (if ([] : List Keyword).isEmpty then 0 else 1) < 30)) = true)
    (hline : (apos.endLine == cpos.line) = true) (hse : starEach (e :: []) X.env = (false, eval e X.env) :: starEach [] X.env) (hplain : (backTo cpos (starEach [] X.env)).any (·.1) = false) (hs : swapsWith (.Call (.Attribute o "append" apos) [e] [] cpos) none pos.line X.env = pure false) :
    PS X (.Expr (.Call (.Attribute o "append" apos) [e] [] cpos) pos) (sS p (appR S i f)) := (ps_expr (pe_bm PySem.F.plainAttrs_list PySem.F.slot_list_append PySem.F.type_list_append mt_append ho (pa_cons he pa_nil hse) hbase hfew hline hse hplain) hs).imp fun De σ H h => by
  obtain ⟨G0, B, G, ρ, x, e, ht, h⟩ := h
  unfold appR at h
  split at h
  · rename_i ds hi
    obtain ⟨a, vs, h1, h2, h3, h4, h5⟩ := e.ow i ds hi
    refine ⟨_, h1, .inl ⟨rfl, _, .inl (.inl h4)⟩, ?_⟩
    refine ev_st x e ht S h fun d w G' H' hk x' k' e' r xb eb kh => ?_
    have r : Dv p.K G' w d := r
    split at hk
    · rename_i hz
      have h4' : H' a = some (.lst vs) := kh _ _ h4 rfl
      refine ⟨a, vs, w, rfl, rfl, h4', by rw [sizeLine_eq, h5.length]; exact hz.2, ?_⟩
      rcases hz.1 with rfl | hz
      · obtain ⟨g1, g2⟩ := e'.mut x' i hi h1 h4' ((h5.kp k').append (.cons r .nil))
        exact hk σ G' _ g2 k' g1
      · obtain ⟨g1, g2⟩ := eb.mut xb i hi h1 h4' (h5.append (.cons (Dv.scal r hz) .nil))
        exact hk σ G _ g2 (Kp.refl _) g1
    · exact hk.elim
  · exact h.elim
/-- xs[at] = e -/
def siR (S : List Nat) (i : Nat) (fi f : Rho → Res D) : Rho → SRes := fun ρ => evS (f (fzs S ρ)) ρ fun d => (match ρ[i]? with
  | some (.ow ds) => evS (fi (fzs S ρ)) ρ fun k => (match k with
    | .int k => (match ixN ds.length k with
      | some j => if scalD d = true ∨ S = [] then .nx (ρ.set i (.ow (ds.set j d))) else .bad
      | none => .bad)
    | _ => .bad)
  | _ => .bad)
theorem s_setI (S : List Nat) {i : Nat} {o ie : Expr} {fi : Rho → Res D} {tg : Expr} (hp : PG X tg (gSub (tVar i) (eS p fi) rSetL)) (he : PE X e (eS p f)) (hs : swapsWithSole [tg] e pos.line X.env = pure false) (hw : swappedStores [tg] e X.env = pure none)
    (h1 : (assignEach [tg] X.env).map (·.2) = [assign tg X.env]) : PS X (.Assign [tg] e pos) (sS p (siR S i fi f)) := (ps_asg he hp hs hw h1).imp fun De σ H h => by
  obtain ⟨G0, B, G, ρ, x, e, ht, h⟩ := h
  refine ev_st x e ht S h fun d w G' H' hk x' k' e' r xb eb kh => ?_
  have r : Dv p.K G' w d := r
  split at hk
  · rename_i ds hi
    obtain ⟨a, vs, h1, h2, h3, h4, h5⟩ := e.ow i ds hi
    refine ⟨_, h1, ?_⟩
    -- the index
    have fin : ∀ (G2 H1 : Hp) (k : Int) (j : Nat), Kp H' H1 → ixN ds.length k = some j → sR p G0 B G2 De (.nx (ρ.set i (.ow (ds.set j d)))) → Ext G0 B G2 H1 → Kp G G2 → EnvO p B G2 σ H1 ρ → Dv p.K G2 w d → rSetL (.ref a) (.int k) w H1 fun H3 => De.nx σ H3 := by
      intro G2 H1 k j kh1 hj hn y1 y2 y3 y4
      have h4' : H1 a = some (.lst vs) := kh1 _ _ (kh _ _ h4 rfl) rfl
      refine ⟨a, vs, k, j, rfl, rfl, h4', by rw [h5.length]; exact hj, ?_⟩
      obtain ⟨g1, g2⟩ := y3.mut y1 i hi h1 h4' (DvAll.set y4 j (h5.kp y2))
      exact hn σ G2 _ g2 (Kp.refl _) g1
    cases S with
    | nil =>
      refine ev_st (f := fi) x' e' ht [] (sR.kp hk k') fun k u G2 H2 hk2 x2 k2 e2 r2 xb2 eb2 kh2 => ?_
      have r2 : Dv p.K G2 u k := r2
      cases r2 <;> first | exact (show False from hk2).elim | skip
      rename_i k
      have hk2 : sR p G0 B G' De (match ixN ds.length k with
          | some j => if scalD d = true ∨ ([] : List Nat) = [] then .nx (ρ.set i (.ow (ds.set j d))) else .bad
          | none => .bad) := hk2
      split at hk2
      · rename_i j hj
        rw [if_pos (.inr rfl)] at hk2
        exact fin G' H2 _ j kh2 hj hk2 xb2 k' eb2 r
      · exact hk2.elim
    | cons s S =>
      refine ev_st (f := fi) xb eb ht (s :: S) hk fun k u G2 H2 hk2 x2 k2 e2 r2 xb2 eb2 kh2 => ?_
      have r2 : Dv p.K G2 u k := r2
      cases r2 <;> first | exact (show False from hk2).elim | skip
      rename_i k
      have hk2 : sR p G0 B G De (match ixN ds.length k with
          | some j => if scalD d = true ∨ (s :: S) = [] then .nx (ρ.set i (.ow (ds.set j d))) else .bad
          | none => .bad) := hk2
      split at hk2
      · rename_i j hj
        split at hk2
        · rename_i hz
          have hz' : scalD d = true := hz.elim id fun z => by cases z
          exact fin G H2 _ j kh2 hj hk2 xb2 (Kp.refl _) eb2 (Dv.scal r hz')
        · exact hk2.elim
      · exact hk2.elim
  · exact hk.elim
/-! returns -/
def retR (S : List Nat) (f : Rho → Res D) : Rho → SRes := fun ρ => evS (f (fzs S ρ)) ρ fun d => .rt d
theorem s_ret (S : List Nat) (he : PE X e (eS p f)) : PS X (.Return (some e) pos) (sS p (retR S f)) := (ps_ret he).imp fun De σ H h => by
  obtain ⟨G0, B, G, ρ, x, e, ht, h⟩ := h
  exact ev_st x e ht S h fun d w G' H' hk x' k' e' r xb eb kh => hk w G' H' x' r
def retN : Rho → SRes := fun _ => .rt .none
theorem s_retN : PS X (.Return none pos) (sS p retN) := ps_retN.imp fun De σ H ⟨G0, B, G, ρ, x, e, ht, h⟩ => h .non G H x .non
/-- an own list goes out -/
def retO (i : Nat) : Rho → SRes := fun ρ => (match ρ[i]? with
  | some (.ow ds) => .rtO ds
  | _ => .bad)
theorem s_retO {i : Nat} {o : Expr} (ho : PE X o (tVar i)) : PS X (.Return (some o) pos) (sS p (retO i)) := (ps_ret ho).imp fun De σ H h => by
  obtain ⟨G0, B, G, ρ, x, e, ht, h⟩ := h
  unfold retO at h
  split at h
  · rename_i ds hi
    obtain ⟨a, vs, h1, h2, h3, h4, h5⟩ := e.ow i ds hi
    exact ⟨_, h1, h a vs G H x h2 h3 h4 h5⟩
  · exact h.elim
/-- a new list goes out -/
def retL (S : List Nat) (f : Rho → Res (List D)) : Rho → SRes := fun ρ => evS (f (fzs S ρ)) ρ fun ds => .rtO ds
theorem s_retL (S : List Nat) {fn : Rho → Res (List D)} (he : PE X e (nS p fn)) : PS X (.Return (some e) pos) (sS p (retL S fn)) := (ps_ret he).imp fun De σ H h => by
  obtain ⟨G0, B, G, ρ, x, e, ht, h⟩ := h
  exact ev_stN x e ht S h fun ds a vs G' H' hk x' k' e' h1 h2 h3 r xb eb kh => hk a vs G' H' x' (x.free h1) h2 h3 r
/-! if -/
def ifR (S : List Nat) (t : Rho → Res Bool) (g h : Rho → SRes) : Rho → SRes := fun ρ => evS (t (fzs S ρ)) ρ fun c => if c = true then g ρ else h ρ
theorem s_if (S : List Nat) {c : Expr} {a b : List Stmt} {t : Rho → Res Bool} {g h : Rho → SRes} (hc : PT X c (tS p t)) (ha : PSs X a (sS p g)) (hb : PSs X b (sS p h)) : PS X (.If c a b pos) (sS p (ifR S t g h)) := (ps_if hc ha hb).imp fun De σ H hh => by
  obtain ⟨G0, B, G, ρ, x, e, ht, hh⟩ := hh
  refine ev_st x e ht S hh fun c c' G' H' hk x' k' e' r xb eb kh => ?_
  obtain rfl : c' = c := r
  cases c' with
  | true => exact ⟨G0, B, G, ρ, xb, eb, ht, hk⟩
  | false => exact ⟨G0, B, G, ρ, xb, eb, ht, hk⟩
theorem s_pass : PS X (.Pass pos) (sS p nxR) := ps_pass.imp fun De σ H ⟨G0, B, G, ρ, x, e, ht, h⟩ => h σ G H x (Kp.refl _) e
def brkR : Rho → SRes := fun ρ => .bk ρ
def ctnR : Rho → SRes := fun ρ => .ct ρ
theorem s_brk : PS X (.Break pos) (sS p brkR) := ps_break.imp fun De σ H ⟨G0, B, G, ρ, x, e, ht, h⟩ => h σ G H x (Kp.refl _) e
theorem s_ctn : PS X (.Continue pos) (sS p ctnR) := ps_continue.imp fun De σ H ⟨G0, B, G, ρ, x, e, ht, h⟩ => h σ G H x (Kp.refl _) e
/-! loops -/
def loopS (r : SRes) (k : Rho → SRes) (fs : List Nat) : SRes := match r with
  | .nx ρ => k (forget fs ρ)
  | .ct ρ => k (forget fs ρ)
  | .bk ρ => .nx (forget fs ρ)
  | r => r
def forL (b : D → Rho → Res Rho) (gb : Rho → SRes) (fs : List Nat) : List D → Rho → SRes
  | [], ρ => .nx ρ
  | d :: ds, ρ => (match b d ρ with
    | .ok ρ1 => loopS (gb ρ1) (forL b gb fs ds) fs
    | _ => .bad)
/-- a turn's end -/
theorem loop_end {G0 B G : Hp} {r : SRes} {k : Rho → SRes} {fs : List Nat} {N : L2.St → Hp → Prop} (h : sR p G0 B G De (loopS r k fs)) (hN : ∀ ρ' G' σ' H', sR p G0 B G De (k ρ') → Ext G0 B G' H' → Kp G G' → EnvO p B G' σ' H' ρ' → N σ' H') :
    sR p G0 B G { De with nx := N, ct := N, bk := De.nx } r := by
  cases r with
  | nx ρ => exact fun σ' G' H' x kk e => hN _ G' σ' H' h x kk (EnvO.forget fs e)
  | ct ρ => exact fun σ' G' H' x kk e => hN _ G' σ' H' h x kk (EnvO.forget fs e)
  | bk ρ => exact fun σ' G' H' x kk e => h σ' G' H' x kk (EnvO.forget fs e)
  | ex c ρ => exact h
  | rt d => exact h
  | rtO d => exact h
  | bad => exact h
theorem for_core {J : It} {ds : List D} {g : TG} {b : D → Rho → Res Rho} {gb : Rho → SRes} {vs fs : List Nat} {G0 B G Gw : Hp} {ρ : Rho} (gd : GD p.K g b vs) (ht : TBs p.tb B) (x : Ext G0 B G H) (kw : Kp Gw G ∨ ∀ G, Walks p.K J G ds) (e : EnvO p B G σ H ρ) (wk : Walks p.K J Gw ds) (h : sR p G0 B G De (forL b gb fs ds ρ)) :
    ∃ W : Nat → Nat → L2.St → Hp → Prop, (∃ m, W 0 m σ H) ∧ ∀ i m σ H, W i m σ H →
      (J.stop i H ∧ De.nx σ H) ∨ (J.go i H ∧ ∃ N : L2.St → Hp → Prop, (∀ σ' H', N σ' H' → ∃ m', m' < m ∧ W (i + 1) m' σ' H') ∧ ∀ x H', J.yld i H x H' → g x σ H' fun σ2 H2 => sS p gb { De with nx := N, ct := N, bk := De.nx } σ2 H2) := by
  refine ⟨fun i m σ H => m = ds.length - i ∧ i ≤ ds.length ∧ ∃ G1 ρ1, Ext G0 B G1 H ∧ Kp G G1 ∧ EnvO p B G1 σ H ρ1 ∧ sR p G0 B G1 De (forL b gb fs (ds.drop i) ρ1), ⟨_, rfl, Nat.zero_le _, G, ρ, x, Kp.refl _, e, h⟩, ?_⟩
  rintro i m σ1 H1 ⟨rfl, hi, G1, ρ1, x1, k1, e1, h1⟩
  have w : (i < ds.length → J.go i H1 ∧ ∀ x H2, J.yld i H1 x H2 → ∃ G2 d, Ext G1 H1 G2 H2 ∧ ds[i]? = some d ∧ Dv p.K G2 x d) ∧ (ds.length ≤ i → J.stop i H1) := by
    rcases kw with kw | kw
    · exact wk G1 H1 i (kw.trans k1) x1.gh
    · exact kw G1 G1 H1 i (Kp.refl _) x1.gh
  by_cases hlt : i < ds.length
  · obtain ⟨w1, w2⟩ := w.1 hlt
    refine .inr ⟨w1, fun σ2 H2 => ∃ G2 ρ2, Ext G0 B G2 H2 ∧ Kp G G2 ∧ EnvO p B G2 σ2 H2 ρ2 ∧ sR p G0 B G2 De (forL b gb fs (ds.drop (i + 1)) ρ2), fun σ2 H2 hn => ⟨_, by omega, rfl, by omega, hn⟩, fun v H2 y => ?_⟩
    obtain ⟨G2, d, ex, hd, rd⟩ := w2 v H2 y
    have ed : ds.drop i = d :: ds.drop (i + 1) := by
      obtain ⟨h5, h6⟩ := List.getElem?_eq_some_iff.mp hd
      rw [List.drop_eq_getElem_cons h5, h6]
    rw [ed] at h1
    unfold forL at h1
    rcases gd v d G2 H2 rd ex.gh with ⟨L, s1, m1, eb, q1⟩ | z
    · rw [eb] at h1
      refine q1 _ _ ⟨G0, B, G2, _, x1.trans ex, EnvO.sto s1 (e1.ext ex), ht, ?_⟩
      exact loop_end (sR.kp h1 ex.g) fun ρ' G' σ' H' hk xx kk ee => ⟨G', ρ', xx, (k1.trans ex.g).trans kk, ee, sR.kp hk kk⟩
    · rw [z] at h1
      exact h1.elim
  · have e5 : i = ds.length := by omega
    subst e5
    rw [List.drop_length] at h1
    exact .inl ⟨w.2 (Nat.le_refl _), h1 σ1 G1 H1 x1 (Kp.refl _) e1⟩
def forR (fi : Rho → Res (List D)) (b : D → Rho → Res Rho) (gb : Rho → SRes) (fs : List Nat) : Rho → SRes := fun ρ => evS (fi ρ) ρ fun ds => forL b gb fs ds (forget fs ρ)
theorem s_for {tg iter : Expr} {body : List Stmt} {fi : Rho → Res (List D)} {g : TG} {b : D → Rho → Res Rho} {gb : Rho → SRes} {vs : List Nat} (fs : List Nat) (gd : GD p.K g b vs) (hp : PassesOwn (model X.prog X.w) X.A X.env X.xe) (hc : X.calm = true) (hi : PI X tg iter (iS p fi)) (hg : PG X tg g) (hb : PSs X body (sS p gb)) (hs : ∀ x, foldedSetIterable iter X.env x = pure x) :
    PS X (.For tg iter body [] pos) (sS p (forR fi b gb fs)) := (ps_for hp hc hi hg hb hs).imp fun De σ H h => by
  obtain ⟨G0, B, G, ρ, x, e, ht, h⟩ := h
  refine ev_st x e ht [] h fun ds J G' H' hk x' k' e' r xb eb kh => ?_
  exact for_core gd ht x' (.inl (Kp.refl _)) (EnvO.forget fs e') r (sR.kp hk k')
def forRg (S : List Nat) (fi : Rho → Res (List D)) (b : D → Rho → Res Rho) (gb : Rho → SRes) (fs : List Nat) : Rho → SRes := fun ρ => evS (fi (fzs S ρ)) ρ fun ds => forL b gb fs ds (forget fs ρ)
theorem s_forRg (S : List Nat) {tg iter : Expr} {body : List Stmt} {fi : Rho → Res (List D)} {g : TG} {b : D → Rho → Res Rho} {gb : Rho → SRes} {vs : List Nat} (fs : List Nat) (gd : GD p.K g b vs) (hp : PassesOwn (model X.prog X.w) X.A X.env X.xe) (hc : X.calm = true) (hi : PI X tg iter (rgS p fi)) (hg : PG X tg g) (hb : PSs X body (sS p gb)) (hs : ∀ x, foldedSetIterable iter X.env x = pure x) :
    PS X (.For tg iter body [] pos) (sS p (forRg S fi b gb fs)) := (ps_for hp hc hi hg hb hs).imp fun De σ H h => by
  obtain ⟨G0, B, G, ρ, x, e, ht, h⟩ := h
  refine ev_st x e ht S h fun ds J G' H' hk x' k' e' r xb eb kh => ?_
  have r : ∀ G, Walks p.K J G ds := r
  exact for_core (Gw := G) gd ht xb (.inr r) (EnvO.forget fs eb) (r G) hk
/-! while, with so many turns at the most -/
def whL (t : Rho → Res Bool) (gb : Rho → SRes) (S fs : List Nat) : Nat → Rho → SRes
  | 0, _ => .bad
  | n + 1, ρ => evS (t (fzs S ρ)) ρ fun c => if c = true then loopS (gb ρ) (whL t gb S fs n) fs else .nx ρ
def whR (m : Rho → Nat) (t : Rho → Res Bool) (gb : Rho → SRes) (S fs : List Nat) : Rho → SRes := fun ρ => whL t gb S fs (m ρ) (forget fs ρ)
theorem s_while (S fs : List Nat) (m : Rho → Nat) {c : Expr} {body : List Stmt} {t : Rho → Res Bool} {gb : Rho → SRes} (hp : PassesOwn (model X.prog X.w) X.A X.env X.xe) (hc : PT X c (tS p t)) (hb : PSs X body (sS p gb)) : PS X (.While c body [] pos) (sS p (whR m t gb S fs)) := (ps_while hp hc hb).imp fun De σ H h => by
  obtain ⟨G0, B, G, ρ, x, e, ht, h⟩ := h
  refine ⟨fun n σ H => ∃ G1 ρ1, Ext G0 B G1 H ∧ EnvO p B G1 σ H ρ1 ∧ sR p G0 B G1 De (whL t gb S fs n ρ1), ⟨m ρ, G, _, x, EnvO.forget fs e, h⟩, ?_⟩
  rintro n σ1 H1 ⟨G1, ρ1, x1, e1, h1⟩
  cases n with
  | zero => exact h1.elim
  | succ n =>
    unfold whL at h1
    refine ev_st x1 e1 ht S h1 fun c c' G' H' hk x' k' e' r xb eb kh => ?_
    obtain rfl : c' = c := r
    cases c' with
    | true =>
      rw [if_pos rfl] at hk ⊢
      refine ⟨fun σ2 H2 => ∃ G2 ρ2, Ext G0 B G2 H2 ∧ EnvO p B G2 σ2 H2 ρ2 ∧ sR p G0 B G2 De (whL t gb S fs n ρ2), fun σ2 H2 hn => ⟨n, Nat.lt_succ_self n, hn⟩, G0, B, G1, ρ1, xb, eb, ht, ?_⟩
      exact loop_end hk fun ρ' G'' σ' H'' hk2 xx kk ee => ⟨G'', ρ', xx, ee, sR.kp hk2 kk⟩
    | false =>
      rw [if_neg Bool.false_ne_true] at hk ⊢
      exact hk σ1 G1 H' xb (Kp.refl _) eb
/-! errors -/
def raiR (c : Xc) : Rho → SRes := fun ρ => .ex c ρ
theorem s_raise {c : Xc} {x m : Str} {j : Nat} {p1 p2 pos2 pos3 : Pos} (hc : X.calm = true) (tk : L2N.Takes X p.W) (he : L2N.PMk X e (fun _ H Q => Q (.ref (p.ec c)) none H)) : PS X (.Raise (some e) none pos3) (sS p (raiR c)) := (L2N.ps_raise hc tk he).imp fun De σ H h => by
  obtain ⟨G0, B, G, ρ, x, e, ht, h⟩ := h
  exact h σ G H x (Kp.refl _) e
end

/-! ### defs -/
def spD (K : PySem.W.Frag) (ec : Xc → Addr) (tb : List Addr) (n : Nat) (F : List D → Res D) : Sp := fun vs H Q E => ∃ G ds, Gs G H ∧ TBs tb H ∧ DvAll K G vs ds ∧ ds.length = n ∧ (match F ds with
  | .ok d => ∀ v G' H', Ext G H G' H' → Dv K G' v d → Q v H'
  | .ex c => ∀ G' H', Ext G H G' H' → E (.ref (ec c)) none H'
  | .bad => False)
/-- a def that hands out a new list -/
def spN (K : PySem.W.Frag) (ec : Xc → Addr) (tb : List Addr) (n : Nat) (F : List D → Res (List D)) : Sp := fun vs H Q E => ∃ G ds, Gs G H ∧ TBs tb H ∧ DvAll K G vs ds ∧ ds.length = n ∧ (match F ds with
  | .ok es => ∀ q us G' H', Ext G H G' H' → H q = none → G' q = none → H' q = some (.lst us) → DvAll K G' us es → Q (.ref q) H'
  | .ex c => ∀ G' H', Ext G H G' H' → E (.ref (ec c)) none H'
  | .bad => False)
def toFn : SRes → Res D
  | .nx _ => .ok .none
  | .rt d => .ok d
  | .rtO ds => .ok (.list ds)
  | .ex c _ => .ex c
  | _ => .bad
def toFnL : SRes → Res (List D)
  | .rtO ds => .ok ds
  | .ex c _ => .ex c
  | _ => .bad
def startR (n : Nat) (ds : List D) : Rho := ds.map Sl.sh ++ List.replicate (n - ds.length) .un
theorem envO_start {p : Pm} {K : PySem.W.Frag} {B G H : Hp} {N : List Str} {vs : List V} {ds : List D} (hK : p.K = K) (r : DvAll K G vs ds) : EnvO p B G (L2.start N vs) H (startR N.length ds) := by
  subst hK
  have key : ∀ (j : Nat) (s : Sl), (startR N.length ds)[j]? = some s → (∃ d, s = .sh d ∧ ds[j]? = some d) ∨ s = .un := by
    intro j s h
    unfold startR at h
    rw [List.getElem?_append] at h
    split at h
    · rw [List.getElem?_map] at h
      obtain ⟨d, h1, h2⟩ := Option.map_eq_some_iff.mp h
      exact .inl ⟨d, h2.symm, h1⟩
    · right
      rw [List.getElem?_replicate] at h
      split at h
      · exact (Option.some.inj h).symm
      · cases h
  refine ⟨⟨?_, fun j d h => ?_, fun j c h => ?_, fun j c h => ?_⟩, fun j ds' h => ?_, fun i j ds' es a hij h _ _ _ => ?_, fun j ds' h => ?_, fun i j ds' es a hij h _ _ _ => ?_⟩
  · unfold L2.start startR
    rw [List.length_append, List.length_append, List.length_map, List.length_map, List.length_replicate, List.length_replicate, r.length]
  · rcases key j _ h with ⟨d', e, hd⟩ | e
    · cases e
      obtain ⟨v, hv, rv⟩ := r.get hd
      refine ⟨v, ?_, rv⟩
      unfold L2.start
      rw [List.getElem?_append_left (by rw [List.length_map]; exact (List.getElem?_eq_some_iff.mp hv).1), List.getElem?_map, hv]
      rfl
    · cases e
  · rcases key j _ h with ⟨d', e, hd⟩ | e <;> cases e
  · rcases key j _ h with ⟨d', e, hd⟩ | e <;> cases e
  · rcases key j _ h with ⟨d', e, hd⟩ | e <;> cases e
  · rcases key i _ h with ⟨d', e, hd⟩ | e <;> cases e
  · rcases key j _ h with ⟨d', e, hd⟩ | e <;> cases e
  · rcases key i _ h with ⟨d', e, hd⟩ | e <;> cases e
theorem Kp.ext_refl {G H : Hp} (k : Gs G H) : Ext G H G H := Ext.refl k
section
variable {P : Program} {w : World} {K : PySem.W.Frag} {mg : Str → Option Value} {base : Heap}
/-- the context's parameters of a def's body -/
def pmOf (K : PySem.W.Frag) (ec : Xc → Addr) (tb : List Addr) (E : XK) : Pm := { K := K, ec := ec, tb := tb, W := fun cls d _ H => E cls d H, xc := .none, xd := none, xa := 0 }
theorem def_okX {x qual : Str} {st : Stmt} {f : Addr} {fd : FuncData} {N ps : List Str} {k : Nat} {sp : Sp} (F : Fun K x qual st f fd) (S : FnScope N ps (defScope st))
    (len : ∀ vs H Q E, sp vs H Q E → vs.length = ps.length)
    (hb : ∀ (cdv : Value) (A : Around) (outer : List Env) (s : Shared) (H : Hp) (vs : List V) (Q : VK) (E : XK), Room k (A.deeper (envOfC qual (defScope st) s.heap.objs.size f cdv)) →
      sp vs H Q E → ∃ t, PSs (cxOf (L2N.CX P w) P w K mg base N qual (defScope st) f cdv A outer s H E) (defBody st) t ∧ t { nx := fun _ H' => Q .non H', rt := Q } (L2.start N vs) H) :
    FnOk P w K mg base (L2N.CX P w) (k + 1) f fd ps sp := by
  obtain ⟨_, _, _, _, _, _, _, _, _, rfl, lk, hcd⟩ := F.ex
  exact fn_of lk hcd S len fun A outer s H vs Q E hr z => hb _ A outer s H vs Q E hr z
theorem fn_ok {x qual : Str} {st : Stmt} {f : Addr} {fd : FuncData} {N ps : List Str} {k : Nat} {ec : Xc → Addr} {tb : List Addr} {g : Rho → SRes} (F : Fun K x qual st f fd) (S : FnScope N ps (defScope st))
    (hb : ∀ (cdv : Value) (A : Around) (outer : List Env) (s : Shared) (H : Hp) (E : XK), Room k (A.deeper (envOfC qual (defScope st) s.heap.objs.size f cdv)) → PSs (cxOf (L2N.CX P w) P w K mg base N qual (defScope st) f cdv A outer s H E) (defBody st) (sS (pmOf K ec tb E) g)) :
    FnOk P w K mg base (L2N.CX P w) (k + 1) f fd ps (spD K ec tb ps.length fun ds => toFn (g (startR N.length ds))) := by
  refine def_okX F S (fun vs H Q E h => ?_) fun cdv A outer s H vs Q E hr h => ⟨_, hb cdv A outer s H E hr, ?_⟩
  · obtain ⟨G, ds, _, _, r, hl, _⟩ := h
    rw [r.length, hl]
  · obtain ⟨G, ds, hk, ht, r, hl, h⟩ := h
    refine ⟨G, H, G, startR N.length ds, Ext.refl hk, envO_start rfl r, ht, ?_⟩
    dsimp only at h
    cases q : g (startR N.length ds) with
    | nx ρ => rw [q] at h; exact fun σ' G' H' x kk e => h .non G' H' x .non
    | rt d => rw [q] at h; exact fun v G' H' x r => h v G' H' x r
    | rtO d => rw [q] at h; exact fun a vs G' H' x h1 h2 h3 r => h _ _ H' (x.show h1 h2 h3) (.lst (.inl (.inl upd_same)) (r.kp (Kp.upd h2)))
    | ex c ρ => rw [q] at h; exact fun σ' G' H' x kk e => h G' H' x
    | bk ρ => rw [q] at h; exact h.elim
    | ct ρ => rw [q] at h; exact h.elim
    | bad => rw [q] at h; exact h.elim
theorem fn_okN {x qual : Str} {st : Stmt} {f : Addr} {fd : FuncData} {N ps : List Str} {k : Nat} {ec : Xc → Addr} {tb : List Addr} {g : Rho → SRes} (F : Fun K x qual st f fd) (S : FnScope N ps (defScope st))
    (hb : ∀ (cdv : Value) (A : Around) (outer : List Env) (s : Shared) (H : Hp) (E : XK), Room k (A.deeper (envOfC qual (defScope st) s.heap.objs.size f cdv)) → PSs (cxOf (L2N.CX P w) P w K mg base N qual (defScope st) f cdv A outer s H E) (defBody st) (sS (pmOf K ec tb E) g)) :
    FnOk P w K mg base (L2N.CX P w) (k + 1) f fd ps (spN K ec tb ps.length fun ds => toFnL (g (startR N.length ds))) := by
  refine def_okX F S (fun vs H Q E h => ?_) fun cdv A outer s H vs Q E hr h => ⟨_, hb cdv A outer s H E hr, ?_⟩
  · obtain ⟨G, ds, _, _, r, hl, _⟩ := h
    rw [r.length, hl]
  · obtain ⟨G, ds, hk, ht, r, hl, h⟩ := h
    refine ⟨G, H, G, startR N.length ds, Ext.refl hk, envO_start rfl r, ht, ?_⟩
    dsimp only at h
    cases q : g (startR N.length ds) with
    | rtO d => rw [q] at h; exact fun a vs G' H' x h1 h2 h3 r => h a vs G' H' x h1 h2 h3 r
    | ex c ρ => rw [q] at h; exact fun σ' G' H' x kk e => h G' H' x
    | nx ρ => rw [q] at h; exact h.elim
    | rt d => rw [q] at h; exact h.elim
    | bk ρ => rw [q] at h; exact h.elim
    | ct ρ => rw [q] at h; exact h.elim
    | bad => rw [q] at h; exact h.elim
end
section
variable {X : Cx} {p : Pm} {k : Nat} {f : Addr} {fd : FuncData} {ps : List Str} {x : Str} {p1 pos : Pos} {e : Expr} {es : List Expr} {fa : Rho → Res (List D)} {n : Nat}
def clR (n : Nat) (f : Rho → Res (List D)) (F : List D → Res D) : Rho → Res D := fun ρ => (f ρ).bind fun ds => if ds.length = n then F ds else .bad
def clN (n : Nat) (f : Rho → Res (List D)) (F : List D → Res (List D)) : Rho → Res (List D) := fun ρ => (f ρ).bind fun ds => if ds.length = n then F ds else .bad
theorem e_call {F : List D → Res D} (ok : FnOk X.prog X.w X.K X.mg X.base (L2N.CX X.prog X.w) k f fd ps (spD p.K p.ec p.tb n F)) (hr : Room k X.A) (hg : Gl X x) (hm : X.mg x = some (.ref f)) (hk : PySem.W.keepIn X.K (.ref f) = true) (hb : Binds X.K fd ps []) (tk : L2N.Takes X p.W)
    (ha : PA X (e :: es) (aS p fa)) (he : starEach (e :: es) X.env = (false, eval e X.env) :: starEach es X.env) (hpl : (backTo pos (starEach es X.env)).any (·.1) = false) (hdb : (x == ("__debug__" : Str)) = false := by decide) :
    PE X (.Call (.Name x p1) (e :: es) [] pos) (eS p (clR n fa F)) := (pe_callS ok hr hg hm hk hb (fun σ => L2N.passAt tk σ) ha hdb he hpl).imp fun σ H Q h => by
  obtain ⟨G, ρ, he, hk, ht, h⟩ := h
  refine sp_run he hk ht h fun vs ds G1 H1 e1 rx h1 => ?_
  have rx : DvAll p.K G1 vs ds := rx
  split at h1
  · rename_i hn
    refine ⟨G1, ds, e1.gh, ht.ext e1, rx, hn, ?_⟩
    cases q : F ds with
    | ok d => rw [q] at h1; exact fun v G' H' ex r => h1 v G' H' ex r
    | ex c => rw [q] at h1; exact fun G' H' ex => h1 G' H' ex
    | bad => rw [q] at h1; exact h1.elim
  · exact h1.elim
theorem n_call {F : List D → Res (List D)} (ok : FnOk X.prog X.w X.K X.mg X.base (L2N.CX X.prog X.w) k f fd ps (spN p.K p.ec p.tb n F)) (hr : Room k X.A) (hg : Gl X x) (hm : X.mg x = some (.ref f)) (hk : PySem.W.keepIn X.K (.ref f) = true) (hb : Binds X.K fd ps []) (tk : L2N.Takes X p.W)
    (ha : PA X (e :: es) (aS p fa)) (he : starEach (e :: es) X.env = (false, eval e X.env) :: starEach es X.env) (hpl : (backTo pos (starEach es X.env)).any (·.1) = false) (hdb : (x == ("__debug__" : Str)) = false := by decide) :
    PE X (.Call (.Name x p1) (e :: es) [] pos) (nS p (clN n fa F)) := (pe_callS ok hr hg hm hk hb (fun σ => L2N.passAt tk σ) ha hdb he hpl).imp fun σ H Q h => by
  obtain ⟨G, ρ, he, hk, ht, h⟩ := h
  refine ⟨G, ρ, he, hk, ht, ?_⟩
  unfold clN at h
  cases q : fa ρ with
  | bad => rw [q] at h; exact h.elim
  | ex c => rw [q] at h; exact h
  | ok ds =>
    rw [q, bind_ok] at h
    intro vs G1 H1 e1 rx
    have rx : DvAll p.K G1 vs ds := rx
    by_cases hn : ds.length = n
    · rw [if_pos hn] at h
      refine ⟨G1, ds, e1.gh, ht.ext e1, rx, hn, ?_⟩
      cases q : F ds with
      | ok d => rw [q] at h; exact fun a vs G' H' ex h1 h2 h3 r => h a vs G' H' (e1.trans ex) (e1.free h1) h2 h3 r
      | ex c => rw [q] at h; exact fun G' H' ex => h G' H' (e1.trans ex)
      | bad => rw [q] at h; exact h.elim
    · rw [if_neg hn] at h; exact h.elim
end
end J

set_option linter.all false
set_option maxRecDepth 100000
set_option maxHeartbeats 4000000
namespace J
open PySem PySem.Spec PyProof.Rows L2 RZ
/-! ### try -/
def isSub (c h : Xc) : Bool := decide (c = h) || decide (h = Xc.cloakError)
/-- the exception at hand is forgotten -/
def unex (ρ : Rho) : Rho := ρ.map fun s => match s with
  | .exn _ => .un
  | s => s
def sufR (i : Nat) : SRes → SRes
  | .nx ρ => .nx (unex (ρ.set i .un))
  | .bk ρ => .bk (unex (ρ.set i .un))
  | .ct ρ => .ct (unex (ρ.set i .un))
  | .ex _ _ => .bad
  | r => r
/-- try: g except h as slot i: s -/
def tryR (cs : List Xc) (h : Xc) (i : Nat) (g s : Rho → SRes) : Rho → SRes := fun ρ => match g ρ with
  | .ex c ρ' => if c ∈ cs then (if isSub c h = true then sufR i (s ((unex ρ').set i (.exn c))) else .ex c ρ') else .bad
  | r => r
/-- try: g except h: s -/
def sufR0 : SRes → SRes
  | .nx ρ => .nx (unex ρ)
  | .bk ρ => .bk (unex ρ)
  | .ct ρ => .ct (unex ρ)
  | .ex _ _ => .bad
  | r => r
def tryR0 (cs : List Xc) (h : Xc) (g s : Rho → SRes) : Rho → SRes := fun ρ => match g ρ with
  | .ex c ρ' => if c ∈ cs then (if isSub c h = true then sufR0 (s (unex ρ')) else .ex c ρ') else .bad
  | r => r
theorem unex_get {ρ : Rho} {i : Nat} {s : Sl} (h : (unex ρ)[i]? = some s) (n : s ≠ .un) : ρ[i]? = some s ∧ ∀ c, s ≠ .exn c := by
  unfold unex at h
  rw [List.getElem?_map] at h
  obtain ⟨t, h1, h2⟩ := Option.map_eq_some_iff.mp h
  cases t with
  | exn c => exact absurd h2.symm n
  | un => exact absurd h2.symm n
  | sh d => subst h2; exact ⟨h1, fun c z => nomatch z⟩
  | ow d => subst h2; exact ⟨h1, fun c z => nomatch z⟩
  | od d => subst h2; exact ⟨h1, fun c z => nomatch z⟩
  | fd d => subst h2; exact ⟨h1, fun c z => nomatch z⟩
/-- another exception at hand -/
def Pm.at (p : Pm) (cls : Value) (d : Option Addr) (a : Addr) : Pm := { p with W := W0, xc := cls, xd := d, xa := a }
section
variable {p p' : Pm} {B G H : Hp} {σ : L2.St} {ρ : Rho}
theorem EnvO.unex (hK : p'.K = p.K) (e : EnvO p B G σ H ρ) : EnvO p' B G σ H (J.unex ρ) where
  e := ⟨by unfold J.unex; rw [List.length_map]; exact e.e.len, fun i d h => by
    obtain ⟨h1, _⟩ := unex_get h (fun z => nomatch z)
    rw [hK]; exact e.e.sh i d h1, fun i c h => by
    obtain ⟨_, h2⟩ := unex_get h (fun z => nomatch z)
    exact absurd rfl (h2 c), fun i d h => by
    obtain ⟨h1, _⟩ := unex_get h (fun z => nomatch z)
    exact e.e.fd i d h1⟩
  ow := fun i ds h => by
    obtain ⟨h1, _⟩ := unex_get h (fun z => nomatch z)
    rw [hK]; exact e.ow i ds h1
  ap := fun i j ds es a hij h1 h2 s1 s2 => by
    obtain ⟨h1, _⟩ := unex_get h1 (fun z => nomatch z)
    obtain ⟨h2, _⟩ := unex_get h2 (fun z => nomatch z)
    exact e.ap i j ds es a hij h1 h2 s1 s2
  od := fun i ds h => by
    obtain ⟨h1, _⟩ := unex_get h (fun z => nomatch z)
    exact e.od i ds h1
  ad := fun i j ds es a hij h1 h2 s1 s2 => by
    obtain ⟨h1, _⟩ := unex_get h1 (fun z => nomatch z)
    obtain ⟨h2, _⟩ := unex_get h2 (fun z => nomatch z)
    exact e.ad i j ds es a hij h1 h2 s1 s2
theorem EnvO.exn (e : EnvO p B G σ H ρ) (i : Nat) {c : Xc} {a : Addr} (ha : p.xa = a) (hc : p.xc = .ref (p.ec c)) (hd : p.xd = none) : EnvO p B G (σ.set i (some (.ref a))) H (ρ.set i (.exn c)) where
  e := ⟨by rw [List.length_set, List.length_set]; exact e.e.len, fun j d h => by
    rcases get_set h with ⟨rfl, hl, e1⟩ | ⟨hij, h⟩
    · cases e1
    · rw [List.getElem?_set_ne hij]; exact e.e.sh j d h, fun j c' h => by
    rcases get_set h with ⟨rfl, hl, e1⟩ | ⟨hij, h⟩
    · cases e1
      exact ⟨by rw [List.getElem?_set_self (by rw [e.e.len]; exact hl), ha], hc, hd⟩
    · rw [List.getElem?_set_ne hij]; exact e.e.ex j c' h, fun j c' h => by
    rcases get_set h with ⟨rfl, hl, e1⟩ | ⟨hij, h⟩
    · cases e1
    · rw [List.getElem?_set_ne hij]; exact e.e.fd j c' h⟩
  ow := fun j ds h => by
    rcases get_set h with ⟨rfl, hl, e1⟩ | ⟨hij, h⟩
    · cases e1
    · rw [List.getElem?_set_ne hij]; exact e.ow j ds h
  ap := fun j k ds es a hjk h1 h2 s1 s2 => by
    rcases get_set h1 with ⟨rfl, hl, e1⟩ | ⟨hij, h1⟩
    · cases e1
    · rcases get_set h2 with ⟨rfl, hl, e1⟩ | ⟨hik, h2⟩
      · cases e1
      · rw [List.getElem?_set_ne hij] at s1
        rw [List.getElem?_set_ne hik] at s2
        exact e.ap j k ds es a hjk h1 h2 s1 s2
  od := fun j es h => by
    rcases get_set h with ⟨rfl, hl, e1⟩ | ⟨hij, h⟩
    · cases e1
    · rw [List.getElem?_set_ne hij]; exact e.od j es h
  ad := fun j k es fs a hjk h1 h2 s1 s2 => by
    rcases get_set h1 with ⟨rfl, hl, e1⟩ | ⟨hij, h1⟩
    · cases e1
    · rcases get_set h2 with ⟨rfl, hl, e1⟩ | ⟨hik, h2⟩
      · cases e1
      · rw [List.getElem?_set_ne hij] at s1
        rw [List.getElem?_set_ne hik] at s2
        exact e.ad j k es fs a hjk h1 h2 s1 s2
end
section
variable {X : Cx} {p : Pm} {σ : L2.St} {H : Hp} {De : Ends}
theorem s_try {x n : Str} {i : Nat} {h : Xc} {body suite : List Stmt} {b₀ : Stmt} {np pos pos' : Pos} {g s : Rho → SRes} (hK : X.K = p.K) (hs : X.stack = X.env :: X.outer) (hf : X.env.frame = some X.env.locals) (hN : X.N.Nodup) (hi : X.N[i]? = some n) (hln : X.env.kindOf n = some .local) (hc : Names X x (.ref (p.ec h))) (tk : L2N.Takes X p.W)
    (cs : List Xc) (hx : ∀ c ∈ cs, PySem.W.exmOne p.K (.ref (p.ec c)) (.ref (p.ec h)) = some (isSub c h))
    (hb : ∀ (W : WX) (pn : List (Addr × Obj)) (xe : Value → Shared → Prop), L2N.Takes (X.tr pn xe) W → PassesOwn (model X.prog X.w) X.A X.env xe → PSs (X.tr pn xe) body (sS { p with W := W } g))
    (hsu : ∀ (a : Addr) (oe : Obj) (cls : Value) (d : Option Addr) (pn : List (Addr × Obj)), L2N.Zn cls d oe → (∃ vs, oe.data = .fields vs) → PSs (X.suite a ((a, oe) :: pn)) (b₀ :: suite) (sS (p.at cls d a) s)) :
    PS X (.Try body [.ExceptHandler (some (.Name x np)) (some n) (b₀ :: suite) pos'] [] [] pos) (sS p (tryR cs h i g s)) := (L2N.ps_try_as (tb := fun W => sS { p with W := W } g) (ts := fun a cls d => sS (p.at cls d a) s) (Wout := p.W) hs hf hN hi hln hc tk hb hsu).imp fun De σ H hh => by
  obtain ⟨G0, B, G, ρ, xt, e, ht, hh⟩ := hh
  refine ⟨G0, B, G, ρ, xt, ⟨⟨e.e.len, e.e.sh, e.e.ex, e.e.fd⟩, e.ow, e.ap, e.od, e.ad⟩, ht, ?_⟩
  unfold tryR at hh
  have cv : ∀ {W : WX} {σ' : L2.St} {G' H' : Hp} {ρ' : Rho}, EnvO { p with W := W } B G' σ' H' ρ' → EnvO p B G' σ' H' ρ' := fun e => ⟨⟨e.e.len, e.e.sh, e.e.ex, e.e.fd⟩, e.ow, e.ap, e.od, e.ad⟩
  cases q : g ρ with
  | nx ρ' => rw [q] at hh; exact fun σ' G' H' x' k' e' => hh σ' G' H' x' k' (cv e')
  | bk ρ' => rw [q] at hh; exact fun σ' G' H' x' k' e' => hh σ' G' H' x' k' (cv e')
  | ct ρ' => rw [q] at hh; exact fun σ' G' H' x' k' e' => hh σ' G' H' x' k' (cv e')
  | rt d => rw [q] at hh; exact hh
  | rtO d => rw [q] at hh; exact hh
  | bad => rw [q] at hh; exact hh
  | ex c ρ' =>
    rw [q] at hh
    dsimp only at hh
    by_cases hcs : c ∈ cs
    rotate_left
    · rw [if_neg hcs] at hh; exact hh.elim
    rw [if_pos hcs] at hh
    intro σ' G' H' x' k' e'
    refine ⟨isSub c h, by rw [hK]; exact hx c hcs, fun hbt a ha => ?_, fun hbf => ?_⟩
    · rw [if_pos hbt] at hh
      refine ⟨G0, B, G', _, x', (EnvO.unex (p := p) (p' := p.at (.ref (p.ec c)) none a) rfl (cv e')).exn i rfl rfl rfl, ht, ?_⟩
      have hh := sR.kp hh k'
      cases q2 : s ((J.unex ρ').set i (.exn c)) with
      | nx ρ2 => rw [q2] at hh; exact fun σ2 G2 H2 x2 k2 e2 => hh _ G2 H2 x2 k2 ((e2.drop i none).unex (by exact rfl))
      | bk ρ2 => rw [q2] at hh; exact fun σ2 G2 H2 x2 k2 e2 => hh _ G2 H2 x2 k2 ((e2.drop i none).unex (by exact rfl))
      | ct ρ2 => rw [q2] at hh; exact fun σ2 G2 H2 x2 k2 e2 => hh _ G2 H2 x2 k2 ((e2.drop i none).unex (by exact rfl))
      | rt d => rw [q2] at hh; exact hh
      | rtO d => rw [q2] at hh; exact hh
      | ex c2 ρ2 => rw [q2] at hh; exact hh.elim
      | bad => rw [q2] at hh; exact hh.elim
    · rw [hbf, if_neg Bool.false_ne_true] at hh
      exact hh σ' G' H' x' k' (cv e')
/-! ### isinstance of the error at hand -/
def isxR (cs : List Xc) (i : Nat) (t : Xc → Bool) : Rho → Res D := fun ρ => match ρ[i]? with
  | some (.exn c) => if c ∈ cs then .ok (.bool (t c)) else .bad
  | _ => .bad
/-- one class cv; t tells the answer -/
theorem e_isx {a : Addr} {oe : Obj} {cls : Value} {d : Option Addr} {pn : List (Addr × Obj)} {i : Nat} {ea eb : Expr} {x : Str} {v : V} {cv : Value} {t : Xc → Bool} {p1 pos : Pos} (hK : X.K = p.K) (hzn : L2N.Zn cls d oe) (hfl : ∃ vs, oe.data = .fields vs)
    (cs : List Xc) (hC : ∀ c ∈ cs, ExcC p.K (p.ec c)) (hv : ∀ u, RelV v u → u = cv) (hk : ∀ c ∈ cs, PySem.W.kitOne p.K (.ref (p.ec c)) cv = some (t c))
    (hg : Gl (X.suite a ((a, oe) :: pn)) x) (hm : X.mg x = none) (hb : bootBuiltins x = some (.builtin "isinstance")) (ha : PE (X.suite a ((a, oe) :: pn)) ea (tVar i)) (hb2 : PE (X.suite a ((a, oe) :: pn)) eb (tC v))
    (he1 : starEach (ea :: [eb]) (X.suite a ((a, oe) :: pn)).env = (false, eval ea (X.suite a ((a, oe) :: pn)).env) :: starEach [eb] (X.suite a ((a, oe) :: pn)).env) (he2 : starEach (eb :: []) (X.suite a ((a, oe) :: pn)).env = (false, eval eb (X.suite a ((a, oe) :: pn)).env) :: starEach [] (X.suite a ((a, oe) :: pn)).env)
    (hpl : (backTo pos (starEach [eb] (X.suite a ((a, oe) :: pn)).env)).any (·.1) = false) (hn : x ≠ "__name__" := by decide) (hdb : (x == ("__debug__" : Str)) = false := by decide) :
    PE (X.suite a ((a, oe) :: pn)) (.Call (.Name x p1) [ea, eb] [] pos) (eS (p.at cls d a) (isxR cs i t)) := by
  have hz := hzn.zc
  refine ⟨fun pins s σ H Q I h => ?_⟩
  obtain ⟨G, ρ, he, hkk, ht, h⟩ := h
  unfold isxR at h
  split at h
  · rename_i c hc
    obtain ⟨h1, h2, h3⟩ := he.ex i c hc
    have h2 : cls = .ref (p.ec c) := h2
    have h3 : d = none := h3
    have h1 : σ[i]? = some (some (.ref a)) := h1
    subst h2 h3
    by_cases hcs : c ∈ cs
    rotate_left
    · rw [if_neg hcs] at h; exact h.elim
    rw [if_pos hcs] at h
    refine (pe_callB (call_isE (X := X) (by rw [hK]; exact hC c hcs) hz hfl) hg hm hb (pa_cons ha (pa_cons hb2 pa_nil he2) he1) hn hdb he1 hpl).run pins s σ H Q I ?_
    exact ⟨_, h1, v, cv, t c, rfl, hv, by rw [hK]; exact hk c hcs, h _ G H (Ext.refl hkk) (.bl _)⟩
  · exact h.elim
end
/-- isinstance(e, (c1, c2, ..)), the tuple just laid -/
def rIsET (K : PySem.W.Frag) (D a : Addr) : List V → Hp → VK → Prop := fun xs H Q => ∃ (tp : Addr) (cs : List V) (us : List Value) (b : Bool), xs = [.ref a, .ref tp] ∧ H tp = some (.tup cs) ∧ Paired ClsV cs us ∧ PySem.W.kitAny K (.ref D) us = some b ∧ Q (.bl b) H
theorem call_isET {X : Cx} {a D : Addr} {oe : Obj} {pn : List (Addr × Obj)} (C : ExcC X.K D) (hz : Zc (.ref D) none oe) (hf : ∃ vs, oe.data = .fields vs) : CallR (X.suite a ((a, oe) :: pn)) (.builtin "isinstance") (rIsET X.K D a) := by
  intro pins s σ H xs us Q I r h
  obtain ⟨tp, cs, ws, b, rfl, hT, k, e, q⟩ := h
  obtain ⟨u1, u2, rfl, r1, r2⟩ := vals2 r
  cases (show u1 = Value.ref a from r1)
  cases (show u2 = Value.ref tp from r2)
  obtain ⟨hget, _⟩ := I.pin (a, oe) (List.mem_append.mpr (.inl List.mem_cons_self))
  obtain ⟨vs, hv⟩ := hf
  have J : PySem.W.InstAt s.heap a oe D none := by
    obtain ⟨oc, od, oda, osl⟩ := oe
    obtain ⟨h1, h2⟩ := hz
    dsimp only at h1 h2 hv
    subst h1 h2 hv
    exact ⟨hget, rfl, rfl, trivial⟩
  obtain ⟨_, its, rv, o, h1, h2, n, h3⟩ := (show ObjOk X.prog X.w H s.heap tp (.tup cs) from I.hok tp _ hT)
  have e3 := ClsV.all k rv
  subst e3
  obtain ⟨oc, od, dt, sl⟩ := o
  simp only at h2 h3
  subst h2 h3
  exact PySem.W.kia_tup (PySem.W.handS_kitx_exc C.hg C.hk C.hs C.hd C.ha C.hn C.ht C.hm) I.kIn J h1 e (fun z => nomatch z) fun tk => ⟨.bl b, H, I.kept (t' := tk) fun _ _ z => z, rfl, q⟩
/-- classes as values, one behind the other -/
inductive ClsL (X : Cx) : List Expr → List V → List Value → Prop where
  | nil : ClsL X [] [] []
  | cons {e : Expr} {es : List Expr} {C : Addr} {vs : List V} {us : List Value} (h : PE X e (tC (.ref C))) (hs : starEach (e :: es) X.env = (false, eval e X.env) :: starEach es X.env) (r : ClsL X es vs us) : ClsL X (e :: es) (.ref C :: vs) (.ref C :: us)
theorem ClsL.pa {X : Cx} {es : List Expr} {vs : List V} {us : List Value} (h : ClsL X es vs us) : PA X es (fun _ H Q => Q vs H) := by
  induction h with
  | nil => exact pa_nil
  | cons h hs r ih => exact pa_cons h ih hs
theorem ClsL.paired {X : Cx} {es : List Expr} {vs : List V} {us : List Value} (h : ClsL X es vs us) : Paired ClsV vs us := by
  induction h with
  | nil => exact .nil
  | cons h hs r ih => exact .cons (.own _) ih
section
variable {X : Cx} {p : Pm}
theorem e_isxT {a : Addr} {oe : Obj} {cls : Value} {d : Option Addr} {pn : List (Addr × Obj)} {i : Nat} {ea : Expr} {es : List Expr} {x1} {p3 : Pos} {vs : List V} {us : List Value} {x : Str} {t : Xc → Bool} {p1 pos : Pos} (hK : X.K = p.K) (hzn : L2N.Zn cls d oe) (hfl : ∃ vs, oe.data = .fields vs)
    (cs : List Xc) (hC : ∀ c ∈ cs, ExcC p.K (p.ec c)) (hk : ∀ c ∈ cs, PySem.W.kitAny p.K (.ref (p.ec c)) us = some (t c)) (hlen : vs.length ≤ 100)
    (hg : Gl (X.suite a ((a, oe) :: pn)) x) (hm : X.mg x = none) (hb : bootBuiltins x = some (.builtin "isinstance")) (ha : PE (X.suite a ((a, oe) :: pn)) ea (tVar i)) (hcl : ClsL (X.suite a ((a, oe) :: pn)) es vs us)
    (he1 : starEach (ea :: [.Tuple es x1 p3]) (X.suite a ((a, oe) :: pn)).env = (false, eval ea (X.suite a ((a, oe) :: pn)).env) :: starEach [.Tuple es x1 p3] (X.suite a ((a, oe) :: pn)).env) (he2 : starEach (.Tuple es x1 p3 :: []) (X.suite a ((a, oe) :: pn)).env = (false, eval (.Tuple es x1 p3) (X.suite a ((a, oe) :: pn)).env) :: starEach [] (X.suite a ((a, oe) :: pn)).env)
    (hpl : (backTo pos (starEach [.Tuple es x1 p3] (X.suite a ((a, oe) :: pn)).env)).any (·.1) = false) (hn : x ≠ "__name__" := by decide) (hdb : (x == ("__debug__" : Str)) = false := by decide) :
    PE (X.suite a ((a, oe) :: pn)) (.Call (.Name x p1) [ea, .Tuple es x1 p3] [] pos) (eS (p.at cls d a) (isxR cs i t)) := by
  have hz := hzn.zc
  refine ⟨fun pins s σ H Q I h => ?_⟩
  obtain ⟨G, ρ, he, hkk, ht, h⟩ := h
  unfold isxR at h
  split at h
  · rename_i c hc
    obtain ⟨h1, h2, h3⟩ := he.ex i c hc
    have h2 : cls = .ref (p.ec c) := h2
    have h3 : d = none := h3
    have h1 : σ[i]? = some (some (.ref a)) := h1
    subst h2 h3
    by_cases hcs : c ∈ cs
    rotate_left
    · rw [if_neg hcs] at h; exact h.elim
    rw [if_pos hcs] at h
    refine (pe_callB (call_isET (X := X) (by rw [hK]; exact hC c hcs) hz hfl) hg hm hb (pa_cons ha (pa_cons (pe_tup hcl.pa) pa_nil he2) he1) hn hdb he1 hpl).run pins s σ H Q I ?_
    refine ⟨_, h1, Nat.le_trans hlen (by rw [sizeLine_eq]; decide), fun q hq => ?_⟩
    exact ⟨q, vs, us, t c, rfl, upd_same, hcl.paired, by rw [hK]; exact hk c hcs, h _ _ _ (Ext.new (o := .tup vs) hkk hq) (.bl _)⟩
  · exact h.elim
end
/-- a def that answers as S says -/
theorem fn_is {P : Program} {w : World} {K : PySem.W.Frag} {mg : Str → Option Value} {base : Heap} {CX : CXT} {k : Nat} {f : Addr} {fd : FuncData} {ps : List Str} {ec : Xc → Addr} {tb : List Addr} {n : Nat} {F S : List D → Res D} (h : FnOk P w K mg base CX k f fd ps (spD K ec tb n F)) (e : ∀ ds, ds.length = n → S ds ≠ .bad → F ds = S ds) : FnOk P w K mg base CX k f fd ps (spD K ec tb n S) := h.imp fun vs H Q E z => by
  obtain ⟨G, ds, h1, h2, h3, h4, h5⟩ := z
  refine ⟨G, ds, h1, h2, h3, h4, ?_⟩
  rw [e ds h4 (fun z => by rw [z] at h5; exact h5)]
  exact h5
end J

set_option linter.all false
set_option maxRecDepth 100000
set_option maxHeartbeats 4000000
namespace J
open PySem PySem.Spec PyProof.Rows L2 RZ
/-! ### short words -/
section
variable {X : Cx} {p : Pm} {a b c : Expr} {fa fb fc : Rho → Res D} {pos : Pos}
/-- a name of the def in the i-th slot -/
theorem v_ (i : Nat) {x : Str} {pos : Pos} (hN : X.N[i]? = some x := by rfl) (hv : Vis X.env.scope x := by first | exact Or.inl rfl | exact Or.inr (Or.inl rfl) | exact Or.inr (Or.inr rfl)) (hd : (x == ("__debug__" : Str)) = false := by decide)
    (hcd : (x == ("__classdict__" : Str)) = false := by decide) : PE X (.Name x pos) (eS p (rd i)) := je_var (pv i hN hv hd hcd)
theorem gI_ {x : Str} {i : Int} {t : Tok} {pos : Pos} (hm : X.mg x = some (.int i t)) (hg : Gl X x := by rfl) (hd : (x == ("__debug__" : Str)) = false := by decide) : PE X (.Name x pos) (eS p (cI i)) := je_c (pe_glob (v := .int i) hg hm ⟨_, rfl⟩ hd) (.int i)
theorem gS_ {x : Str} {i : Str} {t : Tok} {pos : Pos} (hm : X.mg x = some (.str i t)) (hg : Gl X x := by rfl) (hd : (x == ("__debug__" : Str)) = false := by decide) : PE X (.Name x pos) (eS p (cS i)) := je_c (pe_glob (v := .str i) hg hm ⟨_, rfl⟩ hd) (.str i)
theorem add_ (hK : X.K = p.K := by rfl) (ha : PE X a (eS p fa)) (hb : PE X b (eS p fb)) : PE X (.BinOp a .Add b pos) (eS p (do2 fa fb addD)) := by
  refine e_op (OpR.or op_add (OpR.or op_add_str (OpR.or op_catL op_catA))) ?_ ha hb
  rw [hK]; exact o_add
theorem sub_ (ha : PE X a (eS p fa)) (hb : PE X b (eS p fb)) : PE X (.BinOp a .Sub b pos) (eS p (do2 fa fb subD)) := e_op op_sub o_sub ha hb
theorem mul_ (hK : X.K = p.K := by rfl) (ha : PE X a (eS p fa)) (hb : PE X b (eS p fb)) : PE X (.BinOp a .Mult b pos) (eS p (do2 fa fb mulD)) := by
  refine e_op (OpR.or op_mul op_repT) ?_ ha hb
  rw [hK]; exact o_mul
theorem fdiv_ (ha : PE X a (eS p fa)) (hb : PE X b (eS p fb)) : PE X (.BinOp a .FloorDiv b pos) (eS p (do2 fa fb fdivD)) := e_op op_fdivW o_fdiv ha hb
theorem mod_ (ha : PE X a (eS p fa)) (hb : PE X b (eS p fb)) : PE X (.BinOp a .Mod b pos) (eS p (do2 fa fb modD)) := e_op op_mod o_mod ha hb
theorem pow_ (ha : PE X a (eS p fa)) (hb : PE X b (eS p fb)) : PE X (.BinOp a .Pow b pos) (eS p (do2 fa fb powD)) := e_op op_pow o_pow ha hb
theorem neg_ (ha : PE X a (eS p fa)) : PE X (.UnaryOp .USub a pos) (eS p (do1 fa negD)) := e_neg ha
theorem lt_ (ha : PE X a (eS p fa)) (hb : PE X b (eS p fb)) : PE X (.Compare a [.Lt] [b] pos) (eS p (do2 fa fb ltD)) := e_cmp op_lt o_lt (nomark _) ha hb
theorem le_ (ha : PE X a (eS p fa)) (hb : PE X b (eS p fb)) : PE X (.Compare a [.LtE] [b] pos) (eS p (do2 fa fb leD)) := e_cmp op_le o_le (nomark _) ha hb
theorem gt_ (ha : PE X a (eS p fa)) (hb : PE X b (eS p fb)) : PE X (.Compare a [.Gt] [b] pos) (eS p (do2 fa fb gtD)) := e_cmp op_gt o_gt (nomark _) ha hb
theorem ge_ (ha : PE X a (eS p fa)) (hb : PE X b (eS p fb)) : PE X (.Compare a [.GtE] [b] pos) (eS p (do2 fa fb geD)) := e_cmp op_ge o_ge (nomark _) ha hb
theorem is_ (ha : PE X a (eS p fa)) (hb : PE X b (eS p fb)) : PE X (.Compare a [.Is] [b] pos) (eS p (do2 fa fb isD)) := e_cmp op_isN o_is (nomark _) ha hb
theorem isnt_ (ha : PE X a (eS p fa)) (hb : PE X b (eS p fb)) : PE X (.Compare a [.IsNot] [b] pos) (eS p (do2 fa fb isntD)) := e_cmp op_notN o_isnt (nomark _) ha hb
theorem eq_ (hu : X.A.units + 64 < cLine) (hK : X.K = p.K := by rfl) (ha : PE X a (eS p fa)) (hb : PE X b (eS p fb)) : PE X (.Compare a [.Eq] [b] pos) (eS p (do2 fa fb eqD)) := by
  refine e_cmp (op_eqD hu) ?_ (nomark _) ha hb
  rw [hK]; exact o_eq
theorem ne_ (hu : X.A.units + 64 < cLine) (hK : X.K = p.K := by rfl) (ha : PE X a (eS p fa)) (hb : PE X b (eS p fb)) : PE X (.Compare a [.NotEq] [b] pos) (eS p (do2 fa fb neD)) := by
  refine e_cmp (op_neD hu) ?_ (nomark _) ha hb
  rw [hK]; exact o_ne
theorem in_ (hu : X.A.units + 65 < cLine) (hK : X.K = p.K := by rfl) (ha : PE X a (eS p fa)) (hb : PE X b (eS p fb)) (hm : behindInMarks .In b = false := by rfl) : PE X (.Compare a [.In] [b] pos) (eS p (do2 fa fb inD)) := by
  refine e_cmp (op_inX hu) ?_ hm ha hb
  rw [hK]; exact o_in
theorem notIn_ (hu : X.A.units + 65 < cLine) (hK : X.K = p.K := by rfl) (ha : PE X a (eS p fa)) (hb : PE X b (eS p fb)) (hm : behindInMarks .NotIn b = false := by rfl) : PE X (.Compare a [.NotIn] [b] pos) (eS p (do2 fa fb notInD)) := by
  refine e_cmp (op_notInX hu) ?_ hm ha hb
  rw [hK]; exact o_notIn
theorem tlt_ (ha : PE X a (eS p fa)) (hb : PE X b (eS p fb)) : PT X (.Compare a [.Lt] [b] pos) (tS p (tstR (do2 fa fb ltD))) := t_cmp op_lt o_lt (nomark _) ha hb
theorem tle_ (ha : PE X a (eS p fa)) (hb : PE X b (eS p fb)) : PT X (.Compare a [.LtE] [b] pos) (tS p (tstR (do2 fa fb leD))) := t_cmp op_le o_le (nomark _) ha hb
theorem tgt_ (ha : PE X a (eS p fa)) (hb : PE X b (eS p fb)) : PT X (.Compare a [.Gt] [b] pos) (tS p (tstR (do2 fa fb gtD))) := t_cmp op_gt o_gt (nomark _) ha hb
theorem tge_ (ha : PE X a (eS p fa)) (hb : PE X b (eS p fb)) : PT X (.Compare a [.GtE] [b] pos) (tS p (tstR (do2 fa fb geD))) := t_cmp op_ge o_ge (nomark _) ha hb
theorem tis_ (ha : PE X a (eS p fa)) (hb : PE X b (eS p fb)) : PT X (.Compare a [.Is] [b] pos) (tS p (tstR (do2 fa fb isD))) := t_cmp op_isN o_is (nomark _) ha hb
theorem tisnt_ (ha : PE X a (eS p fa)) (hb : PE X b (eS p fb)) : PT X (.Compare a [.IsNot] [b] pos) (tS p (tstR (do2 fa fb isntD))) := t_cmp op_notN o_isnt (nomark _) ha hb
theorem teq_ (hu : X.A.units + 64 < cLine) (hK : X.K = p.K := by rfl) (ha : PE X a (eS p fa)) (hb : PE X b (eS p fb)) : PT X (.Compare a [.Eq] [b] pos) (tS p (tstR (do2 fa fb eqD))) := by
  refine t_cmp (op_eqD hu) ?_ (nomark _) ha hb
  rw [hK]; exact o_eq
theorem tne_ (hu : X.A.units + 64 < cLine) (hK : X.K = p.K := by rfl) (ha : PE X a (eS p fa)) (hb : PE X b (eS p fb)) : PT X (.Compare a [.NotEq] [b] pos) (tS p (tstR (do2 fa fb neD))) := by
  refine t_cmp (op_neD hu) ?_ (nomark _) ha hb
  rw [hK]; exact o_ne
theorem tin_ (hu : X.A.units + 65 < cLine) (hK : X.K = p.K := by rfl) (ha : PE X a (eS p fa)) (hb : PE X b (eS p fb)) (hm : behindInMarks .In b = false := by rfl) : PT X (.Compare a [.In] [b] pos) (tS p (tstR (do2 fa fb inD))) := by
  refine t_cmp (op_inX hu) ?_ hm ha hb
  rw [hK]; exact o_in
theorem tnotIn_ (hu : X.A.units + 65 < cLine) (hK : X.K = p.K := by rfl) (ha : PE X a (eS p fa)) (hb : PE X b (eS p fb)) (hm : behindInMarks .NotIn b = false := by rfl) : PT X (.Compare a [.NotIn] [b] pos) (tS p (tstR (do2 fa fb notInD))) := by
  refine t_cmp (op_notInX hu) ?_ hm ha hb
  rw [hK]; exact o_notIn
/-- a op b op' c, by the operators' letters -/
def cmpK : CmpOp → D → D → Res D
  | .Lt => ltD | .LtE => leD | .Gt => gtD | .GtE => geD | _ => fun _ _ => .bad
theorem chain_ {op op' : CmpOp} {r r' : R2} {k k' : D → D → Res D} (h : OpR X (compareOp op) r ∧ Op2 p r k) (h' : OpR X (compareOp op') r' ∧ Op2 p r' k') (ha : PE X a (eS p fa)) (hb : PE X b (eS p fb)) (hc : PE X c (eS p fc)) (hm : lastMarks [op, op'] [b, c] = false := by with_unfolding_all rfl) :
    PE X (.Compare a [op, op'] [b, c] pos) (eS p (chn fa fb fc k k')) := e_chain h.1 h'.1 h.2 h'.2 hm ha hb hc
theorem tchain_ {op op' : CmpOp} {r r' : R2} {k k' : D → D → Res D} (h : OpR X (compareOp op) r ∧ Op2 p r k) (h' : OpR X (compareOp op') r' ∧ Op2 p r' k') (ha : PE X a (eS p fa)) (hb : PE X b (eS p fb)) (hc : PE X c (eS p fc)) (hm : lastMarks [op, op'] [b, c] = false := by with_unfolding_all rfl) :
    PT X (.Compare a [op, op'] [b, c] pos) (tS p (tstR (chn fa fb fc k k'))) := t_chain h.1 h'.1 h.2 h'.2 hm ha hb hc
theorem kLt : OpR X (compareOp .Lt) (rI0 fun i j => .bl (decide (i < j))) ∧ Op2 p (rI0 fun i j => .bl (decide (i < j))) ltD := ⟨op_lt, o_lt⟩
theorem kLe : OpR X (compareOp .LtE) (rI0 fun i j => .bl (decide (i ≤ j))) ∧ Op2 p (rI0 fun i j => .bl (decide (i ≤ j))) leD := ⟨op_le, o_le⟩
theorem kGt : OpR X (compareOp .Gt) (rI0 fun i j => .bl (decide (j < i))) ∧ Op2 p (rI0 fun i j => .bl (decide (j < i))) gtD := ⟨op_gt, o_gt⟩
theorem kGe : OpR X (compareOp .GtE) (rI0 fun i j => .bl (decide (j ≤ i))) ∧ Op2 p (rI0 fun i j => .bl (decide (j ≤ i))) geD := ⟨op_ge, o_ge⟩
theorem tr_ {e : Expr} {f : Rho → Res D} (h : PE X e (eS p f)) (hK : X.K = p.K := by rfl) (he : ∀ whole, isTrue e X.env whole = (do let v ← whole; standAt e.pos; holding [v] (truthy v)) := by intro _; rfl) : PT X e (tS p (truR f)) := t_truth hK h he
theorem ac_ {es : List Expr} {g : Rho → Res (List D)} (ha : PE X a (eS p fa)) (hr : PA X es (aS p g)) (hs : starEach (a :: es) X.env = (false, eval a X.env) :: starEach es X.env := by rfl) : PA X (a :: es) (aS p (consR fa g)) := a_cons ha hr hs
theorem ix_ (ha : PE X a (eS p fa)) (hb : PE X b (eS p fb)) (hK : X.K = p.K := by rfl) (hs : PlainIx b := by exact fun _ _ => rfl) : PE X (.Subscript a b pos) (eS p (do2 fa fb ixD)) := e_ix hK hs ha hb
theorem sl_ {lo hi : Option Expr} {g h : Rho → Res (Option Int)} {p2 : Pos} (ha : PE X a (eS p fa)) (hl : PO X lo (oS p g)) (hh : PO X hi (oS p h)) (hK : X.K = p.K := by rfl) : PE X (.Subscript a (.Slice lo hi none p2) pos) (eS p (cutR fa g h)) := e_slice hK ha hl hh
section
variable {x : Str} {p1 : Pos} {es : List Expr} {f : Rho → Res (List D)}
theorem len_ (hm : X.mg x = none) (ha : PA X [a] (aS p f)) (hK : X.K = p.K := by rfl) (hv : bootBuiltins x = some (.builtin "len") := by exact PySem.boot_len) (hg : Gl X x := by rfl) (he : starEach (a :: []) X.env = (false, eval a X.env) :: starEach [] X.env := by rfl) (hpl : (backTo pos (starEach [] X.env)).any (·.1) = false := by rfl) (hn : x ≠ "__name__" := by decide) (hdb : (x == ("__debug__" : Str)) = false := by decide) :
    PE X (.Call (.Name x p1) [a] [] pos) (eS p (callR f lenD)) := by
  refine e_callB (id := "len") ?_ call_len hg hm hv ha he hpl hn hdb
  rw [hK]; exact c_len
theorem int_ (hm : X.mg x = none) (ha : PA X [a] (aS p f)) (hv : bootBuiltins x = some (.type "int") := by exact boot_int) (hg : Gl X x := by rfl) (he : starEach (a :: []) X.env = (false, eval a X.env) :: starEach [] X.env := by rfl) (hpl : (backTo pos (starEach [] X.env)).any (·.1) = false := by rfl) (hn : x ≠ "__name__" := by decide) (hdb : (x == ("__debug__" : Str)) = false := by decide) :
    PE X (.Call (.Name x p1) [a] [] pos) (eS p (callR f intD)) := e_callTy c_int call_int1 hg hm hv ha he hpl hn hdb
theorem abs_ (hm : X.mg x = none) (ha : PA X [a] (aS p f)) (hv : bootBuiltins x = some (.builtin "abs") := by decide +kernel) (hg : Gl X x := by rfl) (he : starEach (a :: []) X.env = (false, eval a X.env) :: starEach [] X.env := by rfl) (hpl : (backTo pos (starEach [] X.env)).any (·.1) = false := by rfl) (hn : x ≠ "__name__" := by decide) (hdb : (x == ("__debug__" : Str)) = false := by decide) :
    PE X (.Call (.Name x p1) [a] [] pos) (eS p (callR f absD)) := e_callB c_abs call_abs hg hm hv ha he hpl hn hdb
theorem max_ (hm : X.mg x = none) (hc : X.calm = true) (ha : PA X (a :: es) (aS p f)) (hv : bootBuiltins x = some (.builtin "max") := by decide +kernel) (hg : Gl X x := by rfl) (he : starEach (a :: es) X.env = (false, eval a X.env) :: starEach es X.env := by rfl) (hpl : (backTo pos (starEach es X.env)).any (·.1) = false := by rfl) (hn : x ≠ "__name__" := by decide) (hdb : (x == ("__debug__" : Str)) = false := by decide) :
    PE X (.Call (.Name x p1) (a :: es) [] pos) (eS p (callR f maxD)) := e_callB c_max (call_max2 hc) hg hm hv ha he hpl hn hdb
theorem min_ (hm : X.mg x = none) (hc : X.calm = true) (ha : PA X (a :: es) (aS p f)) (hv : bootBuiltins x = some (.builtin "min") := by decide +kernel) (hg : Gl X x := by rfl) (he : starEach (a :: es) X.env = (false, eval a X.env) :: starEach es X.env := by rfl) (hpl : (backTo pos (starEach es X.env)).any (·.1) = false := by rfl) (hn : x ≠ "__name__" := by decide) (hdb : (x == ("__debug__" : Str)) = false := by decide) :
    PE X (.Call (.Name x p1) (a :: es) [] pos) (eS p (callR f minD)) := e_callB c_min (call_min2 hc) hg hm hv ha he hpl hn hdb
theorem ord_ (hm : X.mg x = none) (ha : PA X [a] (aS p f)) (hv : bootBuiltins x = some (.builtin "ord") := by decide +kernel) (hg : Gl X x := by rfl) (he : starEach (a :: []) X.env = (false, eval a X.env) :: starEach [] X.env := by rfl) (hpl : (backTo pos (starEach [] X.env)).any (·.1) = false := by rfl) (hn : x ≠ "__name__" := by decide) (hdb : (x == ("__debug__" : Str)) = false := by decide) :
    PE X (.Call (.Name x p1) [a] [] pos) (eS p (callR f ordD)) := e_callB c_ord call_ord hg hm hv ha he hpl hn hdb
theorem sum_ (hm : X.mg x = none) (hc : X.calm = true) (ha : PA X [a] (aS p f)) (hK : X.K = p.K := by rfl) (hv : bootBuiltins x = some (.builtin "sum") := by decide +kernel) (hg : Gl X x := by rfl) (he : starEach (a :: []) X.env = (false, eval a X.env) :: starEach [] X.env := by rfl) (hpl : (backTo pos (starEach [] X.env)).any (·.1) = false := by rfl) (hn : x ≠ "__name__" := by decide) (hdb : (x == ("__debug__" : Str)) = false := by decide) :
    PE X (.Call (.Name x p1) [a] [] pos) (eS p (callR f sumD)) := by
  refine e_callB (id := "sum") ?_ (cr_sum hc) hg hm hv ha he hpl hn hdb
  rw [hK]; exact c_sum
theorem list_ (hm : X.mg x = none) (ha : PA X [a] (aS p f)) (hK : X.K = p.K := by rfl) (hv : bootBuiltins x = some (.type "list") := by decide +kernel) (hg : Gl X x := by rfl) (he : starEach (a :: []) X.env = (false, eval a X.env) :: starEach [] X.env := by rfl) (hpl : (backTo pos (starEach [] X.env)).any (·.1) = false := by rfl) (hn : x ≠ "__name__" := by decide) (hdb : (x == ("__debug__" : Str)) = false := by decide) :
    PE X (.Call (.Name x p1) [a] [] pos) (nS p (nliR f)) := n_list hK hg hm hv ha he hpl hn hdb
theorem tuple_ (hm : X.mg x = none) (ha : PA X [a] (aS p f)) (hK : X.K = p.K := by rfl) (hv : bootBuiltins x = some (.type "tuple") := by decide +kernel) (hg : Gl X x := by rfl) (he : starEach (a :: []) X.env = (false, eval a X.env) :: starEach [] X.env := by rfl) (hpl : (backTo pos (starEach [] X.env)).any (·.1) = false := by rfl) (hn : x ≠ "__name__" := by decide) (hdb : (x == ("__debug__" : Str)) = false := by decide) :
    PE X (.Call (.Name x p1) [a] [] pos) (eS p (callR f tupleD)) := by
  refine e_callTy (T := "tuple") ?_ call_tuple_of hg hm hv ha he hpl hn hdb
  rw [hK]; exact c_tuple
theorem isi_ {n : String} {t : Str} {p2 : Pos} (hm : X.mg x = none) (hmt : X.mg t = none) (ha : PE X a (eS p fa)) (hvt : bootBuiltins t = some (.type n)) (hK : X.K = p.K := by rfl) (hv : bootBuiltins x = some (.builtin "isinstance") := by decide +kernel) (hg : Gl X x := by rfl) (hgt : Gl X t := by rfl)
    (he1 : starEach (a :: [.Name t p2]) X.env = (false, eval a X.env) :: starEach [.Name t p2] X.env := by rfl) (he2 : starEach (.Name t p2 :: []) X.env = (false, eval (.Name t p2) X.env) :: starEach [] X.env := by rfl) (hpl : (backTo pos (starEach [.Name t p2] X.env)).any (·.1) = false := by rfl)
    (hn : x ≠ "__name__" := by decide) (hdb : (x == ("__debug__" : Str)) = false := by decide) (hn2 : t ≠ "__name__" := by decide) (hdb2 : (t == ("__debug__" : Str)) = false := by decide) :
    PE X (.Call (.Name x p1) [a, .Name t p2] [] pos) (eS p (do1 fa (isiD n))) := e_isi hK hg hm hv ha (pe_bltn (v := .ty n) hgt hmt hvt rfl hn2 hdb2) he1 he2 hpl hn hdb
theorem call_ {k j n : Nat} {f' : Addr} {fd : FuncData} {ps : List Str} {F : List D → Res D} (ok : FnOk X.prog X.w X.K X.mg X.base (L2N.CX X.prog X.w) k f' fd ps (spD p.K p.ec p.tb n F)) (hr : Room k X.A) (hm : X.mg x = some (.ref f')) (hk : PySem.W.keepIn X.K (.ref f') = true) (hb : Binds X.K fd ps []) (tk : L2N.Takes X p.W)
    (ha : PA X (a :: es) (aS p f)) (hg : Gl X x := by rfl) (he : starEach (a :: es) X.env = (false, eval a X.env) :: starEach es X.env := by rfl) (hpl : (backTo pos (starEach es X.env)).any (·.1) = false := by rfl) (hdb : (x == ("__debug__" : Str)) = false := by decide) :
    PE X (.Call (.Name x p1) (a :: es) [] pos) (eS p (clR n f F)) := e_call ok hr hg hm hk hb tk ha he hpl hdb
theorem callN_ {k j n : Nat} {f' : Addr} {fd : FuncData} {ps : List Str} {F : List D → Res (List D)} (ok : FnOk X.prog X.w X.K X.mg X.base (L2N.CX X.prog X.w) k f' fd ps (spN p.K p.ec p.tb n F)) (hr : Room k X.A) (hm : X.mg x = some (.ref f')) (hk : PySem.W.keepIn X.K (.ref f') = true) (hb : Binds X.K fd ps []) (tk : L2N.Takes X p.W)
    (ha : PA X (a :: es) (aS p f)) (hg : Gl X x := by rfl) (he : starEach (a :: es) X.env = (false, eval a X.env) :: starEach es X.env := by rfl) (hpl : (backTo pos (starEach es X.env)).any (·.1) = false := by rfl) (hdb : (x == ("__debug__" : Str)) = false := by decide) :
    PE X (.Call (.Name x p1) (a :: es) [] pos) (nS p (clN n f F)) := n_call ok hr hg hm hk hb tk ha he hpl hdb
end
/-! what is walked -/
theorem ran1_ {tg : Expr} {f : Rho → Res (List D)} {p1 : Pos} (hm : X.mg "range" = none) (ha : PA X [a] (aS p f)) (hg : Gl X "range" := by rfl) (hs : starEach [a] X.env = [(false, eval a X.env)] := by rfl) : PI X tg (.Call (.Name "range" p1) [a] [] pos) (rgS p (rng1R f)) := i_range1 hg hm ha hs
theorem ran2_ {tg : Expr} {f : Rho → Res (List D)} {p1 : Pos} (hm : X.mg "range" = none) (ha : PA X [a, b] (aS p f)) (hg : Gl X "range" := by rfl) (hs : starEach [a, b] X.env = [(false, eval a X.env), (false, eval b X.env)] := by rfl) (hs2 : starEach [b] X.env = [(false, eval b X.env)] := by rfl) : PI X tg (.Call (.Name "range" p1) [a, b] [] pos) (rgS p (rng2R f)) := i_range2 hg hm ha hs hs2
theorem any_ {tg : Expr} (ha : PE X a (eS p fa)) (hK : X.K = p.K := by rfl) : PI X tg a (iS p (itR fa)) := i_any hK ha
theorem zip_ {f : Rho → Res (List D)} {p1 tpos : Pos} {elts : List Expr} {kk : Nat} (hm : X.mg "zip" = none) (ha : PA X [a, b] (aS p f)) (hK : X.K = p.K := by rfl) (hg : Gl X "zip" := by rfl) (hs : starEach [a, b] X.env = (false, eval a X.env) :: starEach [b] X.env := by rfl) (hpl : (backTo pos (starEach [b] X.env)).any (·.1) = false := by rfl) :
    PI X (.Tuple elts kk tpos) (.Call (.Name "zip" p1) [a, b] [] pos) (iS p (zipR f)) := i_zip hK hg hm ha hs hpl
theorem enum_ {f : Rho → Res (List D)} {p1 tpos : Pos} {elts : List Expr} {kk : Nat} (hm : X.mg "enumerate" = none) (ha : PA X [a] (aS p f)) (hK : X.K = p.K := by rfl) (hg : Gl X "enumerate" := by rfl) (hs : starEach [a] X.env = [(false, eval a X.env)] := by rfl) :
    PI X (.Tuple elts kk tpos) (.Call (.Name "enumerate" p1) [a] [] pos) (iS p (enumR f)) := i_enum hK hg hm ha hs
/-! statements -/
section
variable {e : Expr} {f : Rho → Res D} {fn : Rho → Res (List D)} {y : Str} {py : Pos}
theorem set_ (S : List Nat) {i : Nat} (hN : X.N.Nodup) (hi : X.N[i]? = some y) (he : PE X e (eS p f)) (hx : Loc X.env.scope y := by first | exact Or.inl rfl | exact Or.inr rfl) (hs : swapsWith e (some (.Name y py)) pos.line X.env = pure false := by rfl)
    (hf : X.fn y = true ∨ X.env.scope.names.lookup y = some .local := by first | exact .inl rfl | exact .inr rfl) : PS X (.Assign [.Name y py] e pos) (sS p (setR S i f)) := s_set S hN hi hx he hs hf
theorem own_ (S : List Nat) {i : Nat} (hN : X.N.Nodup) (hi : X.N[i]? = some y) (he : PE X e (nS p fn)) (hx : Loc X.env.scope y := by first | exact Or.inl rfl | exact Or.inr rfl) (hs : swapsWith e (some (.Name y py)) pos.line X.env = pure false := by rfl)
    (hf : X.fn y = true ∨ X.env.scope.names.lookup y = some .local := by first | exact .inl rfl | exact .inr rfl) : PS X (.Assign [.Name y py] e pos) (sS p (ownR S i fn)) := s_own S hN hi hx he hs hf
theorem asg_ {tg : Expr} {g : TG} {b : D → Rho → Res Rho} {vs : List Nat} (gd : GD p.K g b vs) (he : PE X e (eS p f)) (hg : PG X tg g) (hs : swapsWithSole [tg] e pos.line X.env = pure false := by rfl) (hw : swappedStores [tg] e X.env = pure none := by rfl)
    (h1 : (assignEach [tg] X.env).map (·.2) = [assign tg X.env] := by rfl) : PS X (.Assign [tg] e pos) (sS p (asgR b f)) := s_asg gd he hg hs hw h1
theorem aug_ (S : List Nat) {i : Nat} {x : Str} {pos' : Pos} (hN : X.N.Nodup) (hi : X.N[i]? = some x) (he : PE X e (eS p f)) (hx : Loc X.env.scope x := by first | exact Or.inl rfl | exact Or.inr rfl) (hf : X.fn x = true ∨ X.env.scope.names.lookup x = some .local := by first | exact .inl rfl | exact .inr rfl) :
    PS X (.AugAssign (.Name x pos') .Add e pos) (sS p (augR S i f)) := s_augAdd S hN hi hx he hf
theorem ex_ (S : List Nat) (he : PE X e (eS p f)) (hs : swapsWith e none pos.line X.env = pure false := by rfl) : PS X (.Expr e pos) (sS p (exR S f)) := s_expr S he hs
theorem app_ (S : List Nat) {i : Nat} {o : Expr} {apos cpos : Pos} (ho : PE X o (tVar i)) (he : PE X e (eS p f)) (hbase : attributeBase o "append" X.env (eval o X.env) = eval o X.env := by rfl)
    (hfew : ((backTo cpos (starEach (e :: []) X.env)).all (fun x => !x.1) && (backToKw cpos (keywordEach [] X.env)).all (fun x => x.1.isSome) && decide ((e :: []).length + ([] : List Keyword).length + (if ([] : List Keyword).isEmpty then 0 else 1) < 30)) = true := by rfl)
    (hline : (apos.endLine == cpos.line) = true := by rfl) (hse : starEach (e :: []) X.env = (false, eval e X.env) :: starEach [] X.env := by rfl) (hplain : (backTo cpos (starEach [] X.env)).any (·.1) = false := by rfl) (hs : swapsWith (.Call (.Attribute o "append" apos) [e] [] cpos) none pos.line X.env = pure false := by rfl) :
    PS X (.Expr (.Call (.Attribute o "append" apos) [e] [] cpos) pos) (sS p (appR S i f)) := s_app S ho he hbase hfew hline hse hplain hs
theorem seti_ (S : List Nat) {i : Nat} {o ie : Expr} {fi : Rho → Res D} {tpos : Pos} (ho : PE X o (tVar i)) (hi : PE X ie (eS p fi)) (he : PE X e (eS p f)) (hp : PG X (.Subscript o ie tpos) (gSub (tVar i) (eS p fi) rSetL) := by exact pg_sub ‹_› ‹_› set_list) (hs : swapsWithSole [.Subscript o ie tpos] e pos.line X.env = pure false := by rfl) (hw : swappedStores [.Subscript o ie tpos] e X.env = pure none := by rfl)
    (h1 : (assignEach [.Subscript o ie tpos] X.env).map (·.2) = [assign (.Subscript o ie tpos) X.env] := by rfl) : PS X (.Assign [.Subscript o ie tpos] e pos) (sS p (siR S i fi f)) := s_setI S (ie := ie) (o := o) hp he hs hw h1
theorem for_ {tg iter : Expr} {body : List Stmt} {fi : Rho → Res (List D)} {g : TG} {b : D → Rho → Res Rho} {gb : Rho → SRes} {vs : List Nat} (fs : List Nat) (gd : GD p.K g b vs) (hp : PassesOwn (model X.prog X.w) X.A X.env X.xe) (hc : X.calm = true) (hi : PI X tg iter (iS p fi)) (hg : PG X tg g) (hb : PSs X body (sS p gb)) (hs : ∀ x, foldedSetIterable iter X.env x = pure x := by intro _; rfl) :
    PS X (.For tg iter body [] pos) (sS p (forR fi b gb fs)) := s_for fs gd hp hc hi hg hb hs
theorem forr_ (S : List Nat) {tg iter : Expr} {body : List Stmt} {fi : Rho → Res (List D)} {g : TG} {b : D → Rho → Res Rho} {gb : Rho → SRes} {vs : List Nat} (fs : List Nat) (gd : GD p.K g b vs) (hp : PassesOwn (model X.prog X.w) X.A X.env X.xe) (hc : X.calm = true) (hi : PI X tg iter (rgS p fi)) (hg : PG X tg g) (hb : PSs X body (sS p gb)) (hs : ∀ x, foldedSetIterable iter X.env x = pure x := by intro _; rfl) :
    PS X (.For tg iter body [] pos) (sS p (forRg S fi b gb fs)) := s_forRg S fs gd hp hc hi hg hb hs
theorem nm_ {i : Nat} {x : Str} {pos : Pos} (hN : X.N.Nodup) (hi : X.N[i]? = some x) (hx : Loc X.env.scope x := by first | exact Or.inl rfl | exact Or.inr rfl) (hf : X.fn x = true ∨ X.env.scope.names.lookup x = some .local := by first | exact .inl rfl | exact .inr rfl) : PG X (.Name x pos) (gName i) := pg_name hN hi hx hf
end
end
end J

set_option linter.all false
set_option maxRecDepth 100000
set_option maxHeartbeats 4000000
namespace J
open PySem PySem.Spec PyProof.Rows L2 RZ
theorem u65 {k : Nat} {A : Around} (hr : Room k A) : A.units + 65 < cLine := by have := hr.un; omega
theorem kits_of2 {K : PySem.W.Frag} {t a b : Value} {x y : Bool} (h0 : PySem.W.kitOne K t a = some x) (h1 : PySem.W.kitOne K t b = some y) : PySem.W.kitAny K t [a, b] = some (x || y) := by
  unfold PySem.W.kitAny
  rw [h0]
  cases x with
  | true => rfl
  | false =>
    show PySem.W.kitAny K t [b] = _
    unfold PySem.W.kitAny
    rw [h1]
    cases y <;> rfl
theorem fn_ofN {P : Program} {w : World} {K : PySem.W.Frag} {mg : Str → Option Value} {base : Heap} {CX : CXT} {k : Nat} {f : Addr} {fd : FuncData} {ps : List Str} {ec : Xc → Addr} {tb : List Addr} {n : Nat} {F : List D → Res (List D)} (h : FnOk P w K mg base CX k f fd ps (spN K ec tb n F)) : FnOk P w K mg base CX k f fd ps (spD K ec tb n fun ds => (F ds).bind fun xs => .ok (.list xs)) := h.imp fun vs H Q E z => by
  obtain ⟨G, ds, h1, h2, h3, h4, h5⟩ := z
  refine ⟨G, ds, h1, h2, h3, h4, ?_⟩
  dsimp only at h5
  cases q : F ds with
  | ok xs => rw [q] at h5; exact fun a us G' H' x g1 g2 g3 r => h5 _ _ H' (x.show g1 g2 g3) (.lst (.inl (.inl upd_same)) (r.kp (Kp.upd g2)))
  | ex c => rw [q] at h5; exact h5
  | bad => rw [q] at h5; exact h5
/-! the law's end -/
def spLaw (K : PySem.W.Frag) : Sp := fun vs H Q _ => ∃ (a : Addr) (ns : List Int), vs = [.ref a] ∧ Only H ∧ SqL K H a (ns.map V.int) ∧ ns.length ≤ 63 ∧ ∀ H', Q (.bl true) H'
theorem sp_law {K : PySem.W.Frag} {H : Hp} {a : Addr} {ns : List Int} (hl : ns.length ≤ 63) (hO : Only H) (hS : SqL K H a (ns.map V.int)) : spLaw K [.ref a] H (fun v _ => v = .bl true) fun _ _ _ => False := ⟨a, ns, rfl, hO, hS, hl, fun _ => rfl⟩
theorem no_exc {P : Program} {w : World} {H : Hp} {s : Shared} {e : Value} {s' : Shared} (h : L2N.CX P w [] H s (fun _ _ _ => False) e s') : False := by
  obtain ⟨_, _, _, _, _, _, _, _, _, _, _, _, z⟩ := h
  exact z
theorem law_imp {P : Program} {w : World} {K : PySem.W.Frag} {mg : Str → Option Value} {base : Heap} {CX : CXT} {k : Nat} {f : Addr} {fd : FuncData} {ps : List Str} {ec : Xc → Addr} {F : List D → Res D} (h : FnOk P w K mg base CX k f fd ps (spD K ec [] 1 F))
    (e : ∀ ns : List Int, ns.length ≤ 63 → F [.list (ns.map PyData.int)] = .ok (.bool true)) : FnOk P w K mg base CX k f fd ps (spLaw K) := h.imp fun vs H Q E z => by
  obtain ⟨a, ns, rfl, hO, hS, hl, q⟩ := z
  refine ⟨H, [.list (ns.map PyData.int)], fun b o hb => ?_, fun P hP => absurd hP (by simp), DvAll.cons (Dv.lst hS (DvAll.ints ns)) DvAll.nil, rfl, ?_⟩
  · rcases hO b with z | ⟨ob, xs, z⟩
    · rw [z] at hb; cases hb
    · rw [z] at hb; cases hb
      exact ⟨rfl, z⟩
  · rw [e ns hl]
    intro v G' H' x r
    cases r
    exact q H'
end J

set_option linter.all false
set_option maxRecDepth 100000
set_option maxHeartbeats 4000000
/-! defs called within an except suite -/
namespace J
open PySem PySem.Spec PyProof.Rows L2 RZ
open L2H (RoomH HotC FnH PIH TurnH cxH Hot1 PinOk roomH_of PIEH)
theorem unitsH {k : Nat} {A : Around} (hr : RoomH k A) : A.units + 64 < cLine := by have := hr.un; omega
theorem takes0N {X : Cx} : L2N.Takes X (fun _ _ _ _ => False) := fun _ _ x => by
  obtain ⟨_, _, _, _, _, _, _, _, _, _, _, _, _, _, _, _, z⟩ := x
  exact z.elim
theorem hot_suite {X : Cx} {a : Addr} {oe : Obj} {cls : Value} {d : Option Addr} {pn : List (Addr × Obj)} (hz : L2N.Zn cls d oe) (hf : ∃ vs, oe.data = .fields vs) : HotC (X.suite a ((a, oe) :: pn)) := by
  obtain ⟨vs, e⟩ := hf
  exact ⟨(a, oe), ⟨rfl, vs, e, hz.2.2 vs e⟩, List.mem_cons_self⟩
section
variable {P : Program} {w : World} {K : PySem.W.Frag} {mg : Str → Option Value} {base : Heap}
theorem fn_okH {x qual : Str} {st : Stmt} {f : Addr} {fd : FuncData} {N ps : List Str} {k : Nat} {ec : Xc → Addr} {tb : List Addr} {g : Rho → SRes} (F : Fun K x qual st f fd) (S : FnScope N ps (defScope st))
    (hb : ∀ (cdv : Value) (A : Around) (outer : List Env) (s : Shared) (H : Hp) (E : XK) (q : Addr × Obj), HotC (cxH (L2N.CX P w) P w K mg base N qual (defScope st) f cdv A outer s H E q) → RoomH k (A.deeper (envOfC qual (defScope st) s.heap.objs.size f cdv)) →
      PSs (cxH (L2N.CX P w) P w K mg base N qual (defScope st) f cdv A outer s H E q) (defBody st) (sS (pmOf K ec tb E) g)) :
    FnH P w K mg base (L2N.CX P w) (k + 1) f fd ps (spD K ec tb ps.length fun ds => toFn (g (startR N.length ds))) := by
  obtain ⟨_, _, _, _, _, _, _, _, _, rfl, lk, hcd⟩ := F.ex
  refine L2H.fn_ofH lk hcd S (fun vs H Q E h => ?_) fun A outer s H vs Q E q hot hr h => ⟨_, hb _ A outer s H E q ⟨q, hot, List.mem_singleton.mpr rfl⟩ hr, ?_⟩
  · obtain ⟨G, ds, _, _, r, hl, _⟩ := h
    rw [r.length, hl]
  · obtain ⟨G, ds, hk, ht, r, hl, h⟩ := h
    refine ⟨G, H, G, startR N.length ds, Ext.refl hk, envO_start rfl r, ht, ?_⟩
    dsimp only at h
    cases q : g (startR N.length ds) with
    | nx ρ => rw [q] at h; exact fun σ' G' H' x kk e => h .non G' H' x .non
    | rt d => rw [q] at h; exact fun v G' H' x r => h v G' H' x r
    | rtO d => rw [q] at h; exact fun a vs G' H' x h1 h2 h3 r => h _ _ H' (x.show h1 h2 h3) (.lst (.inl (.inl upd_same)) (r.kp (Kp.upd h2)))
    | ex c ρ => rw [q] at h; exact fun σ' G' H' x kk e => h G' H' x
    | bk ρ => rw [q] at h; exact h.elim
    | ct ρ => rw [q] at h; exact h.elim
    | bad => rw [q] at h; exact h.elim
end
section
variable {X : Cx} {p : Pm} {a b iter : Expr} {es : List Expr} {fa : Rho → Res D} {f : Rho → Res (List D)} {x : Str} {p1 pos : Pos} {tg : Expr}
theorem callH_ {k n : Nat} {f' : Addr} {fd : FuncData} {ps : List Str} {F : List D → Res D} (ok : FnH X.prog X.w X.K X.mg X.base (L2N.CX X.prog X.w) k f' fd ps (spD p.K p.ec p.tb n F)) (hr : RoomH k X.A) (hc : HotC X) (hm : X.mg x = some (.ref f')) (hk : PySem.W.keepIn X.K (.ref f') = true) (hb : Binds X.K fd ps []) (tk : L2N.Takes X p.W)
    (ha : PA X (a :: es) (aS p f)) (hg : Gl X x := by rfl) (he : starEach (a :: es) X.env = (false, eval a X.env) :: starEach es X.env := by rfl) (hpl : (backTo pos (starEach es X.env)).any (·.1) = false := by rfl) (hdb : (x == ("__debug__" : Str)) = false := by decide) :
    PE X (.Call (.Name x p1) (a :: es) [] pos) (eS p (clR n f F)) := (L2H.pe_callH ok hr hc hg hm hk hb (fun σ => L2N.passAt tk σ) ha hdb he hpl).imp fun σ H Q h => by
  obtain ⟨G, ρ, he, hk, ht, h⟩ := h
  refine sp_run he hk ht h fun vs ds G1 H1 e1 rx h1 => ?_
  have rx : DvAll p.K G1 vs ds := rx
  split at h1
  · rename_i hn
    refine ⟨G1, ds, e1.gh, ht.ext e1, rx, hn, ?_⟩
    cases q : F ds with
    | ok d => rw [q] at h1; exact fun v G' H' ex r => h1 v G' H' ex r
    | ex c => rw [q] at h1; exact fun G' H' ex => h1 G' H' ex
    | bad => rw [q] at h1; exact h1.elim
  · exact h1.elim
/-! what is walked there -/
theorem PIHimp {wi wi' : TI} (h : PIH X tg iter wi) (i : ∀ σ H R, wi' σ H R → wi σ H R) : PIH X tg iter wi' := ⟨fun pins s σ H R I q => h.run pins s σ H R I (i σ H R q)⟩
theorem iH_of_r (h : PIH X tg iter (rgS p f)) : PIH X tg iter (iS p f) := PIHimp h fun σ H Q ⟨G, ρ, he, hk, ht, h⟩ => ⟨G, ρ, he, hk, ht, rS_rel (fun G b a r => r G) h⟩
theorem ran1H_ (hm : X.mg "range" = none) (ha : PA X [a] (aS p f)) (hg : Gl X "range" := by rfl) (hs : starEach [a] X.env = [(false, eval a X.env)] := by rfl) : PIH X tg (.Call (.Name "range" p1) [a] [] pos) (rgS p (rng1R f)) := by
  refine PIHimp (L2H.pi_range1H hg hm ha hs) fun σ H Q h => ?_
  obtain ⟨G, ρ, he, hk, ht, h⟩ := h
  refine sp_run he hk ht h fun xs dxs G1 H1 e1 rx h1 => ?_
  have rx : DvAll p.K G1 xs dxs := rx
  split at h1
  · cases rx with
    | cons r rx =>
      cases rx
      cases r
      rename_i j
      split at h1
      · rename_i hz
        refine ⟨j, rfl, hz.1, hz.2, ?_⟩
        have := rS_nowR e1.gh h1 fun G => walks_rng (lo := 0) (hi := j)
        rw [Int.sub_zero] at this
        exact this
      · exact h1.elim
  · exact h1.elim
theorem range2H {ta : TA} (hg : Gl X "range") (hm : X.mg "range" = none) (ha : PA X [a, b] ta) (hs : starEach [a, b] X.env = [(false, eval a X.env), (false, eval b X.env)]) (hs2 : starEach [b] X.env = [(false, eval b X.env)]) : PIH X tg (.Call (.Name "range" p1) [a, b] [] pos) (iRng2 ta) := by
  refine ⟨fun pins s σ H R I h => ?_⟩
  refine Call_ (ld_blt I hg hm boot_range (PyProof.Rows.callWith_type1 (thn (ha.run pos pins s σ H _ I h) fun us s1 ⟨vs, H1, I1, r1, q1⟩ => ?_) (hs.trans (by rw [hs2])) (by rw [hs2]; rfl)))
  obtain ⟨i, j, e, ⟨q1, q2, q3, q4⟩, q⟩ := q1
  subst e
  rcases r1 with _ | ⟨r, rr⟩
  rcases rr with _ | ⟨r', rr⟩
  cases rr
  obtain ⟨t, rfl⟩ := r
  obtain ⟨t', rfl⟩ := r'
  exact call_range_2 (L2H.range_itH I1 q1 q2 q3 q4 q)
theorem ran2H_ (hm : X.mg "range" = none) (ha : PA X [a, b] (aS p f)) (hg : Gl X "range" := by rfl) (hs : starEach [a, b] X.env = [(false, eval a X.env), (false, eval b X.env)] := by rfl) (hs2 : starEach [b] X.env = [(false, eval b X.env)] := by rfl) : PIH X tg (.Call (.Name "range" p1) [a, b] [] pos) (rgS p (rng2R f)) := by
  refine PIHimp (range2H hg hm ha hs hs2) fun σ H Q h => ?_
  obtain ⟨G, ρ, he, hk, ht, h⟩ := h
  refine sp_run he hk ht h fun xs dxs G1 H1 e1 rx h1 => ?_
  have rx : DvAll p.K G1 xs dxs := rx
  split at h1
  · cases rx with
    | cons r rx =>
      cases rx with
      | cons r2 rx =>
        cases rx
        cases r
        cases r2
        split at h1
        · rename_i hz
          exact ⟨_, _, rfl, ⟨hz.1.1, hz.1.2, hz.2.1, hz.2.2⟩, rS_nowR e1.gh h1 fun G => walks_rng⟩
        · exact h1.elim
  · exact h1.elim
theorem forH_ {body : List Stmt} {fi : Rho → Res (List D)} {g : TG} {b : D → Rho → Res Rho} {gb : Rho → SRes} {vs : List Nat} (fs : List Nat) (gd : GD p.K g b vs) (hp : PassesOwn (model X.prog X.w) X.A X.env X.xe) (hc : HotC X) (hi : PIH X tg iter (iS p fi)) (hg : PG X tg g) (hb : PSs X body (sS p gb)) (hs : ∀ x, foldedSetIterable iter X.env x = pure x := by intro _; rfl) :
    PS X (.For tg iter body [] pos) (sS p (forR fi b gb fs)) := (L2H.ps_forH hp hc hi hg hb hs).imp fun De σ H h => by
  obtain ⟨G0, B, G, ρ, x, e, ht, h⟩ := h
  refine ev_st x e ht [] h fun ds J G' H' hk x' k' e' r xb eb kh => ?_
  exact for_core gd ht x' (.inl (Kp.refl _)) (EnvO.forget fs e') r (sR.kp hk k')
/-- what is walked must be a tuple -/
def tupW : D → Res (List D)
  | .tuple xs => .ok xs
  | _ => .bad
def itTR (fa : Rho → Res D) : Rho → Res (List D) := fun ρ => (fa ρ).bind tupW
theorem itT_imp (hK : X.K = p.K) {σ : L2.St} {H : Hp} {Q : It → Hp → Prop} (h : iS p (itTR fa) σ H Q) : iTup X.K (eS p fa) σ H Q := by
  obtain ⟨G, ρ, he, hk, ht, h⟩ := h
  unfold itTR at h
  cases e : fa ρ with
  | bad => rw [e] at h; exact h.elim
  | ex c =>
    rw [e] at h
    exact ⟨G, ρ, he, hk, ht, by rw [e]; exact h⟩
  | ok d =>
    rw [e] at h
    have h : rS p σ G H (relI p.K) (tupW d) Q := h
    cases d with
    | tuple xs =>
      refine ⟨G, ρ, he, hk, ht, ?_⟩
      rw [e]
      intro v G' H' ex r
      cases r with
      | tup r q => exact ⟨_, rfl, ⟨_, by rw [hK]; exact ex.gh.sqT r⟩, by rw [hK]; exact rS_nowI ex.gh (rS_ext ex h) (walks_tup r q)⟩
    | _ => exact (show False from h).elim
theorem anyT_ (ha : PE X a (eS p fa)) (hK : X.K = p.K := by rfl) : PI X tg a (iS p (itTR fa)) := (pi_tup ha).imp fun σ H Q h => itT_imp hK h
section
variable {prog : Program} {w : World} {A : Around} {E : Value → Shared → Prop} {s : Shared}
theorem next_tup_endH {it t x1 : Addr} {i : Nat} {items : Array Value} {Q : Option Value → Shared → Prop} (hot : HotX.HotAt A x1 s.heap) (hit : s.heap.IsTupleIter it t i) (ht : s.heap.IsTuple t items) (hx : items[i]? = none)
    (hQ : ∀ h', (∀ b o, b ≠ it → s.heap.get? b = some o → h'.get? b = some o) → Q none { s with heap := h' }) : wpAny (model prog w) A (pyNext (.ref it)) Q E s := by
  obtain ⟨o, ho, hc, hd⟩ := id hit
  obtain ⟨ol, hol, _, nl, hdl⟩ := ht
  obtain ⟨hh, o1, vs1, h1, d1, c1⟩ := hot
  have hn : x1 ≠ it := fun e => by
    subst e
    rw [ho] at h1
    cases h1
    rw [hd] at d1
    cases d1
    simp at c1
  unfold pyNext
  refine wpAny_bind (wpAny_attempt (wpAny_callSpecial?_slot (name := Str.ofString "__next__") hit.typeIs F.slot_tuple_iterator_next (wpAny_call_entry F.slot_tuple_iterator_next hit.typeIs F.entry_tuple_iterator_next ?_ (F.args_tuple_iterator_next_1 _))))
  refine show wpAny _ _ (field (.ref it) 0 >>= _) _ _ s from wpAny_bind (wpAny_field ho hd (x := .ref t) rfl ?_)
  refine show wpAny _ _ (if (Value.ref t == Value.none) = true then _ else _) _ _ s from ?_
  rw [if_neg (by rw [show (Value.ref t == Value.none) = false from rfl]; exact Bool.false_ne_true)]
  refine show wpAny _ _ (field (.ref it) 1 >>= _) _ _ s from wpAny_bind (wpAny_field ho hd (x := .int i 0) rfl ?_)
  refine show wpAny _ _ (seqItems? (.ref t) >>= _) _ _ s from wpAny_bind (wpAny_seqItems hol hdl ?_)
  simp only [Int.toNat_natCast, hx]
  refine wpAny_bind (wpAny_rule (wpAny_bind (wpAny_setField ho hd (by simp) ?_)))
  have h1' : (s.heap.update it (Obj.mapFields (·.setIfInBounds 0 Value.none))).get? x1 = some o1 := by
    rw [Heap.get?_update_other _ _ (fun e => hn e.symm)]
    exact h1
  refine show wpAny _ _ (newExc (.type "StopIteration") [] >>= _) _ _ _ from wpAny_bind ?_
  simp only [newExc, newTuple]
  refine wpAny_bind (wpAny_newObj_type ?_ (by size_fits))
  refine wpAny_bind (m := firstArgMember _ _) (wpAny_of_eq (a := Value.none) (by first | rfl | (simp only [firstArgMember]; rfl)) ?_)
  refine wpAny_newObj_type ?_ (by size_fits)
  refine HotX.raiseNew_hot ⟨hh, o1, vs1, Heap.get?_push_of_some _ (Heap.get?_push_of_some _ h1'), d1, c1⟩ (Nat.ne_of_lt (Heap.lt_size (Heap.get?_push_of_some _ h1'))) (Heap.get?_push_size _ rfl) rfl
    (by first | (simp; done) | (simp; omega)) ?_
  refine wpAny_bind (wpAny_isInstance (T := "StopIteration") (b := true) ⟨_, Heap.get?_update_self _ (Heap.get?_push_size _ rfl) rfl, rfl⟩
    isSubtype_stop ?_)
  refine wpAny_pure (hQ _ fun b o hb e => ?_)
  have e' : (s.heap.update it (Obj.mapFields (·.setIfInBounds 0 Value.none))).get? b = some o := by
    rw [Heap.get?_update_other _ _ (fun z => hb z.symm)]
    exact e
  rw [Heap.get?_update_other _ _ (Nat.ne_of_gt (Heap.lt_size (Heap.get?_push_of_some _ e')))]
  exact Heap.get?_push_of_some _ (Heap.get?_push_of_some _ e')
end
theorem turn_tupH {P : Program} {w : World} {K : PySem.W.Frag} {tg : Expr} (a it : Addr) : TurnH P w K tg (Itt K a) [it] it (fun i h => h.IsTupleIter it a i) where
  mem := List.mem_singleton.mpr rfl
  obj := fun i h st b hb => by
    obtain rfl : b = it := List.mem_singleton.mp hb
    obtain ⟨o, e, c, d⟩ := st
    exact ⟨o, e, fun v z => by rw [d] at z; cases z⟩
  keep := fun i h h' st k => st.at fun o e => k it (List.mem_singleton.mpr rfl) o e
  item := by
    intro X hP hw hK hc i pins s σ H E I hf st hg
    subst hP
    subst hw
    subst hK
    obtain ⟨xs, x, hq, hx⟩ := hg
    obtain ⟨its, rv, p, hz⟩ := I.tuple hq
    obtain ⟨u, hu, ru⟩ := rv.get hx
    obtain ⟨f0, f1, f2, f3, f4, f5⟩ := hf it (List.mem_singleton.mpr rfl)
    have pt : s.heap.IsTuple a its.toArray := p
    refine wpAny_pyNext_tuple_item st pt (x := u) (by simpa using hu) fun h' st' sb => ?_
    have I1 : Inv X pins σ H { s with heap := h' } := I.turned (t' := s.toks) (fun b o hb e => (sb.2 b hb).trans e) f0 f1 f3 f4 f5
    obtain ⟨o, e, c, d⟩ := id st'
    exact ⟨u, rfl, go_of (s := { s with heap := h' }) e c d (by decide) ⟨x, H, I1, ru, ⟨rfl, fun ys hy => by rw [I.tuple_inj hy hq]; exact hx⟩, st', fun b hb => (hf b hb).1⟩⟩
  done := by
    intro X hP hw hK hc i pins s σ H E I hf st hg
    subst hP
    subst hw
    subst hK
    obtain ⟨xs, hq, hx⟩ := hg
    obtain ⟨its, rv, p, hz⟩ := I.tuple hq
    obtain ⟨f0, f1, f2, f3, f4, f5⟩ := hf it (List.mem_singleton.mpr rfl)
    have hl := rv.length
    have pt : s.heap.IsTuple a its.toArray := p
    obtain ⟨x1, hot⟩ := hc.at I
    exact next_tup_endH hot st pt (by simp; omega) fun h' eb => ⟨rfl, I.turned (t' := s.toks) eb f0 f1 f3 f4 f5⟩
  self := fun _ _ _ _ _ st h => wpAny_pyIter_tupleiter st h
theorem tupH {tl : TE} (hl : PE X a tl) : PIH X tg a (iTup X.K tl) := by
  refine ⟨fun pins s σ H R I h => thn (hl.run pins s σ H _ I h) fun v s1 ⟨x, H1, I1, r1, q1⟩ => ?_⟩
  obtain ⟨b, rfl, ⟨xs, hq⟩, q⟩ := q1
  cases r1
  obtain ⟨its, rv, p, hz⟩ := I1.tuple hq
  have pt : s1.heap.IsTuple b its.toArray := p
  refine wpAny_pyIter_tuple pt ⟨s1.heap.objs.size, [s1.heap.objs.size], _, _, H1, rfl, I1.kept (t' := s1.toks) fun b o e => Heap.get?_push_of_some _ e, turn_tupH b _, ⟨_, Heap.get?_push_size _ rfl, rfl, rfl⟩, fun c hc => ?_, q⟩
  obtain rfl : c = s1.heap.objs.size := List.mem_singleton.mp hc
  exact I1.fpOk (Nat.le_refl _) (I1.hok.fresh (Nat.le_refl _))
theorem anyTH_ (ha : PE X a (eS p fa)) (hK : X.K = p.K := by rfl) : PIH X tg a (iS p (itTR fa)) := PIHimp (tupH ha) fun σ H Q h => itT_imp hK h
end
end J

set_option linter.all false
set_option maxRecDepth 100000
set_option maxHeartbeats 4000000
/-! own dicts: integers to scalars -/
namespace J
open PySem PySem.Spec PyProof.Rows L2 RZ
theorem u1 {A : Around} (h : A.units + 64 < cLine) : A.units + 1 < cLine := by omega
def putI (es : List (Int × D)) (k : Int) (d : D) : List (Int × D) := if (es.any fun p => decide (p.1 = k)) = true then es.map (fun p => if p.1 = k then (p.1, d) else p) else es ++ [(k, d)]
theorem any_dk (es : List (Int × D)) (k : Int) : ((dkV es).any fun kv => decide (kv.1 = Sum.inl k)) = es.any fun p => decide (p.1 = k) := by
  unfold dkV
  rw [List.any_map]
  congr 1
  funext p
  simp
theorem put_dk (es : List (Int × D)) (k : Int) (d : D) : putK (dkV es) (Sum.inl k) (scV d) = dkV (putI es k d) := by
  unfold putK putI
  rw [any_dk]
  split
  · unfold dkV
    rw [List.map_map, List.map_map]
    congr 1
    funext p
    by_cases c : p.1 = k <;> simp [c]
  · unfold dkV
    rw [List.map_append]
    rfl
theorem val_dk (es : List (Int × D)) (k : Int) : (valV (dkV es) (Sum.inl k)).isSome = es.any fun p => decide (p.1 = k) := by
  rw [← valV_any, any_dk]
theorem Ext.mutA {G H G' H' : Hp} {a : Addr} {o : HO} (e : Ext G H G' H') (h : H a = none) (g : G' a = none) : Ext G H G' (upd H' a o) where
  g := e.g
  h := fun b o z n => by rw [upd_ne (ne_of_none z h)]; exact e.h b o z n
  gh := fun b o z => by rw [upd_ne (ne_of_none z g)]; exact e.gh b o z
  n := e.n
  t := fun b ps z => by
    obtain ⟨ps', h1, h2⟩ := e.t b ps z
    exact ⟨ps', by rw [upd_ne (ne_of_none z h)]; exact h1, h2⟩
section
variable {p : Pm} {B G H G' H' G0 : Hp} {σ : L2.St} {ρ : Rho}
theorem EnvO.mutD (x : Ext G0 B G H) (e : EnvO p B G σ H ρ) (i : Nat) {a : Addr} {es fs : List (Int × D)} (hi : ρ[i]? = some (Sl.od es)) (ha : σ[i]? = some (some (V.ref a))) :
    EnvO p B G σ (upd H a (.dK (dkV fs))) (ρ.set i (.od fs)) ∧ Ext G0 B G (upd H a (.dK (dkV fs))) := by
  obtain ⟨a', h1, h2, h3, h4⟩ := e.od i es hi
  have ea : a' = a := by rw [ha] at h1; cases h1; rfl
  subst ea
  refine ⟨⟨⟨by rw [List.length_set]; exact e.e.len, fun j d h => ?_, fun j d h => ?_, fun j d h => ?_⟩, fun j ds' h => ?_, fun j k ds' es' b hjk g1 g2 s1 s2 => ?_, fun j ds' h => ?_, fun j k ds' es' b hjk g1 g2 s1 s2 => ?_⟩, x.mutA h2 h3⟩
  · rcases get_set h with ⟨rfl, hl, e1⟩ | ⟨hij, h⟩
    · cases e1
    · exact e.e.sh j d h
  · rcases get_set h with ⟨rfl, hl, e1⟩ | ⟨hij, h⟩
    · cases e1
    · exact e.e.ex j d h
  · rcases get_set h with ⟨rfl, hl, e1⟩ | ⟨hij, h⟩
    · cases e1
    · exact e.e.fd j d h
  · rcases get_set h with ⟨rfl, hl, e1⟩ | ⟨hij, h⟩
    · cases e1
    · obtain ⟨b, us, q1, q2, q3, q4, q5⟩ := e.ow j ds' h
      exact ⟨b, us, q1, q2, q3, by rw [upd_ne (fun z => by rw [z, h4] at q4; cases q4)]; exact q4, q5⟩
  · rcases get_set g1 with ⟨rfl, hl, e1⟩ | ⟨hij, g1⟩
    · cases e1
    · rcases get_set g2 with ⟨rfl, hl, e1⟩ | ⟨hik, g2⟩
      · cases e1
      · exact e.ap j k ds' es' b hjk g1 g2 s1 s2
  · rcases get_set h with ⟨rfl, hl, e1⟩ | ⟨hij, h⟩
    · cases e1
      exact ⟨a', ha, h2, h3, upd_same⟩
    · obtain ⟨b, q1, q2, q3, q4⟩ := e.od j ds' h
      exact ⟨b, q1, q2, q3, by rw [upd_ne (fun z => e.ad i j es ds' a' hij hi h ha (by rw [← z]; exact q1))]; exact q4⟩
  · have k1 : ∃ d, ρ[j]? = some (Sl.od d) := by
      rcases get_set g1 with ⟨rfl, hl, e1⟩ | ⟨hij, g1⟩
      · exact ⟨_, hi⟩
      · exact ⟨_, g1⟩
    have k2 : ∃ d, ρ[k]? = some (Sl.od d) := by
      rcases get_set g2 with ⟨rfl, hl, e1⟩ | ⟨hij, g2⟩
      · exact ⟨_, hi⟩
      · exact ⟨_, g2⟩
    obtain ⟨d1, k1⟩ := k1
    obtain ⟨d2, k2⟩ := k2
    exact e.ad j k d1 d2 b hjk k1 k2 s1 s2
/-- a new dict of the frame's own is named -/
theorem EnvO.ownD (x : Ext G0 B G H) (e : EnvO p B G σ H ρ) (i : Nat) {q : Addr} (hH : H q = none) : EnvO p B G (σ.set i (some (.ref q))) (upd H q (.dK (dkV []))) (ρ.set i (.od [])) ∧ Ext G0 B G (upd H q (.dK (dkV []))) := by
  have hB : B q = none := x.free hH
  have hG : G q = none := x.gh.none hH
  have e' : EnvO p B G σ (upd H q (.dK (dkV []))) ρ := e.grow (Kp.new hH)
  refine ⟨⟨⟨by rw [List.length_set, List.length_set]; exact e.e.len, fun j d h => ?_, fun j d h => ?_, fun j d h => ?_⟩, fun j ds' h => ?_, fun j k ds' es' b hjk g1 g2 s1 s2 => ?_, fun j ds' h => ?_, fun j k ds' es' b hjk g1 g2 s1 s2 => ?_⟩, x.mutA hB hG⟩
  · rcases get_set h with ⟨rfl, hl, e1⟩ | ⟨hij, h⟩
    · cases e1
    · rw [List.getElem?_set_ne hij]; exact e.e.sh j d h
  · rcases get_set h with ⟨rfl, hl, e1⟩ | ⟨hij, h⟩
    · cases e1
    · rw [List.getElem?_set_ne hij]; exact e.e.ex j d h
  · rcases get_set h with ⟨rfl, hl, e1⟩ | ⟨hij, h⟩
    · cases e1
    · rw [List.getElem?_set_ne hij]; exact e.e.fd j d h
  · rcases get_set h with ⟨rfl, hl, e1⟩ | ⟨hij, h⟩
    · cases e1
    · rw [List.getElem?_set_ne hij]; exact e'.ow j ds' h
  · rcases get_set g1 with ⟨rfl, hl, e1⟩ | ⟨hij, g1⟩
    · cases e1
    · rcases get_set g2 with ⟨rfl, hl, e1⟩ | ⟨hik, g2⟩
      · cases e1
      · rw [List.getElem?_set_ne hij] at s1
        rw [List.getElem?_set_ne hik] at s2
        exact e.ap j k ds' es' b hjk g1 g2 s1 s2
  · rcases get_set h with ⟨rfl, hl, e1⟩ | ⟨hij, h⟩
    · cases e1
      exact ⟨q, List.getElem?_set_self (by rw [e.e.len]; exact hl), hB, hG, upd_same⟩
    · rw [List.getElem?_set_ne hij]; exact e'.od j ds' h
  · have na : ∀ (m : Nat) (fs : List (Int × D)), ρ[m]? = some (Sl.od fs) → σ[m]? ≠ some (some (V.ref q)) := fun m fs hm z => by
      obtain ⟨b', r1, r2, r3, r4⟩ := e.od m fs hm
      rw [z] at r1
      cases r1
      rw [hH] at r4
      cases r4
    rcases get_set g1 with ⟨rfl, hl, e1⟩ | ⟨hij, g1⟩
    · rcases get_set g2 with ⟨rfl, _, _⟩ | ⟨hik, g2⟩
      · exact hjk rfl
      · rw [List.getElem?_set_self (by rw [e.e.len]; exact hl)] at s1
        rw [List.getElem?_set_ne hik] at s2
        cases s1
        exact na k es' g2 s2
    · rw [List.getElem?_set_ne hij] at s1
      rcases get_set g2 with ⟨rfl, hl, e1⟩ | ⟨hik, g2⟩
      · rw [List.getElem?_set_self (by rw [e.e.len]; exact hl)] at s2
        cases s2
        exact na j ds' g1 s1
      · rw [List.getElem?_set_ne hik] at s2
        exact e.ad j k ds' es' b hjk g1 g2 s1 s2
end
section
variable {X : Cx} {p : Pm} {a b e : Expr} {fa f : Rho → Res D} {pos py p2 : Pos} {y : Str}
/-- y = {} -/
def dnewR (i : Nat) : Rho → SRes := fun ρ => .nx (ρ.set i (.od []))
theorem dnew_ {i : Nat} (hN : X.N.Nodup) (hi : X.N[i]? = some y) (hx : Loc X.env.scope y := by first | exact Or.inl rfl | exact Or.inr rfl) (hs : swapsWith (.Dict [] [] p2) (some (.Name y py)) pos.line X.env = pure false := by rfl)
    (hf : X.fn y = true ∨ X.env.scope.names.lookup y = some .local := by first | exact .inl rfl | exact .inr rfl) : PS X (.Assign [.Name y py] (.Dict [] [] p2) pos) (sS p (dnewR i)) := (ps_set hN hi hx pe_dnewK hs).imp fun De σ H h => by
  obtain ⟨G0, B, G, ρ, x, e, ht, h⟩ := h
  intro q hq
  obtain ⟨e2, x2⟩ := e.ownD x i hq
  exact h _ G _ x2 (Kp.refl _) e2
/-- d[k] = v -/
def dputR (i : Nat) (fi f : Rho → Res D) : Rho → SRes := fun ρ => evS (f ρ) ρ fun d => (match ρ[i]? with
  | some (.od es) => evS (fi ρ) ρ fun k => (match k with
    | .int k => if scalD d = true ∧ es.length < 16777216 then .nx (ρ.set i (.od (putI es k d))) else .bad
    | _ => .bad)
  | _ => .bad)
theorem Dv.scv {K : PySem.W.Frag} {G : Hp} {v : V} {d : D} (r : Dv K G v d) (h : scalD d = true) : v = scV d := by
  cases r <;> first | rfl | cases h
theorem s_dput {i : Nat} {fi : Rho → Res D} {tg : Expr} (hp : PG X tg (gSub (tVar i) (eS p fi) rSetD)) (he : PE X e (eS p f)) (hs : swapsWithSole [tg] e pos.line X.env = pure false) (hw : swappedStores [tg] e X.env = pure none)
    (h1 : (assignEach [tg] X.env).map (·.2) = [assign tg X.env]) : PS X (.Assign [tg] e pos) (sS p (dputR i fi f)) := (ps_asg he hp hs hw h1).imp fun De σ H h => by
  obtain ⟨G0, B, G, ρ, x, e, ht, h⟩ := h
  refine ev_st x e ht [] h fun d w G' H' hk x' k' e' r xb eb kh => ?_
  have r : Dv p.K G' w d := r
  split at hk
  · rename_i es hi
    obtain ⟨q, h1, h2, h3, h4⟩ := e.od i es hi
    refine ⟨_, h1, ?_⟩
    refine ev_st (f := fi) x' e' ht [] (sR.kp hk k') fun k u G2 H2 hk2 x2 k2 e2 r2 xb2 eb2 kh2 => ?_
    have r2 : Dv p.K G2 u k := r2
    cases r2 <;> first | exact (show False from hk2).elim | skip
    rename_i k
    have hk2 : sR p G0 B G' De (if scalD d = true ∧ es.length < 16777216 then .nx (ρ.set i (.od (putI es k d))) else .bad) := hk2
    split at hk2
    · rename_i hz
      have h4' : H2 q = some (.dK (dkV es)) := kh2 _ _ (kh _ _ h4 rfl) rfl
      obtain ⟨g1, g2⟩ := eb2.mutD xb2 i (fs := putI es k d) hi h1
      refine ⟨q, _, rfl, .inl ⟨dkV es, Sum.inl k, h4', rfl, by unfold dkV; rw [List.length_map, sizeLine_eq]; exact hz.2, rfl⟩, ?_⟩
      rw [r.scv hz.1, put_dk]
      exact hk2 σ G' _ g2 (Kp.refl _) g1
    · exact hk2.elim
  · exact hk.elim
theorem dput_ {i : Nat} {fi : Rho → Res D} {tg : Expr} (hp : PG X tg (gSub (tVar i) (eS p fi) rSetD)) (he : PE X e (eS p f)) (hs : swapsWithSole [tg] e pos.line X.env = pure false := by rfl) (hw : swappedStores [tg] e X.env = pure none := by rfl)
    (h1 : (assignEach [tg] X.env).map (·.2) = [assign tg X.env] := by rfl) : PS X (.Assign [tg] e pos) (sS p (dputR i fi f)) := s_dput hp he hs hw h1
/-- x in d, the dict shown to all -/
theorem op_in_dk (hu : X.A.units + 1 < cLine) : OpR X (compareOp .In) (fun x y H Q => ∃ a o, y = .ref a ∧ DGet H a x o ∧ Q (.bl o.isSome) H) := by
  intro pins s σ H x y v u Q I rx ry h
  obtain ⟨a, o, rfl, g, q⟩ := h
  cases (show u = Value.ref a from ry)
  exact d_in hu I g rx fun s' I' => ⟨.bl o.isSome, H, I', rfl, q⟩
def inFR (f : Rho → Res D) (i : Nat) : Rho → Res D := fun ρ => (f ρ).bind fun d => match d, ρ[i]? with
  | .int k, some (.fd es) => .ok (.bool (es.any fun p => decide (p.1 = k)))
  | _, _ => .bad
theorem inD_ {i : Nat} (hu : X.A.units + 64 < cLine) (ha : PE X a (eS p f)) (hb : PE X b (tVar i)) (hm : behindInMarks .In b = false := by rfl) : PE X (.Compare a [.In] [b] pos) (eS p (inFR f i)) := (pe_cmpR (op_in_dk (by omega)) ha hb hm).imp fun σ H Q h => by
  obtain ⟨G, ρ, he, hk, ht, h⟩ := h
  refine sp_run he hk ht h fun v d G1 H1 e1 r h1 => ?_
  have r : Dv p.K G1 v d := r
  cases r <;> first | exact (show False from h1).elim | skip
  rename_i k
  cases q : ρ[i]? with
  | none => rw [q] at h1; exact (show False from h1).elim
  | some s =>
    rw [q] at h1
    cases s <;> first | exact (show False from h1).elim | skip
    rename_i es
    obtain ⟨a', h2, h3⟩ := he.fd i es q
    have h3' : H1 a' = some (.dK (dkV es)) := (e1.gh _ _ (e1.g _ _ h3 rfl)).2
    refine ⟨_, h2, a', _, rfl, DGet.k (k := Sum.inl k) h3', ?_⟩
    rw [val_dk]
    exact h1 (.bl _) G1 H1 (Ext.refl e1.gh) (.bl _)
end
end J

set_option linter.all false
set_option maxRecDepth 100000
set_option maxHeartbeats 4000000
/-! # any, all of a generator expression whose element is any expression -/
namespace J
open PySem PySem.Spec PyProof.Rows L2 RZ
/-- the generator's own frame -/
abbrev gcx (X : Cx) (s : Shared) (H : Hp) (gv : Env) (A : Around) (fp : List Addr) (pn : List (Addr × Obj)) : Cx :=
  { X with A := A, s_0 := s, H_0 := H, env := gv, outer := X.stack, stack := gv :: X.stack, ex := fp, fn := fun _ => false, calm := true, pn := pn, xe := fun _ _ => False }
structure GexOk (N : List Str) (sc scope : Scope) (own : List (Str × Nat)) : Prop where
  blk : BlkOk N sc scope own
  co : scope.isCoroutine = false
  nocell : ∀ y ∈ scope.names, y.2 ≠ NameKind.cell
  dot : scope.names.lookup (".0" : Str) = some NameKind.local
section
variable {X : Cx} {pins : List (Addr × Obj)} {σ : L2.St} {H : Hp} {s : Shared}
theorem gex_start {scope : Scope} {own : List (Str × Nat)} {fp : List Addr} {gv : Env} {A : Around} {pn : List (Addr × Obj)} {code it : Value} {s' : Shared}
    (I : Inv X pins σ H s) (gok : GexOk X.N X.env.scope scope own) (hN : X.N.Nodup) (hfp : ∀ b ∈ fp, FpOk X pins H b ∧ b < s.heap.objs.size)
    (hgv : gv = genEnv scope (cloFrom X.env.cells scope.names []) s.heap.objs.size code builtinsNs X.env)
    (hA : A.handled = none) (hf : A.frames = some (gv :: X.stack)) (hos : s'.os = s.os) (hb : AllBare s'.gens)
    (hk : ∀ b o, s.heap.get? b = some o → s'.heap.get? b = some o) (hns : s'.heap.Ns s.heap.objs.size fun y => if y = (".0" : Str) then some it else none)
    (hpn : ∀ p ∈ pn, s'.heap.get? p.1 = some p.2 ∧ s.heap.objs.size < p.1 ∧ ∀ v, p.2.data ≠ .cell v) :
    Inv (gcx X s H gv A fp pn) [] (wipe σ (own.map (·.2))) H s' := by
  have ok := gok.blk
  have eL : gv.locals = s.heap.objs.size := by rw [hgv]; rfl
  have eS : gv.scope = scope := by rw [hgv]; rfl
  have eC : gv.cells = cloFrom X.env.cells scope.names [] := by rw [hgv]; rfl
  have hfree : ∀ y ∈ scope.names, y.2 = .free → ∃ c, X.env.cells.lookup y.1 = some c := fun y hy e =>
    (ok.free y hy e).elim (fun k => I.ok.has _ (.inl k)) (fun k => I.ok.has _ (.inr k))
  have cm : ∀ {y c}, gv.cells.lookup y = some c → X.env.cells.lookup y = some c := fun {y c} e => by
    rw [eC] at e
    rcases cloFrom_mem (PySem.mem_of_lookup e) with hm | ⟨h1, rfl⟩
    · exact absurd hm (by simp)
    · obtain ⟨c, hc⟩ := hfree _ h1 rfl
      rw [hc]; rfl
  have look : ∀ {y}, scope.names.lookup y = some .free → ∃ c, gv.cells.lookup y = some c := fun {y} hl => by
    obtain ⟨c', e'⟩ := mem_lookup (cloFrom_has (cells := X.env.cells) (acc := []) (PySem.mem_of_lookup hl))
    exact ⟨c', by rw [eC]; exact e'⟩
  have okG : (gcx X s H gv A fp pn).Ok := by
    refine ⟨I.ok.mod, by show gv.scope.kind = _; rw [eS]; exact ok.kind, by show gv.globals = _; rw [hgv]; exact I.ok.glob, by show gv.builtins = _; rw [hgv]; rfl, by show s.heap.objs.size ≤ gv.locals; rw [eL]; exact Nat.le_refl _,
      fun y z c e1 e2 => I.ok.inj y z c (cm e1) (cm e2), fun y hy => ?_, fun y c z _ => ?_, fun _ => hA, hf, .inr ⟨rfl, by show gv.frame = some gv.locals; rw [hgv]; rfl⟩, fun b hb => ⟨?_, fun y c e z => ?_⟩, I.bs, Nat.le_trans I.ok.bsz I.sz, fun b o e hb => ?_, fun b hb z => ?_, I.stack, I.stkFree⟩
    · have key : scope.names.lookup y = some .cell ∨ scope.names.lookup y = some .free := by
        have hy : gv.kindOf y = some .cell ∨ gv.kindOf y = some .free := hy
        unfold Env.kindOf at hy
        rw [eS] at hy
        exact hy
      rcases key with e | e
      · exact absurd rfl (gok.nocell _ (PySem.mem_of_lookup e))
      · exact look e
    · exact absurd (show false = true from z) (by simp)
    · show b ≠ gv.locals
      rw [eL]; exact Nat.ne_of_lt (hfp b hb).2
    · exact (hfp b hb).1.2.2.2.2.1 y c (cm (show gv.cells.lookup y = some c from e)) z
    · rcases (hfp b hb).1.2.2.2.1 with z | z
      · exact I.ok.noex b o e z
      · exact absurd (Nat.lt_of_lt_of_le (Heap.lt_size e) (Nat.le_trans I.ok.bsz z)) (Nat.lt_irrefl _)
    · rcases List.mem_cons.mp (I.stkSub b z) with z | z
      · exact (hfp b hb).1.2.1 z
      · exact (hfp b hb).1.2.2.1 z
  refine ⟨okG, hos, hb, Un.kept hk, ⟨_, by rw [eL]; exact hns, fun i y av e1 e2 e3 => ?_⟩, fun y c e => ?_, ?_, fun y c e => ?_, fun p hp => ?_, I.hok.kept hk, by rw [wipe_length]; exact I.len⟩
  · obtain ⟨e2, hne⟩ := wipe_some e2
    have e3 : Vis gv.scope y := e3
    unfold Vis at e3
    rw [eS] at e3
    have no : ¬ (scope.names.lookup y = some .local ∨ scope.names.lookup y = some .cell) := fun hh => by
      have : y ∈ own.map (·.1) ∨ y ∉ X.N := by
        rcases hh with e | e
        · exact ok.own _ (PySem.mem_of_lookup e) (.inl rfl)
        · exact ok.own _ (PySem.mem_of_lookup e) (.inr rfl)
      rcases this with e' | e'
      · obtain ⟨p, hp, hpy⟩ := List.mem_map.mp e'
        have e4 := ok.ix p hp
        rw [show p.1 = y from hpy] at e4
        exact hne (List.mem_map.mpr ⟨p, hp, nodup_ix hN e4 e1⟩)
      · exact e' (List.mem_of_getElem? e1)
    have fr : scope.names.lookup y = some .free := by
      rcases e3 with e | e | e
      · exact absurd (.inl e) no
      · exact absurd (.inr e) no
      · exact e
    obtain ⟨m, hn, hl⟩ := I.loc
    have hkind := ok.free _ (PySem.mem_of_lookup fr) rfl
    obtain ⟨w, r, q⟩ := hl i y av e1 e2 (hkind.elim (fun k => .inr (.inl k)) fun k => .inr (.inr k))
    refine ⟨w, r, .inr ⟨.inr (by unfold Env.kindOf; rw [eS]; exact fr), ?_⟩⟩
    obtain ⟨c, h1⟩ := look fr
    have h2 := cm h1
    rcases q with ⟨k, _⟩ | ⟨_, c', e', z⟩
    · have k : X.env.scope.names.lookup y = some .local := k
      rcases hkind with k' | k' <;> (have k' : X.env.scope.names.lookup y = _ := k'; rw [k'] at k; cases k)
    · rw [h2] at e'; cases e'
      exact ⟨c, h1, z.keeps hk⟩
  · obtain ⟨w, z⟩ := I.cell y c (cm (show gv.cells.lookup y = some c from e))
    exact ⟨w, z.keeps hk⟩
  · show H gv.locals = none
    rw [eL]; exact I.hok.fresh (Nat.le_refl _)
  · exact I.freeC y c (cm (show gv.cells.lookup y = some c from e))
  · rw [List.append_nil] at hp
    obtain ⟨h1, h2, h3⟩ := hpn p hp
    exact ⟨h1, I.hok.fresh (Nat.le_of_lt h2), by show p.1 ≠ gv.locals; rw [eL]; exact Nat.ne_of_gt h2, fun z => by
      rcases List.mem_cons.mp (I.stkSub p.1 z) with z | z
      · exact absurd (show p.1 < s.heap.objs.size from by rw [z]; exact I.lt) (Nat.not_lt.mpr (Nat.le_of_lt h2))
      · exact I.nofs (Nat.le_of_lt h2) z, h3⟩

theorem over_gl {A : Around} {elt : Expr} {gs : List Comprehension} {scope : Scope} {pos : Pos} {it acc : Value} {gv : Env} : A.over (.compLoop (.GeneratorExp elt gs scope pos) 0 it acc gv) [] = A.deeper gv := by
  obtain ⟨hd, d, fr, gu, u⟩ := A
  cases fr <;> cases gu <;> rfl
theorem over_gs {A : Around} {elt : Expr} {gs : List Comprehension} {scope : Scope} {pos : Pos} {it acc : Value} {gv : Env} : A.over (.compStart (.GeneratorExp elt gs scope pos) 0 it acc gv) [] = A.deeper gv := by
  obtain ⟨hd, d, fr, gu, u⟩ := A
  cases fr <;> cases gu <;> rfl
/-- how the generator ends, what it hands out: for a consumer that stops at e -/
def gR (X : Cx) (pins : List (Addr × Obj)) (σ : L2.St) (e : Bool) (Q : VK) : GenEnd := fun _ _ r s1 => ((r = .ok (.ret .none) ∨ r = .ok .next) ∧ ∃ H', Inv X pins σ H' s1 ∧ Q (.bl (!e)) H') ∨ ∃ u, r = .error u ∧ False
def gY (X : Cx) (pins : List (Addr × Obj)) (σ : L2.St) (e : Bool) (Q : VK) (a : Addr) (g : Nat) : Protocol := fun _ _ v s1 kap =>
  ∃ b H', v = .bool b ∧ s1.heap.IsGen a g ∧ Inv X pins σ H' s1 ∧ (if b = e then Q (.bl e) H' else ∀ s', s'.heap = s1.heap → s'.os = s1.os → AllBare s'.gens → kap (.send .none) s')
/-- what the turns are to reach -/
def gW (e : Bool) (J : It) (g : TG) (te : TE) (vs : List Nat) (σ : L2.St) (Q : VK) (W : Nat → Nat → Hp → Prop) : Prop := ∀ i m H, W i m H →
  (J.stop i H ∧ Q (.bl (!e)) H) ∨ (J.go i H ∧ ∃ Nx : Hp → Prop, (∀ H', Nx H' → ∃ m', m' < m ∧ W (i + 1) m' H') ∧ ∀ x H', J.yld i H x H' → g x (wipe σ vs) H' fun σ2 H2 => wipe σ2 vs = wipe σ vs ∧ te σ2 H2 fun y H3 =>
    ∃ b, y = .bl b ∧ if b = e then Q (.bl e) H3 else Nx H3)
theorem gex_seg {scope : Scope} {own : List (Str × Nat)} {fp : List Addr} {gv : Env} {A : Around} {go : Obj} {a : Addr} {gn : Nat} {e : Bool} {Q : VK} {it : Addr} {tn : Nat → Heap → Prop} {J : It} {tg iter elt : Expr} {g : TG} {te : TE} {pos : Pos} {W : Nat → Nat → Hp → Prop}
    (I3 : Inv X pins σ H s) (hfp : ∀ b ∈ fp, FpOk X pins H b) (hgen : ∀ h : Heap, h.get? a = some go → h.IsGen a gn) (hco : gv.scope.isCoroutine = false) (hafp : ∀ b ∈ fp, b ≠ a)
    (T : Turn X.prog X.w X.K tg J fp it tn) (pg : PG (gcx X s H gv (A.deeper gv) fp [(a, go)]) tg g) (pe : PE (gcx X s H gv (A.deeper gv) fp [(a, go)]) elt te) (hW : gW e J g te (own.map (·.2)) σ Q W) :
    ∀ (n m i : Nat) (H5 : Hp) (s0 s5 : Shared), m < n → Inv (gcx X s H gv (A.deeper gv) fp [(a, go)]) [] (wipe σ (own.map (·.2))) H5 s5 → tn i s5.heap → (∀ b ∈ fp, H5 b = none) → W i m H5 →
      Seg (model X.prog X.w) A (gR X pins σ e Q) (gY X pins σ e Q a gn) n s0 (.compLoop (.GeneratorExp elt [⟨tg, iter, [], 0⟩] scope pos) 0 (.ref it) .none gv)
        ((model X.prog X.w).den (.compLoop (.GeneratorExp elt [⟨tg, iter, [], 0⟩] scope pos) 0 (.ref it) .none gv)) [] s5 := by
  have toX : ∀ {σ' : L2.St} {H' : Hp} {ps : List (Addr × Obj)} {s' : Shared}, Inv (gcx X s H gv (A.deeper gv) fp [(a, go)]) ps σ' H' s' → Inv X pins σ H' s' := fun {σ' H' ps s'} I' =>
    I3.call' (ch := fp) I'.os I'.base I'.hok I'.bare fun b hb => ⟨(hfp b hb).2.2.2.1, (hfp b hb).2.1, (hfp b hb).2.2.2.2.1, (hfp b hb).2.2.2.2.2⟩
  have isg : ∀ {σ' : L2.St} {H' : Hp} {ps : List (Addr × Obj)} {s' : Shared}, Inv (gcx X s H gv (A.deeper gv) fp [(a, go)]) ps σ' H' s' → s'.heap.IsGen a gn := fun {σ' H' ps s'} I' =>
    hgen _ (I'.pin (a, go) (List.mem_append_left _ (List.mem_singleton.mpr rfl))).1
  have stat : ∀ {σ' : L2.St} {H' : Hp} {s' : Shared}, Inv (gcx X s H gv (A.deeper gv) fp [(a, go)]) [] σ' H' s' → (∀ b ∈ fp, H' b = none) → (∀ b ∈ fp, b ≠ a) → ∀ b ∈ fp, FpOk (gcx X s H gv (A.deeper gv) fp [(a, go)]) [] H' b := fun {σ' H' s'} I' hn ha b hb =>
    ⟨hn b hb, (I'.ok.exf b hb).1, I'.ok.exfs b hb, .inl hb, fun x c e => (I'.ok.exf b hb).2 x c e, fun p hp => by
      rw [List.append_nil] at hp
      rw [List.mem_singleton.mp hp]
      exact (ha b hb).symm⟩
  have hov : ∀ gs, A.over (.compLoop (.GeneratorExp elt gs scope pos) 0 (.ref it) .none gv) [] = A.deeper gv := fun gs => over_gl
  intro n
  induction n with
  | zero => intro m i H5 s0 s5 hm; exact absurd hm (Nat.not_lt_zero _)
  | succ n ih =>
    intro m i H5 s0 s5 hm I5 st5 n5 w5
    show Seg _ A _ _ _ s0 _ ((compTurn (.GeneratorExp elt [⟨tg, iter, [], 0⟩] scope pos) 0 (.ref it) .none gv).onRaise (leaving gv)) [] s5
    rw [compTurn_gen, Sem.onRaise_eq_wrap]
    refine seg_bind_wrap (wpAny_standAt ?_)
    rcases hW i m H5 w5 with ⟨stop, qq⟩ | ⟨go', Nx, hNx, step⟩
    · have td := T.done (gcx X s H gv (A.deeper gv) fp [(a, go)]) rfl rfl rfl rfl i [] s5 _ H5 (fun _ _ => False) I5 (stat I5 n5 hafp) st5 stop
      refine seg_bind_wrap ?_
      rw [hov]
      refine thnF td fun r s6 ⟨hr, I6⟩ => ?_
      subst hr
      exact seg_end (.ok .next) (.inl ⟨.inr rfl, H5, toX I6, qq⟩)
    · have ti := T.item (gcx X s H gv (A.deeper gv) fp [(a, go)]) rfl rfl rfl rfl i [] s5 _ H5 (fun _ _ => False) I5 (stat I5 n5 hafp) st5 go'
      refine seg_bind_wrap ?_
      rw [hov]
      refine thnF ti fun r s6 ⟨u, hr, h6⟩ => ?_
      subst hr
      refine seg_bind_wrap ?_
      rw [hov]
      refine thnF h6 fun _ s7 ⟨x, H7, I7, r7, y7, st7, n7⟩ => ?_
      have I7' := I7.pinned (stat I7 n7 hafp) (T.obj _ _ st7)
      refine seg_bind_wrap ?_
      rw [hov]
      refine thnF (pg.run _ s7 _ H7 x u _ I7' r7 (step x H7 y7)) fun _ s8 ⟨σ8, H8, I8, hw8, q8⟩ => ?_
      refine seg_bind_wrap ?_
      simp only [List.forIn_nil]
      refine wpAny_pure ?_
      simp only [if_true]
      have hy : ∀ v, yieldOut gv v = yieldValue v := fun v => by simp only [yieldOut, hco, Bool.false_eq_true, if_false]
      simp only [hy]
      rw [Sem.bind_eq_wrap', Sem.bind_eq_wrap', Sem.wrap_wrap, Sem.wrap_wrap]
      refine seg_wrap ?_
      rw [hov]
      refine thnF (pe.run _ s8 σ8 H8 _ I8 q8) fun v s9 ⟨y, H9, I9, ry, b, hyb, q9⟩ => ?_
      subst hyb
      obtain rfl : v = Value.bool b := ry
      refine seg_at (seg_yield rfl rfl rfl ⟨b, H9, rfl, isg I9, toX I9, ?_⟩)
      split
      · rename_i hb; rw [if_pos hb] at q9; exact q9
      · rename_i hb
        rw [if_neg hb] at q9
        intro s' e1 e2 e3
        obtain ⟨m', hm', w'⟩ := hNx H9 q9
        have pin' : ∀ b ∈ fp, ∀ o, s7.heap.get? b = some o → s9.heap.get? b = some o ∧ H9 b = none := fun b hb o eo =>
          let z := I9.pin (b, o) (List.mem_append_right _ (List.mem_append_right _ (mem_pinsAt hb eo)))
          ⟨z.1, z.2.1⟩
        have hl : (wipe σ (own.map (·.2))).length = σ8.length := by rw [← hw8, wipe_length]
        have I10 : Inv (gcx X s H gv (A.deeper gv) fp [(a, go)]) [] (wipe σ (own.map (·.2))) H9 s9 := (I9.unpinned (pins := [])).weak hl fun j v ev => by
          rw [← hw8] at ev
          exact (wipe_some ev).1
        have I11 : Inv (gcx X s H gv (A.deeper gv) fp [(a, go)]) [] (wipe σ (own.map (·.2))) H9 s' :=
          I10.call' (ch := []) e2 (by rw [e1]; exact Un.refl) (by rw [e1]; exact I10.hok) e3 fun b z => absurd z (by simp)
        refine seg_again rfl (ih m' (i + 1) H9 s' s' (by omega) I11 ?_ (fun b hb => ?_) w')
        · rw [e1]
          exact T.keep _ _ _ st7 fun b hb o eo => (pin' b hb o eo).1
        · obtain ⟨o, eo, _⟩ := T.obj _ _ st7 b hb
          exact (pin' b hb o eo).2

theorem gex_seg0 {A : Around} {R : GenEnd} {Y : Protocol} {n : Nat} {s0 s5 : Shared} {elt tg iter : Expr} {scope : Scope} {pos : Pos} {it : Addr} {gv : Env} {prog : Program} {w : World}
    (loop : Seg (model prog w) A R Y n s0 (.compLoop (.GeneratorExp elt [⟨tg, iter, [], 0⟩] scope pos) 0 (.ref it) .none gv) ((model prog w).den (.compLoop (.GeneratorExp elt [⟨tg, iter, [], 0⟩] scope pos) 0 (.ref it) .none gv)) [] s5)
    (self : ∀ (B : Around) (Q : Value → Shared → Prop) (E : Value → Shared → Prop), Q (.ref it) s5 → wpAny (model prog w) B (pyIter (.ref it)) Q E s5) :
    Seg (model prog w) A R Y n s0 (.compStart (.GeneratorExp elt [⟨tg, iter, [], 0⟩] scope pos) 0 (.ref it) .none gv) ((model prog w).den (.compStart (.GeneratorExp elt [⟨tg, iter, [], 0⟩] scope pos) 0 (.ref it) .none gv)) [] s5 := by
  show Seg _ A _ _ _ s0 _ ((compStart (.GeneratorExp elt [⟨tg, iter, [], 0⟩] scope pos) 0 (.ref it) .none gv).onRaise (leaving gv)) [] s5
  unfold compStart
  rw [Sem.onRaise_eq_wrap]
  show Seg _ A _ _ _ s0 _ ((ask >>= _).wrap _ _ _ _) [] s5
  refine seg_bind_wrap (wpAny_askSetting ?_)
  split
  · exact seg_again rfl loop
  · first
      | exact seg_bind_wrap (wpAny_rule (seg_bind_wrap (wpAny_standAt (seg_bind_wrap (self _ _ _ (seg_again rfl loop))))))
      | (refine seg_bind_wrap (wpAny_rule ?_); show Seg _ A _ _ _ s0 _ ((standAt iter.pos >>= _).wrap _ _ _ _) [] s5; exact seg_bind_wrap (wpAny_standAt (seg_bind_wrap (self _ _ _ (seg_again rfl loop)))))
/-- the loop of any -/
theorem any_drain {a : Addr} {g : Nat} {A : Around} {Q : VK} {R : Result → Shared → Prop} (hh : A.handled = none) (hd : A.depth < recursionLimit)
    (hR : ∀ b H' s', Inv X pins σ H' s' → Q (.bl b) H' → R (.ok (.ret (.bool b))) s') :
    ∀ (m : Nat) (s5 : Shared), s5.heap.IsGen a g → s5.heap.NoLimit → (∃ gs, s5.gens[g]? = some gs ∧ gs.Goes (model X.prog X.w) A.in1.in1 (gR X pins σ true Q) (gY X pins σ true Q a g) m (.send .none) (s5.setGen g .running)) →
      codeAny (model X.prog X.w) A (.builtin "any.loop" ⟨[.ref a], []⟩) R s5 := by
  have bare : ∀ {H' : Hp} {s' : Shared} {x : GenState}, Inv X pins σ H' s' → x.bare = true → Inv X pins σ H' (s'.setGen g x) := fun {H' s' x} I' hx =>
    I'.call' (ch := []) rfl Un.refl I'.hok (allBare_setGen I'.bare hx) fun b z => absurd z (by simp)
  intro m
  induction m with
  | zero =>
    intro s5 hg hl ⟨gs, hgs, hgo⟩
    refine codeAny_builtin F.entry_any_loop ?_
    rw [Around.under_plainId F.plain_any_loop _]
    show wpAny _ A.in1 (pyNext (.ref a) >>= _) _ _ s5
    refine wpAny_bind (next_genG (A := A.in1) (n := 0) (F := fun _ _ s1 => ∃ H', Inv X pins σ H' s1 ∧ Q (.bl (!true)) H') (Er := fun _ _ => False) (Y := gY X pins σ true Q a g) hh hl hd hg hgs hgo (fun v s1 gs' hbare hv => ?_) (fun s1 hp h' hk => ?_) fun e s1 he => he.elim)
    · obtain ⟨b, H', rfl, hg1, I1, h4⟩ := hv
      refine wpAny_bind (wpAny_holding (wpAny_truthy_bool ?_))
      refine wpAny_bind (wpAny_letGo ?_)
      cases b <;> simp only [Bool.not_true, Bool.not_false, Bool.false_eq_true, Bool.true_eq_false, if_true, if_false] at h4 ⊢
      all_goals first
        | exact False.elim (h4 s1 rfl rfl I1.bare)
        | exact wpAny_bind (wpAny_rule (wpAny_pure (hR _ H' _ (bare I1 hbare) h4)))
    · obtain ⟨H', I1, q⟩ := hp
      refine wpAny_bind (wpAny_rule (wpAny_pure (hR (!true) H' _ ?_ q)))
      exact I1.call' (ch := []) rfl (Un.kept hk) (I1.hok.kept hk) (allBare_setGen I1.bare rfl) fun b z => absurd z (by simp)
  | succ m ih =>
    intro s5 hg hl ⟨gs, hgs, hgo⟩
    have hgl : g < s5.gens.size := (Array.getElem?_eq_some_iff.mp hgs).1
    refine codeAny_builtin F.entry_any_loop ?_
    rw [Around.under_plainId F.plain_any_loop _]
    show wpAny _ A.in1 (pyNext (.ref a) >>= _) _ _ s5
    refine wpAny_bind (GenW.wpAny_gsz (n := g + 1) hgl (next_genG (A := A.in1) (n := m + 1) (F := fun _ _ s1 => ∃ H', Inv X pins σ H' s1 ∧ Q (.bl (!true)) H') (Er := fun _ _ => False) (Y := gY X pins σ true Q a g) hh hl hd hg hgs hgo (fun v s1 gs' hbare hv => ?_) (fun s1 hp h' hk => ?_) fun e s1 he => he.elim))
    · intro hsz
      obtain ⟨b, H', rfl, hg1, I1, h4⟩ := hv
      refine wpAny_bind (wpAny_holding (wpAny_truthy_bool ?_))
      refine wpAny_bind (wpAny_letGo ?_)
      cases b <;> simp only [Bool.not_true, Bool.not_false, Bool.false_eq_true, Bool.true_eq_false, if_true, if_false] at h4 ⊢
      all_goals first
        | exact wpAny_bind (wpAny_rule (wpAny_pure (hR _ H' _ (bare I1 hbare) h4)))
        | (have hsz1 : g < s1.gens.size := by
            have q : (s1.setGen g gs').gens.size = s1.gens.size := GenW.setGen_size _ _ _
            have hsz' : g + 1 ≤ (s1.setGen g gs').gens.size := hsz
            omega
           refine wpAny_pure ⟨plainId_quiet F.plain_any_loop _, ih (s1.setGen g gs') hg1 I1.nolimit ⟨gs', setGen_at hsz1, h4 _ rfl rfl ?_⟩⟩
           exact allBare_setGen (s := s1.setGen g gs') (allBare_setGen I1.bare hbare) rfl)
    · intro hsz
      obtain ⟨H', I1, q⟩ := hp
      refine wpAny_bind (wpAny_rule (wpAny_pure (hR (!true) H' _ ?_ q)))
      exact I1.call' (ch := []) rfl (Un.kept hk) (I1.hok.kept hk) (allBare_setGen I1.bare rfl) fun b z => absurd z (by simp)
/-- the loop of all -/
theorem all_drain {a : Addr} {g : Nat} {A : Around} {Q : VK} {R : Result → Shared → Prop} (hh : A.handled = none) (hd : A.depth < recursionLimit)
    (hR : ∀ b H' s', Inv X pins σ H' s' → Q (.bl b) H' → R (.ok (.ret (.bool b))) s') :
    ∀ (m : Nat) (s5 : Shared), s5.heap.IsGen a g → s5.heap.NoLimit → (∃ gs, s5.gens[g]? = some gs ∧ gs.Goes (model X.prog X.w) A.in1.in1 (gR X pins σ false Q) (gY X pins σ false Q a g) m (.send .none) (s5.setGen g .running)) →
      codeAny (model X.prog X.w) A (.builtin "all.loop" ⟨[.ref a], []⟩) R s5 := by
  have bare : ∀ {H' : Hp} {s' : Shared} {x : GenState}, Inv X pins σ H' s' → x.bare = true → Inv X pins σ H' (s'.setGen g x) := fun {H' s' x} I' hx =>
    I'.call' (ch := []) rfl Un.refl I'.hok (allBare_setGen I'.bare hx) fun b z => absurd z (by simp)
  intro m
  induction m with
  | zero =>
    intro s5 hg hl ⟨gs, hgs, hgo⟩
    refine codeAny_builtin F.entry_all_loop ?_
    rw [Around.under_plainId F.plain_all_loop _]
    show wpAny _ A.in1 (pyNext (.ref a) >>= _) _ _ s5
    refine wpAny_bind (next_genG (A := A.in1) (n := 0) (F := fun _ _ s1 => ∃ H', Inv X pins σ H' s1 ∧ Q (.bl (!false)) H') (Er := fun _ _ => False) (Y := gY X pins σ false Q a g) hh hl hd hg hgs hgo (fun v s1 gs' hbare hv => ?_) (fun s1 hp h' hk => ?_) fun e s1 he => he.elim)
    · obtain ⟨b, H', rfl, hg1, I1, h4⟩ := hv
      refine wpAny_bind (wpAny_holding (wpAny_truthy_bool ?_))
      refine wpAny_bind (wpAny_letGo ?_)
      cases b <;> simp only [Bool.not_true, Bool.not_false, Bool.false_eq_true, Bool.true_eq_false, if_true, if_false] at h4 ⊢
      all_goals first
        | exact False.elim (h4 s1 rfl rfl I1.bare)
        | exact wpAny_bind (wpAny_rule (wpAny_pure (hR _ H' _ (bare I1 hbare) h4)))
    · obtain ⟨H', I1, q⟩ := hp
      refine wpAny_bind (wpAny_rule (wpAny_pure (hR (!false) H' _ ?_ q)))
      exact I1.call' (ch := []) rfl (Un.kept hk) (I1.hok.kept hk) (allBare_setGen I1.bare rfl) fun b z => absurd z (by simp)
  | succ m ih =>
    intro s5 hg hl ⟨gs, hgs, hgo⟩
    have hgl : g < s5.gens.size := (Array.getElem?_eq_some_iff.mp hgs).1
    refine codeAny_builtin F.entry_all_loop ?_
    rw [Around.under_plainId F.plain_all_loop _]
    show wpAny _ A.in1 (pyNext (.ref a) >>= _) _ _ s5
    refine wpAny_bind (GenW.wpAny_gsz (n := g + 1) hgl (next_genG (A := A.in1) (n := m + 1) (F := fun _ _ s1 => ∃ H', Inv X pins σ H' s1 ∧ Q (.bl (!false)) H') (Er := fun _ _ => False) (Y := gY X pins σ false Q a g) hh hl hd hg hgs hgo (fun v s1 gs' hbare hv => ?_) (fun s1 hp h' hk => ?_) fun e s1 he => he.elim))
    · intro hsz
      obtain ⟨b, H', rfl, hg1, I1, h4⟩ := hv
      refine wpAny_bind (wpAny_holding (wpAny_truthy_bool ?_))
      refine wpAny_bind (wpAny_letGo ?_)
      cases b <;> simp only [Bool.not_true, Bool.not_false, Bool.false_eq_true, Bool.true_eq_false, if_true, if_false] at h4 ⊢
      all_goals first
        | exact wpAny_bind (wpAny_rule (wpAny_pure (hR _ H' _ (bare I1 hbare) h4)))
        | (have hsz1 : g < s1.gens.size := by
            have q : (s1.setGen g gs').gens.size = s1.gens.size := GenW.setGen_size _ _ _
            have hsz' : g + 1 ≤ (s1.setGen g gs').gens.size := hsz
            omega
           refine wpAny_pure ⟨plainId_quiet F.plain_all_loop _, ih (s1.setGen g gs') hg1 I1.nolimit ⟨gs', setGen_at hsz1, h4 _ rfl rfl ?_⟩⟩
           exact allBare_setGen (s := s1.setGen g gs') (allBare_setGen I1.bare hbare) rfl)
    · intro hsz
      obtain ⟨H', I1, q⟩ := hp
      refine wpAny_bind (wpAny_rule (wpAny_pure (hR (!false) H' _ ?_ q)))
      exact I1.call' (ch := []) rfl (Un.kept hk) (I1.hok.kept hk) (allBare_setGen I1.bare rfl) fun b z => absurd z (by simp)

/-- any, all (they stop at e) of a generator expression; P: the def's table of code objects -/
def tGe (P : Addr) (e : Bool) (wi : TI) (g : TG) (te : TE) (vs : List Nat) : TE := fun σ H Q => wi σ H fun J H1 => GxR.TabG H1 P ∧ ∀ H2, GxR.Tabbed P H1 H2 → ∃ W, (∃ m, W 0 m H2) ∧ gW e J g te vs σ Q W
theorem gex_make {c P : Addr} {elt tg iter : Expr} {scope : Scope} {own : List (Str × Nat)} {gpos : Pos} {wi : TI} {g : TG} {te : TE} {j : Nat} {e : Bool} {Q : VK} {Q' : Value → Shared → Prop}
    (hr : Room (j + 1) X.A) (hc : X.calm = true) (TB : LamX.TabB X.base X.mg c P) (hcode : X.env.code = .ref c) (gok : GexOk X.N X.env.scope scope own) (hN : X.N.Nodup) (hi : PI X tg iter wi)
    (hpg : ∀ (s : Shared) (H : Hp) (C : Addr) (cl : List (Str × Addr)) (cv : Value) (A : Around) (fp : List Addr) (pn : List (Addr × Obj)), Room j A → PG (gcx X s H (genEnv scope cl C cv builtinsNs X.env) A fp pn) tg g)
    (hpe : ∀ (s : Shared) (H : Hp) (C : Addr) (cl : List (Str × Addr)) (cv : Value) (A : Around) (fp : List Addr) (pn : List (Addr × Obj)), Room j A → PE (gcx X s H (genEnv scope cl C cv builtinsNs X.env) A fp pn) elt te)
    (hs : ∀ x, genFold iter X.env x = pure x) (I : Inv X pins σ H s) (h : tGe P e wi g te (own.map (·.2)) σ H Q)
    (hQ : ∀ a gn s5, s5.heap.IsGen a gn → s5.heap.NoLimit → (∃ m gs, s5.gens[gn]? = some gs ∧ gs.Goes (model X.prog X.w) X.A.in1.in1 (gR X pins σ e Q) (gY X pins σ e Q a gn) m (.send .none) (s5.setGen gn .running)) → Q' (.ref a) s5) :
    wpAny (model X.prog X.w) X.A (eval (.GeneratorExp elt [⟨tg, iter, [], 0⟩] scope gpos) X.env) Q' X.xe s := by
  have ok := gok.blk
  have hfree : ∀ y ∈ scope.names, y.2 = .free → ∃ c, X.env.cells.lookup y.1 = some c := fun y hy e =>
    (ok.free y hy e).elim (fun k => I.ok.has _ (.inl k)) (fun k => I.ok.has _ (.inr k))
  refine wpAny_GeneratorExp_make gok.co (closure_ok hfree) gok.nocell gok.dot ok.kind (by have := hr.dp; omega) ?_ hs
  refine thn (hi.run pins s σ H _ I h) fun xv s1 hx => thn hx fun itv s2 h2 => ?_
  obtain ⟨it, fp, tn, J, H2, e2, I2, T, st2, f2, ⟨ps, hP, hok⟩, hq⟩ := h2
  subst e2
  refine ⟨I2.nolimit, ?_⟩
  have hPs : s2.heap.get? P = some { cls := .none, data := .fields ps } := I2.hok P _ hP
  have cd : PySem.W.CodeHd s2.heap c P := TB.code.keeps I2.bk
  have sz : ∀ b ∈ fp, b < s2.heap.objs.size := fun b hb => by
    obtain ⟨o, eo, _⟩ := T.obj _ _ st2 b hb
    exact Heap.lt_size eo
  have cont : ∀ (code : Value) (h3 : Heap) (tk : Nat) (more : Array Value), Heap.ExtBut P s2.heap h3 → s2.heap.objs.size ≤ h3.objs.size → h3.get? P = some { cls := .none, data := .fields (ps ++ more) } → TriplesOk (ps ++ more).toList →
      wpAny (model X.prog X.w) X.A (builtinsFor X.env.globals X.env.builtins) (fun bi s₄ => ∀ h', h'.Ns s₄.heap.objs.size (fun y => if y = (".0" : Str) then some (.ref it) else none) → Heap.SameBut s₄.heap.objs.size (s₄.heap.push { cls := .type "frame", data := .dict #[] }) h' →
          Q' (.ref h'.objs.size) { s₄ with
            gens := s₄.gens.push (.fresh (.compStart (.GeneratorExp elt [⟨tg, iter, [], 0⟩] scope gpos) 0 (.ref it) .none (genEnv scope (cloFrom X.env.cells scope.names []) s₄.heap.objs.size code bi X.env))),
            toks := s₄.toks + 1 + 1 + 1,
            heap := h'.push { cls := .type "generator", data := .fields #[.int s₄.gens.size 0, .str "<genexpr>" (s₄.toks + 1), .str (X.env.qual ++ "<genexpr>") (s₄.toks + 1 + 1)] } }) X.xe { s2 with heap := h3, toks := tk } := by
    intro code h3 tk more hx hsz hP3 ht3
    obtain ⟨bm, ob, b1, b2, b3, b4, b5, b6, b7, b8⟩ := TB.bm
    have keep3 : ∀ b u, b ≠ P → s2.heap.get? b = some u → h3.get? b = some u := fun b u hb eu => hx b u hb eu
    refine wpAny_builtinsFor (m := X.mg) (by rw [I2.ok.glob]; exact ((I2.mod.glob.keeps I2.bk)).extBut hx TB.gP) b1 b2 (keep3 _ _ b4 (I2.bk _ _ b5)) b6 b7 b8 ?_
    have I3 : Inv X pins σ (upd H2 P (.tbl (ps ++ more))) { s2 with heap := h3, toks := tk } :=
      GxR.inv_tab (g' := s2.gens) (d' := s2.drawn) (t' := tk) I2 hP keep3 hP3 I2.bare
    generalize hs3 : ({ s2 with heap := h3, toks := tk } : Shared) = s3 at I3 ⊢
    have h3e : s3.heap = h3 := by rw [← hs3]
    have nP : ∀ b ∈ fp, b ≠ P := fun b hb z => by
      have := (f2 b hb).1
      rw [z, hP] at this
      cases this
    have f3 : ∀ b ∈ fp, FpOk X pins (upd H2 P (.tbl (ps ++ more))) b ∧ b < s3.heap.objs.size := fun b hb => by
      refine ⟨⟨?_, (f2 b hb).2⟩, by rw [h3e]; exact Nat.lt_of_lt_of_le (sz b hb) hsz⟩
      rw [upd_ne (nP b hb)]
      exact (f2 b hb).1
    have st3 : tn 0 s3.heap := T.keep _ _ _ st2 fun b hb o eo => by rw [h3e]; exact keep3 b o (nP b hb) eo
    obtain ⟨W, ⟨m0, w0⟩, hW⟩ := hq (upd H2 P (.tbl (ps ++ more))) ⟨⟨_, upd_same, ht3⟩, fun b hb => upd_ne hb⟩
    intro h' hn' hs'
    have szh : h'.objs.size = s3.heap.objs.size + 1 := by rw [hs'.1, Heap.size_push]
    have keep' : ∀ b o, s3.heap.get? b = some o → h'.get? b = some o := fun b o eo => hs'.extBut b o (Nat.ne_of_lt (Heap.lt_size eo)) (Heap.get?_push_of_some _ eo)
    generalize hgo : ({ cls := .type "generator", data := .fields #[.int s3.gens.size 0, .str "<genexpr>" (s3.toks + 1), .str (X.env.qual ++ "<genexpr>") (s3.toks + 1 + 1)] } : Obj) = go
    have hgen : ∀ hh : Heap, hh.get? h'.objs.size = some go → hh.IsGen h'.objs.size s3.gens.size := fun hh eo => ⟨go, _, _, eo, by rw [← hgo], by rw [← hgo], by rw [← hgo]⟩
    have hpush : (h'.push go).get? h'.objs.size = some go := Heap.get?_push_size _ (by rw [← hgo]; rfl)
    have keep5 : ∀ b o, s3.heap.get? b = some o → (h'.push go).get? b = some o := fun b o eo => Heap.get?_push_of_some _ (keep' b o eo)
    generalize hgv : genEnv scope (cloFrom X.env.cells scope.names []) s3.heap.objs.size code builtinsNs X.env = gv
    have hrj : Room j ((X.A.in1.in1).deeper gv) := ⟨hr.hd, by have := hr.dp; show X.A.depth + 1 + 3 * j + 5 < _; omega, by have := hr.un; show X.A.units + 1 + 1 + 3 + 16 * j + 200 < _; omega⟩
    have hfr : ((X.A.in1.in1).deeper gv).frames = some (gv :: X.stack) := Around.frames_deeper I3.ok.frames
    refine hQ h'.objs.size s3.gens.size _ (hgen _ hpush) (I3.nolimit.keeps keep5) ⟨m0 + 1, _, Array.getElem?_push_size .., rfl, ?_⟩
    have hbare : AllBare (s3.gens.push (.fresh (.compStart (.GeneratorExp elt [⟨tg, iter, [], 0⟩] scope gpos) 0 (.ref it) .none gv))) := AllBare.push I3.bare rfl
    generalize hs5 : ({ s3 with gens := s3.gens.push (.fresh (.compStart (.GeneratorExp elt [⟨tg, iter, [], 0⟩] scope gpos) 0 (.ref it) .none gv)), toks := s3.toks + 1 + 1 + 1, heap := h'.push go } : Shared) = s5
    have e5 : (s5.setGen s3.gens.size .running).heap = h'.push go := by rw [← hs5]; rfl
    have I5 : Inv (gcx X s3 (upd H2 P (.tbl (ps ++ more))) gv ((X.A.in1.in1).deeper gv) fp [(h'.objs.size, go)]) [] (wipe σ (own.map (·.2))) (upd H2 P (.tbl (ps ++ more))) (s5.setGen s3.gens.size .running) :=
      gex_start I3 gok hN f3 hgv.symm hr.hd hfr (by rw [← hs5]; rfl) (allBare_setGen (s := s5) (by rw [← hs5]; exact hbare) rfl) (by rw [e5]; exact keep5) (by rw [e5]; exact hn'.push _) fun p hp => by
        rw [List.mem_singleton.mp hp, e5]
        exact ⟨hpush, by show s3.heap.objs.size < h'.objs.size; omega, fun v q => by rw [← hgo] at q; cases q⟩
    have st5 : tn 0 (s5.setGen s3.gens.size .running).heap := T.keep _ _ _ st3 fun b hb o eo => by rw [e5]; exact keep5 b o eo
    refine gex_seg0 (gex_seg I3 (fun b hb => (f3 b hb).1) hgen (by rw [← hgv]; exact gok.co) (fun b hb => ?_) T ?_ ?_ hW (m0 + 1) m0 0 _ _ _ (Nat.lt_succ_self _) I5 st5 (fun b hb => (f3 b hb).1.1) w0) fun B Q E q => T.self B 0 _ _ _ st5 q
    · exact Nat.ne_of_lt (Nat.lt_of_lt_of_le (f3 b hb).2 (by rw [szh]; exact Nat.le_succ _))
    · rw [← hgv] at hrj ⊢
      exact hpg _ _ _ _ _ _ _ _ hrj
    · rw [← hgv] at hrj ⊢
      exact hpe _ _ _ _ _ _ _ _ hrj
  cases hf : codeAmong gpos ps.toList with
  | none =>
    refine wpAny_genexprCodeX hcode (cd.code hPs hok) (cd.tab hPs) hf fun c' h' tk hx hge hlt hco' _ htab' _ => ?_
    obtain ⟨o1, vs, f1, tf, fl, tg1, inF, tx, tt, op, _, _, _, _, _, _, _, _, _, htr, _⟩ := hco'
    exact cont _ h' tk _ hx (Nat.le_trans hge (Nat.le_of_lt hlt)) htab'.2 htr
  | some cv =>
    refine wpAny_genexprCode_hit hcode (cd.code hPs hok) hf ?_
    exact cont cv s2.heap s2.toks #[] (Heap.ExtBut.refl _ _) (Nat.le_refl _) (by rw [Array.append_empty]; exact hPs) (by rw [Array.append_empty]; exact hok)

theorem pe_anyG {c P : Addr} {elt tg iter : Expr} {scope : Scope} {own : List (Str × Nat)} {p pos gpos : Pos} {wi : TI} {g : TG} {te : TE} {j : Nat}
    (hr : Room (j + 1) X.A) (hc : X.calm = true) (hg : Gl X "any") (hm : X.mg "any" = none) (hbt : bootBuiltins "any" = some (.builtin "any")) (TB : LamX.TabB X.base X.mg c P) (hcode : X.env.code = .ref c) (gok : GexOk X.N X.env.scope scope own) (hN : X.N.Nodup) (hi : PI X tg iter wi)
    (hpg : ∀ (s : Shared) (H : Hp) (C : Addr) (cl : List (Str × Addr)) (cv : Value) (A : Around) (fp : List Addr) (pn : List (Addr × Obj)), Room j A → PG (gcx X s H (genEnv scope cl C cv builtinsNs X.env) A fp pn) tg g)
    (hpe : ∀ (s : Shared) (H : Hp) (C : Addr) (cl : List (Str × Addr)) (cv : Value) (A : Around) (fp : List Addr) (pn : List (Addr × Obj)), Room j A → PE (gcx X s H (genEnv scope cl C cv builtinsNs X.env) A fp pn) elt te)
    (hs : ∀ x, genFold iter X.env x = pure x)
    (he : starEach [.GeneratorExp elt [⟨tg, iter, [], 0⟩] scope gpos] X.env = (false, eval (.GeneratorExp elt [⟨tg, iter, [], 0⟩] scope gpos) X.env) :: starEach [] X.env) :
    PE X (.Call (.Name "any" p) [.GeneratorExp elt [⟨tg, iter, [], 0⟩] scope gpos] [] pos) (tGe P true wi g te (own.map (·.2))) := by
  refine ⟨fun pins s σ H Q I h => ?_⟩
  refine wpAny_Call_Name_kw (ld_blt I hg hm hbt ?_)
  refine PyProof.Rows.callWith_builtin1 ?_ he (by rfl)
  rw [he]
  show wpAny _ _ (spliced ((false, eval (.GeneratorExp elt [⟨tg, iter, [], 0⟩] scope gpos) X.env) :: backTo pos (starEach [] X.env))) _ _ s
  refine Calls.spliced_cons (gex_make hr hc TB hcode gok hN hi hpg hpe hs I h fun a gn s5 hgen hl ⟨m, hgo⟩ => ?_)
  refine Calls.spliced_nil ?_
  refine call_function_tree F.kind_any F.plain_any F.entry_any (F.args_any1 _) ?_
  unfold Builtin.«any»
  refine wpAny_bind (m := oneArg "any" _) (wpAny_pure ?_)
  refine wpAny_bind (wpAny_pyIter_gen hgen ?_)
  refine wpAny_pure ⟨plainId_quiet F.plain_any_loop _, ?_⟩
  refine any_drain (X := X) (pins := pins) (σ := σ) (A := X.A) (Q := Q) hr.hd (by have := hr.dp; show X.A.depth < _; omega) (fun b H' s' I' q => ?_) m s5 hgen hl hgo
  exact ⟨.bl b, H', I', rfl, q⟩

theorem pe_allG {c P : Addr} {elt tg iter : Expr} {scope : Scope} {own : List (Str × Nat)} {p pos gpos : Pos} {wi : TI} {g : TG} {te : TE} {j : Nat}
    (hr : Room (j + 1) X.A) (hc : X.calm = true) (hg : Gl X "all") (hm : X.mg "all" = none) (hbt : bootBuiltins "all" = some (.builtin "all")) (TB : LamX.TabB X.base X.mg c P) (hcode : X.env.code = .ref c) (gok : GexOk X.N X.env.scope scope own) (hN : X.N.Nodup) (hi : PI X tg iter wi)
    (hpg : ∀ (s : Shared) (H : Hp) (C : Addr) (cl : List (Str × Addr)) (cv : Value) (A : Around) (fp : List Addr) (pn : List (Addr × Obj)), Room j A → PG (gcx X s H (genEnv scope cl C cv builtinsNs X.env) A fp pn) tg g)
    (hpe : ∀ (s : Shared) (H : Hp) (C : Addr) (cl : List (Str × Addr)) (cv : Value) (A : Around) (fp : List Addr) (pn : List (Addr × Obj)), Room j A → PE (gcx X s H (genEnv scope cl C cv builtinsNs X.env) A fp pn) elt te)
    (hs : ∀ x, genFold iter X.env x = pure x)
    (he : starEach [.GeneratorExp elt [⟨tg, iter, [], 0⟩] scope gpos] X.env = (false, eval (.GeneratorExp elt [⟨tg, iter, [], 0⟩] scope gpos) X.env) :: starEach [] X.env) :
    PE X (.Call (.Name "all" p) [.GeneratorExp elt [⟨tg, iter, [], 0⟩] scope gpos] [] pos) (tGe P false wi g te (own.map (·.2))) := by
  refine ⟨fun pins s σ H Q I h => ?_⟩
  refine wpAny_Call_Name_kw (ld_blt I hg hm hbt ?_)
  refine PyProof.Rows.callWith_builtin1 ?_ he (by rfl)
  rw [he]
  show wpAny _ _ (spliced ((false, eval (.GeneratorExp elt [⟨tg, iter, [], 0⟩] scope gpos) X.env) :: backTo pos (starEach [] X.env))) _ _ s
  refine Calls.spliced_cons (gex_make hr hc TB hcode gok hN hi hpg hpe hs I h fun a gn s5 hgen hl ⟨m, hgo⟩ => ?_)
  refine Calls.spliced_nil ?_
  refine call_function_tree F.kind_all F.plain_all F.entry_all (F.args_all1 _) ?_
  unfold Builtin.«all»
  refine wpAny_bind (m := oneArg "all" _) (wpAny_pure ?_)
  refine wpAny_bind (wpAny_pyIter_gen hgen ?_)
  refine wpAny_pure ⟨plainId_quiet F.plain_all_loop _, ?_⟩
  refine all_drain (X := X) (pins := pins) (σ := σ) (A := X.A) (Q := Q) hr.hd (by have := hr.dp; show X.A.depth < _; omega) (fun b H' s' I' q => ?_) m s5 hgen hl hgo
  exact ⟨.bl b, H', I', rfl, q⟩
end
end J

set_option linter.all false
set_option maxRecDepth 100000
set_option maxHeartbeats 4000000
namespace J
open PySem PySem.Spec PyProof.Rows L2 RZ
/-- what any, all (they stop at e) give -/
def gexL (e : Bool) (b : D → Rho → Res Rho) (fe : Rho → Res D) (ρ : Rho) : List D → Res D
  | [] => .ok (.bool (!e))
  | d :: ds => (b d ρ).bind fun ρ1 => (noEx (fe ρ1)).bind fun x => (asB x).bind fun c => if c = e then .ok (.bool e) else gexL e b fe ρ ds
def gexR (e : Bool) (fi : Rho → Res (List D)) (b : D → Rho → Res Rho) (fe : Rho → Res D) (vs : List Nat) : Rho → Res D := fun ρ => (fi ρ).bind fun ds => noEx (gexL e b fe (wipeR ρ vs) ds)
theorem ext_tab {P : Addr} {G H1 H2 : Hp} (k : Gs G H1) (h1 : GxR.TabG H1 P) (t : GxR.Tabbed P H1 H2) : Ext G H1 G H2 := by
  obtain ⟨ps, h1, ok1⟩ := h1
  obtain ⟨⟨ps2, h2, ok2⟩, hb⟩ := t
  have nP : ∀ a o, H1 a = some o → nt o = true → a ≠ P := fun a o e n z => by
    rw [z, h1] at e
    cases e
    cases n
  refine ⟨Kp.refl _, fun a o e n => by rw [hb a (nP a o e n)]; exact e, fun a o e => ⟨(k a o e).1, by rw [hb a (nP a o (k a o e).2 (k a o e).1)]; exact (k a o e).2⟩, fun a z => .inl z, fun a qs e => ?_⟩
  by_cases ha : a = P
  · subst ha
    exact ⟨ps2, h2, fun _ => ok2⟩
  · exact ⟨qs, by rw [hb a ha]; exact e, id⟩
theorem gex_read {p : Pm} {e : Bool} {P : Addr} (hP : P ∈ p.tb) {fi : Rho → Res (List D)} {g : TG} {b : D → Rho → Res Rho} {fe : Rho → Res D} {vs : List Nat} (gd : GD p.K g b vs) {σ : L2.St} {H : Hp} {Q : VK} (h : eS p (gexR e fi b fe vs) σ H Q) :
    tGe P e (iS p fi) g (eS { p with W := W0 } fe) vs σ H Q := by
  obtain ⟨G, ρ, he, hk, ht, h⟩ := h
  refine ⟨G, ρ, he, hk, ht, ?_⟩
  unfold gexR at h
  cases ef : fi ρ with
  | bad => rw [ef] at h; exact h.elim
  | ex c => rw [ef] at h; exact h
  | ok ds =>
    rw [ef, bind_ok] at h
    intro J G1 H1 e1 wk
    have tb1 : TBs p.tb H1 := ht.ext e1
    have tab1 : GxR.TabG H1 P := tb1 P hP
    refine ⟨tab1, fun H2 tb => ?_⟩
    have e2 : Ext G1 H1 G1 H2 := ext_tab e1.gh tab1 tb
    have e12 := e1.trans e2
    cases eg : gexL e b fe (wipeR ρ vs) ds with
    | bad => rw [eg] at h; exact h.elim
    | ex c => rw [eg] at h; exact h.elim
    | ok r =>
      rw [eg] at h
      have h : rS p σ G H (relV p.K) (.ok r) Q := h
      refine ⟨fun i m H3 => m = ds.length - i ∧ i ≤ ds.length ∧ ∃ G3, Ext G1 H2 G3 H3 ∧ gexL e b fe (wipeR ρ vs) (ds.drop i) = .ok r, ⟨_, rfl, Nat.zero_le _, G1, Ext.refl e2.gh, by rw [List.drop_zero]; exact eg⟩, ?_⟩
      rintro i m H3 ⟨rfl, hi, G3, e3, hrest⟩
      have w := wk G3 H3 i (e2.trans e3).g e3.gh
      by_cases hlt : i < ds.length
      · obtain ⟨w1, w2⟩ := w.1 hlt
        refine .inr ⟨w1, fun H4 => ∃ G4, Ext G1 H2 G4 H4 ∧ gexL e b fe (wipeR ρ vs) (ds.drop (i + 1)) = .ok r, fun H4 ⟨G4, a1, a2⟩ => ⟨_, by omega, rfl, by omega, G4, a1, a2⟩, fun x H4 y => ?_⟩
        obtain ⟨G4, d, e4, hdi, rd⟩ := w2 x H4 y
        have ed : ds.drop i = d :: ds.drop (i + 1) := by
          obtain ⟨h5, h6⟩ := List.getElem?_eq_some_iff.mp hdi
          rw [List.drop_eq_getElem_cons h5, h6]
        rw [ed] at hrest
        unfold gexL at hrest
        rcases gd x d G4 H4 rd e4.gh with ⟨L, s1, m1, eb, q1⟩ | z
        · rw [eb, bind_ok] at hrest
          refine q1 _ _ ⟨by rw [wipe_sto m1, wipe_wipe], ?_⟩
          have en := EnvE.sto s1 ((he.kp (e12.g.trans (e3.g.trans e4.g))).wipe vs)
          have tb4 : TBs p.tb H4 := ((ht.ext e12).ext e3).ext e4
          cases efe : fe (stD L (wipeR ρ vs)) with
          | bad => rw [efe] at hrest; cases hrest
          | ex c => rw [efe] at hrest; cases hrest
          | ok dx =>
            rw [efe, noEx_ok, bind_ok] at hrest
            refine ⟨G4, _, ⟨en.len, en.sh, en.ex, en.fd⟩, e4.gh, tb4, ?_⟩
            rw [efe]
            intro yv G5 H5 e5 ry
            cases ry with
            | bl c =>
              refine ⟨c, rfl, ?_⟩
              have hrest : (if c = e then Res.ok (PyData.bool e) else gexL e b fe (wipeR ρ vs) (ds.drop (i + 1))) = .ok r := hrest
              split at hrest
              · rename_i hc
                rw [if_pos hc]
                cases hrest
                exact h _ G5 H5 (((e12.trans e3).trans e4).trans e5) (.bl e)
              · rename_i hc
                rw [if_neg hc]
                exact ⟨G5, (e3.trans e4).trans e5, hrest⟩
            | _ => exact absurd hrest (by simp [asB])
        · rw [z] at hrest; cases hrest
      · have e5 : i = ds.length := by omega
        subst e5
        refine .inl ⟨w.2 (Nat.le_refl _), ?_⟩
        rw [List.drop_length] at hrest
        have hrest : Res.ok (PyData.bool (!e)) = .ok r := hrest
        cases hrest
        exact h _ G3 H3 (e12.trans e3) (.bl (!e))
section
variable {X : Cx} {p : Pm} {tg iter elt : Expr} {pos : Pos}
def gexC (N : List Str) (sc scope : Scope) (own : List (Str × Nat)) : Bool := blkC N sc scope own && !scope.isCoroutine && (scope.names.all fun y => match y.2 with | .cell => false | _ => true) && decide (scope.names.lookup (".0" : Str) = some NameKind.local)
theorem gexOk_by {N : List Str} {sc scope : Scope} {own : List (Str × Nat)} (h : gexC N sc scope own = true) : GexOk N sc scope own := by
  unfold gexC at h
  simp only [Bool.and_eq_true, decide_eq_true_eq, List.all_eq_true, Bool.not_eq_true'] at h
  obtain ⟨⟨⟨h1, h2⟩, h3⟩, h4⟩ := h
  refine ⟨blkOk_by h1, h2, fun y hy z => ?_, h4⟩
  have := h3 y hy
  rw [z] at this
  cases this
theorem anyG_ {c P : Addr} {scope : Scope} {own : List (Str × Nat)} {p0 gpos : Pos} {fi : Rho → Res (List D)} {g : TG} {b : D → Rho → Res Rho} {fe : Rho → Res D} {j : Nat}
    (hP : P ∈ p.tb) (gd : GD p.K g b (own.map (·.2))) (hr : Room (j + 1) X.A) (hc : X.calm = true) (hm : X.mg "any" = none) (TB : LamX.TabB X.base X.mg c P) (hcode : X.env.code = .ref c) (hN : X.N.Nodup) (hi : PI X tg iter (iS p fi)) (gok : GexOk X.N X.env.scope scope own)
    (hpg : ∀ (s : Shared) (H : Hp) (C : Addr) (cl : List (Str × Addr)) (cv : Value) (A : Around) (fp : List Addr) (pn : List (Addr × Obj)), Room j A → PG (gcx X s H (genEnv scope cl C cv builtinsNs X.env) A fp pn) tg g)
    (hpe : ∀ (s : Shared) (H : Hp) (C : Addr) (cl : List (Str × Addr)) (cv : Value) (A : Around) (fp : List Addr) (pn : List (Addr × Obj)), Room j A → PE (gcx X s H (genEnv scope cl C cv builtinsNs X.env) A fp pn) elt (eS { p with W := W0 } fe))
    (hg : Gl X "any" := by rfl) (hs : ∀ x, genFold iter X.env x = pure x := by intro _; rfl)
    (he : starEach [.GeneratorExp elt [⟨tg, iter, [], 0⟩] scope gpos] X.env = (false, eval (.GeneratorExp elt [⟨tg, iter, [], 0⟩] scope gpos) X.env) :: starEach [] X.env := by rfl) :
    PE X (.Call (.Name "any" p0) [.GeneratorExp elt [⟨tg, iter, [], 0⟩] scope gpos] [] pos) (eS p (gexR true fi b fe (own.map (·.2)))) :=
  (pe_anyG hr hc hg hm boot_any TB hcode gok hN hi hpg hpe hs he).imp fun σ H Q h => gex_read hP gd h
theorem allG_ {c P : Addr} {scope : Scope} {own : List (Str × Nat)} {p0 gpos : Pos} {fi : Rho → Res (List D)} {g : TG} {b : D → Rho → Res Rho} {fe : Rho → Res D} {j : Nat}
    (hP : P ∈ p.tb) (gd : GD p.K g b (own.map (·.2))) (hr : Room (j + 1) X.A) (hc : X.calm = true) (hm : X.mg "all" = none) (TB : LamX.TabB X.base X.mg c P) (hcode : X.env.code = .ref c) (hN : X.N.Nodup) (hi : PI X tg iter (iS p fi)) (gok : GexOk X.N X.env.scope scope own)
    (hpg : ∀ (s : Shared) (H : Hp) (C : Addr) (cl : List (Str × Addr)) (cv : Value) (A : Around) (fp : List Addr) (pn : List (Addr × Obj)), Room j A → PG (gcx X s H (genEnv scope cl C cv builtinsNs X.env) A fp pn) tg g)
    (hpe : ∀ (s : Shared) (H : Hp) (C : Addr) (cl : List (Str × Addr)) (cv : Value) (A : Around) (fp : List Addr) (pn : List (Addr × Obj)), Room j A → PE (gcx X s H (genEnv scope cl C cv builtinsNs X.env) A fp pn) elt (eS { p with W := W0 } fe))
    (hg : Gl X "all" := by rfl) (hs : ∀ x, genFold iter X.env x = pure x := by intro _; rfl)
    (he : starEach [.GeneratorExp elt [⟨tg, iter, [], 0⟩] scope gpos] X.env = (false, eval (.GeneratorExp elt [⟨tg, iter, [], 0⟩] scope gpos) X.env) :: starEach [] X.env := by rfl) :
    PE X (.Call (.Name "all" p0) [.GeneratorExp elt [⟨tg, iter, [], 0⟩] scope gpos] [] pos) (eS p (gexR false fi b fe (own.map (·.2)))) :=
  (pe_allG hr hc hg hm (by decide +kernel) TB hcode gok hN hi hpg hpe hs he).imp fun σ H Q h => gex_read hP gd h
end
end J

set_option linter.all false
set_option maxRecDepth 100000
set_option maxHeartbeats 4000000
/-! # defs with generator expressions: their code objects and tables -/
namespace J
open PySem PySem.Spec PyProof.Rows L2 RZ
/-- a def whose code object is known -/
structure FunC (K : PySem.W.Frag) (x qual : Str) (st : Stmt) (f : Addr) (fd : FuncData) (c : Addr) : Prop where
  ex : ∃ (oc : Value) (od : Option Addr) (kV doc pm : Value) (an : Option Addr) (ct : Value) (osl : Array (Option Value)),
    fd = PySem.W.fnOf x qual (defArgs st) (defBody st) (defScope st) .none kV doc pm an (.ref c) ct ∧ K.lookup f = some ⟨oc, od, .func fd, osl⟩ ∧ PySem.W.codeIn K (.ref c) qual = true
section
variable {P : Program} {w : World} {K : PySem.W.Frag} {mg : Str → Option Value} {base : Heap}
theorem fn_okC {x qual : Str} {st : Stmt} {f c : Addr} {fd : FuncData} {N ps : List Str} {k : Nat} {ec : Xc → Addr} {tb : List Addr} {g : Rho → SRes} (F : FunC K x qual st f fd c) (S : FnScope N ps (defScope st))
    (hb : ∀ (A : Around) (outer : List Env) (s : Shared) (H : Hp) (E : XK), Room k (A.deeper (envOfC qual (defScope st) s.heap.objs.size f (.ref c))) → PSs (cxOf (L2N.CX P w) P w K mg base N qual (defScope st) f (.ref c) A outer s H E) (defBody st) (sS (pmOf K ec tb E) g)) :
    FnOk P w K mg base (L2N.CX P w) (k + 1) f fd ps (spD K ec tb ps.length fun ds => toFn (g (startR N.length ds))) := by
  obtain ⟨_, _, _, _, _, _, _, _, rfl, lk, hcd⟩ := F.ex
  refine fn_of lk hcd S (fun vs H Q E h => ?_) fun A outer s H vs Q E hr h => ⟨_, hb A outer s H E hr, ?_⟩
  · obtain ⟨G, ds, _, _, r, hl, _⟩ := h
    rw [r.length, hl]
  · obtain ⟨G, ds, hk, ht, r, hl, h⟩ := h
    refine ⟨G, H, G, startR N.length ds, Ext.refl hk, envO_start rfl r, ht, ?_⟩
    dsimp only at h
    cases q : g (startR N.length ds) with
    | nx ρ => rw [q] at h; exact fun σ' G' H' x kk e => h .non G' H' x .non
    | rt d => rw [q] at h; exact fun v G' H' x r => h v G' H' x r
    | rtO d => rw [q] at h; exact fun a vs G' H' x h1 h2 h3 r => h _ _ H' (x.show h1 h2 h3) (.lst (.inl (.inl upd_same)) (r.kp (Kp.upd h2)))
    | ex c ρ => rw [q] at h; exact fun σ' G' H' x kk e => h G' H' x
    | bk ρ => rw [q] at h; exact h.elim
    | ct ρ => rw [q] at h; exact h.elim
    | bad => rw [q] at h; exact h.elim
theorem fn_okNC {x qual : Str} {st : Stmt} {f c : Addr} {fd : FuncData} {N ps : List Str} {k : Nat} {ec : Xc → Addr} {tb : List Addr} {g : Rho → SRes} (F : FunC K x qual st f fd c) (S : FnScope N ps (defScope st))
    (hb : ∀ (A : Around) (outer : List Env) (s : Shared) (H : Hp) (E : XK), Room k (A.deeper (envOfC qual (defScope st) s.heap.objs.size f (.ref c))) → PSs (cxOf (L2N.CX P w) P w K mg base N qual (defScope st) f (.ref c) A outer s H E) (defBody st) (sS (pmOf K ec tb E) g)) :
    FnOk P w K mg base (L2N.CX P w) (k + 1) f fd ps (spN K ec tb ps.length fun ds => toFnL (g (startR N.length ds))) := by
  obtain ⟨_, _, _, _, _, _, _, _, rfl, lk, hcd⟩ := F.ex
  refine fn_of lk hcd S (fun vs H Q E h => ?_) fun A outer s H vs Q E hr h => ⟨_, hb A outer s H E hr, ?_⟩
  · obtain ⟨G, ds, _, _, r, hl, _⟩ := h
    rw [r.length, hl]
  · obtain ⟨G, ds, hk, ht, r, hl, h⟩ := h
    refine ⟨G, H, G, startR N.length ds, Ext.refl hk, envO_start rfl r, ht, ?_⟩
    dsimp only at h
    cases q : g (startR N.length ds) with
    | rtO d => rw [q] at h; exact fun a vs G' H' x h1 h2 h3 r => h a vs G' H' x h1 h2 h3 r
    | ex c ρ => rw [q] at h; exact fun σ' G' H' x kk e => h G' H' x
    | nx ρ => rw [q] at h; exact h.elim
    | rt d => rw [q] at h; exact h.elim
    | bk ρ => rw [q] at h; exact h.elim
    | ct ρ => rw [q] at h; exact h.elim
    | bad => rw [q] at h; exact h.elim
end
/-- the table of the def with the name x -/
def TabOf (K : PySem.W.Frag) (mg : Str → Option Value) (h : Heap) (x : Str) : Prop := ∀ (fa c P : Addr) (o : Obj) (fd : FuncData) (e : Value) (dd : Option Addr) (vs : Array Value) (sl : Array (Option Value)),
  mg x = some (.ref fa) → K.lookup fa = some o → o.data = .func fd → fd.code = .ref c → K.lookup c = some ⟨e, dd, .fields vs, sl⟩ → vs[11]? = some (.ref P) → h.get? P = some { cls := .none, data := .fields #[] } ∧ PySem.W.CodeHd h c P
theorem walk_tabs {l : PySem.W.OpenLaw} {n k : Nat} {q : Program} {loose : List Str} {XP : (Str → Option Value) → Heap → Prop} {YP : World → Heap → Prop} {d : DefRec} {K : Params → PySem.W.Frag} {CX : World → CXT} {x : Str} (ts : List Str)
    (hn : l.most = some n) (hn2 : n ≤ sizeLine) (hdf : d.params.defaults = []) (hr : Room k callerA) (hrec : (ts.all fun t => (recsOf q).any fun e => e.name == t) = true) (hY : ∀ (w : World) (h : Heap), YP w h → (K w.params).In h)
    (F : ∀ (w : World) (mg : Str → Option Value) (fa : Addr) (h : Heap), (K w.params).In h → h.Ns mainGlobals mg → mg d.name = some (.ref fa) → (∀ t ∈ ts, TabOf (K w.params) mg h t) → LamX.LawAtS l w (K w.params) (CX w) k n x mg fa h)
    (hCX : ∀ (w : World) (H : Hp) (s : Shared) (e : Value) (s' : Shared), CX w [] H s (fun _ _ _ => False) e s' → False) :
    PySem.W.WalkO q loose XP YP l.row.toRowW d [] (fun f vs => PySem.call f vs) := by
  refine Att.attach_callB hn hdf fun w s₀ s₁ mg mb fa o pm cd doc a vs ns G Y ho hd hcd hmg hobj hints hlen hbits hg => ?_
  have KX := hY w _ Y
  have own : ∀ t ∈ ts, TabOf (K w.params) mg s₁.heap t := by
    intro t ht fb c P o1 fd1 e dd vs1 sl k0 k1 k2 k3 k4 k5
    obtain ⟨dL, hm, hn1⟩ := List.any_eq_true.mp (List.all_eq_true.mp hrec t ht)
    have hn2 : dL.name = t := beq_iff_eq.mp hn1
    obtain ⟨a', o', fd', c', P', h1, h2, h3, h4, h5, h6⟩ := G.T.tab dL hm
    rw [hn2, k0] at h1
    have ea := Value.ref.inj (Option.some.inj h1)
    subst ea
    have eo := Option.some.inj ((KX _ _ k1).symm.trans h2)
    subst eo
    rw [k2] at h3
    have ef := Data.func.inj h3
    subst ef
    rw [k3] at h4
    have ec := Value.ref.inj h4
    subst ec
    have hC := PySem.W.CodeHd.of h5 h6
    obtain ⟨⟨oc, vc, e1, _, e3, e4⟩, hP⟩ := h6
    have eoc := Option.some.inj ((KX _ _ k4).symm.trans e1)
    rw [← eoc] at e3
    have ev := Data.fields.inj e3
    rw [← ev, k5] at e4
    have eP := Value.ref.inj (Option.some.inj e4)
    subst eP
    exact ⟨hP, hC⟩
  obtain ⟨fd, cs, sp, hT, nT, C, hb, hsp, hF⟩ := F w mg fa _ KX G.T.g hmg own
  exact LamX.law_callTs KX G.T.g G.T.b G.T.builtins G.T.nolimit hg hT nT C G.T.bmain hobj hints (Nat.le_trans hlen hn2) hr hF hb (fun H hH hS => hsp H a ns hlen hbits hH hS) fun H e s' => hCX w H s₁ e s'
/-! the law's end, with tables -/
def spLawT (K : PySem.W.Frag) (tb : List Addr) : Sp := fun vs H Q _ => ∃ (a : Addr) (ns : List Int), vs = [.ref a] ∧ (∀ P ∈ tb, H P = some (.tbl #[])) ∧ SqL K H a (ns.map V.int) ∧ ns.length ≤ 63 ∧ ∀ H', Q (.bl true) H'
theorem law_impT {P : Program} {w : World} {K : PySem.W.Frag} {mg : Str → Option Value} {base : Heap} {CX : CXT} {k : Nat} {f : Addr} {fd : FuncData} {ps : List Str} {ec : Xc → Addr} {tb : List Addr} {F : List D → Res D} (h : FnOk P w K mg base CX k f fd ps (spD K ec tb 1 F))
    (e : ∀ ns : List Int, ns.length ≤ 63 → F [.list (ns.map PyData.int)] = .ok (.bool true)) : FnOk P w K mg base CX k f fd ps (spLawT K tb) := h.imp fun vs H Q E z => by
  obtain ⟨a, ns, rfl, hT, hS, hl, q⟩ := z
  have tbs : TBs tb H := fun P hP => ⟨#[], hT P hP, trivial⟩
  have fin : ∀ G : Hp, Gs G H → SqL K G a (ns.map V.int) → ∃ (G : Hp) (ds : List D), Gs G H ∧ TBs tb H ∧ DvAll K G [.ref a] ds ∧ ds.length = 1 ∧ (match F ds with
      | .ok d => ∀ v G' H', Ext G H G' H' → Dv K G' v d → Q v H'
      | .ex c => ∀ G' H', Ext G H G' H' → E (.ref (ec c)) none H'
      | .bad => False) := fun G k s => by
    refine ⟨G, [.list (ns.map PyData.int)], k, tbs, .cons (.lst s (DvAll.ints ns)) .nil, rfl, ?_⟩
    rw [e ns hl]
    intro v G' H' x r
    cases r
    exact q H'
  rcases hS with hS | hS
  · have : ∃ o, H a = some o ∧ nt o = true := by
      rcases hS with z | ⟨o, z⟩
      · exact ⟨_, z, rfl⟩
      · exact ⟨_, z, rfl⟩
    obtain ⟨o, ho, hn⟩ := this
    refine fin (fun b => if b = a then H a else none) (fun b u z => ?_) (.inl ?_)
    · dsimp only at z
      split at z
      · rename_i hb; rw [hb]; rw [ho] at z ⊢; cases z; exact ⟨hn, rfl⟩
      · cases z
    · rcases hS with z | ⟨o, z⟩
      · exact .inl ((if_pos rfl).trans z)
      · exact .inr ⟨o, (if_pos rfl).trans z⟩
  · exact fin (fun _ => none) (fun b u z => by cases z) (.inr hS)
theorem lawAt {l : PySem.W.OpenLaw} {w : World} {K : PySem.W.Frag} {CX : CXT} {k : Nat} {x : Str} {mg : Str → Option Value} {fa : Addr} {h : Heap} {fd : FuncData} (cs : List (Addr × Addr)) (hcs : ∀ p ∈ cs, h.get? p.2 = some { cls := .none, data := .fields #[] } ∧ K.lookup p.2 = none ∧ PySem.W.CodeHd h p.1 p.2)
    (lb : ∀ (s : Shared) (u : Value), BindsTo s fd ⟨[u], []⟩ [(x, u)]) (F : ∀ base : Heap, (∀ p ∈ cs, LamX.TabB base mg p.1 p.2) → FnOk l.prog w K mg base CX k fa fd [x] (spLawT K (cs.map (·.2)))) : LamX.LawAtS l w K CX k 63 x mg fa h :=
  ⟨fd, cs, _, fun p hp => (hcs p hp).1, fun p hp => (hcs p hp).2.1, fun p hp => (hcs p hp).2.2, lb, fun H a ns hl _ hT hS => ⟨a, ns, rfl, fun P hP => by
    obtain ⟨p, hp, e⟩ := List.mem_map.mp hP
    rw [← e]; exact hT p hp, hS, hl, fun _ => rfl⟩, fun base _ _ hB => F base hB⟩
end J

set_option linter.all false
set_option maxRecDepth 100000
set_option maxHeartbeats 4000000
/-! # more rules: stars, texts, extend, all and any of lists, raise within hot defs -/
namespace J
open PySem PySem.Spec PyProof.Rows L2 RZ
open L2H (RoomH HotC FnH PIH)
section
variable {X : Cx} {p : Pm} {a b o e : Expr} {fa fb : Rho → Res D} {pos : Pos}
/-! ### stars -/
def seqD : D → Res (List D)
  | .list xs => .ok xs
  | .tuple xs => .ok xs
  | _ => .bad
def starR (f : Rho → Res D) (g : Rho → Res (List D)) : Rho → Res (List D) := fun ρ => (f ρ).bind fun x => (seqD x).bind fun xs => (g ρ).bind fun ys => .ok (xs ++ ys)
theorem star_ {es : List Expr} {sp : Pos} {g : Rho → Res (List D)} (ha : PE X a (eS p fa)) (hr : PA X es (aS p g)) (hK : X.K = p.K := by rfl) (hs : starEach (.Starred a sp :: es) X.env = (true, eval a X.env) :: starEach es X.env := by rfl) : PA X (.Starred a sp :: es) (aS p (starR fa g)) := (StX.pa_star ha hr hs).imp fun σ H Q h => by
  obtain ⟨G, ρ, he, hk, ht, h⟩ := h
  refine sp_run he hk ht h fun x dx G1 H1 e1 rx h1 => ?_
  have rx : Dv p.K G1 x dx := rx
  have go : ∀ {xs : List V} {ds : List D}, DvAll p.K G1 xs ds → rS p σ G1 H1 (relA p.K) ((g ρ).bind fun ys => .ok (ds ++ ys)) Q → aS p g σ H1 fun ys H2 => Q (xs ++ ys) H2 := fun r h => by
    refine sp_run (f := g) (he.kp e1.g) e1.gh (ht.ext e1) h fun ys dys G2 H2 e2 ry h2 => ?_
    exact h2 _ _ H2 (Ext.refl e2.gh) ((r.kp e2.g).append ry)
  cases rx with
  | lst r q => exact ⟨_, _, rfl, by rw [hK]; exact .inr (e1.gh.sqL r), go q h1⟩
  | tup r q => exact ⟨_, _, rfl, by rw [hK]; exact .inl (e1.gh.sqT r), go q h1⟩
  | _ => exact (show False from h1).elim
/-! ### texts -/
def relT : Hp → Str → Str → Prop := fun _ b a => b = a
def jsL : List (Rho → Res D) → Str → Rho → Res Str
  | [], acc, _ => .ok acc
  | f :: fs, acc, ρ => (f ρ).bind fun d => match d with
    | .str y => if (acc ++ y).length ≤ 16777216 then jsL fs (acc ++ y) ρ else .bad
    | _ => .bad
def fstR (fs : List (Rho → Res D)) : Rho → Res D := fun ρ => (jsL fs Str.empty ρ).bind fun s => .ok (.str s)
theorem js_read {σ : L2.St} : ∀ (fs : List (Rho → Res D)) (acc : Str) {G H : Hp} {ρ : Rho} {Q : Str → Hp → Prop}, EnvE p G σ ρ → Gs G H → TBs p.tb H → rS p σ G H relT (jsL fs acc ρ) Q → tJs (fs.map (eS p)) acc σ H Q
  | [], acc, G, H, ρ, Q, he, hk, ht, h => h acc G H (Ext.refl hk) rfl
  | f :: fs, acc, G, H, ρ, Q, he, hk, ht, h => by
    refine sp_run (rel := relV p.K) he hk ht h fun x dx G1 H1 e1 rx h1 => ?_
    have rx : Dv p.K G1 x dx := rx
    cases rx with
    | str y =>
      have h1 : rS p σ G1 H1 relT (if (acc ++ y).length ≤ 16777216 then jsL fs (acc ++ y) ρ else .bad) Q := h1
      split at h1
      · rename_i hz
        exact ⟨y, rfl, by rw [sizeLine_eq]; exact hz, js_read fs (acc ++ y) (he.kp e1.g) e1.gh (ht.ext e1) h1⟩
      · exact h1.elim
    | _ => exact (show False from h1).elim
/-- the parts of an f-string -/
inductive PJd (X : Cx) (p : Pm) : List Expr → List (Rho → Res D) → Prop where
  | nil : PJd X p [] []
  | cons {e : Expr} {f : Rho → Res D} {es : List Expr} {fs : List (Rho → Res D)} (h : PE X e (eS p f)) (r : PJd X p es fs) : PJd X p (e :: es) (f :: fs)
theorem PJd.pj {es : List Expr} {fs : List (Rho → Res D)} (h : PJd X p es fs) : PJ X es (fs.map (eS p)) := by
  induction h with
  | nil => exact .nil
  | cons h _ ih => exact .cons h ih
theorem fst_ {v1 v2 : Expr} {rest : List Expr} {fs : List (Rho → Res D)} (h : PJd X p (v1 :: v2 :: rest) fs) : PE X (.JoinedStr (v1 :: v2 :: rest) pos) (eS p (fstR fs)) := (pe_joined h.pj).imp fun σ H Q h => by
  obtain ⟨G, ρ, he, hk, ht, h⟩ := h
  refine js_read fs Str.empty he hk ht ?_
  unfold fstR at h
  cases e : jsL fs Str.empty ρ with
  | ok s =>
    rw [e] at h
    intro t G' H' e' r
    obtain rfl : t = s := r
    exact h (.str t) G' H' e' (.str t)
  | ex c => rw [e] at h; exact h
  | bad => rw [e] at h; exact h
def fmtD : D → Res D
  | .str y => if y.length ≤ 16777216 then .ok (.str y) else .bad
  | .int i => if i.natAbs.log2 < 1920 then .ok (.str (toString i)) else .bad
  | _ => .bad
theorem fmt_ (ha : PE X a (eS p fa)) : PE X (.FormattedValue a (-1) none pos) (eS p (do1 fa fmtD)) := (pe_fmt ha).imp fun σ H Q h => by
  obtain ⟨G, ρ, he, hk, ht, h⟩ := h
  refine sp_run he hk ht h fun x dx G1 H1 e1 rx h1 => ?_
  have rx : Dv p.K G1 x dx := rx
  cases rx with
  | str y =>
    have h1 : rS p σ G1 H1 (relV p.K) (if y.length ≤ 16777216 then .ok (.str y) else .bad) Q := h1
    split at h1
    · rename_i hz
      exact .inl ⟨y, rfl, by rw [sizeLine_eq]; exact hz, rS_now e1.gh h1 (.str y)⟩
    · exact h1.elim
  | int i =>
    have h1 : rS p σ G1 H1 (relV p.K) (if i.natAbs.log2 < 1920 then .ok (.str (toString i)) else .bad) Q := h1
    split at h1
    · rename_i hz
      exact .inr ⟨i, rfl, hz, rS_now e1.gh h1 (.str _)⟩
    · exact h1.elim
  | _ => exact (show False from h1).elim
theorem fst1_ (ha : PE X a (eS p fa)) : PE X (.JoinedStr [a] pos) (eS p fa) := pe_joined1 ha
def strsOf : List D → Option (List Str)
  | [] => some []
  | .str x :: r => (strsOf r).map (x :: ·)
  | _ :: _ => none
theorem strsOf_vals {K : PySem.W.Frag} {G : Hp} : ∀ {vs : List V} {ds : List D} {ns : List Str}, DvAll K G vs ds → strsOf ds = some ns → vs = ns.map V.str
  | _, _, ns, .nil, h => by
    cases h
    rfl
  | v :: vs, d :: ds, ns, .cons r q, h => by
    cases r with
    | str x =>
      obtain ⟨r', e, e2⟩ := Option.map_eq_some_iff.mp (show (strsOf ds).map (x :: ·) = some ns from h)
      subst e2
      rw [strsOf_vals q e]
      rfl
    | _ => exact absurd h (by simp [strsOf])
theorem strsOf_map (ns : List Str) : strsOf (ns.map PyData.str) = some ns := by
  induction ns with
  | nil => rfl
  | cons n r ih => simp [strsOf, ih]
def joinS (s : Str) (y : D) : Res D := (seqD y).bind fun xs => match strsOf xs with
    | some ys => if (ys.map (·.length)).sum + ys.length * s.length ≤ 16777216 then .ok (.str (Txt.join s ys)) else .bad
    | none => .bad
def joinR (f g : Rho → Res D) : Rho → Res D := fun ρ => (f ρ).bind fun x => match x with
  | .str s => (g ρ).bind (joinS s)
  | _ => .bad
theorem join_ {apos : Pos} (ho : PE X o (eS p fa)) (he : PE X e (eS p fb)) (hK : X.K = p.K := by rfl) (hs : starEach [e] X.env = [(false, eval e X.env)] := by rfl) (hbase : attributeBase o "join" X.env (eval o X.env) = eval o X.env := by rfl) (hline : (apos.endLine == pos.line) = true := by rfl) :
    PE X (.Call (.Attribute o "join" apos) [e] [] pos) (eS p (joinR fa fb)) := (pe_join ho he hs hbase hline).imp fun σ H Q h => by
  obtain ⟨G, ρ, he, hk, ht, h⟩ := h
  refine sp_run he hk ht h fun x dx G1 H1 e1 rx h1 => ?_
  have rx : Dv p.K G1 x dx := rx
  cases rx with
  | str s =>
    refine ⟨⟨s, rfl⟩, sp_run (f := fb) (he.kp e1.g) e1.gh (ht.ext e1) h1 fun y dy G2 H2 e2 ry h2 => ?_⟩
    have ry : Dv p.K G2 y dy := ry
    have fin : ∀ {xs : List V} {ds : List D}, DvAll p.K G2 xs ds → rS p σ G2 H2 (relV p.K) (match strsOf ds with
        | some ys => if (ys.map (·.length)).sum + ys.length * s.length ≤ 16777216 then .ok (.str (Txt.join s ys)) else .bad
        | none => .bad) Q → ∃ ys : List Str, xs = ys.map V.str ∧ (ys.map (·.length)).sum + ys.length * s.length ≤ 16777216 ∧ Q (.str (Txt.join s ys)) H2 := fun {xs ds} r h => by
      cases es : strsOf ds with
      | none => rw [es] at h; exact h.elim
      | some ys =>
        rw [es] at h
        dsimp only at h
        split at h
        · rename_i hz
          exact ⟨ys, strsOf_vals r es, hz, rS_now e2.gh h (.str _)⟩
        · exact h.elim
    cases ry with
    | lst r q =>
      obtain ⟨ys, e3, hz, hq⟩ := fin q h2
      subst e3
      exact ⟨s, _, ys, rfl, rfl, .inl (by rw [hK]; exact e2.gh.sqL r), hz, hq⟩
    | tup r q =>
      obtain ⟨ys, e3, hz, hq⟩ := fin q h2
      subst e3
      exact ⟨s, _, ys, rfl, rfl, .inr (by rw [hK]; exact e2.gh.sqT r), hz, hq⟩
    | _ => exact (show False from h2).elim
  | _ => exact (show False from h1).elim
def strD : List D → Res D
  | [.int i] => if i.natAbs.log2 < 1920 then .ok (.str (toString i)) else .bad
  | [.str s] => .ok (.str s)
  | _ => .bad
theorem call_str : CallR X (.type "str") (fun xs H Q => (∃ i, xs = [.int i] ∧ i.natAbs.log2 < 1920 ∧ Q (.str (toString i)) H) ∨ ∃ a, xs = [.str a] ∧ Q (.str a) H) := fun pins s σ H xs us Q I r h =>
  h.elim (fun h => call_str_int pins s σ H xs us Q I r h) fun h => SkE.call_str_str pins s σ H xs us Q I r h
theorem c_str : CallD p (fun xs H Q => (∃ i, xs = [.int i] ∧ i.natAbs.log2 < 1920 ∧ Q (.str (toString i)) H) ∨ ∃ a, xs = [.str a] ∧ Q (.str a) H) strD := by
  intro σ G H vs ds Q k a h
  unfold strD at h
  split at h
  · cases a with
    | cons r a =>
      cases a
      cases r
      split at h
      · rename_i hz
        exact .inl ⟨_, rfl, hz, rS_now k h (.str _)⟩
      · exact h.elim
  · cases a with
    | cons r a =>
      cases a
      cases r
      exact .inr ⟨_, rfl, rS_now k h (.str _)⟩
  · exact h.elim
theorem str_ {x : Str} {f : Rho → Res (List D)} {p1 : Pos} (hm : X.mg x = none) (ha : PA X [a] (aS p f)) (hv : bootBuiltins x = some (.type "str") := by decide +kernel) (hg : Gl X x := by rfl) (he : starEach (a :: []) X.env = (false, eval a X.env) :: starEach [] X.env := by rfl) (hpl : (backTo pos (starEach [] X.env)).any (·.1) = false := by rfl) (hn : x ≠ "__name__" := by decide) (hdb : (x == ("__debug__" : Str)) = false := by decide) :
    PE X (.Call (.Name x p1) [a] [] pos) (eS p (callR f strD)) := e_callTy (T := "str") c_str call_str hg hm hv ha he hpl hn hdb
/-! ### all, any of a list -/
def boolsOf : List D → Option (List Bool)
  | [] => some []
  | .bool b :: r => (boolsOf r).map (b :: ·)
  | _ :: _ => none
theorem boolsOf_vals {K : PySem.W.Frag} {G : Hp} : ∀ {vs : List V} {ds : List D} {ns : List Bool}, DvAll K G vs ds → boolsOf ds = some ns → vs = ns.map V.bl
  | _, _, ns, .nil, h => by
    cases h
    rfl
  | v :: vs, d :: ds, ns, .cons r q, h => by
    cases r with
    | bl x =>
      obtain ⟨r', e, e2⟩ := Option.map_eq_some_iff.mp (show (boolsOf ds).map (x :: ·) = some ns from h)
      subst e2
      rw [boolsOf_vals q e]
      rfl
    | _ => exact absurd h (by simp [boolsOf])
@[simp] theorem boolsOf_map (ns : List Bool) : boolsOf (ns.map PyData.bool) = some ns := by
  induction ns with
  | nil => rfl
  | cons n r ih => simp [boolsOf, ih]
def allD : List D → Res D
  | [.list xs] => match boolsOf xs with | some ns => .ok (.bool (ns.all id)) | none => .bad
  | _ => .bad
def anyD : List D → Res D
  | [.list xs] => match boolsOf xs with | some ns => .ok (.bool (ns.any id)) | none => .bad
  | _ => .bad
theorem c_all : CallD p (rAll p.K) allD := by
  intro σ G H vs ds Q k a h
  unfold allD at h
  split at h
  · cases a with
    | cons r a =>
      cases a
      cases r
      rename_i r q
      split at h
      · rename_i ns hn
        have e := boolsOf_vals q hn
        subst e
        exact ⟨_, _, rfl, k.sqL r, rS_now k h (.bl _)⟩
      · exact h.elim
  · exact h.elim
theorem c_any : CallD p (rAny p.K) anyD := by
  intro σ G H vs ds Q k a h
  unfold anyD at h
  split at h
  · cases a with
    | cons r a =>
      cases a
      cases r
      rename_i r q
      split at h
      · rename_i ns hn
        have e := boolsOf_vals q hn
        subst e
        exact ⟨_, _, rfl, k.sqL r, rS_now k h (.bl _)⟩
      · exact h.elim
  · exact h.elim
theorem all_ {x : Str} {f : Rho → Res (List D)} {p1 : Pos} (hm : X.mg x = none) (hc : X.calm = true) (ha : PA X [a] (aS p f)) (hK : X.K = p.K := by rfl) (hv : bootBuiltins x = some (.builtin "all") := by decide +kernel) (hg : Gl X x := by rfl) (he : starEach (a :: []) X.env = (false, eval a X.env) :: starEach [] X.env := by rfl) (hpl : (backTo pos (starEach [] X.env)).any (·.1) = false := by rfl) (hn : x ≠ "__name__" := by decide) (hdb : (x == ("__debug__" : Str)) = false := by decide) :
    PE X (.Call (.Name x p1) [a] [] pos) (eS p (callR f allD)) := by
  refine e_callB (id := "all") ?_ (cr_all hc) hg hm hv ha he hpl hn hdb
  rw [hK]; exact c_all
theorem any1_ {x : Str} {f : Rho → Res (List D)} {p1 : Pos} (hm : X.mg x = none) (hc : X.calm = true) (ha : PA X [a] (aS p f)) (hK : X.K = p.K := by rfl) (hv : bootBuiltins x = some (.builtin "any") := by decide +kernel) (hg : Gl X x := by rfl) (he : starEach (a :: []) X.env = (false, eval a X.env) :: starEach [] X.env := by rfl) (hpl : (backTo pos (starEach [] X.env)).any (·.1) = false := by rfl) (hn : x ≠ "__name__" := by decide) (hdb : (x == ("__debug__" : Str)) = false := by decide) :
    PE X (.Call (.Name x p1) [a] [] pos) (eS p (callR f anyD)) := by
  refine e_callB (id := "any") ?_ (cr_any hc) hg hm hv ha he hpl hn hdb
  rw [hK]; exact c_any
/-! ### extend -/
theorem ext_any {T : String} (l : Addr) (us : Array Value) (n : Nat) (b : Addr) (ws : Array Value) (k : Nat) (dd : Option Addr) (sl : Array (Option Value)) (hT : T = "list" ∨ T = "tuple") (h0 : ¬(!us.isEmpty && Builtin.List.listTooLong (us.size + ws.size)) = true) (h1 : us.size ≤ sizeLine) (h2 : us.size + ws.size ≤ sizeLine + 1) :
    Meets (Builtin.«list.extend» ⟨[.ref l, .ref b], []⟩) (fun _ R s => s.heap.get? l = some { cls := .type "list", data := .seq us n } ∧ s.heap.get? b = some { cls := .type T, dict := dd, data := .seq ws k, slots := sl } ∧ R (.ok (.ret Value.none)) { s with heap := s.heap.update l (Obj.mapSeq fun x => x ++ ws) }) :=
  .of_wp fun prog w A R s h => by
    obtain ⟨hp, g, d, tk, os⟩ := s
    obtain ⟨hl, hb, h⟩ := h
    have f2 := sub_tuple_tuple
    have f3 := sub_list_list
    have f4 := sub_tuple_list
    have f5 := sub_list_tuple
    have hz : (us ++ ws).size ≤ sizeLine + 1 := by rw [Array.size_append]; exact h2
    rcases hT with rfl | rfl
    · wp_walk using (wpAny_updateSeq hl rfl (hz := h1) (_hz' := hz)), wpAny_loadPart' hl, wpAny_loadPart' hb
      exact ⟨_, rfl, h⟩
    · wp_walk using (wpAny_updateSeq hl rfl (hz := h1) (_hz' := hz)), wpAny_loadPart' hl, wpAny_loadPart' hb
      exact ⟨_, rfl, h⟩

def rExtA (K : PySem.W.Frag) : V → List V → Hp → VK → Prop := fun x vs H Q => ∃ l b xs zs, x = .ref l ∧ vs = [.ref b] ∧ H l = some (.lst xs) ∧ (SqL K H b zs ∨ SqT K H b zs) ∧ xs.length + zs.length ≤ sizeLine ∧ Q .non (upd H l (.lst (xs ++ zs)))
theorem mt_ext : MtM X "list.extend" (rExtA X.K) := by
  intro pins s σ H x vs v us Q I rx rv h
  obtain ⟨l, b, xs, zs, rfl, rfl, hH, hB, hz, q⟩ := h
  cases rx
  obtain ⟨u, rfl, ru⟩ := rv.one
  cases ru
  obtain ⟨z, its, n, r, hl, e⟩ := I.lstM hH
  have main : ∀ (T : String) (its2 : List Value) (o : Obj) (k : Nat), (T = "list" ∨ T = "tuple") → Vals zs its2 → s.heap.get? b = some o → o.cls = .type T → o.data = .seq its2.toArray k → wpAny (model X.prog X.w) X.A (call (.builtin "list.extend") [.ref l, .ref b]) (EP X pins σ Q) X.xe s := by
    intro T its2 o k hT r2 ho hc hd
    obtain ⟨cls, dd, data, sl⟩ := o
    simp only at hc hd
    subst hc hd
    have hl2 := r2.length
    have hsz : its.toArray.size + its2.toArray.size ≤ sizeLine := by rw [List.size_toArray, List.size_toArray]; omega
    have hlong : ¬ (!its.toArray.isEmpty && Builtin.List.listTooLong (its.toArray.size + its2.toArray.size)) = true := by
      rw [notLongL hsz, Bool.and_false]
      decide
    refine call_meets PySem.F.slot_list_extend ⟨_, e, rfl⟩ PySem.F.entry_list_extend (PySem.F.args_list_extend_2 _ _) (ext_any l its.toArray n b its2.toArray k dd sl hT hlong (by rw [List.size_toArray]; omega) (by omega)) ⟨e, ho, ?_⟩
    refine ⟨.non, _, I.lset (its' := its ++ its2) (t' := s.toks) hH e (by simp) (r.append r2) ?_, rfl, q⟩
    rw [List.length_append]; omega
  rcases hB with hB | hB
  · obtain ⟨its2, r2, ⟨o, n2, ho, hc, _, hd⟩, _⟩ := I.list hB
    exact main "list" its2 o n2 (.inl rfl) r2 ho hc hd
  · obtain ⟨its2, r2, ⟨o, ho, hc, n2, hd⟩, _⟩ := I.tuple hB
    exact main "tuple" its2 o n2 (.inr rfl) r2 ho hc hd
def extR (i : Nat) (f : Rho → Res D) : Rho → SRes := fun ρ => (match ρ[i]? with
  | some (.ow ds) => evS (f ρ) ρ fun d => match seqD d with
    | .ok zs => if ds.length + zs.length ≤ 16777216 then .nx (ρ.set i (.ow (ds ++ zs))) else .bad
    | _ => .bad
  | _ => .bad)
theorem ext_ {i : Nat} {o : Expr} {apos cpos : Pos} {f : Rho → Res D} (ho : PE X o (tVar i)) (he : PE X e (eS p f)) (hK : X.K = p.K := by rfl) (hbase : attributeBase o "extend" X.env (eval o X.env) = eval o X.env := by rfl)
    (hfew : ((backTo cpos (starEach (e :: []) X.env)).all (fun x => !x.1) && (backToKw cpos (keywordEach [] X.env)).all (fun x => x.1.isSome) && decide ((e :: []).length + ([] : List Keyword).length + (if ([] : List Keyword).isEmpty then 0 else 1) < 30)) = true := by rfl)
    (hline : (apos.endLine == cpos.line) = true := by rfl) (hse : starEach (e :: []) X.env = (false, eval e X.env) :: starEach [] X.env := by rfl) (hplain : (backTo cpos (starEach [] X.env)).any (·.1) = false := by rfl) (hs : swapsWith (.Call (.Attribute o "extend" apos) [e] [] cpos) none pos.line X.env = pure false := by rfl) :
    PS X (.Expr (.Call (.Attribute o "extend" apos) [e] [] cpos) pos) (sS p (extR i f)) := (ps_expr (pe_bm PySem.F.plainAttrs_list PySem.F.slot_list_extend PySem.F.type_list_extend mt_ext ho (pa_cons he pa_nil hse) hbase hfew hline hse hplain) hs).imp fun De σ H h => by
  obtain ⟨G0, B, G, ρ, x, e, ht, h⟩ := h
  unfold extR at h
  split at h
  · rename_i ds hi
    obtain ⟨a, vs, h1, h2, h3, h4, h5⟩ := e.ow i ds hi
    refine ⟨_, h1, .inl ⟨rfl, _, .inl (.inl h4)⟩, ?_⟩
    refine ev_st x e ht [] h fun d w G' H' hk x' k' e' r xb eb kh => ?_
    have r : Dv p.K G' w d := r
    have h4' : H' a = some (.lst vs) := kh _ _ h4 rfl
    have fin : ∀ {xs : List V} {zs : List D}, DvAll p.K G' xs zs → sR p G0 B G De (if ds.length + zs.length ≤ 16777216 then .nx (ρ.set i (.ow (ds ++ zs))) else .bad) → vs.length + xs.length ≤ sizeLine ∧ De.nx σ (upd H' a (.lst (vs ++ xs))) := fun {xs zs} rr hk => by
      split at hk
      · rename_i hz
        obtain ⟨g1, g2⟩ := e'.mut x' i hi h1 h4' ((h5.kp k').append rr)
        exact ⟨by rw [sizeLine_eq, h5.length, rr.length]; exact hz, hk σ G' _ g2 k' g1⟩
      · exact hk.elim
    cases r with
    | lst rr q =>
      obtain ⟨f1, f2⟩ := fin q hk
      exact ⟨a, _, vs, _, rfl, rfl, h4', .inl (by rw [hK]; exact x'.gh.sqL rr), f1, f2⟩
    | tup rr q =>
      obtain ⟨f1, f2⟩ := fin q hk
      exact ⟨a, _, vs, _, rfl, rfl, h4', .inr (by rw [hK]; exact x'.gh.sqT rr), f1, f2⟩
    | _ => exact (show False from hk).elim
  · exact h.elim
end
end J

set_option linter.all false
set_option maxRecDepth 100000
set_option maxHeartbeats 4000000
/-! # try without a name -/
namespace J
open PySem PySem.Spec PyProof.Rows L2 RZ
section
variable {X : Cx} {p : Pm}
theorem s_try0 {x : Str} {h : Xc} {body suite : List Stmt} {b₀ : Stmt} {np pos pos' : Pos} {g s : Rho → SRes} (hK : X.K = p.K) (hs : X.stack = X.env :: X.outer) (hf : X.env.frame = some X.env.locals) (hc : Names X x (.ref (p.ec h))) (tk : L2N.Takes X p.W)
    (cs : List Xc) (hx : ∀ c ∈ cs, PySem.W.exmOne p.K (.ref (p.ec c)) (.ref (p.ec h)) = some (isSub c h))
    (hb : ∀ (W : WX) (pn : List (Addr × Obj)) (xe : Value → Shared → Prop), L2N.Takes (X.tr pn xe) W → PassesOwn (model X.prog X.w) X.A X.env xe → PSs (X.tr pn xe) body (sS { p with W := W } g))
    (hsu : ∀ (a : Addr) (oe : Obj) (cls : Value) (d : Option Addr) (pn : List (Addr × Obj)), L2N.Zn cls d oe → (∃ vs, oe.data = .fields vs) → PSs (X.suite a ((a, oe) :: pn)) (b₀ :: suite) (sS (p.at cls d a) s)) :
    PS X (.Try body [.ExceptHandler (some (.Name x np)) none (b₀ :: suite) pos'] [] [] pos) (sS p (tryR0 cs h g s)) :=
  (L2N.ps_try_many (tb := fun W => sS { p with W := W } g) (l := [(.ref (p.ec h), fun a cls d => sS (p.at cls d a) s)]) (Wout := p.W) hs hf tk hb (.cons hc hsu .nil)).imp fun De σ H hh => by
  obtain ⟨G0, B, G, ρ, xt, e, ht, hh⟩ := hh
  refine ⟨G0, B, G, ρ, xt, ⟨⟨e.e.len, e.e.sh, e.e.ex, e.e.fd⟩, e.ow, e.ap, e.od, e.ad⟩, ht, ?_⟩
  unfold tryR0 at hh
  have cv : ∀ {W : WX} {σ' : L2.St} {G' H' : Hp} {ρ' : Rho}, EnvO { p with W := W } B G' σ' H' ρ' → EnvO p B G' σ' H' ρ' := fun e => ⟨⟨e.e.len, e.e.sh, e.e.ex, e.e.fd⟩, e.ow, e.ap, e.od, e.ad⟩
  cases q : g ρ with
  | nx ρ' => rw [q] at hh; exact fun σ' G' H' x' k' e' => hh σ' G' H' x' k' (cv e')
  | bk ρ' => rw [q] at hh; exact fun σ' G' H' x' k' e' => hh σ' G' H' x' k' (cv e')
  | ct ρ' => rw [q] at hh; exact fun σ' G' H' x' k' e' => hh σ' G' H' x' k' (cv e')
  | rt d => rw [q] at hh; exact hh
  | rtO d => rw [q] at hh; exact hh
  | bad => rw [q] at hh; exact hh
  | ex c ρ' =>
    rw [q] at hh
    dsimp only at hh
    by_cases hcs : c ∈ cs
    rotate_left
    · rw [if_neg hcs] at hh; exact hh.elim
    rw [if_pos hcs] at hh
    intro σ' G' H' x' k' e'
    refine ⟨isSub c h, by rw [hK]; exact hx c hcs, fun hbt a ha => ?_, fun hbf => ?_⟩
    · rw [if_pos hbt] at hh
      refine ⟨G0, B, G', _, x', EnvO.unex (p := p) (p' := p.at (.ref (p.ec c)) none a) rfl (cv e'), ht, ?_⟩
      have hh := sR.kp hh k'
      cases q2 : s (J.unex ρ') with
      | nx ρ2 => rw [q2] at hh; exact fun σ2 G2 H2 x2 k2 e2 => hh _ G2 H2 x2 k2 (e2.unex (by exact rfl))
      | bk ρ2 => rw [q2] at hh; exact fun σ2 G2 H2 x2 k2 e2 => hh _ G2 H2 x2 k2 (e2.unex (by exact rfl))
      | ct ρ2 => rw [q2] at hh; exact fun σ2 G2 H2 x2 k2 e2 => hh _ G2 H2 x2 k2 (e2.unex (by exact rfl))
      | rt d => rw [q2] at hh; exact hh
      | rtO d => rw [q2] at hh; exact hh
      | ex c2 ρ2 => rw [q2] at hh; exact hh.elim
      | bad => rw [q2] at hh; exact hh.elim
    · rw [hbf, if_neg Bool.false_ne_true] at hh
      exact hh σ' G' H' x' k' (cv e')

/-! # new lists: x + y, [..] * n -/
variable {a b : Expr} {fa fb : Rho → Res D} {pos : Pos}
def addLL : D → D → Res (List D)
  | .list xs, .list ys => if xs.length + ys.length ≤ 16777216 then .ok (xs ++ ys) else .bad
  | _, _ => .bad
def do2L (f g : Rho → Res D) (k : D → D → Res (List D)) : Rho → Res (List D) := fun ρ => (f ρ).bind fun x => (g ρ).bind fun y => k x y
theorem n_add (ha : PE X a (eS p fa)) (hb : PE X b (eS p fb)) (hK : X.K = p.K := by rfl) : PE X (.BinOp a .Add b pos) (nS p (do2L fa fb addLL)) := (pe_op op_catL ha hb).imp fun σ H Q h => by
  obtain ⟨G, ρ, he, hk, ht, h⟩ := h
  refine ⟨G, ρ, he, hk, ht, ?_⟩
  unfold do2L at h
  cases e : fa ρ with
  | ex c => rw [e] at h; exact h
  | bad => rw [e] at h; exact h.elim
  | ok dx =>
    rw [e, bind_ok] at h
    intro x G1 H1 e1 rx
    have rx : Dv p.K G1 x dx := rx
    refine ⟨G1, ρ, he.kp e1.g, e1.gh, ht.ext e1, ?_⟩
    cases e2 : fb ρ with
    | ex c => rw [e2] at h; exact fun G' H' ee => h G' H' (e1.trans ee)
    | bad => rw [e2] at h; exact h.elim
    | ok dy =>
      rw [e2, bind_ok] at h
      intro y G2 H2 e3 ry
      have ry : Dv p.K G2 y dy := ry
      have rx2 := rx.kp e3.g
      cases rx2 with
      | lst r q =>
        cases ry with
        | lst r2 q2 =>
          dsimp only [addLL] at h
          split at h
          · rename_i ds0 hz
            split at hz
            · rename_i hz'
              cases hz
              refine ⟨_, _, _, _, rfl, rfl, by rw [hK]; exact e3.gh.sqL r, by rw [hK]; exact e3.gh.sqL r2, by rw [sizeLine_eq, q.length, q2.length]; exact hz', fun z hz => ?_⟩
              have e13 := e1.trans e3
              exact h z _ G2 _ (e13.trans (Ext.newO e3.gh hz)) (e13.free hz) (e3.gh.none hz) upd_same (q.append q2)
            · cases hz
          · rename_i c hz
            split at hz <;> cases hz
          · exact h.elim
        | _ => exact (show False from h).elim
      | _ =>
        cases ry <;> exact (show False from h).elim
def repR (f : Rho → Res (List D)) (g : Rho → Res D) : Rho → Res (List D) := fun ρ => (f ρ).bind fun xs => (g ρ).bind fun y => match y with
  | .int k => if -9223372036854775808 ≤ k ∧ k < 9223372036854775808 ∧ xs.length * k.toNat ≤ 16777216 then .ok (List.replicate k.toNat xs).flatten else .bad
  | _ => .bad
theorem n_rep {f : Rho → Res (List D)} (ha : PE X a (nS p f)) (hb : PE X b (eS p fb)) : PE X (.BinOp a .Mult b pos) (nS p (repR f fb)) := (pe_op op_rep ha hb).imp fun σ H Q h => by
  obtain ⟨G, ρ, he, hk, ht, h⟩ := h
  refine ⟨G, ρ, he, hk, ht, ?_⟩
  unfold repR at h
  cases e : f ρ with
  | ex c => rw [e] at h; exact h
  | bad => rw [e] at h; exact h.elim
  | ok dx =>
    rw [e, bind_ok] at h
    intro q vs G1 H1 e1 hq gq Hq r
    refine ⟨G1, ρ, he.kp e1.g, e1.gh, ht.ext e1, ?_⟩
    cases e2 : fb ρ with
    | ex c => rw [e2] at h; exact fun G' H' ee => h G' H' (e1.trans ee)
    | bad => rw [e2] at h; exact h.elim
    | ok dy =>
      rw [e2, bind_ok] at h
      intro y G2 H2 e3 ry
      have ry : Dv p.K G2 y dy := ry
      cases ry with
      | int k =>
        dsimp only at h
        by_cases hz : -9223372036854775808 ≤ k ∧ k < 9223372036854775808 ∧ dx.length * k.toNat ≤ 16777216
        · rw [if_pos hz] at h
          refine ⟨q, k, vs, rfl, rfl, e3.h _ _ Hq rfl, by have := hz.1; omega, by have := hz.2.1; omega, by rw [sizeLine_eq, r.length]; exact hz.2.2, fun z hzn => ?_⟩
          have e13 := e1.trans e3
          exact h z _ G2 _ (e13.trans (Ext.newO e3.gh hzn)) (e13.free hzn) (e3.gh.none hzn) upd_same ((r.kp e3.g).rep k.toNat)
        · rw [if_neg hz] at h; exact h.elim
      | _ => exact (show False from h).elim
theorem fn_bad {P : Program} {w : World} {K : PySem.W.Frag} {mg : Str → Option Value} {base : Heap} {CX : CXT} {k : Nat} {f : Addr} {fd : FuncData} {ps : List Str} {ec : Xc → Addr} {tb : List Addr} {n : Nat} {F : List D → Res D} (h : ∀ ds, F ds = .bad) : FnOk P w K mg base CX k f fd ps (spD K ec tb n F) :=
  ⟨fun vs H Q E z => by
    obtain ⟨G, ds, _, _, _, _, z⟩ := z
    rw [h ds] at z
    exact z.elim, fun A outer s H args us vs Q E _ _ _ _ z => by
    obtain ⟨G, ds, _, _, _, _, z⟩ := z
    rw [h ds] at z
    exact z.elim⟩
end
end J

set_option linter.all false
set_option maxRecDepth 100000
set_option maxHeartbeats 4000000
/-! # a tuple of whole things, made while a list lies still -/
namespace J
open PySem PySem.Spec PyProof.Rows L2 RZ
mutual
def flatD : D → Bool
  | .none | .bool _ | .int _ | .str _ => true
  | .tuple ds => flatDs ds
  | _ => false
def flatDs : List D → Bool
  | [] => true
  | d :: ds => flatD d && flatDs ds
end
def isTupH : HO → Bool
  | .tup _ => true
  | .frz _ (.tup _) => true
  | _ => false
/-- G, and the tuples of G' -/
def withT (G G' : Hp) : Hp := fun a => match G a with
  | some o => some o
  | none => match G' a with
    | some o => if isTupH o = true then some o else none
    | none => none
theorem withT_kp (G G' : Hp) : Kp G (withT G G') := fun a o h _ => by unfold withT; rw [h]
theorem withT_some {G G' : Hp} {a : Addr} {o : HO} (h : withT G G' a = some o) : G a = some o ∨ (G a = none ∧ G' a = some o ∧ isTupH o = true) := by
  unfold withT at h
  split at h
  · rename_i o' e; cases h; exact .inl e
  · rename_i e
    split at h
    · rename_i o' e'
      split at h
      · rename_i t; cases h; exact .inr ⟨e, e', t⟩
      · cases h
    · cases h
theorem withT_tup {G G' : Hp} (k : Gs G G') {a : Addr} {o : HO} (h : G' a = some o) (t : isTupH o = true) : withT G G' a = some o := by
  unfold withT
  cases q : G a with
  | some o' => have := (k a o' q).2; rw [h] at this; cases this; rfl
  | none => dsimp only; rw [h]; dsimp only; rw [if_pos t]
theorem rd_withT {G G' : Hp} (k : Gs G G') {a : Addr} {xs : List V} (h : Rd G' a (.tup xs)) : Rd (withT G G') a (.tup xs) := by
  rcases h with h | ⟨o, h⟩
  · exact .inl (withT_tup k h rfl)
  · exact .inr ⟨o, withT_tup k h rfl⟩
mutual
theorem Dv.flat {K : PySem.W.Frag} {G G' : Hp} (k : Gs G G') : ∀ {v : V} {d : D}, Dv K G' v d → flatD d = true → Dv K (withT G G') v d
  | _, _, .non, _ => .non
  | _, _, .bl b, _ => .bl b
  | _, _, .int i, _ => .int i
  | _, _, .str x, _ => .str x
  | _, _, .lst _ _, f => by cases f
  | _, _, .tup h a, f => .tup (h.elim (fun h => .inl (rd_withT k h)) .inr) (DvAll.flat k a f)
theorem DvAll.flat {K : PySem.W.Frag} {G G' : Hp} (k : Gs G G') : ∀ {vs : List V} {ds : List D}, DvAll K G' vs ds → flatDs ds = true → DvAll K (withT G G') vs ds
  | _, _, .nil, _ => .nil
  | _, _, .cons h t, f => by
    have f' := Bool.and_eq_true _ _ ▸ (show (flatD _ && flatDs _) = true from f)
    exact .cons (Dv.flat k h f'.1) (DvAll.flat k t f'.2)
end
section
variable {X : Cx} {p : Pm} {B G H G' H' G0 : Hp} {σ : L2.St} {ρ : Rho}
theorem Ext.withT (x : Ext G0 B G H) (x' : Ext G0 B G' H) : Ext G0 B (J.withT G G') H := ⟨x.g.trans (withT_kp _ _), x.h, fun a o h => by
  rcases withT_some h with h | ⟨_, h, _⟩
  · exact x.gh a o h
  · exact x'.gh a o h, fun a h => by
  cases q : J.withT G G' a with
  | none => exact (h q).elim
  | some o =>
    rcases withT_some q with h | ⟨_, h, _⟩
    · exact x.n a (by rw [h]; simp)
    · exact x'.n a (by rw [h]; simp), x.t⟩
theorem withT_own (x' : Gs G' H) {a : Addr} {o : HO} (h3 : G a = none) (h4 : H a = some o) (t : isTupH o = false) : J.withT G G' a = none := by
  cases q : J.withT G G' a with
  | none => rfl
  | some u =>
    rcases withT_some q with h | ⟨_, h, t'⟩
    · rw [h3] at h; cases h
    · have := (x' a u h).2
      rw [h4] at this; cases this; rw [t] at t'; cases t'
theorem EnvO.withT (e : EnvO p B G σ H ρ) (x' : Gs G' H) : EnvO p B (J.withT G G') σ H ρ := by
  refine ⟨e.e.kp (withT_kp _ _), fun i ds h => ?_, e.ap, fun i es h => ?_, e.ad⟩
  · obtain ⟨a, vs, h1, h2, h3, h4, h5⟩ := e.ow i ds h
    exact ⟨a, vs, h1, h2, withT_own x' h3 h4 rfl, h4, h5.kp (withT_kp _ _)⟩
  · obtain ⟨a, h1, h2, h3, h4⟩ := e.od i es h
    exact ⟨a, h1, h2, withT_own x' h3 h4 rfl, h4⟩
/-- xs[at] = (…, xs[…], …) -/
def siFR (s : Nat) (S : List Nat) (i : Nat) (fi f : Rho → Res D) : Rho → SRes := fun ρ => evS (f (fzs (s :: S) ρ)) ρ fun d => (match ρ[i]? with
  | some (.ow ds) => evS (fi (fzs (s :: S) ρ)) ρ fun k => (match k with
    | .int k => (match ixN ds.length k with
      | some j => if flatD d = true then .nx (ρ.set i (.ow (ds.set j d))) else .bad
      | none => .bad)
    | _ => .bad)
  | _ => .bad)
theorem s_setIF {e : Expr} {f : Rho → Res D} {pos : Pos} (s : Nat) (S : List Nat) {i : Nat} {o ie : Expr} {fi : Rho → Res D} {tg : Expr} (hp : PG X tg (gSub (tVar i) (eS p fi) rSetL)) (he : PE X e (eS p f)) (hs : swapsWithSole [tg] e pos.line X.env = pure false) (hw : swappedStores [tg] e X.env = pure none)
    (h1 : (assignEach [tg] X.env).map (·.2) = [assign tg X.env]) : PS X (.Assign [tg] e pos) (sS p (siFR s S i fi f)) := (ps_asg he hp hs hw h1).imp fun De σ H h => by
  obtain ⟨G0, B, G, ρ, x, e, ht, h⟩ := h
  refine ev_st x e ht (s :: S) h fun d w G' H' hk x' k' e' r xb eb kh => ?_
  have r : Dv p.K G' w d := r
  split at hk
  · rename_i ds hi
    obtain ⟨a, vs, h1, h2, h3, h4, h5⟩ := e.ow i ds hi
    refine ⟨_, h1, ?_⟩
    have x2 := Ext.withT xb x'
    have e2 := EnvO.withT eb x'.gh
    refine ev_st (f := fi) x2 e2 ht (s :: S) (sR.kp hk (withT_kp G G')) fun k u G2 H2 hk2 x3 k3 e3 r2 xb2 eb2 kh2 => ?_
    have r2 : Dv p.K G2 u k := r2
    cases r2 <;> first | exact (show False from hk2).elim | skip
    rename_i k
    have hk2 : sR p G0 B (withT G G') De (match ixN ds.length k with
        | some j => if flatD d = true then .nx (ρ.set i (.ow (ds.set j d))) else .bad
        | none => .bad) := hk2
    split at hk2
    · rename_i j hj
      split at hk2
      · rename_i hz
        have h4' : H2 a = some (.lst vs) := kh2 _ _ (kh _ _ h4 rfl) rfl
        refine ⟨a, vs, k, j, rfl, rfl, h4', by rw [h5.length]; exact hj, ?_⟩
        have y4 : Dv p.K (withT G G') w d := Dv.flat (fun a o q => ⟨(xb.gh a o q).1, k' a o q (xb.gh a o q).1⟩) r hz
        obtain ⟨g1, g2⟩ := eb2.mut xb2 i hi h1 h4' (DvAll.set y4 j (h5.kp (withT_kp G G')))
        exact hk2 σ (withT G G') _ g2 (Kp.refl _) g1
      · exact hk2.elim
    · exact hk2.elim
  · exact hk.elim
theorem setiF_ {e : Expr} {f : Rho → Res D} {pos : Pos} (s : Nat) (S : List Nat) {i : Nat} {o ie : Expr} {fi : Rho → Res D} {tpos : Pos} (ho : PE X o (tVar i)) (hi : PE X ie (eS p fi)) (he : PE X e (eS p f)) (hp : PG X (.Subscript o ie tpos) (gSub (tVar i) (eS p fi) rSetL) := by exact pg_sub ‹_› ‹_› set_list) (hs : swapsWithSole [.Subscript o ie tpos] e pos.line X.env = pure false := by rfl) (hw : swappedStores [.Subscript o ie tpos] e X.env = pure none := by rfl)
    (h1 : (assignEach [.Subscript o ie tpos] X.env).map (·.2) = [assign (.Subscript o ie tpos) X.env] := by rfl) : PS X (.Assign [.Subscript o ie tpos] e pos) (sS p (siFR s S i fi f)) := s_setIF s S (ie := ie) (o := o) hp he hs hw h1
end
section
theorem op_isB {X : Cx} : OpR X (compareOp .Is) (fun x y H Q => ∃ a b, x = .bl a ∧ y = .bl b ∧ Q (.bl (a == b)) H) := by
  intro pins s σ H x y v u Q I rx ry h
  obtain ⟨a, b, rfl, rfl, q⟩ := h
  cases rx
  cases ry
  cases a <;> cases b <;> exact wpAny_pure (fin_bl I q rfl)
theorem op_isntB {X : Cx} : OpR X (compareOp .IsNot) (fun x y H Q => ∃ a b, x = .bl a ∧ y = .bl b ∧ Q (.bl (a != b)) H) := by
  intro pins s σ H x y v u Q I rx ry h
  obtain ⟨a, b, rfl, rfl, q⟩ := h
  cases rx
  cases ry
  cases a <;> cases b <;> exact wpAny_pure (fin_bl I q rfl)
def isBD : D → D → Res D
  | .bool a, .bool b => .ok (.bool (a == b))
  | _, _ => .bad
def isntBD : D → D → Res D
  | .bool a, .bool b => .ok (.bool (a != b))
  | _, _ => .bad
variable {p : Pm} {X : Cx} {a b : Expr} {fa fb : Rho → Res D} {pos : Pos}
theorem o_isB : Op2 p (fun x y H Q => ∃ a b, x = .bl a ∧ y = .bl b ∧ Q (.bl (a == b)) H) isBD := by
  intro σ G H x y dx dy Q k rx ry h
  cases rx <;> first | exact (show False from h).elim | skip
  cases ry <;> first | exact (show False from h).elim | skip
  exact ⟨_, _, rfl, rfl, rS_now k h (.bl _)⟩
theorem o_isntB : Op2 p (fun x y H Q => ∃ a b, x = .bl a ∧ y = .bl b ∧ Q (.bl (a != b)) H) isntBD := by
  intro σ G H x y dx dy Q k rx ry h
  cases rx <;> first | exact (show False from h).elim | skip
  cases ry <;> first | exact (show False from h).elim | skip
  exact ⟨_, _, rfl, rfl, rS_now k h (.bl _)⟩
theorem isB_ (ha : PE X a (eS p fa)) (hb : PE X b (eS p fb)) : PE X (.Compare a [.Is] [b] pos) (eS p (do2 fa fb isBD)) := e_cmp op_isB o_isB (nomark _) ha hb
theorem isntB_ (ha : PE X a (eS p fa)) (hb : PE X b (eS p fb)) : PE X (.Compare a [.IsNot] [b] pos) (eS p (do2 fa fb isntBD)) := e_cmp op_isntB o_isntB (nomark _) ha hb
theorem tisB_ (ha : PE X a (eS p fa)) (hb : PE X b (eS p fb)) : PT X (.Compare a [.Is] [b] pos) (tS p (tstR (do2 fa fb isBD))) := t_cmp op_isB o_isB (nomark _) ha hb
theorem tisntB_ (ha : PE X a (eS p fa)) (hb : PE X b (eS p fb)) : PT X (.Compare a [.IsNot] [b] pos) (tS p (tstR (do2 fa fb isntBD))) := t_cmp op_isntB o_isntB (nomark _) ha hb
end
end J

set_option linter.all false
set_option maxRecDepth 100000
set_option maxHeartbeats 4000000
/-! # comprehensions out of which an error may come -/
namespace J
open PySem PySem.Spec PyProof.Rows L2 RZ
/-- a block that lets errors out -/
abbrev blkX (X : Cx) (s : Shared) (H : Hp) (scope : Scope) (ce : Env) (fp : List Addr) (xe : Value → Shared → Prop) : Cx := (X.blk s H scope ce fp).tr [] xe
theorem note_eq {e : Value} {a b : Env} (h : a.frame = b.frame) : noteFrame e a = noteFrame e b := by
  unfold noteFrame PySem.frameOf
  rw [h]
theorem rawInt_ne {a b : Addr} (h : a ≠ b) : (rawInt a == rawInt b) = false := by
  have : rawInt a ≠ rawInt b := fun e => h (by
    have : (Int.ofNat a) = (Int.ofNat b) := by simpa [rawInt] using e
    exact Int.ofNat.inj this)
  simpa using this
theorem frames_hide {h h' B B' : Heap} : ∀ {l : List Env}, (∀ b, B.get? b = none → B'.get? b = none) → (∀ a ∈ frs l, h'.get? a = h.get? a) → h.FunFrames B l → h'.FunFrames B' l
  | [], _, _, _ => trivial
  | v :: r, k1, k2, ⟨h1, ⟨L, o, h2, h3, h4, h5⟩, h6⟩ => by
    have hm : frs (v :: r) = L :: frs r := by unfold frs; rw [List.filterMap_cons, h2]
    exact ⟨h1, ⟨L, o, h2, k1 L h3, by rw [k2 L (by rw [hm]; simp)]; exact h4, h5⟩, frames_hide k1 (fun a ha => k2 a (by rw [hm]; simp [ha])) h6⟩
section
variable {M : Model} {A : Around} {E1 : Value → Shared → Prop} {st : Shared} {Z : Obj → Prop} {B : Heap} {ev : Env} {out : List Env} {F C e : Addr}
/-- noted by the def's frame, whatever its flight was -/
theorem note_other {Q : Unit → Shared → Prop} (hZ : PXN.Steady1 Z) (ha : A.frames = some (ev :: out)) (hv : ev.frame = some F) (hh : HandSPX.HeldZ B (ev :: out) e Z C st.heap) (hne : C ≠ F)
    (k : ∀ h2, HandSPX.HeldZ B (ev :: out) e Z F h2 → st.heap.UpToSlots h2 → Q () { st with heap := h2 }) : wpAny M A (noteFrame (.ref e) ev) Q E1 st := by
  obtain ⟨x1, x2, x3, ob, fs, T, oT, tf, y1, y2, y3, y4, y5, y6, y7, y8, y9⟩ := hh
  have nf : ∀ b o, st.heap.get? b = some o → (∀ vs, o.data ≠ .fields vs) → b ≠ T := fun b o q1 q2 q3 => by
    rw [q3, y7] at q1; cases q1; exact q2 tf y8
  have away : ∀ b, b ≠ T → (st.heap.update T (Obj.mapFields (·.setIfInBounds 3 Value.none))).get? b = st.heap.get? b := fun b q => Heap.get?_update_other _ _ (fun z => q z.symm)
  unfold noteFrame
  simp only [hv]
  refine wpAny_bind (wpAny_field y1 y3 y4 ?_)
  rw [if_pos (by simp : (Value.ref T != Value.none) = true)]
  refine wpAny_bind (wpAny_field y7 y8 y9 ?_)
  rw [if_neg (by rw [rawInt_ne hne]; decide)]
  refine wpAny_bind (wpAny_setField y7 y8 (Array.getElem?_eq_some_iff.mp y9).1 ?_)
  refine PXN.wpAny_entryZ hZ ha (Heap.FunFrames.of_keeps (fun b o q1 q2 => ⟨o, (away b (nf b o q1 q2)).trans q1, rfl⟩) x3) hv ((away e fun z => y6 z.symm).trans y1) (fun b o q => (away b fun z => by rw [z, y5] at q; cases q).trans (x1 b o q)) x2 y3 (Array.getElem?_eq_some_iff.mp y4).1 y2 fun h2 hN => ?_
  obtain ⟨z1, z2, z3, z4⟩ := hN
  exact k h2 ⟨z1, x2, z2, z3⟩ fun b o q1 q2 => z4 b o ((away b (nf b o q1 q2)).trans q1) q2
/-- from the air of the block to the def's hands -/
theorem note_sky {Q : Unit → Shared → Prop} (hZ : PXN.Steady1 Z) (ha : A.frames = some (ev :: out)) (hv : ev.frame = some F) (hne : C ≠ F) (x : Sky B (ev :: out) e Z C st.heap)
    (k : ∀ h2, HandSPX.HeldZ B (ev :: out) e Z F h2 → st.heap.UpToSlots h2 → Q () { st with heap := h2 }) : wpAny M A (noteFrame (.ref e) ev) Q E1 st := by
  rcases x with ⟨x1, x2, x3, ob, fs, y1, y2, y3, y4⟩ | x | x
  · exact PXN.look_newZ hZ ha x3 hv y1 x1 x2 y3 y4 y2 k
  · exact PXN.looks_onZ hZ ha hv x k
  · exact note_other hZ ha hv x hne k
end
section
variable {X : Cx}
/-- what is in the block's air goes on in the def's -/
theorem blk_takes {pins : List (Addr × Obj)} {s3 : Shared} {σ : L2.St} {H3 : Hp} {scope : Scope} {ce : Env} {fp : List Addr} {Wo : WX} (hs0 : X.stack = X.env :: X.outer) (hf0 : X.env.frame = some X.env.locals) (tk : L2N.Takes X Wo)
    (J3 : Inv X pins σ H3 s3) (hcL : ce.locals = s3.heap.objs.size) (hcf : ce.frame = X.env.frame) (hfp : ∀ b ∈ fp, FpOk X pins H3 b ∧ b < s3.heap.objs.size) :
    L2N.Takes (blkX X s3 H3 scope ce fp (notedBy (model X.prog X.w) X.A ce (CompFails (model X.prog X.w) X.A X.xe ce))) (fun cls d _ H => Wo cls d σ H) := by
  intro u s' x
  obtain ⟨a, B, sI, pn, σb, Hb, cls, d, rfl, Jb, nb, up, sky, na, os, ag, w⟩ := x
  have okX := J3.ok
  have ha : X.A.frames = some (X.env :: X.outer) := by rw [okX.frames, hs0]
  have ltC : ∀ {b o}, s3.heap.get? b = some o → b ≠ ce.locals := fun {b o} q z => by
    rw [z, hcL] at q
    exact absurd (Heap.lt_size q) (Nat.lt_irrefl _)
  have hCF : ce.locals ≠ X.env.locals := fun z => by
    obtain ⟨m, ⟨o, es, ep, ho, _⟩, _⟩ := J3.loc
    exact ltC ho z.symm
  have frC : ∀ b ∈ frs X.stack, b ≠ ce.locals := fun b hb => by
    obtain ⟨_, o, e, _⟩ := J3.stack.mem hb
    exact ltC e
  -- the block's names
  obtain ⟨mC, ⟨oC, es, ep, hoC, hdC, rC⟩, _⟩ := Jb.loc
  have hoC : sI.heap.get? ce.locals = some oC := hoC
  have hBC : B.get? ce.locals = some oC := nb _ _ hoC fun z => frC _ z rfl
  have hHbC : Hb ce.locals = none := Jb.free
  show wpAny _ X.A (noteFrame (.ref a) ce) _ _ s'
  rw [note_eq hcf]
  have sky : Sky B (X.env :: X.outer) a (L2N.Zn cls d) ce.locals s'.heap := by rw [← hs0]; exact sky
  refine note_sky L2N.Zn.steady ha hf0 hCF sky fun h1 held up1 => ?_
  refine ⟨mC, ⟨oC, es, ep, held.1 _ _ hBC, hdC, rC⟩, fun h' m' hn' sb => ?_⟩
  obtain ⟨k1, k2, k3, oe, vs, T, oT, tf, y1, y2, y3, y4, y5, y6, y7, y8, y9⟩ := held
  have aC : a ≠ ce.locals := fun z => by rw [z, hBC] at k2; cases k2
  have TC : T ≠ ce.locals := fun z => by rw [z, hBC] at y5; cases y5
  have hide0 : ∀ b, B.get? b = none → (B.hide ce.locals).get? b = none := fun b q => by
    cases z : (B.hide ce.locals).get? b with
    | none => rfl
    | some o => have := Heap.of_hide z; rw [q] at this; cases this
  have hhide : ∀ b o, (B.hide ce.locals).get? b = some o → b ≠ ce.locals ∧ B.get? b = some o := fun b o q => ⟨(fun z => by rw [z, Heap.hide_self] at q; cases q), Heap.of_hide q⟩
  unfold PySem.passOn
  refine wpAny_bind (wpAny_field ((sb.2 a aC).trans y1) y3 y4 ?_)
  rw [if_neg (by simp : ¬ ((Value.ref T == Value.none) = true))]
  have last : wpAny (model X.prog X.w) X.A (setFlight (.ref a) ce.frame) (fun _ s4 => wpAny (model X.prog X.w) X.A (throw (.ref a) : Sem Value) (fun _ _ => False) X.xe s4) X.xe { s' with heap := h' } := by
    rw [hcf, hf0]
    refine HandSPX.setFlight_anyZ (base := B.hide ce.locals) (l := X.env :: X.outer) (Z := L2N.Zn cls d) (fl := rawInt X.env.locals) (fun b o q => (sb.2 b (hhide b o q).1).trans (k1 b o (hhide b o q).2)) (frames_hide hide0 (fun b hb => sb.2 b (frC b (by rw [hs0]; exact hb))) k3)
      ⟨oe, vs, T, oT, tf, (sb.2 a aC).trans y1, y2, y3, y4, hide0 T y5, y6, (sb.2 T TC).trans y7, y8, y9⟩ fun h2 z1 z2 z3 z4 => wpAny_throw (tk _ _ ?_)
    refine ⟨a, B.hide ce.locals, { sI with heap := sI.heap.hide ce.locals }, pins, σ, Hb, cls, d, rfl, ?_, fun b o q hb => ?_, fun b o q hd => ?_, .inr (.inr (by rw [hs0]; exact ⟨z1, hide0 a k2, z2, z3⟩)), na, os, ag, w⟩
    · refine J3.call' (ch := fp) Jb.os ?_ (fun b o q => ?_) Jb.bare fun b hb => ⟨(hfp b hb).1.2.2.2.1, (hfp b hb).1.2.1, (hfp b hb).1.2.2.2.2.1, (hfp b hb).1.2.2.2.2.2⟩
      · have ub := Jb.base
        have hk : ∀ {b o}, s3.heap.get? b = some o → (sI.heap.hide ce.locals).get? b = sI.heap.get? b := fun {b o} q => Heap.hide_ne _ (ltC q)
        exact ⟨fun b o q n1 n2 n3 => (hk q).trans (ub.keep b o q n1 n2 n3), fun b o q n1 n2 n3 => by
          obtain ⟨sl, z⟩ := ub.slot b o q n1 n2 n3
          exact ⟨sl, (hk q).trans z⟩, ub.free, fun b o q n => by
          obtain ⟨o', z⟩ := ub.there b o q n
          exact ⟨o', (hk q).trans z⟩, ub.tups, ub.frzs, ub.tbls⟩
      · exact (Jb.hok b o q).stay (fun c v hc r => (Heap.hide_ne _ (fun z => by
          rcases hc with hc | hc
          · rw [← hc, z, hHbC] at q; cases q
          · rw [z, hHbC] at hc; cases hc)).trans r) (fun _ r => r) fun _ _ r => r
    · have hb2 : b ≠ ce.locals := fun z => by rw [z, Heap.hide_self] at q; cases q
      exact (Heap.hide_ne _ hb2).trans (nb b o (Heap.of_hide q) hb)
    · have hb2 : b ≠ ce.locals := fun z => by rw [z, Heap.hide_self] at q; cases q
      obtain ⟨sl1, q1⟩ := up b o (Heap.of_hide q) hd
      obtain ⟨sl2, q2⟩ := up1 b _ q1 hd
      obtain ⟨sl3, q3⟩ := z4 b _ ((sb.2 b hb2).trans q2) hd
      exact ⟨sl3, q3⟩
  first
    | exact wpAny_bind (wpAny_pure (wpAny_bind last))
    | exact wpAny_bind last

theorem mono_all {α : Type} {M : Model} {A : Around} {m : Sem α} {Q Q' : α → Shared → Prop} {E E' : Value → Shared → Prop} {s : Shared} (h : wpAny M A m Q E s) (hQ : ∀ a t, Q a t → Q' a t) (hE : ∀ e t, E e t → E' e t) : wpAny M A m Q' E' s := wpAny_mono h hQ hE
theorem lcX_core {pins : List (Addr × Obj)} {s : Shared} {σ : L2.St} {H : Hp} {Q : VK} {elt tg iter : Expr} {ifs : List Expr} {scope : Scope} {own : List (Str × Nat)} {pos pos' : Pos} {wi : TI} {g : TG} {tt : WX → TT} {te : WX → TE} {use : Option (Value → Sem Unit)} {Qf : Value → Shared → Prop} {Wo : WX}
    (hs0 : X.stack = X.env :: X.outer) (hf0 : X.env.frame = some X.env.locals) (tk : L2N.Takes X Wo) (hc : X.calm = true) (hN : X.N.Nodup) (I : Inv X pins σ H s) (hi : PI X tg iter wi) (ok : BlkOk X.N X.env.scope scope own)
    (hg : ∀ (s : Shared) (H : Hp) (C : Addr) (cl : List (Str × Addr)) (fp : List Addr) (xe : Value → Shared → Prop), PG (blkX X s H scope (compEnvC scope cl C X.env) fp xe) tg g)
    (ht : ∀ (s : Shared) (H : Hp) (C : Addr) (cl : List (Str × Addr)) (fp : List Addr) (xe : Value → Shared → Prop) (W : WX), L2N.Takes (blkX X s H scope (compEnvC scope cl C X.env) fp xe) W → PTs (blkX X s H scope (compEnvC scope cl C X.env) fp xe) ifs (tt W))
    (he : ∀ (s : Shared) (H : Hp) (C : Addr) (cl : List (Str × Addr)) (fp : List Addr) (xe : Value → Shared → Prop) (W : WX), L2N.Takes (blkX X s H scope (compEnvC scope cl C X.env) fp xe) W → PE (blkX X s H scope (compEnvC scope cl C X.env) fp xe) elt (te W))
    (hs : ∀ x, foldedSetIterable iter X.env x = pure x) (h : tLc wi g (tt fun c d _ H => Wo c d σ H) (te fun c d _ H => Wo c d σ H) (own.map (·.2)) σ H Q)
    (hRR : ∀ D ce s' m H', Inv X pins σ H' s' → Q (.ref D) H' → s'.heap.Ns ce.locals m → FpOk X pins H' ce.locals → compEnds (model X.prog X.w) X.A X.xe use Qf (.ref D) ce (.ok .next) s') :
    wpAny (model X.prog X.w) X.A (comprehension (.ListComp elt [⟨tg, iter, ifs, 0⟩] scope pos) scope X.env pos' (newList []) false (eval iter X.env) use) Qf X.xe s := by
  have hfr : ∀ y ∈ scope.names, y.2 = .free → ∃ c, X.env.cells.lookup y.1 = some c := fun y hy z => (ok.free y hy z).elim (fun k => I.ok.has _ (.inl k)) fun k => I.ok.has _ (.inr k)
  refine comprehension_at (use := use) rfl hs (closure_ok hfr) ok.kind (fun y hy z => by rw [ok.uniq y hy, z]) (thn (hi.run pins s σ H _ I h) fun xv t1 hx => thn hx fun itv t2 h2 => ?_)
  obtain ⟨it, fp, tn, J, H2, e0, I2, T, st2, f2, q⟩ := h2
  subst e0
  refine wpAny_newObj_type (newEnv_comp ?_) (by decide : 0 ≤ sizeLine)
  generalize hDD : t2.heap.objs.size = D
  have nD : H2 D = none := I2.hok.fresh (Nat.le_of_eq hDD)
  obtain ⟨W, ⟨m0, w0⟩, turn⟩ := q D nD
  generalize ht3 : ({ t2 with heap := t2.heap.push { cls := .type "list", data := .seq ([] : List Value).toArray } } : Shared) = t3
  have J3 : Inv X pins σ (upd H2 D (.lst [])) t3 := by
    subst ht3
    refine I2.laid (t' := t2.toks) (fun b o z => Heap.get?_push_of_some _ z) (Nat.le_of_eq hDD) ⟨Nat.zero_le _, [], 0, .nil, ?_⟩
    subst hDD
    exact Heap.get?_push_size _ rfl
  have hp3 : t3.heap = t2.heap.push { cls := .type "list", data := .seq ([] : List Value).toArray } := by rw [← ht3]
  have szf : ∀ b ∈ fp, b < t2.heap.objs.size := fun b hb => by
    obtain ⟨o, z, _⟩ := T.obj _ _ st2 b hb
    exact Heap.lt_size z
  have fp3 : ∀ b ∈ fp, FpOk X pins (upd H2 D (.lst [])) b ∧ b < t3.heap.objs.size := fun b hb => by
    have lt := szf b hb
    exact ⟨⟨by rw [upd_ne (by rw [← hDD]; exact Nat.ne_of_lt lt)]; exact (f2 b hb).1, (f2 b hb).2⟩, by rw [hp3, Heap.size_push]; exact Nat.lt_succ_of_lt lt⟩
  have st3 : tn 0 t3.heap := T.keep _ _ _ st2 fun b _ o z => by rw [hp3]; exact Heap.get?_push_of_some _ z
  have J4 := block_start J3 ok hN fp3
  show codeAny _ _ (.compStart (.ListComp elt [⟨tg, iter, ifs, 0⟩] scope pos) 0 (.ref it) (.ref D) (compEnvC scope (cellsFrom (t3.heap.objs.size + 1) scope.names (cloFrom X.env.cells scope.names [])) t3.heap.objs.size X.env)) (compEnds (model X.prog X.w) X.A X.xe use Qf (.ref D) (compEnvC scope (cellsFrom (t3.heap.objs.size + 1) scope.names (cloFrom X.env.cells scope.names [])) t3.heap.objs.size X.env)) { t3 with heap := pushCells (t3.heap.push { cls := .type "dict", data := .dict #[] }) scope.names }
  have pg := hg t3 (upd H2 D (.lst [])) t3.heap.objs.size (cellsFrom (t3.heap.objs.size + 1) scope.names (cloFrom X.env.cells scope.names [])) fp
  have pt := ht t3 (upd H2 D (.lst [])) t3.heap.objs.size (cellsFrom (t3.heap.objs.size + 1) scope.names (cloFrom X.env.cells scope.names [])) fp
  have pe := he t3 (upd H2 D (.lst [])) t3.heap.objs.size (cellsFrom (t3.heap.objs.size + 1) scope.names (cloFrom X.env.cells scope.names [])) fp
  have nf3 : ∀ b ∈ fp, (upd H2 D (.lst [])) b = none := fun b hb => (fp3 b hb).1.1
  generalize hce : compEnvC scope (cellsFrom (t3.heap.objs.size + 1) scope.names (cloFrom X.env.cells scope.names [])) t3.heap.objs.size X.env = ce at J4 pg pt pe ⊢
  have cL : ce.locals = t3.heap.objs.size := by rw [← hce]; rfl
  have cF : ce.frame = X.env.frame := by rw [← hce]; rfl
  generalize hK3 : upd H2 D (.lst []) = K3 at J3 J4 pg pt pe w0 nf3 fp3
  have tkb := blk_takes (scope := scope) hs0 hf0 tk J3 cL cF fp3
  generalize hxe : notedBy (model X.prog X.w) X.A ce (CompFails (model X.prog X.w) X.A X.xe ce) = xb at tkb
  have pg := pg xb
  have pt := pt xb _ tkb
  have pe := pe xb _ tkb
  have bad : ∀ {e : Value} {t : Shared}, xb e t → notedBy (model X.prog X.w) X.A ce (fun e t => compEnds (model X.prog X.w) X.A X.xe use Qf (.ref D) ce (.error e) t) e t := fun {e t} z => by
    rw [← hxe] at z
    refine wpAny_mono z (fun _ t2 k => ?_) (fun _ t2 k => ?_)
    · cases use <;> exact k
    · cases use <;> exact k
  generalize ht4 : ({ t3 with heap := pushCells (t3.heap.push { cls := .type "dict", data := .dict #[] }) scope.names } : Shared) = t4 at J4 ⊢
  have J4 : Inv (blkX X t3 K3 scope ce fp xb) [] (wipe σ (own.map (·.2))) K3 t4 := J4.toTry xb
  have st4 : tn 0 t4.heap := T.keep _ _ _ st3 fun b _ o z => by rw [← ht4]; exact pushCells_keeps _ _ _ _ (Heap.get?_push_of_some _ z)
  have stat : ∀ {σ' : L2.St} {H' : Hp} {t' : Shared}, Inv (blkX X t3 K3 scope ce fp xb) [] σ' H' t' → (∀ b ∈ fp, H' b = none) → ∀ b ∈ fp, FpOk (blkX X t3 K3 scope ce fp xb) [] H' b := fun {σ' H' t'} I' hn b hb =>
    ⟨hn b hb, (I'.ok.exf b hb).1, I'.ok.exfs b hb, .inl hb, fun x c z => (I'.ok.exf b hb).2 x c z, fun p hp => absurd (show p ∈ ([] : List (Addr × Obj)) ++ [] from hp) (by simp)⟩
  have loop : codeAny (model X.prog X.w) X.A (.compLoop (.ListComp elt [⟨tg, iter, ifs, 0⟩] scope pos) 0 (.ref it) (.ref D) ce) (compEnds (model X.prog X.w) X.A X.xe use Qf (.ref D) ce) t4 := by
    refine compLoop_any (fun n t => ∃ i H', Inv (blkX X t3 K3 scope ce fp xb) [] (wipe σ (own.map (·.2))) H' t ∧ tn i t.heap ∧ (∀ b ∈ fp, H' b = none) ∧ W i n H') ?_ m0 ⟨0, K3, J4, st4, nf3, w0⟩
    rintro n t5 ⟨i, H5, I5, st5, n5, w5⟩
    rcases turn i n H5 w5 with ⟨stop, qq⟩ | ⟨go, Nx, hNx, step⟩
    · refine thnF (T.done (blkX X t3 K3 scope ce fp xb) rfl rfl rfl hc i [] t5 _ H5 (fun _ _ => False) I5 (stat I5 n5) st5 stop) fun r t6 ⟨hr, I6⟩ => ?_
      subst hr
      have I7 : Inv X pins σ H5 t6 := J3.call' (ch := fp) I6.os I6.base I6.hok I6.bare fun b hb => ⟨(fp3 b hb).1.2.2.2.1, (fp3 b hb).1.2.1, (fp3 b hb).1.2.2.2.2.1, (fp3 b hb).1.2.2.2.2.2⟩
      have nC : H5 ce.locals = none := I6.free
      obtain ⟨m, hn, _⟩ := I6.loc
      exact hRR D ce t6 m H5 I7 qq hn (J3.fpOk (Nat.le_of_eq cL.symm) nC)
    · refine thnF (T.item (blkX X t3 K3 scope ce fp xb) rfl rfl rfl hc i [] t5 _ H5 (fun _ _ => False) I5 (stat I5 n5) st5 go) fun r t6 ⟨u, hr, h6⟩ => ?_
      subst hr
      refine thnF h6 fun _ t7 ⟨x, H7, I7, r7, y7, st7, n7⟩ => ?_
      have I7' := I7.pinned (stat I7 n7) (T.obj _ _ st7)
      refine mono_all (pg.run _ t7 _ H7 x u _ I7' r7 (step x H7 y7)) (fun _ t8 ⟨σ8, H8, I8, hw8, q8⟩ => ?_) fun _ _ z => bad z
      refine mono_all (pt.run _ t8 σ8 H8 _ I8 q8) (fun b t9 ⟨H9, I9, q9⟩ => ?_) fun _ _ z => bad z
      have fin : ∀ {t' : Shared} {H' : Hp}, Inv (blkX X t3 K3 scope ce fp xb) ([] ++ pinsAt fp t7.heap) σ8 H' t' → Nx H' → ∃ m, m < n ∧ ∃ i H', Inv (blkX X t3 K3 scope ce fp xb) [] (wipe σ (own.map (·.2))) H' t' ∧ tn i t'.heap ∧ (∀ b ∈ fp, H' b = none) ∧ W i m H' := fun {t' H'} I' nx => by
        obtain ⟨m', hm, w'⟩ := hNx H' nx
        have still : ∀ b ∈ fp, ∀ o, t7.heap.get? b = some o → t'.heap.get? b = some o ∧ H' b = none := fun b hb o z => ⟨(I'.pin (b, o) (List.mem_append_right _ (List.mem_append_right _ (mem_pinsAt hb z)))).1, (I'.pin (b, o) (List.mem_append_right _ (List.mem_append_right _ (mem_pinsAt hb z)))).2.1⟩
        refine ⟨m', hm, i + 1, H', (I'.unpinned (pins := [])).weak (by rw [← hw8, wipe_length]) (fun j v z => by rw [← hw8] at z; exact (wipe_some z).1), T.keep _ _ _ st7 fun b hb o z => (still b hb o z).1, fun b hb => ?_, w'⟩
        obtain ⟨o, z, _⟩ := T.obj _ _ st7 b hb
        exact (still b hb o z).2
      cases b with
      | false =>
        simp only [Bool.false_eq_true, if_false] at q9 ⊢
        exact fin I9 q9
      | true =>
        simp only [if_true] at q9 ⊢
        refine mono_all (pe.run _ t9 σ8 H9 _ I9 q9) (fun z t10 ⟨yv, H10, I10, r10, acc, hD10, hz10, nx⟩ => ?_) fun _ _ z => bad z
        exact app_ok (X := blkX X t3 K3 scope ce fp xb) I10 hD10 hz10 r10 fun t11 I11 => fin I11 nx
  exact codeAny_compStart_list loop (T.self X.A 0 _ _ _ st4 loop)
end

section
variable {X : Cx} {p : Pm} {tg elt iter : Expr} {pos : Pos}
def lcX (b : D → Rho → Res Rho) (tt : Rho → Res Bool) (fe : Rho → Res D) (ρ : Rho) : List D → Res (List D)
  | [] => .ok []
  | d :: ds => (b d ρ).bind fun ρ1 => (tt ρ1).bind fun c => if c = true then (fe ρ1).bind fun x => (lcX b tt fe ρ ds).bind fun xs => .ok (x :: xs) else lcX b tt fe ρ ds
def lcRX (fi : Rho → Res (List D)) (b : D → Rho → Res Rho) (tt : Rho → Res Bool) (fe : Rho → Res D) (vs : List Nat) : Rho → Res (List D) := fun ρ => (fi ρ).bind fun ds => if ds.length ≤ 16777216 then lcX b tt fe (wipeR ρ vs) ds else .bad
theorem lc_readX {fi : Rho → Res (List D)} {g : TG} {b : D → Rho → Res Rho} {tt : Rho → Res Bool} {fe : Rho → Res D} {vs : List Nat} (gd : GD p.K g b vs) {σ : L2.St} {H : Hp} {Q : VK} (h : nS p (lcRX fi b tt fe vs) σ H Q) :
    tLc (iS p fi) g (tS { p with W := fun c d _ H => p.W c d σ H } tt) (eS { p with W := fun c d _ H => p.W c d σ H } fe) vs σ H Q := by
  obtain ⟨G, ρ, he, hk, ht, h⟩ := h
  refine ⟨G, ρ, he, hk, ht, ?_⟩
  unfold lcRX at h
  cases e : fi ρ with
  | bad => rw [e] at h; exact h.elim
  | ex c => rw [e] at h; exact h
  | ok ds =>
    rw [e, bind_ok] at h
    by_cases hz : ds.length ≤ 16777216
    · rw [if_pos hz] at h
      intro J G1 H1 e1 wk A hA
      have hA0 : H A = none := e1.free hA
      have gA : G1 A = none := e1.gh.none hA
      let rest : Nat → Res (List D) := fun i => lcX b tt fe (wipeR ρ vs) (ds.drop i)
      refine ⟨fun i m H2 => m = ds.length - i ∧ i ≤ ds.length ∧ ∃ G2 acc done, Ext G1 H1 G2 H2 ∧ G2 A = none ∧ H2 A = some (.lst acc) ∧ DvAll p.K G2 acc done ∧ done.length ≤ i ∧ ((rest i).bind fun r => Res.ok (done ++ r)) = lcX b tt fe (wipeR ρ vs) ds, ?_, ?_⟩
      · refine ⟨_, rfl, Nat.zero_le _, G1, [], [], Ext.newO e1.gh hA, gA, upd_same, .nil, Nat.le_refl _, ?_⟩
        show (lcX b tt fe (wipeR ρ vs) ds).bind _ = _
        cases lcX b tt fe (wipeR ρ vs) ds <;> rfl
      · rintro i m H2 ⟨rfl, hi, G2, acc, done, e2, g2, h2, r2, hd, hrest⟩
        have w := wk G2 H2 i e2.g e2.gh
        by_cases hlt : i < ds.length
        · obtain ⟨w1, w2⟩ := w.1 hlt
          refine .inr ⟨w1, fun H3 => ∃ G3 acc done, Ext G1 H1 G3 H3 ∧ G3 A = none ∧ H3 A = some (.lst acc) ∧ DvAll p.K G3 acc done ∧ done.length ≤ i + 1 ∧ ((rest (i + 1)).bind fun r => Res.ok (done ++ r)) = lcX b tt fe (wipeR ρ vs) ds, fun H3 ⟨G3, acc, done, a1, a2, a3, a4, a5, a6⟩ => ⟨_, by omega, rfl, by omega, G3, acc, done, a1, a2, a3, a4, a5, a6⟩, fun x H3 y => ?_⟩
          obtain ⟨G3, d, e3, hdi, rd⟩ := w2 x H3 y
          have ed : ds.drop i = d :: ds.drop (i + 1) := by
            obtain ⟨h5, h6⟩ := List.getElem?_eq_some_iff.mp hdi
            rw [List.drop_eq_getElem_cons h5, h6]
          have hr : ((lcX b tt fe (wipeR ρ vs) (d :: ds.drop (i + 1))).bind fun r => Res.ok (done ++ r)) = lcX b tt fe (wipeR ρ vs) ds := by rw [← ed]; exact hrest
          rw [show lcX b tt fe (wipeR ρ vs) (d :: ds.drop (i + 1)) = (b d (wipeR ρ vs)).bind fun ρ1 => (tt ρ1).bind fun c => if c = true then (fe ρ1).bind fun x => (lcX b tt fe (wipeR ρ vs) (ds.drop (i + 1))).bind fun xs => .ok (x :: xs) else lcX b tt fe (wipeR ρ vs) (ds.drop (i + 1)) from rfl] at hr
          rcases gd x d G3 H3 rd e3.gh with ⟨L, s1, m1, eb, q1⟩ | z
          · rw [eb, bind_ok] at hr
            refine q1 _ _ ⟨by rw [wipe_sto m1, wipe_wipe], ?_⟩
            have en := EnvE.sto s1 ((he.kp (e1.g.trans (e2.g.trans e3.g))).wipe vs)
            have tb3 : TBs p.tb H3 := ((ht.ext e1).ext e2).ext e3
            cases ett : tt (stD L (wipeR ρ vs)) with
            | bad => rw [ett] at hr; rw [← hr] at h; exact h.elim
            | ex c =>
              rw [ett] at hr
              rw [← hr] at h
              refine ⟨G3, _, ⟨en.len, en.sh, en.ex, en.fd⟩, e3.gh, tb3, ?_⟩
              rw [ett]
              exact fun G4 H4 e4 => h G4 H4 (e1.trans (e2.trans (e3.trans e4)))
            | ok c =>
              rw [ett, bind_ok] at hr
              refine ⟨G3, _, ⟨en.len, en.sh, en.ex, en.fd⟩, e3.gh, tb3, ?_⟩
              rw [ett]
              intro c' G4 H4 e4 rc
              obtain rfl : c' = c := rc
              cases c' with
              | false =>
                rw [if_neg Bool.false_ne_true] at hr ⊢
                refine ⟨G4, acc, done, (e2.trans e3).trans e4, ?_, (e3.trans e4).h _ _ h2 rfl, r2.kp (e3.trans e4).g, by omega, hr⟩
                cases q : G4 A with
                | none => rfl
                | some o =>
                  rcases (e3.trans e4).n A (by rw [q]; simp) with z | z
                  · exact absurd g2 z
                  · rw [h2] at z; cases z
              | true =>
                rw [if_pos rfl] at hr ⊢
                have en4 := en.kp e4.g
                cases efe : fe (stD L (wipeR ρ vs)) with
                | bad => rw [efe] at hr; rw [← hr] at h; exact h.elim
                | ex c =>
                  rw [efe] at hr
                  rw [← hr] at h
                  refine ⟨G4, _, ⟨en4.len, en4.sh, en4.ex, en4.fd⟩, e4.gh, tb3.ext e4, ?_⟩
                  rw [efe]
                  exact fun G5 H5 e5 => h G5 H5 (e1.trans (e2.trans (e3.trans (e4.trans e5))))
                | ok dx =>
                  rw [efe, bind_ok] at hr
                  refine ⟨G4, _, ⟨en4.len, en4.sh, en4.ex, en4.fd⟩, e4.gh, tb3.ext e4, ?_⟩
                  rw [efe]
                  intro y G5 H5 e5 ry
                  have E := (e3.trans e4).trans e5
                  have h5 : H5 A = some (.lst acc) := E.h _ _ h2 rfl
                  have g5 : G5 A = none := by
                    cases q : G5 A with
                    | none => rfl
                    | some o =>
                      rcases E.n A (by rw [q]; simp) with z | z
                      · exact absurd g2 z
                      · rw [h2] at z; cases z
                  refine ⟨acc, h5, by rw [sizeLine_eq, r2.length]; omega, G5, acc ++ [y], done ++ [dx], (e2.trans E).mut hA g5 h5, g5, upd_same, (r2.kp E.g).append (.cons ry .nil), by rw [List.length_append, List.length_singleton]; omega, ?_⟩
                  rw [← hr]
                  show (lcX b tt fe (wipeR ρ vs) (ds.drop (i + 1))).bind _ = _
                  cases lcX b tt fe (wipeR ρ vs) (ds.drop (i + 1)) with
                  | ok xs => simp
                  | ex c => rfl
                  | bad => rfl
          · rw [z] at hr; rw [← hr] at h; exact h.elim
        · have e5 : i = ds.length := by omega
          subst e5
          refine .inl ⟨w.2 (Nat.le_refl _), ?_⟩
          have e6 : rest ds.length = .ok [] := by
            show lcX b tt fe (wipeR ρ vs) (ds.drop ds.length) = _
            rw [List.drop_length]; rfl
          rw [e6, bind_ok, List.append_nil] at hrest
          rw [← hrest] at h
          exact h A acc G2 H2 (e1.trans e2) hA0 g2 h2 r2
    · rw [if_neg hz] at h; exact h.elim
theorem n_lcX {ifs : List Expr} {scope : Scope} {own : List (Str × Nat)} {fi : Rho → Res (List D)} {g : TG} {b : D → Rho → Res Rho} {tt : Rho → Res Bool} {fe : Rho → Res D} (gd : GD p.K g b (own.map (·.2))) (hs0 : X.stack = X.env :: X.outer) (hf0 : X.env.frame = some X.env.locals) (tk : L2N.Takes X p.W) (hc : X.calm = true) (hN : X.N.Nodup) (hi : PI X tg iter (iS p fi)) (ok : BlkOk X.N X.env.scope scope own)
    (hg : ∀ (s : Shared) (H : Hp) (C : Addr) (cl : List (Str × Addr)) (fp : List Addr) (xe : Value → Shared → Prop), PG (blkX X s H scope (compEnvC scope cl C X.env) fp xe) tg g)
    (ht : ∀ (s : Shared) (H : Hp) (C : Addr) (cl : List (Str × Addr)) (fp : List Addr) (xe : Value → Shared → Prop) (W : WX), L2N.Takes (blkX X s H scope (compEnvC scope cl C X.env) fp xe) W → PTs (blkX X s H scope (compEnvC scope cl C X.env) fp xe) ifs (tS { p with W := W } tt))
    (he : ∀ (s : Shared) (H : Hp) (C : Addr) (cl : List (Str × Addr)) (fp : List Addr) (xe : Value → Shared → Prop) (W : WX), L2N.Takes (blkX X s H scope (compEnvC scope cl C X.env) fp xe) W → PE (blkX X s H scope (compEnvC scope cl C X.env) fp xe) elt (eS { p with W := W } fe)) (hs : ∀ x, foldedSetIterable iter X.env x = pure x) :
    PE X (.ListComp elt [⟨tg, iter, ifs, 0⟩] scope pos) (nS p (lcRX fi b tt fe (own.map (·.2)))) := ⟨fun pins s σ H Q I h => by
  rw [eval_ListComp]
  refine lcX_core (tt := fun W => tS { p with W := W } tt) (te := fun W => eS { p with W := W } fe) hs0 hf0 tk hc hN I hi ok hg ht he hs (lc_readX gd h) fun D ce s' m H' I' q hn f => ⟨m, hn, fun h'' sb => ?_⟩
  obtain ⟨f0, f1, f2, f3, f4, f5⟩ := f
  exact ⟨.ref D, H', I'.turned (t' := s'.toks) (fun b o hb z => (sb.2 b hb).trans z) f0 f1 f3 f4 f5, rfl, q⟩⟩
theorem n_setLcX {i : Nat} {y : Str} {py : Pos} {ifs : List Expr} {scope : Scope} {own : List (Str × Nat)} {spos : Pos} {fi : Rho → Res (List D)} {g : TG} {b : D → Rho → Res Rho} {tt : Rho → Res Bool} {fe : Rho → Res D} (gd : GD p.K g b (own.map (·.2))) (hs0 : X.stack = X.env :: X.outer) (hf0 : X.env.frame = some X.env.locals) (tk : L2N.Takes X p.W) (hc : X.calm = true) (hN : X.N.Nodup) (hy : X.N[i]? = some y) (hyl : X.env.scope.names.lookup y = some .local)
    (hsw : swapsWith (.ListComp elt [⟨tg, iter, ifs, 0⟩] scope pos) (some (.Name y py)) spos.line X.env = pure true) (hi : PI X tg iter (iS p fi)) (ok : BlkOk X.N X.env.scope scope own)
    (hg : ∀ (s : Shared) (H : Hp) (C : Addr) (cl : List (Str × Addr)) (fp : List Addr) (xe : Value → Shared → Prop), PG (blkX X s H scope (compEnvC scope cl C X.env) fp xe) tg g)
    (ht : ∀ (s : Shared) (H : Hp) (C : Addr) (cl : List (Str × Addr)) (fp : List Addr) (xe : Value → Shared → Prop) (W : WX), L2N.Takes (blkX X s H scope (compEnvC scope cl C X.env) fp xe) W → PTs (blkX X s H scope (compEnvC scope cl C X.env) fp xe) ifs (tS { p with W := W } tt))
    (he : ∀ (s : Shared) (H : Hp) (C : Addr) (cl : List (Str × Addr)) (fp : List Addr) (xe : Value → Shared → Prop) (W : WX), L2N.Takes (blkX X s H scope (compEnvC scope cl C X.env) fp xe) W → PE (blkX X s H scope (compEnvC scope cl C X.env) fp xe) elt (eS { p with W := W } fe)) (hs : ∀ x, foldedSetIterable iter X.env x = pure x) :
    PS X (.Assign [.Name y py] (.ListComp elt [⟨tg, iter, ifs, 0⟩] scope pos) spos) (tAsg (nS p (lcRX fi b tt fe (own.map (·.2)))) (gName i)) := ⟨fun pins s σ H De I h => by
  have h : nS p (lcRX fi b tt fe (own.map (·.2))) σ H (fun x H1 => gName i x σ H1 De.nx) := h
  rw [exec_Assign_Name_used _ _ _ _ hsw]
  refine wpAny_bind (wpAny_standAt (wpAny_bind (wpAny_bind (thn (lcX_core (use := some (assign (.Name y py) X.env)) (Qf := fun _ s' => SP X pins De .next s') (tt := fun W => tS { p with W := W } tt) (te := fun W => eS { p with W := W } fe) hs0 hf0 tk hc hN I hi ok hg ht he hs (lc_readX gd h) fun L ce s' m H' I' q hn f => ?_) fun _ s' hq => wpAny_pure (wpAny_pure hq)))))
  show wpAny _ _ (assign (.Name y py) X.env (.ref L)) _ _ _
  refine wpAny_assign_Name (store_ok2 (v := V.ref L) I' hN hy (.inl hyl) rfl (fun s2 I2 ⟨a, sb, ha⟩ => ?_) (.inr hyl))
  obtain ⟨f0, f1, f2, f3, f4, f5⟩ := f
  have far : ce.locals ≠ a := by
    rcases ha with z | z
    · rw [z]; exact f1
    · exact fun w => f4 y a z w.symm
  exact ⟨m, hn.sameBut sb far, fun h3 sb3 => ⟨_, H', I2.turned (t' := s2.toks) (fun b o hb z => (sb3.2 b hb).trans z) f0 f1 f3 f4 f5, q⟩⟩⟩
end
end J

set_option linter.all false
set_option maxRecDepth 100000
set_option maxHeartbeats 4000000
/-! # comprehensions of two clauses -/
namespace J
open PySem PySem.Spec PyProof.Rows L2 RZ
section
variable {X : Cx} {p : Pm} {tg elt iter tg1 iter1 : Expr} {pos : Pos}
def lc2L (b : D → Rho → Res Rho) (tt : Rho → Res Bool) (fi1 : Rho → Res (List D)) (b1 : D → Rho → Res Rho) (tt1 : Rho → Res Bool) (fe : Rho → Res D) (vs1 : List Nat) (ρ : Rho) : List D → Res (List D)
  | [] => .ok []
  | d :: ds => (b d ρ).bind fun ρ1 => (noEx (tt ρ1)).bind fun c => if c = true then (noEx (fi1 ρ1)).bind fun es => (noEx (lcL b1 tt1 fe (wipeR ρ1 vs1) es)).bind fun xs => (lc2L b tt fi1 b1 tt1 fe vs1 ρ ds).bind fun ys => .ok (xs ++ ys) else lc2L b tt fi1 b1 tt1 fe vs1 ρ ds
def lc2R (fi : Rho → Res (List D)) (b : D → Rho → Res Rho) (tt : Rho → Res Bool) (fi1 : Rho → Res (List D)) (b1 : D → Rho → Res Rho) (tt1 : Rho → Res Bool) (fe : Rho → Res D) (vs vs1 : List Nat) : Rho → Res (List D) := fun ρ => (fi ρ).bind fun ds => (noEx (lc2L b tt fi1 b1 tt1 fe vs1 (wipeR ρ vs) ds)).bind fun all => if all.length ≤ 16777216 then .ok all else .bad
theorem own_stays {G H G' H' : Hp} {A : Addr} {acc : List V} (e : Ext G H G' H') (g : G A = none) (h : H A = some (.lst acc)) : G' A = none ∧ H' A = some (.lst acc) := by
  refine ⟨?_, e.h _ _ h rfl⟩
  cases q : G' A with
  | none => rfl
  | some o =>
    rcases e.n A (by rw [q]; simp) with z | z
    · exact absurd g z
    · rw [h] at z; cases z
theorem lc2_read {fi fi1 : Rho → Res (List D)} {g g1 : TG} {b b1 : D → Rho → Res Rho} {tt tt1 : Rho → Res Bool} {fe : Rho → Res D} {vs ws vs1 ws1 : List Nat} (gd : GD p.K g b ws) (hw0 : ∀ t ∈ ws, t ∈ vs) (gd1 : GD p.K g1 b1 ws1) (hw1 : ∀ t ∈ ws1, t ∈ vs1) {σ : L2.St} {H : Hp} {Q : VK} (h : nS p (lc2R fi b tt fi1 b1 tt1 fe vs vs1) σ H Q) :
    tLc2 (iS p fi) g (tS { p with W := W0 } tt) (iS { p with W := W0 } fi1) g1 (tS { p with W := W0 } tt1) (eS { p with W := W0 } fe) vs vs1 σ H Q := by
  obtain ⟨G, ρ, he, hk, ht, h⟩ := h
  refine ⟨G, ρ, he, hk, ht, ?_⟩
  unfold lc2R at h
  cases e : fi ρ with
  | bad => rw [e] at h; exact h.elim
  | ex c => rw [e] at h; exact h
  | ok ds =>
    rw [e, bind_ok] at h
    intro J G1 H1 e1 wk A hA
    have hA0 : H A = none := e1.free hA
    have gA : G1 A = none := e1.gh.none hA
    let F : List D → Res (List D) := lc2L b tt fi1 b1 tt1 fe vs1 (wipeR ρ vs)
    have hF : ∃ all, F ds = .ok all ∧ all.length ≤ 16777216 := by
      cases q : F ds with
      | ok all =>
        refine ⟨all, rfl, ?_⟩
        rw [show lc2L b tt fi1 b1 tt1 fe vs1 (wipeR ρ vs) ds = .ok all from q, noEx_ok, bind_ok] at h
        by_cases hz : all.length ≤ 16777216
        · exact hz
        · rw [if_neg hz] at h; exact h.elim
      | ex c => rw [show lc2L b tt fi1 b1 tt1 fe vs1 (wipeR ρ vs) ds = .ex c from q] at h; exact h.elim
      | bad => rw [show lc2L b tt fi1 b1 tt1 fe vs1 (wipeR ρ vs) ds = .bad from q] at h; exact h.elim
    obtain ⟨all, hall, hsz⟩ := hF
    rw [show lc2L b tt fi1 b1 tt1 fe vs1 (wipeR ρ vs) ds = .ok all from hall, noEx_ok, bind_ok, if_pos hsz] at h
    refine ⟨fun i m H2 => m = ds.length - i ∧ i ≤ ds.length ∧ ∃ G2 acc done, Ext G1 H1 G2 H2 ∧ G2 A = none ∧ H2 A = some (.lst acc) ∧ DvAll p.K G2 acc done ∧ ((F (ds.drop i)).bind fun r => Res.ok (done ++ r)) = .ok all, ?_, ?_⟩
    · exact ⟨_, rfl, Nat.zero_le _, G1, [], [], Ext.newO e1.gh hA, gA, upd_same, .nil, by rw [List.drop_zero, hall]; rfl⟩
    · rintro i m H2 ⟨rfl, hi, G2, acc, done, e2, g2, h2, r2, hrest⟩
      have w := wk G2 H2 i e2.g e2.gh
      by_cases hlt : i < ds.length
      · obtain ⟨w1, w2⟩ := w.1 hlt
        refine .inr ⟨w1, fun H3 => ∃ G3 acc done, Ext G1 H1 G3 H3 ∧ G3 A = none ∧ H3 A = some (.lst acc) ∧ DvAll p.K G3 acc done ∧ ((F (ds.drop (i + 1))).bind fun r => Res.ok (done ++ r)) = .ok all, fun H3 ⟨G3, acc, done, a1, a2, a3, a4, a5⟩ => ⟨_, by omega, rfl, by omega, G3, acc, done, a1, a2, a3, a4, a5⟩, fun x H3 y => ?_⟩
        obtain ⟨G3, d, e3, hdi, rd⟩ := w2 x H3 y
        have ed : ds.drop i = d :: ds.drop (i + 1) := by
          obtain ⟨h5, h6⟩ := List.getElem?_eq_some_iff.mp hdi
          rw [List.drop_eq_getElem_cons h5, h6]
        rw [ed, show F (d :: ds.drop (i + 1)) = (b d (wipeR ρ vs)).bind fun ρ1 => (noEx (tt ρ1)).bind fun c => if c = true then (noEx (fi1 ρ1)).bind fun es => (noEx (lcL b1 tt1 fe (wipeR ρ1 vs1) es)).bind fun xs => (F (ds.drop (i + 1))).bind fun ys => .ok (xs ++ ys) else F (ds.drop (i + 1)) from rfl] at hrest
        rcases gd x d G3 H3 rd e3.gh with ⟨L, s1, m1, eb, q1⟩ | z
        · rw [eb, bind_ok] at hrest
          refine q1 _ _ ⟨by rw [wipe_sto fun t ht => hw0 _ (m1 t ht), wipe_wipe], ?_⟩
          have en := EnvE.sto s1 ((he.kp (e1.g.trans (e2.g.trans e3.g))).wipe vs)
          have tb3 : TBs p.tb H3 := ((ht.ext e1).ext e2).ext e3
          obtain ⟨g3, h3⟩ := own_stays e3 g2 h2
          generalize hρ1 : stD L (wipeR ρ vs) = ρ1 at hrest en
          generalize hσ1 : stV L (L2.wipe σ vs) = σ1 at en
          cases ett : tt ρ1 with
          | bad => rw [ett] at hrest; cases hrest
          | ex c => rw [ett] at hrest; cases hrest
          | ok c =>
            rw [ett, noEx_ok, bind_ok] at hrest
            refine ⟨G3, ρ1, ⟨en.len, en.sh, en.ex, en.fd⟩, e3.gh, tb3, ?_⟩
            rw [ett]
            intro c' G4 H4 e4 rc
            obtain rfl : c' = c := rc
            obtain ⟨g4, h4⟩ := own_stays e4 g3 h3
            have E4 := (e2.trans e3).trans e4
            cases c' with
            | false =>
              rw [if_neg Bool.false_ne_true] at hrest ⊢
              exact ⟨G4, acc, done, E4, g4, h4, r2.kp (e3.trans e4).g, hrest⟩
            | true =>
              rw [if_pos rfl] at hrest ⊢
              have en4 := en.kp e4.g
              cases ef : fi1 ρ1 with
              | bad => rw [ef] at hrest; cases hrest
              | ex c => rw [ef] at hrest; cases hrest
              | ok es =>
                rw [ef, noEx_ok, bind_ok] at hrest
                refine ⟨G4, ρ1, ⟨en4.len, en4.sh, en4.ex, en4.fd⟩, e4.gh, tb3.ext e4, ?_⟩
                rw [ef]
                intro J1 G5 H5 e5 wk1
                obtain ⟨g5, h5⟩ := own_stays e5 g4 h4
                have E5 := E4.trans e5
                have tb5 : TBs p.tb H5 := (tb3.ext e4).ext e5
                cases el : lcL b1 tt1 fe (wipeR ρ1 vs1) es with
                | bad => rw [el] at hrest; cases hrest
                | ex c => rw [el] at hrest; cases hrest
                | ok xs =>
                  rw [el, noEx_ok, bind_ok] at hrest
                  cases er : F (ds.drop (i + 1)) with
                  | bad => rw [er] at hrest; cases hrest
                  | ex c => rw [er] at hrest; cases hrest
                  | ok ys =>
                    rw [er, bind_ok, bind_ok] at hrest
                    have hal : done ++ (xs ++ ys) = all := Res.ok.inj hrest
                    let F1 : List D → Res (List D) := lcL b1 tt1 fe (wipeR ρ1 vs1)
                    refine ⟨fun j k Hh => k = es.length - j ∧ j ≤ es.length ∧ ∃ G6 acc1 done1, Ext G1 H1 G6 Hh ∧ Kp G5 G6 ∧ TBs p.tb Hh ∧ G6 A = none ∧ Hh A = some (.lst acc1) ∧ DvAll p.K G6 acc1 (done ++ done1) ∧ ((F1 (es.drop j)).bind fun r => Res.ok (done1 ++ r)) = .ok xs, ?_, ?_⟩
                    · exact ⟨_, rfl, Nat.zero_le _, G5, acc, [], E5, Kp.refl _, tb5, g5, h5, by rw [List.append_nil]; exact r2.kp ((e3.trans e4).trans e5).g, by rw [List.drop_zero, show F1 es = .ok xs from el]; rfl⟩
                    · rintro j k Hh ⟨rfl, hj, G6, acc1, done1, a1, a2, atb, a3, a4, a5, a6⟩
                      have w1' := wk1 G6 Hh j a2 a1.gh
                      by_cases hjl : j < es.length
                      · obtain ⟨w3, w4⟩ := w1'.1 hjl
                        refine .inr ⟨w3, fun Hn => ∃ G6 acc1 done1, Ext G1 H1 G6 Hn ∧ Kp G5 G6 ∧ TBs p.tb Hn ∧ G6 A = none ∧ Hn A = some (.lst acc1) ∧ DvAll p.K G6 acc1 (done ++ done1) ∧ ((F1 (es.drop (j + 1))).bind fun r => Res.ok (done1 ++ r)) = .ok xs, fun Hn ⟨G6, acc1, done1, z1, z2, z3, z4, z5, z6, z7⟩ => ⟨_, by omega, rfl, by omega, G6, acc1, done1, z1, z2, z3, z4, z5, z6, z7⟩, fun x1 H7 y1 => ?_⟩
                        obtain ⟨G7, d1, e7, hdj, rd1⟩ := w4 x1 H7 y1
                        have ed1 : es.drop j = d1 :: es.drop (j + 1) := by
                          obtain ⟨h5, h6⟩ := List.getElem?_eq_some_iff.mp hdj
                          rw [List.drop_eq_getElem_cons h5, h6]
                        rw [ed1, show F1 (d1 :: es.drop (j + 1)) = (b1 d1 (wipeR ρ1 vs1)).bind fun ρ2 => (noEx (tt1 ρ2)).bind fun c => if c = true then (noEx (fe ρ2)).bind fun x => (F1 (es.drop (j + 1))).bind fun xs => .ok (x :: xs) else F1 (es.drop (j + 1)) from rfl] at a6
                        obtain ⟨g7, h7⟩ := own_stays e7 a3 a4
                        have tb7 := atb.ext e7
                        rcases gd1 x1 d1 G7 H7 rd1 e7.gh with ⟨L1, s2, m2, eb1, q2⟩ | z
                        · rw [eb1, bind_ok] at a6
                          refine q2 _ _ ⟨by rw [wipe_sto fun t ht => hw1 _ (m2 t ht), wipe_wipe], ?_⟩
                          have en7 := EnvE.sto s2 ((en4.kp (e5.g.trans (a2.trans e7.g))).wipe vs1)
                          generalize stD L1 (wipeR ρ1 vs1) = ρ2 at a6 en7
                          generalize stV L1 (L2.wipe σ1 vs1) = σ2 at en7
                          cases ett1 : tt1 ρ2 with
                          | bad => rw [ett1] at a6; cases a6
                          | ex c => rw [ett1] at a6; cases a6
                          | ok c1 =>
                            rw [ett1, noEx_ok, bind_ok] at a6
                            refine ⟨G7, ρ2, ⟨en7.len, en7.sh, en7.ex, en7.fd⟩, e7.gh, tb7, ?_⟩
                            rw [ett1]
                            intro c1' G8 H8 e8 rc1
                            obtain rfl : c1' = c1 := rc1
                            obtain ⟨g8, h8⟩ := own_stays e8 g7 h7
                            cases c1' with
                            | false =>
                              rw [if_neg Bool.false_ne_true] at a6 ⊢
                              exact ⟨G8, acc1, done1, (a1.trans e7).trans e8, a2.trans (e7.trans e8).g, tb7.ext e8, g8, h8, a5.kp (e7.trans e8).g, a6⟩
                            | true =>
                              rw [if_pos rfl] at a6 ⊢
                              cases efe : fe ρ2 with
                              | bad => rw [efe] at a6; cases a6
                              | ex c => rw [efe] at a6; cases a6
                              | ok dx =>
                                rw [efe, noEx_ok, bind_ok] at a6
                                have en8 := en7.kp e8.g
                                refine ⟨G8, ρ2, ⟨en8.len, en8.sh, en8.ex, en8.fd⟩, e8.gh, tb7.ext e8, ?_⟩
                                rw [efe]
                                intro y G9 H9 e9 ry
                                obtain ⟨g9, h9⟩ := own_stays e9 g8 h8
                                have E9 := ((a1.trans e7).trans e8).trans e9
                                have k9 := ((e7.trans e8).trans e9).g
                                have short : done.length + done1.length < 16777216 := by
                                  have := congrArg List.length hal
                                  simp only [List.length_append] at this
                                  cases q : F1 (es.drop (j + 1)) with
                                  | ok r =>
                                    rw [q, bind_ok, bind_ok] at a6
                                    have := congrArg List.length (Res.ok.inj a6)
                                    simp only [List.length_append, List.length_cons] at this
                                    omega
                                  | ex c => rw [q] at a6; cases a6
                                  | bad => rw [q] at a6; cases a6
                                refine ⟨acc1, h9, by rw [sizeLine_eq, a5.length, List.length_append]; exact short, G9, acc1 ++ [y], done1 ++ [dx], E9.mut hA g9 h9, a2.trans k9, ?_, g9, upd_same, ?_, ?_⟩
                                · intro P hP
                                  obtain ⟨ps, z1, z2⟩ := ((tb7.ext e8).ext e9) P hP
                                  refine ⟨ps, ?_, z2⟩
                                  rw [upd_ne (fun z => by rw [z, h9] at z1; cases z1)]; exact z1
                                · rw [← List.append_assoc]
                                  exact (a5.kp k9).append (.cons ry .nil)
                                · rw [← a6]
                                  show (F1 (es.drop (j + 1))).bind _ = _
                                  cases F1 (es.drop (j + 1)) with
                                  | ok r => simp
                                  | ex c => rfl
                                  | bad => rfl
                        · rw [z] at a6; cases a6
                      · have ej : j = es.length := by omega
                        subst ej
                        refine .inl ⟨w1'.2 (Nat.le_refl _), G6, acc1, done ++ xs, a1, a3, a4, ?_, by rw [bind_ok, ← hal, List.append_assoc]⟩
                        rw [show F1 (es.drop es.length) = .ok [] by rw [List.drop_length]; rfl, bind_ok, List.append_nil] at a6
                        rw [← Res.ok.inj a6]; exact a5
        · rw [z] at hrest; cases hrest
      · have e5 : i = ds.length := by omega
        subst e5
        refine .inl ⟨w.2 (Nat.le_refl _), ?_⟩
        rw [show F (ds.drop ds.length) = .ok [] by rw [List.drop_length]; rfl, bind_ok, List.append_nil] at hrest
        rw [← Res.ok.inj hrest] at h
        exact h A acc G2 H2 (e1.trans e2) hA0 g2 h2 r2
theorem n_lc2 {ifs ifs1 : List Expr} {scope : Scope} {own : List (Str × Nat)} {ws vs1 ws1 : List Nat} {fi fi1 : Rho → Res (List D)} {g g1 : TG} {b b1 : D → Rho → Res Rho} {tt tt1 : Rho → Res Bool} {fe : Rho → Res D} (gd : GD p.K g b ws) (hw0 : ∀ t ∈ ws, t ∈ own.map (·.2)) (gd1 : GD p.K g1 b1 ws1) (hw1 : ∀ t ∈ ws1, t ∈ vs1) (hv : ∀ i ∈ vs1, i ∈ own.map (·.2)) (hc : X.calm = true) (hN : X.N.Nodup) (hi : PI X tg iter (iS p fi)) (ok : BlkOk X.N X.env.scope scope own)
    (hg : ∀ (s : Shared) (H : Hp) (C : Addr) (cl : List (Str × Addr)) (fp : List Addr), PG (X.blk s H scope (compEnvC scope cl C X.env) fp) tg g)
    (ht : ∀ (s : Shared) (H : Hp) (C : Addr) (cl : List (Str × Addr)) (fp : List Addr), PTs (X.blk s H scope (compEnvC scope cl C X.env) fp) ifs (tS { p with W := W0 } tt))
    (hi1 : ∀ (s : Shared) (H : Hp) (C : Addr) (cl : List (Str × Addr)) (fp : List Addr), PI (X.blk s H scope (compEnvC scope cl C X.env) fp) tg1 iter1 (iS { p with W := W0 } fi1))
    (hg1 : ∀ (s : Shared) (H : Hp) (C : Addr) (cl : List (Str × Addr)) (fp : List Addr), PG (X.blk s H scope (compEnvC scope cl C X.env) fp) tg1 g1)
    (ht1 : ∀ (s : Shared) (H : Hp) (C : Addr) (cl : List (Str × Addr)) (fp : List Addr), PTs (X.blk s H scope (compEnvC scope cl C X.env) fp) ifs1 (tS { p with W := W0 } tt1))
    (he : ∀ (s : Shared) (H : Hp) (C : Addr) (cl : List (Str × Addr)) (fp : List Addr), PE (X.blk s H scope (compEnvC scope cl C X.env) fp) elt (eS { p with W := W0 } fe)) (hs : ∀ x, foldedSetIterable iter X.env x = pure x) (hs1 : ∀ env x, foldedSetIterable iter1 env x = pure x) :
    PE X (.ListComp elt [⟨tg, iter, ifs, 0⟩, ⟨tg1, iter1, ifs1, 0⟩] scope pos) (nS p (lc2R fi b tt fi1 b1 tt1 fe (own.map (·.2)) vs1)) := (pe_lc2 hc hN hi ok hv hg ht hi1 hg1 ht1 he hs hs1).imp fun σ H Q h => lc2_read gd hw0 gd1 hw1 h
end
section
variable {X : Cx} {p : Pm} {x : Str} {pos p1 : Pos}
theorem call0_ {k : Nat} {f' : Addr} {fd : FuncData} {ps : List Str} {F : List D → Res D} (ok : FnOk X.prog X.w X.K X.mg X.base (L2N.CX X.prog X.w) k f' fd ps (spD p.K p.ec p.tb 0 F)) (hr : Room k X.A) (hm : X.mg x = some (.ref f')) (hk : PySem.W.keepIn X.K (.ref f') = true) (hb : Binds X.K fd ps []) (tk : L2N.Takes X p.W)
    (hg : Gl X x := by rfl) (hdb : (x == ("__debug__" : Str)) = false := by decide) : PE X (.Call (.Name x p1) [] [] pos) (eS p (clR 0 nilR F)) := ⟨fun pins s σ H Q I h => by
  refine wpAny_Call_Name_kw (ld_glob I hg hm ?_ hdb)
  refine PySem.W.callWith_K0 I.kIn hk (run_fnSD (us := []) (vs := []) (E := fun σ c d H => p.W c d σ H) ok hr hb .nil (L2N.passAt tk σ) I .nil ?_)
  obtain ⟨G, ρ, he, hk, ht, h⟩ := h
  refine ⟨G, [], hk, ht, .nil, rfl, ?_⟩
  rw [show clR 0 nilR F ρ = F [] from rfl] at h
  cases q : F [] with
  | ok d => rw [q] at h; exact fun v G' H' ex r => h v G' H' ex r
  | ex c => rw [q] at h; exact fun G' H' ex => h G' H' ex
  | bad => rw [q] at h; exact h.elim⟩
theorem callN0_ {k : Nat} {f' : Addr} {fd : FuncData} {ps : List Str} {F : List D → Res (List D)} (ok : FnOk X.prog X.w X.K X.mg X.base (L2N.CX X.prog X.w) k f' fd ps (spN p.K p.ec p.tb 0 F)) (hr : Room k X.A) (hm : X.mg x = some (.ref f')) (hk : PySem.W.keepIn X.K (.ref f') = true) (hb : Binds X.K fd ps []) (tk : L2N.Takes X p.W)
    (hg : Gl X x := by rfl) (hdb : (x == ("__debug__" : Str)) = false := by decide) : PE X (.Call (.Name x p1) [] [] pos) (nS p (clN 0 nilR F)) := ⟨fun pins s σ H Q I h => by
  refine wpAny_Call_Name_kw (ld_glob I hg hm ?_ hdb)
  refine PySem.W.callWith_K0 I.kIn hk (run_fnSD (us := []) (vs := []) (E := fun σ c d H => p.W c d σ H) ok hr hb .nil (L2N.passAt tk σ) I .nil ?_)
  obtain ⟨G, ρ, he, hk, ht, h⟩ := h
  refine ⟨G, [], hk, ht, .nil, rfl, ?_⟩
  rw [show clN 0 nilR F ρ = F [] from rfl] at h
  cases q : F [] with
  | ok d => rw [q] at h; exact fun a vs G' H' ex h1 h2 h3 r => h a vs G' H' ex h1 h2 h3 r
  | ex c => rw [q] at h; exact fun G' H' ex => h G' H' ex
  | bad => rw [q] at h; exact h.elim⟩
end
end J

set_option linter.all false
set_option maxRecDepth 100000
set_option maxHeartbeats 4000000
/-! # sum, max, min of a tuple; list(range(..)); xs.index(x) -/
namespace J
open PySem PySem.Spec PyProof.Rows L2 RZ
section
variable {X : Cx} {p : Pm} {a b o e : Expr} {fa fb : Rho → Res D} {pos : Pos}
theorem vals_len {vs : List V} {its : List Value} (h : Vals vs its) : vs.length = its.length := by
  induction h with
  | nil => rfl
  | cons _ _ ih => simp [ih]
theorem vals_ints : ∀ {ns : List Int} {its : List Value}, Vals (ns.map V.int) its → ∀ (i : Nat) (v : Value), its.toArray[i]? = some v → ∃ t, v = Value.int (ns.getD i 0) t
  | [], _, .nil, i, v, h => by simp at h
  | n :: ns, _, .cons r rs, 0, v, h => by
    obtain ⟨t, e⟩ := r
    have e2 : _ = v := Option.some.inj (by simpa using h)
    exact ⟨t, by rw [← e2, e]; rfl⟩
  | n :: ns, _, .cons r rs, i + 1, v, h => by
    have := vals_ints rs i v (by simpa using h)
    simpa using this
theorem pre_take (ns : List Int) : ∀ i, i ≤ ns.length → preSum (fun j => ns.getD j 0) i = (ns.take i).sum
  | 0, _ => rfl
  | i + 1, h => by
    rw [show preSum (fun j => ns.getD j 0) (i + 1) = preSum (fun j => ns.getD j 0) i + ns.getD i 0 from rfl, pre_take ns i (by omega), List.take_add_one, List.sum_append]
    have : ns[i]? = some ns[i] := List.getElem?_eq_getElem (by omega)
    simp [List.getD, this]
theorem getD_el {ns : List Int} {i : Nat} (h : i < ns.length) : ns.getD i 0 = ns[i] := by simp [List.getD, List.getElem?_eq_getElem h]
theorem get_lt {h : Heap} {a : Addr} {o : Obj} (e : h.get? a = some o) : a < h.objs.size := by
  unfold Heap.get? at e
  cases q : h.objs[a]? with
  | none => simp [q] at e
  | some x => exact (Array.getElem?_eq_some_iff.mp q).1
--def rTupI (id : Bool) (K : PySem.W.Frag) : List V → Hp → VK → Prop := fun vs H Q => ∃ (a : Addr) (ns : List Int), vs = [V.ref a] ∧ SqT K H a (ns.map V.int) ∧ (id = false → Q (.int ns.sum) H)
theorem cr_sumT (hc : X.calm = true) : CallR X (.builtin "sum") (fun vs H Q => ∃ (a : Addr) (ns : List Int), vs = [V.ref a] ∧ SqT X.K H a (ns.map V.int) ∧ Q (.int ns.sum) H) := fun pins s σ H xs us Q I r h => by
  obtain ⟨a, ns, rfl, hs, q⟩ := h
  obtain ⟨u, rfl, ru⟩ := r.one
  cases ru
  obtain ⟨its, rv, ht, hz⟩ := I.tuple hs
  have hl := vals_len rv
  rw [List.length_map] at hl
  obtain ⟨o, ho, _⟩ := id ht
  have halt := get_lt ho
  refine call_sum_walkG (wpAny_pyIter_tuple ht ?_)
  refine ⟨s.heap.objs.size, _, _, _, _, _, fun j => ns.getD j 0, rfl, Walks.tuple (A := X.A.in1) (I.ok.hd hc) s.heap.objs.size a (Nat.ne_of_lt halt) its.toArray, ⟨⟨_, by exact Heap.get?_push_size _ rfl, rfl, rfl⟩, ht.push _⟩, ?_, vals_ints rv, ?_⟩
  · intro b hb
    simp at hb
    have hz2 : (s.heap.push { cls := Value.type "tuple_iterator", data := Data.fields #[Value.ref a, Value.int 0 0] }).objs.size = s.heap.objs.size + 1 := by simp [Heap.push]
    show b < (s.heap.push _).objs.size
    rw [hz2]
    rcases hb with rfl | rfl
    · exact Nat.lt_succ_self _
    · exact Nat.lt_succ_of_lt halt
  · intro h' tk t' hk
    refine ⟨.int ns.sum, H, ?_, ⟨t', ?_⟩, q⟩
    · refine I.kept fun b u hb => hk b u ?_ ?_
      · intro hm
        simp at hm
        have := get_lt hb
        subst hm
        exact absurd this (Nat.lt_irrefl _)
      · exact Heap.get?_push_of_some _ hb
    · rw [show its.toArray.size = ns.length by simp [hl], pre_take ns ns.length (Nat.le_refl _), List.take_length]
theorem cr_maxT (hc : X.calm = true) : CallR X (.builtin "max") (fun vs H Q => ∃ (a : Addr) (ns : List Int), vs = [V.ref a] ∧ SqT X.K H a (ns.map V.int) ∧ 0 < ns.length ∧ ∀ m, m ∈ ns → (∀ y, y ∈ ns → y ≤ m) → Q (.int m) H) := fun pins s σ H xs us Q I r h => by
  obtain ⟨a, ns, rfl, hs, h0, q⟩ := h
  obtain ⟨u, rfl, ru⟩ := r.one
  cases ru
  obtain ⟨its, rv, ht, hz⟩ := I.tuple hs
  have hl := vals_len rv
  rw [List.length_map] at hl
  obtain ⟨o, ho, _⟩ := id ht
  have halt := get_lt ho
  refine call_max_walk (wpAny_pyIter_tuple ht ?_)
  refine ⟨s.heap.objs.size, _, _, _, _, _, _, rfl, Walks.tuple (A := X.A.in1) (I.ok.hd hc) s.heap.objs.size a (Nat.ne_of_lt halt) its.toArray, ⟨⟨_, by exact Heap.get?_push_size _ rfl, rfl, rfl⟩, ht.push _⟩, ?_, ?_, CmpOf.ints_gt (fun j => ns.getD j 0) (vals_ints rv), ?_⟩
  · intro b hb
    simp at hb
    have hz2 : (s.heap.push { cls := Value.type "tuple_iterator", data := Data.fields #[Value.ref a, Value.int 0 0] }).objs.size = s.heap.objs.size + 1 := by simp [Heap.push]
    show b < (s.heap.push _).objs.size
    rw [hz2]
    rcases hb with rfl | rfl
    · exact Nat.lt_succ_self _
    · exact Nat.lt_succ_of_lt halt
  · simp; rw [← hl]; exact h0
  · intro v h' tk hv hk
    obtain ⟨t, e⟩ := vals_ints rv _ v hv
    have hb := argBest_gt (fun j => ns.getD j 0) (its.toArray.size - 1)
    have hsz : its.toArray.size = ns.length := by simp [hl]
    refine ⟨.int (ns.getD (argBest (fun i j => decide (ns.getD i 0 > ns.getD j 0)) (its.toArray.size - 1)) 0), H, ?_, ⟨t, e⟩, q _ ?_ ?_⟩
    · refine I.kept fun b u hb => hk b u ?_ ?_
      · intro hm
        simp at hm
        have := get_lt hb
        subst hm
        exact absurd this (Nat.lt_irrefl _)
      · exact Heap.get?_push_of_some _ hb
    · have hlt : argBest (fun i j => decide (ns.getD i 0 > ns.getD j 0)) (its.toArray.size - 1) < ns.length := by have := hb.1; omega
      rw [getD_el hlt]
      exact List.getElem_mem _
    · intro y hy
      obtain ⟨j, hj, rfl⟩ := List.getElem_of_mem hy
      have := hb.2 j (by omega)
      rw [getD_el hj] at this
      exact this
theorem cr_minT (hc : X.calm = true) : CallR X (.builtin "min") (fun vs H Q => ∃ (a : Addr) (ns : List Int), vs = [V.ref a] ∧ SqT X.K H a (ns.map V.int) ∧ 0 < ns.length ∧ ∀ m, m ∈ ns → (∀ y, y ∈ ns → m ≤ y) → Q (.int m) H) := fun pins s σ H xs us Q I r h => by
  obtain ⟨a, ns, rfl, hs, h0, q⟩ := h
  obtain ⟨u, rfl, ru⟩ := r.one
  cases ru
  obtain ⟨its, rv, ht, hz⟩ := I.tuple hs
  have hl := vals_len rv
  rw [List.length_map] at hl
  obtain ⟨o, ho, _⟩ := id ht
  have halt := get_lt ho
  refine call_min_walk (wpAny_pyIter_tuple ht ?_)
  refine ⟨s.heap.objs.size, _, _, _, _, _, _, rfl, Walks.tuple (A := X.A.in1) (I.ok.hd hc) s.heap.objs.size a (Nat.ne_of_lt halt) its.toArray, ⟨⟨_, by exact Heap.get?_push_size _ rfl, rfl, rfl⟩, ht.push _⟩, ?_, ?_, CmpOf.ints_lt (fun j => ns.getD j 0) (vals_ints rv), ?_⟩
  · intro b hb
    simp at hb
    have hz2 : (s.heap.push { cls := Value.type "tuple_iterator", data := Data.fields #[Value.ref a, Value.int 0 0] }).objs.size = s.heap.objs.size + 1 := by simp [Heap.push]
    show b < (s.heap.push _).objs.size
    rw [hz2]
    rcases hb with rfl | rfl
    · exact Nat.lt_succ_self _
    · exact Nat.lt_succ_of_lt halt
  · simp; rw [← hl]; exact h0
  · intro v h' tk hv hk
    obtain ⟨t, e⟩ := vals_ints rv _ v hv
    have hb := argBest_lt (fun j => ns.getD j 0) (its.toArray.size - 1)
    have hsz : its.toArray.size = ns.length := by simp [hl]
    refine ⟨.int (ns.getD (argBest (fun i j => decide (ns.getD i 0 < ns.getD j 0)) (its.toArray.size - 1)) 0), H, ?_, ⟨t, e⟩, q _ ?_ ?_⟩
    · refine I.kept fun b u hb => hk b u ?_ ?_
      · intro hm
        simp at hm
        have := get_lt hb
        subst hm
        exact absurd this (Nat.lt_irrefl _)
      · exact Heap.get?_push_of_some _ hb
    · have hlt : argBest (fun i j => decide (ns.getD i 0 < ns.getD j 0)) (its.toArray.size - 1) < ns.length := by have := hb.1; omega
      rw [getD_el hlt]
      exact List.getElem_mem _
    · intro y hy
      obtain ⟨j, hj, rfl⟩ := List.getElem_of_mem hy
      have := hb.2 j (by omega)
      rw [getD_el hj] at this
      exact this

/-! mirrors -/
def seqI : D → Option (List Int)
  | .list xs => intsOf xs
  | .tuple xs => intsOf xs
  | _ => none
def sum2D : List D → Res D
  | [d] => match seqI d with | some ns => .ok (.int ns.sum) | none => .bad
  | _ => .bad
def bigI : Int → List Int → Int
  | m, [] => m
  | m, n :: ns => bigI (if n > m then n else m) ns
def lowI : Int → List Int → Int
  | m, [] => m
  | m, n :: ns => lowI (if n < m then n else m) ns
def max2D : List D → Res D
  | [d] => match seqI d with | some (n :: ns) => .ok (.int (bigI n ns)) | _ => .bad
  | _ => .bad
def min2D : List D → Res D
  | [d] => match seqI d with | some (n :: ns) => .ok (.int (lowI n ns)) | _ => .bad
  | _ => .bad
theorem bigI_mem : ∀ (ns : List Int) (m : Int), bigI m ns ∈ m :: ns ∧ ∀ y ∈ m :: ns, y ≤ bigI m ns
  | [], m => by simp [bigI]
  | n :: ns, m => by
    obtain ⟨h1, h2⟩ := bigI_mem ns (if n > m then n else m)
    unfold bigI
    constructor
    · rcases List.mem_cons.mp h1 with e | e
      · rw [e]; split <;> simp
      · exact List.mem_cons_of_mem _ (List.mem_cons_of_mem _ e)
    · intro y hy
      have h3 := h2 _ (List.mem_cons_self ..)
      rcases List.mem_cons.mp hy with e | e
      · subst e; revert h3; split <;> omega
      · rcases List.mem_cons.mp e with e | e
        · subst e; revert h3; split <;> omega
        · exact h2 y (List.mem_cons_of_mem _ e)
theorem lowI_mem : ∀ (ns : List Int) (m : Int), lowI m ns ∈ m :: ns ∧ ∀ y ∈ m :: ns, lowI m ns ≤ y
  | [], m => by simp [lowI]
  | n :: ns, m => by
    obtain ⟨h1, h2⟩ := lowI_mem ns (if n < m then n else m)
    unfold lowI
    constructor
    · rcases List.mem_cons.mp h1 with e | e
      · rw [e]; split <;> simp
      · exact List.mem_cons_of_mem _ (List.mem_cons_of_mem _ e)
    · intro y hy
      have h3 := h2 _ (List.mem_cons_self ..)
      rcases List.mem_cons.mp hy with e | e
      · subst e; revert h3; split <;> omega
      · rcases List.mem_cons.mp e with e | e
        · subst e; revert h3; split <;> omega
        · exact h2 y (List.mem_cons_of_mem _ e)
theorem big_uni {ns : List Int} {n m : Int} (h : m ∈ n :: ns) (h2 : ∀ y ∈ n :: ns, y ≤ m) : m = bigI n ns := by
  obtain ⟨a, b⟩ := bigI_mem ns n
  have := b m h; have := h2 _ a; omega
theorem low_uni {ns : List Int} {n m : Int} (h : m ∈ n :: ns) (h2 : ∀ y ∈ n :: ns, m ≤ y) : m = lowI n ns := by
  obtain ⟨a, b⟩ := lowI_mem ns n
  have := b m h; have := h2 _ a; omega
def rSeqI (K : PySem.W.Frag) (f : List Int → Option Int) : List V → Hp → VK → Prop := fun vs H Q => ∃ (a : Addr) (ns : List Int) (i : Int), vs = [V.ref a] ∧ (SqL K H a (ns.map V.int) ∨ SqT K H a (ns.map V.int)) ∧ f ns = some i ∧ Q (.int i) H
def bigO : List Int → Option Int
  | [] => none
  | n :: ns => some (bigI n ns)
def lowO : List Int → Option Int
  | [] => none
  | n :: ns => some (lowI n ns)
theorem cr_sum2 (hc : X.calm = true) : CallR X (.builtin "sum") (rSeqI X.K fun ns => some ns.sum) := fun pins s σ H xs us Q I r h => by
  obtain ⟨a, ns, i, e, hs | hs, ei, q⟩ := h
  · cases ei; exact cr_sum hc pins s σ H xs us Q I r ⟨a, ns, e, hs, q⟩
  · cases ei; exact cr_sumT hc pins s σ H xs us Q I r ⟨a, ns, e, hs, q⟩
theorem cr_max2 (hc : X.calm = true) : CallR X (.builtin "max") (rSeqI X.K bigO) := fun pins s σ H xs us Q I r h => by
  obtain ⟨a, ns, i, e, hs, ei, q⟩ := h
  cases ns with
  | nil => cases ei
  | cons n ns =>
    cases ei
    rcases hs with hs | hs
    · exact cr_max hc pins s σ H xs us Q I r ⟨a, _, e, hs, by simp, fun m h1 h2 => by rw [big_uni h1 h2]; exact q⟩
    · exact cr_maxT hc pins s σ H xs us Q I r ⟨a, _, e, hs, by simp, fun m h1 h2 => by rw [big_uni h1 h2]; exact q⟩
theorem cr_min2 (hc : X.calm = true) : CallR X (.builtin "min") (rSeqI X.K lowO) := fun pins s σ H xs us Q I r h => by
  obtain ⟨a, ns, i, e, hs, ei, q⟩ := h
  cases ns with
  | nil => cases ei
  | cons n ns =>
    cases ei
    rcases hs with hs | hs
    · exact cr_min hc pins s σ H xs us Q I r ⟨a, _, e, hs, by simp, fun m h1 h2 => by rw [low_uni h1 h2]; exact q⟩
    · exact cr_minT hc pins s σ H xs us Q I r ⟨a, _, e, hs, by simp, fun m h1 h2 => by rw [low_uni h1 h2]; exact q⟩
theorem c_seqI {k : List D → Res D} {f : List Int → Option Int} (hk : ∀ d ns, seqI d = some ns → k [d] = match f ns with | some i => .ok (.int i) | none => .bad) (hb : ∀ d, seqI d = none → k [d] = .bad) (h0 : k [] = .bad) (h2 : ∀ a b r, k (a :: b :: r) = .bad) : CallD p (rSeqI p.K f) k := by
  intro σ G H vs ds Q kk a h
  cases a with
  | nil => rw [h0] at h; exact h.elim
  | cons r a =>
    cases a with
    | cons r2 a => rw [h2] at h; exact h.elim
    | nil =>
      rename_i v d
      cases e : seqI d with
      | none => rw [hb d e] at h; exact h.elim
      | some ns =>
        rw [hk d ns e] at h
        cases ef : f ns with
        | none => rw [ef] at h; exact h.elim
        | some i =>
          rw [ef] at h
          cases r with
          | lst r q =>
            have := intsOf_vals q (show intsOf _ = some ns from e)
            subst this
            exact ⟨_, ns, i, rfl, .inl (kk.sqL r), ef, rS_now kk h (.int _)⟩
          | tup r q =>
            have := intsOf_vals q (show intsOf _ = some ns from e)
            subst this
            exact ⟨_, ns, i, rfl, .inr (kk.sqT r), ef, rS_now kk h (.int _)⟩
          | _ => cases e
theorem sum2_ {x : Str} {f : Rho → Res (List D)} {p1 : Pos} (hm : X.mg x = none) (hc : X.calm = true) (ha : PA X [a] (aS p f)) (hK : X.K = p.K := by rfl) (hv : bootBuiltins x = some (.builtin "sum") := by decide +kernel) (hg : Gl X x := by rfl) (he : starEach (a :: []) X.env = (false, eval a X.env) :: starEach [] X.env := by rfl) (hpl : (backTo pos (starEach [] X.env)).any (·.1) = false := by rfl) (hn : x ≠ "__name__" := by decide) (hdb : (x == ("__debug__" : Str)) = false := by decide) :
    PE X (.Call (.Name x p1) [a] [] pos) (eS p (callR f sum2D)) := by
  refine e_callB (id := "sum") ?_ (cr_sum2 hc) hg hm hv ha he hpl hn hdb
  rw [hK]; exact c_seqI (fun d ns e => by simp [sum2D, e]) (fun d e => by simp [sum2D, e]) rfl (fun _ _ _ => rfl)
theorem max2_ {x : Str} {f : Rho → Res (List D)} {p1 : Pos} (hm : X.mg x = none) (hc : X.calm = true) (ha : PA X [a] (aS p f)) (hK : X.K = p.K := by rfl) (hv : bootBuiltins x = some (.builtin "max") := by decide +kernel) (hg : Gl X x := by rfl) (he : starEach (a :: []) X.env = (false, eval a X.env) :: starEach [] X.env := by rfl) (hpl : (backTo pos (starEach [] X.env)).any (·.1) = false := by rfl) (hn : x ≠ "__name__" := by decide) (hdb : (x == ("__debug__" : Str)) = false := by decide) :
    PE X (.Call (.Name x p1) [a] [] pos) (eS p (callR f max2D)) := by
  refine e_callB (id := "max") ?_ (cr_max2 hc) hg hm hv ha he hpl hn hdb
  rw [hK]; exact c_seqI (fun d ns e => by cases ns <;> simp [max2D, e, bigO]) (fun d e => by simp [max2D, e]) rfl (fun _ _ _ => rfl)
theorem min2_ {x : Str} {f : Rho → Res (List D)} {p1 : Pos} (hm : X.mg x = none) (hc : X.calm = true) (ha : PA X [a] (aS p f)) (hK : X.K = p.K := by rfl) (hv : bootBuiltins x = some (.builtin "min") := by decide +kernel) (hg : Gl X x := by rfl) (he : starEach (a :: []) X.env = (false, eval a X.env) :: starEach [] X.env := by rfl) (hpl : (backTo pos (starEach [] X.env)).any (·.1) = false := by rfl) (hn : x ≠ "__name__" := by decide) (hdb : (x == ("__debug__" : Str)) = false := by decide) :
    PE X (.Call (.Name x p1) [a] [] pos) (eS p (callR f min2D)) := by
  refine e_callB (id := "min") ?_ (cr_min2 hc) hg hm hv ha he hpl hn hdb
  rw [hK]; exact c_seqI (fun d ns e => by cases ns <;> simp [min2D, e, lowO]) (fun d e => by simp [min2D, e]) rfl (fun _ _ _ => rfl)
/-! list(range(a, b)) -/
def lrgL : D → D → Res (List D)
  | .int i, .int j => if (-(2 : Int) ^ 62 ≤ i ∧ i < 2 ^ 62 ∧ -(2 : Int) ^ 62 ≤ j ∧ j < 2 ^ 62) ∧ (j - i).toNat ≤ 16777216 then .ok ((List.range (j - i).toNat).map fun k : Nat => .int (i + (k : Int))) else .bad
  | _, _ => .bad
theorem dv_rg {K : PySem.W.Frag} {G : Hp} (i : Int) : ∀ n : Nat, DvAll K G ((List.range n).map fun k : Nat => V.int (i + (k : Int))) ((List.range n).map fun k : Nat => PyData.int (i + (k : Int)))
  | 0 => .nil
  | n + 1 => by
    rw [List.range_succ, List.map_append, List.map_append]
    exact (dv_rg i n).append (.cons (.int _) .nil)
theorem n_listRg2 {nl nr : Pos} {pr : Pos} (hc : X.calm = true) (hml : X.mg "list" = none) (hmr : X.mg "range" = none) (ha : PE X a (eS p fa)) (hb : PE X b (eS p fb)) (hgl : Gl X "list" := by rfl) (hgr : Gl X "range" := by rfl)
    (h1 : starEach [.Call (.Name "range" nr) [a, b] [] pr] X.env = (false, eval (.Call (.Name "range" nr) [a, b] [] pr) X.env) :: starEach [] X.env := by rfl) (h2 : starEach [a, b] X.env = (false, eval a X.env) :: starEach [b] X.env := by rfl) (h3 : starEach [b] X.env = (false, eval b X.env) :: starEach [] X.env := by rfl) (h4 : (backTo pr (starEach [b] X.env)).any (fun x => x.1) = false := by rfl) :
    PE X (.Call (.Name "list" nl) [.Call (.Name "range" nr) [a, b] [] pr] [] pos) (nS p (do2L fa fb lrgL)) := (pe_listRg hc hgl hml (prg_2 hgr hmr ha hb h2 h3 h4) h1).imp fun σ H Q h => by
  obtain ⟨G, ρ, he, hk, ht, h⟩ := h
  refine ⟨G, ρ, he, hk, ht, ?_⟩
  unfold do2L at h
  cases e : fa ρ with
  | ex c => rw [e] at h; exact h
  | bad => rw [e] at h; exact h.elim
  | ok dx =>
    rw [e, bind_ok] at h
    intro x G1 H1 e1 rx
    have rx : Dv p.K G1 x dx := rx
    refine ⟨G1, ρ, he.kp e1.g, e1.gh, ht.ext e1, ?_⟩
    cases e2 : fb ρ with
    | ex c => rw [e2] at h; exact fun G' H' ee => h G' H' (e1.trans ee)
    | bad => rw [e2] at h; exact h.elim
    | ok dy =>
      rw [e2, bind_ok] at h
      intro y G2 H2 e3 ry
      have ry : Dv p.K G2 y dy := ry
      cases rx with
      | int i =>
        cases ry with
        | int j =>
          dsimp only [lrgL] at h
          split at h
          · rename_i ds0 hz
            split at hz
            · rename_i hq
              cases hz
              refine ⟨i, j, rfl, rfl, ⟨hq.1.1, hq.1.2.1, hq.1.2.2.1, hq.1.2.2.2, by have := hq.2; omega⟩, fun q hq0 => ?_⟩
              refine h q _ G2 _ ((e1.trans e3).trans (Ext.newO e3.gh hq0)) ((e1.trans e3).free hq0) (e3.gh.none hq0) upd_same ?_
              exact dv_rg i _
            · cases hz
          all_goals first | (rename_i hz; split at hz <;> cases hz; done) | exact h.elim | skip
        | _ => exact (show False from h).elim
      | _ => cases ry <;> exact (show False from h).elim
/-! xs.index(x) -/
def indexD : D → D → Res D
  | .list ds, d => if (SeqAt.shaped (.list ds) = true ∧ SeqAt.shaped d = true) ∧ ds.findIdx (fun z => PyData.eqv z d) < ds.length then .ok (.int (ds.findIdx (fun z => PyData.eqv z d) : Nat)) else .bad
  | _, _ => .bad
def indexR (f g : Rho → Res D) : Rho → Res D := fun ρ => (f ρ).bind fun x => match x with
  | .list ds => (g ρ).bind fun y => indexD (.list ds) y
  | _ => .bad
theorem findIdx_facts {ds : List D} {q : D → Bool} (h : ds.findIdx q < ds.length) : (∃ z, ds[ds.findIdx q]? = some z ∧ q z = true) ∧ ∀ (m : Nat) (z' : D), m < ds.findIdx q → ds[m]? = some z' → q z' = false := by
  refine ⟨⟨ds[ds.findIdx q], List.getElem?_eq_getElem h, List.findIdx_getElem⟩, fun m z' hm hz => ?_⟩
  obtain ⟨hl, e⟩ := List.getElem?_eq_some_iff.mp hz
  have := List.not_of_lt_findIdx hm
  rw [← e]
  simpa using this
theorem index_ {o : Expr} {apos cpos : Pos} {fo : Rho → Res D} (hu : X.A.units + 65 < cLine) (ho : PE X o (eS p fo)) (he : PE X e (eS p fa)) (hK : X.K = p.K := by rfl) (hbase : attributeBase o "index" X.env (eval o X.env) = eval o X.env := by rfl)
    (hfew : ((backTo cpos (starEach (e :: []) X.env)).all (fun x => !x.1) && (backToKw cpos (keywordEach [] X.env)).all (fun x => x.1.isSome) && decide ((e :: []).length + ([] : List Keyword).length + (if ([] : List Keyword).isEmpty then 0 else 1) < 30)) = true := by rfl)
    (hline : (apos.endLine == cpos.line) = true := by rfl) (hse : starEach (e :: []) X.env = (false, eval e X.env) :: starEach [] X.env := by rfl) (hplain : (backTo cpos (starEach [] X.env)).any (·.1) = false := by rfl) :
    PE X (.Call (.Attribute o "index" apos) [e] [] cpos) (eS p (indexR fo fa)) := (pe_bm PySem.F.plainAttrs_list PySem.F.slot_list_index PySem.F.type_list_index (mt_indexD hu) ho (pa_cons he pa_nil hse) hbase hfew hline hse hplain).imp fun σ H Q h => by
  obtain ⟨G, ρ, he, hk, ht, h⟩ := h
  refine sp_run he hk ht h fun x dx G1 H1 e1 rx h1 => ?_
  have rx : Dv p.K G1 x dx := rx
  cases rx with
  | lst r q =>
    rename_i a vs ds
    refine ⟨.inl ⟨rfl, vs, by rw [hK]; exact e1.gh.sqL r⟩, ?_⟩
    refine sp_run (f := fa) (he.kp e1.g) e1.gh (ht.ext e1) h1 fun y dy G2 H2 e2 ry h2 => ?_
    have ry : Dv p.K G2 y dy := ry
    have h2 : rS p σ G2 H2 (relV p.K) (if (SeqAt.shaped (.list ds) = true ∧ SeqAt.shaped dy = true) ∧ ds.findIdx (fun z => PyData.eqv z dy) < ds.length then .ok (.int (ds.findIdx (fun z => PyData.eqv z dy) : Nat)) else .bad) Q := h2
    split at h2
    · rename_i hz
      obtain ⟨⟨z, z1, z2⟩, z3⟩ := findIdx_facts hz.2
      show ∃ (a : Addr) (y : V) (d : PyData) (ds : List PyData) (j : Nat) (z : PyData), _
      refine ⟨_, y, dy, ds, _, z, rfl, rfl, ?_, ?_, hz.1.1, hz.1.2, z1, z2, z3, rS_now e2.gh h2 (.int _)⟩
      · rw [hK]; exact (((Dv.lst r q).kp e2.g).kp e2.gh.kp).dp
      · rw [hK]; exact (ry.kp e2.gh.kp).dp
    · exact h2.elim
  | _ => exact (show False from h1).elim

/-! within defs that an except suite calls: over tuples -/
section
open L2H (HotC)
theorem walksTH {prog : Program} {w : World} {A : Around} (I ax x1 : Addr) (hne : ax ≠ I) (hx : x1 ≠ I) (items : Array Value) :
    PySem.Walks prog w A I [I, ax, x1] [I] items.size (fun i v => items[i]? = some v) (fun i h => h.IsTupleIter I ax i ∧ h.IsTuple ax items ∧ HotX.HotAt A x1 h) where
  sub := by intro b hb; simp at hb; subst hb; simp
  frame := by
    rintro i h h' ⟨⟨o, a1, a2, a3⟩, ⟨o2, b1, b2⟩, c0, o3, vs, c1, c2⟩ k
    exact ⟨⟨o, k _ (by simp) _ a1, a2, a3⟩, ⟨o2, k _ (by simp) _ b1, b2⟩, c0, o3, vs, k _ (by simp) _ c1, c2⟩
  item := by
    rintro i s Q E hi ⟨st, pt, c0, o3, vs, c1, c2⟩ q
    refine wpAny_pyNext_tuple_item st pt (x := items[i]) (Array.getElem?_eq_getElem hi) fun h' st' sb => ?_
    have sb' : ∀ b o, b ≠ I → s.heap.get? b = some o → h'.get? b = some o := fun b o hb e => (sb.2 b hb).trans e
    obtain ⟨o2, b1, b2⟩ := pt
    exact q _ h' _ (Array.getElem?_eq_getElem hi) ⟨st', ⟨o2, sb' _ _ hne b1, b2⟩, c0, o3, vs, sb' _ _ hx c1, c2⟩ fun b o hb e => sb' b o (by simpa using hb) e
  done := by
    rintro s Q E ⟨st, pt, hot⟩ q
    exact next_tup_endH hot st pt (by simp) fun h' eb => q h' _ fun b o hb e => eb b o (by simpa using hb) e
  self := fun _ _ _ _ st h => wpAny_pyIter_tupleiter st.1 h
theorem hot_in1 {A : Around} {x1 : Addr} {h : Heap} (k : HotX.HotAt A x1 h) : HotX.HotAt A.in1 x1 h := k
theorem hot_lt {A : Around} {x1 : Addr} {h : Heap} (k : HotX.HotAt A x1 h) : x1 < h.objs.size := by
  obtain ⟨_, o, vs, e, _⟩ := k
  exact get_lt e
theorem hot_push {A : Around} {x1 : Addr} {h : Heap} {o : Obj} (k : HotX.HotAt A x1 h) : HotX.HotAt A x1 (h.push o) := by
  obtain ⟨c, o, vs, e, r⟩ := k
  exact ⟨c, o, vs, Heap.get?_push_of_some _ e, r⟩
theorem cr_sumTH (hc : HotC X) : CallR X (.builtin "sum") (fun vs H Q => ∃ (a : Addr) (ns : List Int), vs = [V.ref a] ∧ SqT X.K H a (ns.map V.int) ∧ Q (.int ns.sum) H) := fun pins s σ H xs us Q I r h => by
  obtain ⟨a, ns, rfl, hs, q⟩ := h
  obtain ⟨u, rfl, ru⟩ := r.one
  cases ru
  obtain ⟨its, rv, ht, hz⟩ := I.tuple hs
  have hl := vals_len rv
  rw [List.length_map] at hl
  obtain ⟨o, ho, _⟩ := id ht
  have halt := get_lt ho
  obtain ⟨x1, hot⟩ := hc.at I
  refine call_sum_walkG (wpAny_pyIter_tuple ht ?_)
  refine ⟨s.heap.objs.size, _, _, _, _, _, fun j => ns.getD j 0, rfl, walksTH (A := X.A.in1) s.heap.objs.size a x1 (Nat.ne_of_lt halt) (Nat.ne_of_lt (hot_lt hot)) its.toArray, ⟨⟨_, by exact Heap.get?_push_size _ rfl, rfl, rfl⟩, ht.push _, hot_push (hot_in1 hot)⟩, ?_, vals_ints rv, ?_⟩
  · intro b hb
    simp at hb
    have hz2 : (s.heap.push { cls := Value.type "tuple_iterator", data := Data.fields #[Value.ref a, Value.int 0 0] }).objs.size = s.heap.objs.size + 1 := by simp [Heap.push]
    show b < (s.heap.push _).objs.size
    rw [hz2]
    rcases hb with rfl | rfl | rfl
    · exact Nat.lt_succ_self _
    · exact Nat.lt_succ_of_lt halt
    · exact Nat.lt_succ_of_lt (hot_lt hot)
  · intro h' tk t' hk
    refine ⟨.int ns.sum, H, ?_, ⟨t', ?_⟩, q⟩
    · refine I.kept fun b u hb => hk b u ?_ ?_
      · intro hm
        simp at hm
        have := get_lt hb
        subst hm
        exact absurd this (Nat.lt_irrefl _)
      · exact Heap.get?_push_of_some _ hb
    · rw [show its.toArray.size = ns.length by simp [hl], pre_take ns ns.length (Nat.le_refl _), List.take_length]
theorem cr_maxTH (hc : HotC X) : CallR X (.builtin "max") (fun vs H Q => ∃ (a : Addr) (ns : List Int), vs = [V.ref a] ∧ SqT X.K H a (ns.map V.int) ∧ 0 < ns.length ∧ ∀ m, m ∈ ns → (∀ y, y ∈ ns → y ≤ m) → Q (.int m) H) := fun pins s σ H xs us Q I r h => by
  obtain ⟨a, ns, rfl, hs, h0, q⟩ := h
  obtain ⟨u, rfl, ru⟩ := r.one
  cases ru
  obtain ⟨its, rv, ht, hz⟩ := I.tuple hs
  have hl := vals_len rv
  rw [List.length_map] at hl
  obtain ⟨o, ho, _⟩ := id ht
  have halt := get_lt ho
  obtain ⟨x1, hot⟩ := hc.at I
  refine call_max_walk (wpAny_pyIter_tuple ht ?_)
  refine ⟨s.heap.objs.size, _, _, _, _, _, _, rfl, walksTH (A := X.A.in1) s.heap.objs.size a x1 (Nat.ne_of_lt halt) (Nat.ne_of_lt (hot_lt hot)) its.toArray, ⟨⟨_, by exact Heap.get?_push_size _ rfl, rfl, rfl⟩, ht.push _, hot_push (hot_in1 hot)⟩, ?_, ?_, CmpOf.ints_gt (fun j => ns.getD j 0) (vals_ints rv), ?_⟩
  · intro b hb
    simp at hb
    have hz2 : (s.heap.push { cls := Value.type "tuple_iterator", data := Data.fields #[Value.ref a, Value.int 0 0] }).objs.size = s.heap.objs.size + 1 := by simp [Heap.push]
    show b < (s.heap.push _).objs.size
    rw [hz2]
    rcases hb with rfl | rfl | rfl
    · exact Nat.lt_succ_self _
    · exact Nat.lt_succ_of_lt halt
    · exact Nat.lt_succ_of_lt (hot_lt hot)
  · simp; rw [← hl]; exact h0
  · intro v h' tk hv hk
    obtain ⟨t, e⟩ := vals_ints rv _ v hv
    have hb := argBest_gt (fun j => ns.getD j 0) (its.toArray.size - 1)
    have hsz : its.toArray.size = ns.length := by simp [hl]
    refine ⟨.int (ns.getD (argBest (fun i j => decide (ns.getD i 0 > ns.getD j 0)) (its.toArray.size - 1)) 0), H, ?_, ⟨t, e⟩, q _ ?_ ?_⟩
    · refine I.kept fun b u hb => hk b u ?_ ?_
      · intro hm
        simp at hm
        have := get_lt hb
        subst hm
        exact absurd this (Nat.lt_irrefl _)
      · exact Heap.get?_push_of_some _ hb
    · have hlt : argBest (fun i j => decide (ns.getD i 0 > ns.getD j 0)) (its.toArray.size - 1) < ns.length := by have := hb.1; omega
      rw [getD_el hlt]
      exact List.getElem_mem _
    · intro y hy
      obtain ⟨j, hj, rfl⟩ := List.getElem_of_mem hy
      have := hb.2 j (by omega)
      rw [getD_el hj] at this
      exact this
theorem cr_minTH (hc : HotC X) : CallR X (.builtin "min") (fun vs H Q => ∃ (a : Addr) (ns : List Int), vs = [V.ref a] ∧ SqT X.K H a (ns.map V.int) ∧ 0 < ns.length ∧ ∀ m, m ∈ ns → (∀ y, y ∈ ns → m ≤ y) → Q (.int m) H) := fun pins s σ H xs us Q I r h => by
  obtain ⟨a, ns, rfl, hs, h0, q⟩ := h
  obtain ⟨u, rfl, ru⟩ := r.one
  cases ru
  obtain ⟨its, rv, ht, hz⟩ := I.tuple hs
  have hl := vals_len rv
  rw [List.length_map] at hl
  obtain ⟨o, ho, _⟩ := id ht
  have halt := get_lt ho
  obtain ⟨x1, hot⟩ := hc.at I
  refine call_min_walk (wpAny_pyIter_tuple ht ?_)
  refine ⟨s.heap.objs.size, _, _, _, _, _, _, rfl, walksTH (A := X.A.in1) s.heap.objs.size a x1 (Nat.ne_of_lt halt) (Nat.ne_of_lt (hot_lt hot)) its.toArray, ⟨⟨_, by exact Heap.get?_push_size _ rfl, rfl, rfl⟩, ht.push _, hot_push (hot_in1 hot)⟩, ?_, ?_, CmpOf.ints_lt (fun j => ns.getD j 0) (vals_ints rv), ?_⟩
  · intro b hb
    simp at hb
    have hz2 : (s.heap.push { cls := Value.type "tuple_iterator", data := Data.fields #[Value.ref a, Value.int 0 0] }).objs.size = s.heap.objs.size + 1 := by simp [Heap.push]
    show b < (s.heap.push _).objs.size
    rw [hz2]
    rcases hb with rfl | rfl | rfl
    · exact Nat.lt_succ_self _
    · exact Nat.lt_succ_of_lt halt
    · exact Nat.lt_succ_of_lt (hot_lt hot)
  · simp; rw [← hl]; exact h0
  · intro v h' tk hv hk
    obtain ⟨t, e⟩ := vals_ints rv _ v hv
    have hb := argBest_lt (fun j => ns.getD j 0) (its.toArray.size - 1)
    have hsz : its.toArray.size = ns.length := by simp [hl]
    refine ⟨.int (ns.getD (argBest (fun i j => decide (ns.getD i 0 < ns.getD j 0)) (its.toArray.size - 1)) 0), H, ?_, ⟨t, e⟩, q _ ?_ ?_⟩
    · refine I.kept fun b u hb => hk b u ?_ ?_
      · intro hm
        simp at hm
        have := get_lt hb
        subst hm
        exact absurd this (Nat.lt_irrefl _)
      · exact Heap.get?_push_of_some _ hb
    · have hlt : argBest (fun i j => decide (ns.getD i 0 < ns.getD j 0)) (its.toArray.size - 1) < ns.length := by have := hb.1; omega
      rw [getD_el hlt]
      exact List.getElem_mem _
    · intro y hy
      obtain ⟨j, hj, rfl⟩ := List.getElem_of_mem hy
      have := hb.2 j (by omega)
      rw [getD_el hj] at this
      exact this

/-! the three over a tuple -/
def tupI : D → Option (List Int)
  | .tuple xs => intsOf xs
  | _ => none
def sumTD : List D → Res D
  | [d] => match tupI d with | some ns => .ok (.int ns.sum) | none => .bad
  | _ => .bad
def maxTD : List D → Res D
  | [d] => match tupI d with | some (n :: ns) => .ok (.int (bigI n ns)) | _ => .bad
  | _ => .bad
def minTD : List D → Res D
  | [d] => match tupI d with | some (n :: ns) => .ok (.int (lowI n ns)) | _ => .bad
  | _ => .bad
def rTupI (K : PySem.W.Frag) (f : List Int → Option Int) : List V → Hp → VK → Prop := fun vs H Q => ∃ (a : Addr) (ns : List Int) (i : Int), vs = [V.ref a] ∧ SqT K H a (ns.map V.int) ∧ f ns = some i ∧ Q (.int i) H
theorem c_tupI {k : List D → Res D} {f : List Int → Option Int} (hk : ∀ d ns, tupI d = some ns → k [d] = match f ns with | some i => .ok (.int i) | none => .bad) (hb : ∀ d, tupI d = none → k [d] = .bad) (h0 : k [] = .bad) (h2 : ∀ a b r, k (a :: b :: r) = .bad) : CallD p (rTupI p.K f) k := by
  intro σ G H vs ds Q kk a h
  cases a with
  | nil => rw [h0] at h; exact h.elim
  | cons r a =>
    cases a with
    | cons r2 a => rw [h2] at h; exact h.elim
    | nil =>
      rename_i v d
      cases e : tupI d with
      | none => rw [hb d e] at h; exact h.elim
      | some ns =>
        rw [hk d ns e] at h
        cases ef : f ns with
        | none => rw [ef] at h; exact h.elim
        | some i =>
          rw [ef] at h
          cases r with
          | tup r q =>
            have := intsOf_vals q (show intsOf _ = some ns from e)
            subst this
            exact ⟨_, ns, i, rfl, kk.sqT r, ef, rS_now kk h (.int _)⟩
          | _ => cases e
theorem tup_sum {X : Cx} (h : CallR X (.builtin "sum") (fun vs H Q => ∃ (a : Addr) (ns : List Int), vs = [V.ref a] ∧ SqT X.K H a (ns.map V.int) ∧ Q (.int ns.sum) H)) : CallR X (.builtin "sum") (rTupI X.K fun ns => some ns.sum) := fun pins s σ H xs us Q I r q => by
  obtain ⟨a, ns, i, e, hs, ei, q⟩ := q
  cases ei; exact h pins s σ H xs us Q I r ⟨a, ns, e, hs, q⟩
theorem tup_max {X : Cx} (h : CallR X (.builtin "max") (fun vs H Q => ∃ (a : Addr) (ns : List Int), vs = [V.ref a] ∧ SqT X.K H a (ns.map V.int) ∧ 0 < ns.length ∧ ∀ m, m ∈ ns → (∀ y, y ∈ ns → y ≤ m) → Q (.int m) H)) : CallR X (.builtin "max") (rTupI X.K bigO) := fun pins s σ H xs us Q I r q => by
  obtain ⟨a, ns, i, e, hs, ei, q⟩ := q
  cases ns with
  | nil => cases ei
  | cons n ns => cases ei; exact h pins s σ H xs us Q I r ⟨a, _, e, hs, by simp, fun m h1 h2 => by rw [big_uni h1 h2]; exact q⟩
theorem tup_min {X : Cx} (h : CallR X (.builtin "min") (fun vs H Q => ∃ (a : Addr) (ns : List Int), vs = [V.ref a] ∧ SqT X.K H a (ns.map V.int) ∧ 0 < ns.length ∧ ∀ m, m ∈ ns → (∀ y, y ∈ ns → m ≤ y) → Q (.int m) H)) : CallR X (.builtin "min") (rTupI X.K lowO) := fun pins s σ H xs us Q I r q => by
  obtain ⟨a, ns, i, e, hs, ei, q⟩ := q
  cases ns with
  | nil => cases ei
  | cons n ns => cases ei; exact h pins s σ H xs us Q I r ⟨a, _, e, hs, by simp, fun m h1 h2 => by rw [low_uni h1 h2]; exact q⟩
theorem sumT_ {x : Str} {f : Rho → Res (List D)} {p1 : Pos} (hm : X.mg x = none) (hc : X.calm = true) (ha : PA X [a] (aS p f)) (hK : X.K = p.K := by rfl) (hv : bootBuiltins x = some (.builtin "sum") := by decide +kernel) (hg : Gl X x := by rfl) (he : starEach (a :: []) X.env = (false, eval a X.env) :: starEach [] X.env := by rfl) (hpl : (backTo pos (starEach [] X.env)).any (·.1) = false := by rfl) (hn : x ≠ "__name__" := by decide) (hdb : (x == ("__debug__" : Str)) = false := by decide) :
    PE X (.Call (.Name x p1) [a] [] pos) (eS p (callR f sumTD)) := by
  refine e_callB (id := "sum") ?_ (tup_sum (cr_sumT hc)) hg hm hv ha he hpl hn hdb
  rw [hK]; exact c_tupI (fun d ns e => by simp [sumTD, e]) (fun d e => by simp [sumTD, e]) rfl (fun _ _ _ => rfl)
theorem sumTH_ {x : Str} {f : Rho → Res (List D)} {p1 : Pos} (hm : X.mg x = none) (hc : HotC X) (ha : PA X [a] (aS p f)) (hK : X.K = p.K := by rfl) (hv : bootBuiltins x = some (.builtin "sum") := by decide +kernel) (hg : Gl X x := by rfl) (he : starEach (a :: []) X.env = (false, eval a X.env) :: starEach [] X.env := by rfl) (hpl : (backTo pos (starEach [] X.env)).any (·.1) = false := by rfl) (hn : x ≠ "__name__" := by decide) (hdb : (x == ("__debug__" : Str)) = false := by decide) :
    PE X (.Call (.Name x p1) [a] [] pos) (eS p (callR f sumTD)) := by
  refine e_callB (id := "sum") ?_ (tup_sum (cr_sumTH hc)) hg hm hv ha he hpl hn hdb
  rw [hK]; exact c_tupI (fun d ns e => by simp [sumTD, e]) (fun d e => by simp [sumTD, e]) rfl (fun _ _ _ => rfl)
theorem maxT_ {x : Str} {f : Rho → Res (List D)} {p1 : Pos} (hm : X.mg x = none) (hc : X.calm = true) (ha : PA X [a] (aS p f)) (hK : X.K = p.K := by rfl) (hv : bootBuiltins x = some (.builtin "max") := by decide +kernel) (hg : Gl X x := by rfl) (he : starEach (a :: []) X.env = (false, eval a X.env) :: starEach [] X.env := by rfl) (hpl : (backTo pos (starEach [] X.env)).any (·.1) = false := by rfl) (hn : x ≠ "__name__" := by decide) (hdb : (x == ("__debug__" : Str)) = false := by decide) :
    PE X (.Call (.Name x p1) [a] [] pos) (eS p (callR f maxTD)) := by
  refine e_callB (id := "max") ?_ (tup_max (cr_maxT hc)) hg hm hv ha he hpl hn hdb
  rw [hK]; exact c_tupI (fun d ns e => by cases ns <;> simp [maxTD, e, bigO]) (fun d e => by simp [maxTD, e]) rfl (fun _ _ _ => rfl)
theorem maxTH_ {x : Str} {f : Rho → Res (List D)} {p1 : Pos} (hm : X.mg x = none) (hc : HotC X) (ha : PA X [a] (aS p f)) (hK : X.K = p.K := by rfl) (hv : bootBuiltins x = some (.builtin "max") := by decide +kernel) (hg : Gl X x := by rfl) (he : starEach (a :: []) X.env = (false, eval a X.env) :: starEach [] X.env := by rfl) (hpl : (backTo pos (starEach [] X.env)).any (·.1) = false := by rfl) (hn : x ≠ "__name__" := by decide) (hdb : (x == ("__debug__" : Str)) = false := by decide) :
    PE X (.Call (.Name x p1) [a] [] pos) (eS p (callR f maxTD)) := by
  refine e_callB (id := "max") ?_ (tup_max (cr_maxTH hc)) hg hm hv ha he hpl hn hdb
  rw [hK]; exact c_tupI (fun d ns e => by cases ns <;> simp [maxTD, e, bigO]) (fun d e => by simp [maxTD, e]) rfl (fun _ _ _ => rfl)
theorem minT_ {x : Str} {f : Rho → Res (List D)} {p1 : Pos} (hm : X.mg x = none) (hc : X.calm = true) (ha : PA X [a] (aS p f)) (hK : X.K = p.K := by rfl) (hv : bootBuiltins x = some (.builtin "min") := by decide +kernel) (hg : Gl X x := by rfl) (he : starEach (a :: []) X.env = (false, eval a X.env) :: starEach [] X.env := by rfl) (hpl : (backTo pos (starEach [] X.env)).any (·.1) = false := by rfl) (hn : x ≠ "__name__" := by decide) (hdb : (x == ("__debug__" : Str)) = false := by decide) :
    PE X (.Call (.Name x p1) [a] [] pos) (eS p (callR f minTD)) := by
  refine e_callB (id := "min") ?_ (tup_min (cr_minT hc)) hg hm hv ha he hpl hn hdb
  rw [hK]; exact c_tupI (fun d ns e => by cases ns <;> simp [minTD, e, lowO]) (fun d e => by simp [minTD, e]) rfl (fun _ _ _ => rfl)
theorem minTH_ {x : Str} {f : Rho → Res (List D)} {p1 : Pos} (hm : X.mg x = none) (hc : HotC X) (ha : PA X [a] (aS p f)) (hK : X.K = p.K := by rfl) (hv : bootBuiltins x = some (.builtin "min") := by decide +kernel) (hg : Gl X x := by rfl) (he : starEach (a :: []) X.env = (false, eval a X.env) :: starEach [] X.env := by rfl) (hpl : (backTo pos (starEach [] X.env)).any (·.1) = false := by rfl) (hn : x ≠ "__name__" := by decide) (hdb : (x == ("__debug__" : Str)) = false := by decide) :
    PE X (.Call (.Name x p1) [a] [] pos) (eS p (callR f minTD)) := by
  refine e_callB (id := "min") ?_ (tup_min (cr_minTH hc)) hg hm hv ha he hpl hn hdb
  rw [hK]; exact c_tupI (fun d ns e => by cases ns <;> simp [minTD, e, lowO]) (fun d e => by simp [minTD, e]) rfl (fun _ _ _ => rfl)
end
end
section
open L2H (HotC)
theorem unpackItems_tupH {prog : Program} {w : World} {A : Around} {E : Value → Shared → Prop} {s : Shared} {t x1 : Addr} {items : Array Value} {Q : List Value → Shared → Prop} (hot : HotX.HotAt A x1 s.heap) (ht : s.heap.IsTuple t items)
    (q : ∀ h' : Heap, (∀ b o, s.heap.get? b = some o → h'.get? b = some o) → Q items.toList { s with heap := h' }) : wpAny (model prog w) A (unpackItems (.ref t) items.size none) Q E s := by
  obtain ⟨o, ho, _⟩ := id ht
  have hlt := get_lt ho
  unfold unpackItems
  refine wpAny_bind ?_
  unfold notIterableAtAll
  refine wpAny_bind (wpAny_specialOf (T := "tuple") ht.typeIs F.slot_tuple_iter.lookup ?_)
  refine wpAny_pure ?_
  refine show wpAny _ _ (holding _ (pyIter _) >>= _) _ _ _ from wpAny_bind (wpAny_holding (wpAny_pyIter_tuple ht ?_))
  refine show wpAny _ _ (holding _ (draw _ _) >>= _) _ _ _ from wpAny_bind (wpAny_holding (wpAny_draw_tuple (t := t) (items := items) (Nat.ne_of_lt hlt) items.size 0 _ _ ⟨_, Heap.get?_push_size _ rfl, rfl, rfl⟩ (ht.push _) (by omega) fun h' st sb => ?_))
  have e1 : ((items.toList.drop 0).take items.size) = items.toList := by rw [List.drop_zero, ← Array.length_toList]; exact List.take_length
  rw [e1]
  have old : ∀ b o, s.heap.get? b = some o → h'.get? b = some o := fun b o e => (sb.2 b (Nat.ne_of_lt (get_lt e))).trans (Heap.get?_push_of_some _ e)
  dsimp only
  rw [if_neg (by simp)]
  refine wpAny_bind (wpAny_holding ?_)
  obtain ⟨c0, o3, vs, c1, c2⟩ := hot
  have hx := get_lt c1
  obtain ⟨o2, b1, b2⟩ := ht
  rw [Nat.zero_add] at st
  refine next_tup_endH (x1 := x1) (t := t) (i := items.size) (items := items) ⟨c0, o3, vs, old _ _ c1, c2⟩ st ⟨o2, old _ _ b1, b2⟩ (by simp) fun h'' eb => ?_
  dsimp only
  rw [if_neg (by simp)]
  refine wpAny_pure ?_
  exact q h'' fun b o e => eb b o (Nat.ne_of_lt (get_lt e)) (old b o e)
theorem pg_tupH {X : Cx} {pos : Pos} {es : List Expr} {k : Nat} {t : TGs} {n : Nat} (hc : HotC X) (h : PGs X es t) (hn : (assignEach es X.env).length = n := by rfl) (hs : (assignEach es X.env).findIdx? (fun x => x.1) = none := by rfl) : PG X (.Tuple es k pos) (gTup X.K n t) := ⟨fun pins s σ H v u Q I r q => by
  obtain ⟨a, xs, rfl, hq, hl, q⟩ := q
  cases r
  obtain ⟨its, rv, ht, hz⟩ := I.tuple hq
  obtain ⟨x1, hot⟩ := hc.at I
  have hlen := vals_len rv
  have e0 : assign (.Tuple es k pos) X.env (.ref a) = (standAt pos >>= fun _ => unpack (.ref a) (assignEach es X.env)) := by unfold assign; rfl
  rw [e0]
  refine wpAny_bind (wpAny_standAt ?_)
  unfold unpack
  rw [hs]
  have e1 : (assignEach es X.env).length = its.toArray.size := by rw [hn, ← hl, hlen]; simp
  rw [e1]
  refine wpAny_bind (wpAny_holding (unpackItems_tupH hot ht fun h' hk => ?_))
  exact h.run pins _ σ H xs its Q (I.kept (t' := s.toks) hk) rv q⟩
end
end J

set_option linter.all false
set_option maxRecDepth 100000
set_option maxHeartbeats 4000000
/-! # a list walked backwards -/
namespace J
open PySem PySem.Spec PyProof.Rows L2 RZ
section
variable {X : Cx} {p : Pm} {a : Expr} {pos : Pos}
theorem walks_rev {K : PySem.W.Frag} {G : Hp} {b : Addr} {xs : List V} {ds : List D} (r : SqL K G b xs) (q : DvAll K G xs ds) : Walks K (Itv K b xs.length) G ds.reverse := fun G1 H1 i k k1 => by
  have s1 : SqL K H1 b xs := (k.trans k1.kp).sqL r
  have hl := q.length
  rw [List.length_reverse]
  refine ⟨fun hi => ?_, fun hi => by show xs.length ≤ i; omega⟩
  have hi' : xs.length - 1 - i < xs.length := by omega
  refine ⟨⟨by omega, xs, xs[xs.length - 1 - i], s1, List.getElem?_eq_getElem hi'⟩, fun x H2 y => ?_⟩
  obtain ⟨rfl, y⟩ := y
  obtain ⟨d, hd, rd⟩ := q.get' (y xs s1)
  refine ⟨G1, d, Ext.refl k1, ?_, rd.kp k⟩
  rw [List.getElem?_reverse (by omega), ← hl]
  exact hd
def revR (f : Rho → Res (List D)) : Rho → Res (List D) := fun ρ => (f ρ).bind fun xs => match xs with
  | [.list u] => .ok u.reverse
  | _ => .bad
theorem rev_ {tg : Expr} {f : Rho → Res (List D)} {p1 : Pos} (hm : X.mg "reversed" = none) (ha : PA X [a] (aS p f)) (hK : X.K = p.K := by rfl) (hg : Gl X "reversed" := by rfl) (hs : starEach [a] X.env = [(false, eval a X.env)] := by rfl) : PI X tg (.Call (.Name "reversed" p1) [a] [] pos) (iS p (revR f)) := by
  refine (pi_reversed hg hm ha hs).imp fun σ H Q h => ?_
  obtain ⟨G, ρ, he, hk, ht, h⟩ := h
  refine sp_run he hk ht h fun xs dxs G1 H1 e1 rx h1 => ?_
  have rx : DvAll p.K G1 xs dxs := rx
  split at h1
  · cases rx with
    | cons r rx =>
      cases rx
      cases r
      rename_i r q
      exact ⟨_, _, rfl, by rw [hK]; exact e1.gh.sqL r, by rw [hK]; exact rS_nowI e1.gh h1 (walks_rev r q)⟩
  · exact h1.elim
end
end J

set_option linter.all false
set_option maxRecDepth 100000
set_option maxHeartbeats 4000000
/-! # tests of a text -/
namespace J
open PySem PySem.Spec PyProof.Rows L2 RZ
section
variable {X : Cx} {p : Pm} {o : Expr} {fo : Rho → Res D}
def txtD (g : Str → Bool) : D → Res D
  | .str s => .ok (.bool (g s))
  | _ => .bad
theorem txt_ {g : Str → Bool} {id : String} {name : Str} {apos cpos : Pos} (slot : Slot "str" name id) (hty : typeOf (.builtin id) = pure (.type "method_descriptor")) (hm : MtR X id (fun x xs H Q => ∃ a, x = V.str a ∧ xs = [] ∧ True ∧ Q (V.bl (g a)) H)) (ho : PE X o (eS p fo))
    (hbase : attributeBase o name X.env (eval o X.env) = eval o X.env) (hline : (apos.endLine == cpos.line) = true) :
    PE X (.Call (.Attribute o name apos) [] [] cpos) (eS p (do1 fo (txtD g))) := (pe_bm0 PySem.F.plainAttrs_str slot hty hm ho hbase hline).imp fun σ H Q h => by
  obtain ⟨G, ρ, he, hk, ht, h⟩ := h
  refine sp_run he hk ht h fun x dx G1 H1 e1 rx h1 => ?_
  have rx : Dv p.K G1 x dx := rx
  cases rx with
  | str s => exact ⟨rfl, s, rfl, rfl, trivial, rS_now e1.gh h1 (.bl _)⟩
  | _ => exact (show False from h1).elim
theorem isascii_ {apos cpos : Pos} (ho : PE X o (eS p fo)) (hbase : attributeBase o "isascii" X.env (eval o X.env) = eval o X.env := by rfl) (hline : (apos.endLine == cpos.line) = true := by rfl) : PE X (.Call (.Attribute o "isascii" apos) [] [] cpos) (eS p (do1 fo (txtD Txt.isascii))) := txt_ PySem.F.slot_str_isascii PySem.F.type_str_isascii mt_isascii ho hbase hline
theorem isalpha_ {apos cpos : Pos} (ho : PE X o (eS p fo)) (hbase : attributeBase o "isalpha" X.env (eval o X.env) = eval o X.env := by rfl) (hline : (apos.endLine == cpos.line) = true := by rfl) : PE X (.Call (.Attribute o "isalpha" apos) [] [] cpos) (eS p (do1 fo (txtD Txt.isalpha))) := txt_ PySem.F.slot_str_isalpha PySem.F.type_str_isalpha mt_isalpha ho hbase hline
theorem islower_ {apos cpos : Pos} (ho : PE X o (eS p fo)) (hbase : attributeBase o "islower" X.env (eval o X.env) = eval o X.env := by rfl) (hline : (apos.endLine == cpos.line) = true := by rfl) : PE X (.Call (.Attribute o "islower" apos) [] [] cpos) (eS p (do1 fo (txtD Txt.islower))) := txt_ PySem.F.slot_str_islower PySem.F.type_str_islower mt_islower ho hbase hline
end
end J

set_option linter.all false
set_option maxRecDepth 100000
set_option maxHeartbeats 4000000
/-! # a try whose body raises nothing: the handlers are not looked at -/
namespace J
open PySem PySem.Spec PyProof.Rows L2 RZ
section
variable {X : Cx} {p : Pm} {pos : Pos}
theorem s_tryThru {body : List Stmt} {h₀ : ExceptHandler} {hs : List ExceptHandler} {h : Xc} {g s : Rho → SRes} (hb : PSs X.nox body (sS { p with W := W0 } g)) : PS X (.Try body (h₀ :: hs) [] [] pos) (sS p (tryR0 [] h g s)) := (ps_try_thru0 hb).imp fun De σ H hh => by
  obtain ⟨G0, B, G, ρ, xt, e, ht, hh⟩ := hh
  refine ⟨G0, B, G, ρ, xt, ⟨⟨e.e.len, e.e.sh, e.e.ex, e.e.fd⟩, e.ow, e.ap, e.od, e.ad⟩, ht, ?_⟩
  unfold tryR0 at hh
  have cv : ∀ {W : WX} {σ' : L2.St} {G' H' : Hp} {ρ' : Rho}, EnvO { p with W := W } B G' σ' H' ρ' → EnvO p B G' σ' H' ρ' := fun e => ⟨⟨e.e.len, e.e.sh, e.e.ex, e.e.fd⟩, e.ow, e.ap, e.od, e.ad⟩
  cases q : g ρ with
  | nx ρ' => rw [q] at hh; exact fun σ' G' H' x' k' e' => hh σ' G' H' x' k' (cv e')
  | bk ρ' => rw [q] at hh; exact fun σ' G' H' x' k' e' => hh σ' G' H' x' k' (cv e')
  | ct ρ' => rw [q] at hh; exact fun σ' G' H' x' k' e' => hh σ' G' H' x' k' (cv e')
  | rt d => rw [q] at hh; exact hh
  | rtO d => rw [q] at hh; exact hh
  | bad => rw [q] at hh; exact hh
  | ex c ρ' =>
    rw [q] at hh
    dsimp only at hh
    rw [if_neg (by simp)] at hh
    exact hh.elim
end
end J

set_option linter.all false
set_option maxRecDepth 100000
set_option maxHeartbeats 4000000
/-! # try with several clauses: a class or a tuple of classes, with a name or without -/
namespace LQ
open PySem PySem.Spec PyProof.Rows L2
/-- the error `a` stands before the clauses -/
structure Lnd (X : Cx) (pins : List (Addr × Obj)) (a : Addr) (cls : Value) (d : Option Addr) (σ : L2.St) (H : Hp) (B : Heap) (sI s : Shared) : Prop where
  inv0 : Inv X pins σ H sI
  ground : ∀ b o, sI.heap.get? b = some o → b ∉ frs X.stack → B.get? b = some o
  since : sI.heap.UpToSlots s.heap
  air : HandSPX.FlyingZ B X.stack a (L2N.Zn cls d) s.heap
  apart : H a = none
  os : s.os = sI.os
  bare : AllBare s.gens
section
variable {X : Cx} {pins : List (Addr × Obj)} {a : Addr} {cls : Value} {d : Option Addr} {σ : L2.St} {H : Hp} {B : Heap} {sI s : Shared}
theorem Lnd.inv (y : Lnd X pins a cls d σ H B sI s) : Inv X pins σ H s := y.inv0.landed y.ground y.air.1 y.since y.os y.bare
theorem Lnd.to (y : Lnd X pins a cls d σ H B sI s) {h' : Heap} (z : HandSPX.FlyingZ B X.stack a (L2N.Zn cls d) h') (k : s.heap.UpToSlots h') : Lnd X pins a cls d σ H B sI { s with heap := h' } :=
  ⟨y.inv0, y.ground, y.since.trans k, z, y.apart, y.os, y.bare⟩
theorem air_push {l : List Env} {Z : Obj → Prop} {h : Heap} (y : HandSPX.FlyingZ B l a Z h) (o : Obj) : HandSPX.FlyingZ B l a Z (h.push o) := by
  have k : ∀ b u, h.get? b = some u → (h.push o).get? b = some u := fun b u e => Heap.get?_push_of_some _ e
  obtain ⟨y1, y2, y3, oe, vs, T, oT, ts, w1, w2, w3, w4, w5, w6, w7, w8, w9⟩ := y
  exact ⟨fun b u e => k b u (y1 b u e), y2, y3.of_keeps fun b u e _ => ⟨u, k b u e, rfl⟩, oe, vs, T, oT, ts, k _ _ w1, w2, w3, w4, w5, w6, k _ _ w7, w8, w9⟩
theorem Lnd.more (y : Lnd X pins a cls d σ H B sI s) (o : Obj) : Lnd X pins a cls d σ H B sI { s with heap := s.heap.push o } :=
  y.to (air_push y.air o) (Heap.UpToSlots.of_keeps fun b u e => Heap.get?_push_of_some _ e)
/-- the error's object is no frame -/
theorem Lnd.noFrame (y : Lnd X pins a cls d σ H B sI s) : a ∉ frs X.stack := fun hm => by
  obtain ⟨oe, vs, e, _, hd⟩ := y.air.there
  obtain ⟨_, o', e', n⟩ := y.air.2.2.1.mem hm
  rw [e] at e'
  cases e'
  exact n _ hd
theorem Lnd.suite (y : Lnd X pins a cls d σ H B sI s) (hs : X.stack = X.env :: X.outer) (hf : X.env.frame = some X.env.locals) :
    ∃ oe, L2N.Zn cls d oe ∧ (∃ vs, oe.data = .fields vs) ∧ Inv (X.suite a ((a, oe) :: (X.pn ++ pins))) [] σ H s := by
  obtain ⟨oe, vs, e, hz, hd⟩ := y.air.there
  have nf := y.noFrame
  rw [hs] at nf
  refine ⟨oe, hz, ⟨vs, hd⟩, y.inv.suite e hd y.apart (fun z => nf ?_) fun hm => nf ?_⟩
  · exact List.mem_filterMap.mpr ⟨X.env, List.mem_cons_self, by rw [hf, z]⟩
  · obtain ⟨en, h1, h2⟩ := List.mem_filterMap.mp hm
    exact List.mem_filterMap.mpr ⟨en, List.mem_cons_of_mem _ h1, h2⟩
/-- nobody took it: it flies on -/
theorem Lnd.on {Wout : WX} {D : Ends} (y : Lnd X pins a cls d σ H B sI s) (hs : X.stack = X.env :: X.outer) (hf : X.env.frame = some X.env.locals) (tk : L2N.Takes X Wout) (w : Wout cls d σ H) :
    wpAny (model X.prog X.w) X.A (handleBy (.ref a) X.env []) (SP X pins D) X.xe s := by
  refine wpAny_handleBy_nil ?_
  obtain ⟨_, _, _, oe, vs, T, oT, ts, e1, _, e3, e4, _⟩ := id y.air
  unfold PySem.passOn
  refine wpAny_bind (wpAny_field e1 e3 e4 ?_)
  rw [if_neg (by simp)]
  have last : wpAny (model X.prog X.w) X.A (setFlight (.ref a) X.env.frame) (fun _ t => wpAny (model X.prog X.w) X.A (throw (.ref a) : Sem Flow) (SP X pins D) X.xe t) X.xe s := by
    rw [hf]
    refine HandSPX.setFlight_upZ y.air fun h' z k => wpAny_throw (tk _ _ ?_)
    exact ⟨a, B, sI, pins, σ, H, cls, d, rfl, y.inv0, y.ground, y.since.trans k, .inr (.inr z), y.apart, y.os, y.bare, w⟩
  first
    | exact wpAny_bind (wpAny_pure (wpAny_bind last))
    | exact wpAny_bind last
/-! ### what a clause names -/
inductive ClT (X : Cx) : Expr → List Value → Prop
  | one {x : Str} {c : Value} {p : Pos} (h : L2.Names X x c) : ClT X (.Name x p) [c]
  | two {x1 x2 : Str} {c1 c2 : Value} {p1 p2 pos : Pos} {z} (h1 : L2.Names X x1 c1) (h2 : L2.Names X x2 c2) : ClT X (.Tuple [.Name x1 p1, .Name x2 p2] z pos) [c1, c2]
/-- a class by its name, in the clause's own room -/
theorem Lnd.name (y : Lnd X pins a cls d σ H B sI s) (hs : X.stack = X.env :: X.outer) (hf : X.env.frame = some X.env.locals) {x : Str} {c : Value} {p : Pos} (hn : L2.Names X x c) {Q : Value → Shared → Prop} {E : Value → Shared → Prop} (q : Q c s) :
    wpAny (model X.prog X.w) (X.A.mark (some (.ref a))) (eval (.Name x p) X.env) Q E s := by
  obtain ⟨oe, _, _, I⟩ := y.suite hs hf
  obtain ⟨h1, h2, h3 | ⟨h3, h4, h5⟩⟩ := hn
  · exact ld_glob (X := X.suite a ((a, oe) :: (X.pn ++ pins))) I h1 h3 q h2
  · exact ld_blt (X := X.suite a ((a, oe) :: (X.pn ++ pins))) I h1 h3 h4 q h5 h2
theorem Lnd.looks (y : Lnd X pins a cls d σ H B sI s) : PySem.W.Looks (model X.prog X.w) s.heap (typeOf (.ref a)) cls := by
  obtain ⟨oe, vs, e, hz, _⟩ := y.air.there
  exact fun A Q E t k q => wpAny_typeOf_ref (k _ _ e) (by rw [hz.1]; exact q)
theorem Lnd.test (y : Lnd X pins a cls d σ H B sI s) (hs : X.stack = X.env :: X.outer) (hf : X.env.frame = some X.env.locals) {t : Expr} {cs : List Value} (ht : ClT X t cs) {b : Bool} (hb : PySem.W.exmAny X.K cls cs = some b) {Q : Bool → Shared → Prop} {E : Value → Shared → Prop}
    (q : ∀ s', Lnd X pins a cls d σ H B sI s' → Q b s') :
    wpAny (model X.prog X.w) (X.A.mark (some (.ref a))) (eval t X.env) (fun c s1 => wpAny (model X.prog X.w) (X.A.mark (some (.ref a))) (excMatches (.ref a) c) Q E s1) E s := by
  cases ht with
  | one h =>
    obtain ⟨b1, b2, e1, e2, rfl⟩ := PySem.W.exmAny_cons hb
    cases (show some false = some b2 from e2)
    rw [Bool.or_false] at q
    exact y.name hs hf h ((PySem.W.exm_one (M := model X.prog X.w) y.inv.kIn y.looks e1).here (q _ y))
  | @two x1 x2 k1 k2 _ _ _ _ h1 h2 =>
    refine wpAny_Tuple_spliced (Calls.spliced_cons (y.name hs hf h1 (Calls.spliced_cons (y.name hs hf h2 (Calls.spliced_nil ⟨by rw [sizeLine_eq]; show 2 ≤ 16777216; omega, ?_⟩)))))
    have y2 := y.more { cls := .type "tuple", data := .seq [k1, k2].toArray }
    exact (PySem.W.exm_tup2 (M := model X.prog X.w) y2.inv.kIn y2.looks (Heap.get?_push_size _ rfl) hb).here (q _ y2)
end
/-! ### the clauses -/
def endsBut (i : Nat) (D : Ends) : Ends := { nx := fun σ H => D.nx (σ.set i none) H, rt := D.rt, bk := fun σ H => D.bk (σ.set i none) H, ct := fun σ H => D.ct (σ.set i none) H }
/-- the clauses, and what they wish of an error -/
inductive Cl (X : Cx) : List ExceptHandler → (Ends → WX → WX) → Prop
  | nil : Cl X [] fun _ Wo => Wo
  | bare {t : Expr} {cs : List Value} {b₀ : Stmt} {su : List Stmt} {pos : Pos} {hds : List ExceptHandler} {w : Ends → WX → WX} {ts : Addr → Value → Option Addr → TS} (ht : ClT X t cs)
      (hsu : ∀ (a : Addr) (oe : Obj) (cls : Value) (d : Option Addr) (pn : List (Addr × Obj)), L2N.Zn cls d oe → (∃ vs, oe.data = .fields vs) → PSs (X.suite a ((a, oe) :: pn)) (b₀ :: su) (ts a cls d)) (r : Cl X hds w) :
      Cl X (.ExceptHandler (some t) none (b₀ :: su) pos :: hds) fun D Wo cls d σ H => ∃ b, PySem.W.exmAny X.K cls cs = some b ∧ (b = true → ∀ a, H a = none → ts a cls d D σ H) ∧ (b = false → w D Wo cls d σ H)
  | named {t : Expr} {cs : List Value} {n : Str} {i : Nat} {b₀ : Stmt} {su : List Stmt} {pos : Pos} {hds : List ExceptHandler} {w : Ends → WX → WX} {ts : Addr → Value → Option Addr → TS} (ht : ClT X t cs) (hN : X.N.Nodup) (hi : X.N[i]? = some n) (hl : X.env.kindOf n = some .local)
      (hsu : ∀ (a : Addr) (oe : Obj) (cls : Value) (d : Option Addr) (pn : List (Addr × Obj)), L2N.Zn cls d oe → (∃ vs, oe.data = .fields vs) → PSs (X.suite a ((a, oe) :: pn)) (b₀ :: su) (ts a cls d)) (r : Cl X hds w) :
      Cl X (.ExceptHandler (some t) (some n) (b₀ :: su) pos :: hds) fun D Wo cls d σ H => ∃ b, PySem.W.exmAny X.K cls cs = some b ∧ (b = true → ∀ a, H a = none → ts a cls d (endsBut i D) (σ.set i (some (.ref a))) H) ∧ (b = false → w D Wo cls d σ H)
section
variable {X : Cx} {pins : List (Addr × Obj)} {a : Addr} {cls : Value} {d : Option Addr} {σ : L2.St} {H : Hp} {B : Heap} {sI s : Shared} {Wout : WX} {D : Ends}
/-- one clause after the other -/
theorem Cl.run {hds : List ExceptHandler} {w : Ends → WX → WX} (c : Cl X hds w) (hs : X.stack = X.env :: X.outer) (hf : X.env.frame = some X.env.locals) (tk : L2N.Takes X Wout) :
    ∀ {s : Shared}, Lnd X pins a cls d σ H B sI s → w D Wout cls d σ H → wpAny (model X.prog X.w) X.A (handleBy (.ref a) X.env hds) (SP X pins D) X.xe s := by
  induction c with
  | nil => exact fun y q => y.on hs hf tk q
  | bare ht hsu r ih =>
    intro s y q
    obtain ⟨b, e, yes, no⟩ := q
    refine wpAny_handleBy_cons (codeAny_handlers_test (y.test hs hf ht e fun s1 y1 => ?_)) (by intro z; cases z)
    cases b with
    | false => exact ih y1 (no rfl)
    | true =>
      refine codeAny_handlers_suite (HandSPX.lands_againZ y1.air fun h' z k => ?_)
      have y2 := y1.to z k
      obtain ⟨oe, hz, hd, I⟩ := y2.suite hs hf
      have ok := y2.inv.ok
      refine wpAny_mono ((hsu a oe cls d (X.pn ++ pins) hz hd).run [] _ σ H _ I (yes rfl a y.apart)) (fun f t q => ?_) fun _ _ z => False.elim z
      match f, q with
      | .next, ⟨_, _, J, q⟩ => exact ⟨_, _, J.unsuite ok, q⟩
      | .brk, ⟨_, _, J, q⟩ => exact ⟨_, _, J.unsuite ok, q⟩
      | .cont, ⟨_, _, J, q⟩ => exact ⟨_, _, J.unsuite ok, q⟩
      | .ret u, ⟨_, _, _, J, m, q⟩ => exact ⟨_, _, _, J.unsuite ok, m, q⟩
  | @named t cs n i b₀ su pos hds w ts ht hN hi hl hsu r ih =>
    intro s y q
    obtain ⟨b, e, yes, no⟩ := q
    refine wpAny_handleBy_cons (codeAny_handlers_test (y.test hs hf ht e fun s1 y1 => ?_)) (by intro z; cases z)
    cases b with
    | false => exact ih y1 (no rfl)
    | true =>
      refine codeAny_handlers_suite_as (HandSPX.lands_againZ y1.air fun h' z k => ?_)
      have y2 := y1.to z k
      obtain ⟨oe, hz, hd, I⟩ := y2.suite hs hf
      have ok := y2.inv.ok
      refine store_ok (X := X.suite a ((a, oe) :: (X.pn ++ pins))) (v := .ref a) I hN hi (.inl hl) rfl (fun s5 I5 => ?_) (.inr hl)
      refine wpAny_mono ((hsu a oe cls d (X.pn ++ pins) hz hd).run [] s5 _ H _ I5 (yes rfl a y.apart)) (fun f t q => ?_) fun _ _ z => False.elim z
      match f, q with
      | .next, ⟨_, _, J, q⟩ => exact gone_ok (J.unsuite ok) hN hi hl fun s7 J7 => ⟨_, _, J7, q⟩
      | .brk, ⟨_, _, J, q⟩ => exact gone_ok (J.unsuite ok) hN hi hl fun s7 J7 => ⟨_, _, J7, q⟩
      | .cont, ⟨_, _, J, q⟩ => exact gone_ok (J.unsuite ok) hN hi hl fun s7 J7 => ⟨_, _, J7, q⟩
      | .ret u, ⟨_, _, _, J, m, q⟩ => exact gone_ok (J.unsuite ok) hN hi hl fun s7 J7 => ⟨_, _, _, J7, m, q⟩
theorem ps_tryC {body : List Stmt} {h₀ : ExceptHandler} {hds : List ExceptHandler} {w : Ends → WX → WX} {pos : Pos} {tb : WX → TS} (hs : X.stack = X.env :: X.outer) (hf : X.env.frame = some X.env.locals) (tk : L2N.Takes X Wout)
    (hb : ∀ (W : WX) (pn : List (Addr × Obj)) (xe : Value → Shared → Prop), L2N.Takes (X.tr pn xe) W → PassesOwn (model X.prog X.w) X.A X.env xe → PSs (X.tr pn xe) body (tb W)) (c : Cl X (h₀ :: hds) w) :
    PS X (.Try body (h₀ :: hds) [] [] pos) fun D σ H => tb (w D Wout) D σ H := by
  refine ⟨fun pins s σ H D I q => ?_⟩
  have ok := I.ok
  have fr : X.A.frames = some (X.env :: X.outer) := by rw [ok.frames, hs]
  refine wpAny_Try_except (wpAny_mono ((hb (w D Wout) (X.pn ++ pins) _ (fun u s' y => ?_) PassesOwn.looking).run [] s σ H D (I.toTry _) q) (fun f s1 q1 => ?_) fun _ _ z => z)
  · obtain ⟨a, B, sI, _, σ', H', cls, d, rfl, J', nb, up, sky, na, os, ag, m⟩ := y
    have J : Inv X pins σ' H' sI := J'.ofTry ok
    have sky' : L2.Sky B (X.env :: X.outer) a (L2N.Zn cls d) X.env.locals s'.heap := by rw [← hs]; exact sky
    refine L2N.Sky.land L2N.Zn.steady fr hf sky' fun h' z k => ?_
    exact c.run hs hf tk ⟨J, nb, up.trans k, by rw [hs]; exact z, na, os, ag⟩ m
  · match f, q1 with
    | .next, ⟨_, _, J, q⟩ => exact wpAny_execs_nil ⟨_, _, J.ofTry ok, q⟩
    | .brk, ⟨_, _, J, q⟩ => exact ⟨_, _, J.ofTry ok, q⟩
    | .cont, ⟨_, _, J, q⟩ => exact ⟨_, _, J.ofTry ok, q⟩
    | .ret u, ⟨_, _, _, J, m, q⟩ => exact ⟨_, _, _, J.ofTry ok, m, q⟩
end
end LQ
namespace J
open PySem PySem.Spec PyProof.Rows L2 RZ
/-- a clause: its classes, its name's slot, its suite -/
abbrev Clau := List Xc × Option Nat × (Rho → SRes)
def claR (c : Xc) (ρ : Rho) : List Clau → SRes
  | [] => .ex c ρ
  | (ks, some i, s) :: r => if ks.any (isSub c) = true then sufR i (s ((unex ρ).set i (.exn c))) else claR c ρ r
  | (ks, none, s) :: r => if ks.any (isSub c) = true then sufR0 (s (unex ρ)) else claR c ρ r
def tryC (cs : List Xc) (l : List Clau) (g : Rho → SRes) : Rho → SRes := fun ρ => match g ρ with
  | .ex c ρ' => if c ∈ cs then claR c ρ' l else .bad
  | r => r
section
variable {X : Cx} {p : Pm}
inductive ClJ (X : Cx) (p : Pm) (cs : List Xc) : List ExceptHandler → List Clau → Prop
  | nil : ClJ X p cs [] []
  | bare {t : Expr} {ks : List Xc} {b₀ : Stmt} {su : List Stmt} {pos : Pos} {hds : List ExceptHandler} {l : List Clau} {s : Rho → SRes} (ht : LQ.ClT X t (ks.map fun k => .ref (p.ec k)))
      (hx : ∀ c ∈ cs, PySem.W.exmAny p.K (.ref (p.ec c)) (ks.map fun k => .ref (p.ec k)) = some (ks.any (isSub c)))
      (hsu : ∀ (a : Addr) (oe : Obj) (cls : Value) (d : Option Addr) (pn : List (Addr × Obj)), L2N.Zn cls d oe → (∃ vs, oe.data = .fields vs) → PSs (X.suite a ((a, oe) :: pn)) (b₀ :: su) (sS (p.at cls d a) s)) (r : ClJ X p cs hds l) :
      ClJ X p cs (.ExceptHandler (some t) none (b₀ :: su) pos :: hds) ((ks, none, s) :: l)
  | named {t : Expr} {ks : List Xc} {n : Str} {i : Nat} {b₀ : Stmt} {su : List Stmt} {pos : Pos} {hds : List ExceptHandler} {l : List Clau} {s : Rho → SRes} (ht : LQ.ClT X t (ks.map fun k => .ref (p.ec k)))
      (hx : ∀ c ∈ cs, PySem.W.exmAny p.K (.ref (p.ec c)) (ks.map fun k => .ref (p.ec k)) = some (ks.any (isSub c))) (hN : X.N.Nodup) (hi : X.N[i]? = some n) (hl : X.env.kindOf n = some .local)
      (hsu : ∀ (a : Addr) (oe : Obj) (cls : Value) (d : Option Addr) (pn : List (Addr × Obj)), L2N.Zn cls d oe → (∃ vs, oe.data = .fields vs) → PSs (X.suite a ((a, oe) :: pn)) (b₀ :: su) (sS (p.at cls d a) s)) (r : ClJ X p cs hds l) :
      ClJ X p cs (.ExceptHandler (some t) (some n) (b₀ :: su) pos :: hds) ((ks, some i, s) :: l)
theorem exm_any {K : PySem.W.Frag} {ec : Xc → Addr} {c : Xc} : ∀ ks : List Xc, (∀ k ∈ ks, PySem.W.exmOne K (.ref (ec c)) (.ref (ec k)) = some (isSub c k)) → PySem.W.exmAny K (.ref (ec c)) (ks.map fun k => .ref (ec k)) = some (ks.any (isSub c))
  | [], _ => rfl
  | k :: ks, h => by
    rw [List.map_cons, PySem.W.exmAny, h k (by simp), exm_any ks fun x hx => h x (by simp [hx])]
    rfl
theorem exm_c1 {K : PySem.W.Frag} {ec : Xc → Addr} {cs : List Xc} {k1 : Xc} (h1 : ∀ c ∈ cs, PySem.W.exmOne K (.ref (ec c)) (.ref (ec k1)) = some (isSub c k1)) : ∀ c ∈ cs, PySem.W.exmAny K (.ref (ec c)) ([k1].map fun k => .ref (ec k)) = some ([k1].any (isSub c)) := fun c hc => exm_any _ fun k hk => by
  cases List.mem_singleton.mp hk; exact h1 c hc
theorem exm_c2 {K : PySem.W.Frag} {ec : Xc → Addr} {cs : List Xc} {k1 k2 : Xc} (h1 : ∀ c ∈ cs, PySem.W.exmOne K (.ref (ec c)) (.ref (ec k1)) = some (isSub c k1)) (h2 : ∀ c ∈ cs, PySem.W.exmOne K (.ref (ec c)) (.ref (ec k2)) = some (isSub c k2)) : ∀ c ∈ cs, PySem.W.exmAny K (.ref (ec c)) ([k1, k2].map fun k => .ref (ec k)) = some ([k1, k2].any (isSub c)) := fun c hc => exm_any _ fun k hk => by
  rcases List.mem_cons.mp hk with e | hk
  · subst e; exact h1 c hc
  · cases List.mem_singleton.mp hk; exact h2 c hc
theorem ClJ.ok {cs : List Xc} {hds : List ExceptHandler} {l : List Clau} (hK : X.K = p.K) (c : ClJ X p cs hds l) : ∃ w, LQ.Cl X hds w ∧ ∀ (De : Ends) (c : Xc) (_ : c ∈ cs) (G0 B G' : Hp) (σ' : L2.St) (H' : Hp) (ρ' : Rho),
    Ext G0 B G' H' → EnvO p B G' σ' H' ρ' → TBs p.tb B → sR p G0 B G' De (claR c ρ' l) → w De p.W (.ref (p.ec c)) none σ' H' := by
  induction c with
  | nil => exact ⟨_, .nil, fun De c _ G0 B G' σ' H' ρ' x e t h => h σ' G' H' x (Kp.refl _) e⟩
  | @bare t ks b₀ su pos hds l s ht hx hsu r ih =>
    obtain ⟨w, hw, ih⟩ := ih
    refine ⟨_, .bare ht hsu hw, fun De c hc G0 B G' σ' H' ρ' x e t h => ⟨ks.any (isSub c), by rw [hK]; exact hx c hc, fun yes a ha => ?_, fun no => ?_⟩⟩
    · unfold claR at h
      rw [if_pos yes] at h
      refine ⟨G0, B, G', _, x, EnvO.unex (p := p) (p' := p.at (.ref (p.ec c)) none a) rfl e, t, ?_⟩
      cases q2 : s (J.unex ρ') with
      | nx ρ2 => rw [q2] at h; exact fun σ2 G2 H2 x2 k2 e2 => h _ G2 H2 x2 k2 (e2.unex (by exact rfl))
      | bk ρ2 => rw [q2] at h; exact fun σ2 G2 H2 x2 k2 e2 => h _ G2 H2 x2 k2 (e2.unex (by exact rfl))
      | ct ρ2 => rw [q2] at h; exact fun σ2 G2 H2 x2 k2 e2 => h _ G2 H2 x2 k2 (e2.unex (by exact rfl))
      | rt d => rw [q2] at h; exact h
      | rtO d => rw [q2] at h; exact h
      | ex c2 ρ2 => rw [q2] at h; exact h.elim
      | bad => rw [q2] at h; exact h.elim
    · unfold claR at h
      rw [if_neg (by rw [no]; decide)] at h
      exact ih De c hc G0 B G' σ' H' ρ' x e t h
  | @named t ks n i b₀ su pos hds l s ht hx hN hi hl hsu r ih =>
    obtain ⟨w, hw, ih⟩ := ih
    refine ⟨_, .named ht hN hi hl hsu hw, fun De c hc G0 B G' σ' H' ρ' x e t h => ⟨ks.any (isSub c), by rw [hK]; exact hx c hc, fun yes a ha => ?_, fun no => ?_⟩⟩
    · unfold claR at h
      rw [if_pos yes] at h
      refine ⟨G0, B, G', _, x, (EnvO.unex (p := p) (p' := p.at (.ref (p.ec c)) none a) rfl e).exn i rfl rfl rfl, t, ?_⟩
      cases q2 : s ((J.unex ρ').set i (.exn c)) with
      | nx ρ2 => rw [q2] at h; exact fun σ2 G2 H2 x2 k2 e2 => h _ G2 H2 x2 k2 ((e2.drop i none).unex (by exact rfl))
      | bk ρ2 => rw [q2] at h; exact fun σ2 G2 H2 x2 k2 e2 => h _ G2 H2 x2 k2 ((e2.drop i none).unex (by exact rfl))
      | ct ρ2 => rw [q2] at h; exact fun σ2 G2 H2 x2 k2 e2 => h _ G2 H2 x2 k2 ((e2.drop i none).unex (by exact rfl))
      | rt d => rw [q2] at h; exact h
      | rtO d => rw [q2] at h; exact h
      | ex c2 ρ2 => rw [q2] at h; exact h.elim
      | bad => rw [q2] at h; exact h.elim
    · unfold claR at h
      rw [if_neg (by rw [no]; decide)] at h
      exact ih De c hc G0 B G' σ' H' ρ' x e t h
theorem s_tryC {body : List Stmt} {h₀ : ExceptHandler} {hds : List ExceptHandler} {l : List Clau} {pos : Pos} {g : Rho → SRes} (hK : X.K = p.K) (hs : X.stack = X.env :: X.outer) (hf : X.env.frame = some X.env.locals) (tk : L2N.Takes X p.W) (cs : List Xc)
    (hb : ∀ (W : WX) (pn : List (Addr × Obj)) (xe : Value → Shared → Prop), L2N.Takes (X.tr pn xe) W → PassesOwn (model X.prog X.w) X.A X.env xe → PSs (X.tr pn xe) body (sS { p with W := W } g))
    (c : ClJ X p cs (h₀ :: hds) l) : PS X (.Try body (h₀ :: hds) [] [] pos) (sS p (tryC cs l g)) := by
  obtain ⟨w, hw, go⟩ := c.ok hK
  refine (LQ.ps_tryC (tb := fun W => sS { p with W := W } g) (Wout := p.W) hs hf tk hb hw).imp fun De σ H hh => ?_
  obtain ⟨G0, B, G, ρ, xt, e, ht, hh⟩ := hh
  refine ⟨G0, B, G, ρ, xt, ⟨⟨e.e.len, e.e.sh, e.e.ex, e.e.fd⟩, e.ow, e.ap, e.od, e.ad⟩, ht, ?_⟩
  unfold tryC at hh
  have cv : ∀ {W : WX} {σ' : L2.St} {G' H' : Hp} {ρ' : Rho}, EnvO { p with W := W } B G' σ' H' ρ' → EnvO p B G' σ' H' ρ' := fun e => ⟨⟨e.e.len, e.e.sh, e.e.ex, e.e.fd⟩, e.ow, e.ap, e.od, e.ad⟩
  cases q : g ρ with
  | nx ρ' => rw [q] at hh; exact fun σ' G' H' x' k' e' => hh σ' G' H' x' k' (cv e')
  | bk ρ' => rw [q] at hh; exact fun σ' G' H' x' k' e' => hh σ' G' H' x' k' (cv e')
  | ct ρ' => rw [q] at hh; exact fun σ' G' H' x' k' e' => hh σ' G' H' x' k' (cv e')
  | rt d => rw [q] at hh; exact hh
  | rtO d => rw [q] at hh; exact hh
  | bad => rw [q] at hh; exact hh
  | ex c ρ' =>
    rw [q] at hh
    dsimp only at hh
    by_cases hcs : c ∈ cs
    rotate_left
    · rw [if_neg hcs] at hh; exact hh.elim
    rw [if_pos hcs] at hh
    exact fun σ' G' H' x' k' e' => go De c hcs G0 B G' σ' H' ρ' x' (cv e') ht (hh.kp k')
end
end J

set_option linter.all false
set_option maxRecDepth 100000
set_option maxHeartbeats 4000000
/-! # a, *b = a list -/
namespace LS
open PySem PySem.Spec PyProof.Rows L2
/-- the first, and a new list of the others -/
theorem star_items {prog : Program} {w : World} {A : Around} {E : Value → Shared → Prop} {s : Shared} {l : Addr} {v : Value} {vs : List Value} {Q : List Value → Shared → Prop} (hh : A.handled = none) (hl : s.heap.IsList l (v :: vs).toArray) (hz : vs.length + 1 ≤ sizeLine)
    (hQ : ∀ (h' : Heap) (tk : Nat), (∀ b o, s.heap.get? b = some o → h'.get? b = some o) → Q [v, .ref h'.objs.size] { s with heap := h'.push { cls := .type "list", data := .seq vs.toArray }, toks := tk }) :
    wpAny (model prog w) A (unpackItems (.ref l) 2 (some 1)) Q E s := by
  have ne : l ≠ s.heap.objs.size := by
    obtain ⟨o, e, _⟩ := hl
    exact Nat.ne_of_lt (Heap.lt_size e)
  have sz : (v :: vs).toArray.size = vs.length + 1 := by simp
  unfold unpackItems notIterableAtAll
  refine wpAny_bind (wpAny_bind (wpAny_specialOf hl.typeIs F.slot_list_iter.lookup (wpAny_pure ?_)))
  simp only [Bool.false_eq_true, if_false]
  refine wpAny_bind (wpAny_holding (wpAny_pyIter_list hl (wpAny_bind (wpAny_holding (PySem.W.kun_draw ne 1 0 _ _ ⟨_, Heap.get?_push_size _ rfl, rfl, rfl⟩ (hl.push _) (by omega) fun h1 it1 sb => ?_)))))
  have l1 : h1.IsList l (v :: vs).toArray := (hl.push _).extBut sb.extBut ne
  obtain ⟨oi, ei, _⟩ := id it1
  obtain ⟨ol, el, _⟩ := id l1
  have t1 : ((v :: vs).toArray.toList.drop 0).take 1 = [v] := by simp
  rw [t1, if_neg (by simp)]
  refine wpAny_bind (wpAny_holding (PySem.W.kun_collect (s := { s with heap := h1 }) (T := "list_iterator") (.inr (.inr (.inl rfl))) (PySem.Walks.list (A := A.in1) hh s.heap.objs.size l ne (v :: vs).toArray) (fun j u st => st.1.typeIs) (k := 1) (by omega) ⟨it1, l1⟩ (Heap.lt_size ei) (Heap.lt_size el) (fun h2 tk hk => ?_) (by omega)))
  have t2 : (v :: vs).toArray.toList.drop 1 = vs := by simp
  rw [t2]
  show wpAny _ _ (if vs.length < 2 - 1 - 1 then _ else _) _ _ _
  rw [if_neg (by omega)]
  show wpAny _ _ (newList (vs.take (vs.length - (2 - 1 - 1))) >>= fun D => pure ([v] ++ [D] ++ vs.drop (vs.length - (2 - 1 - 1)))) _ _ _
  rw [show vs.length - (2 - 1 - 1) = vs.length from rfl, List.take_length, List.drop_length]
  refine wpAny_bind (wpAny_newList (wpAny_pure (hQ h2 tk fun b o e => ?_)) (by omega))
  have nb : b ≠ s.heap.objs.size := Nat.ne_of_lt (Heap.lt_size e)
  exact hk b o nb (sb.extBut b o nb (Heap.get?_push_of_some _ e))
/-- what a, *b wishes -/
def gSt (K : PySem.W.Frag) (i j : Nat) : TG := fun v σ H Q => ∃ a x xs, v = .ref a ∧ SqL K H a (x :: xs) ∧ ∀ q, H q = none → Q ((σ.set i (some x)).set j (some (.ref q))) (upd H q (.lst xs))
theorem pg_star {X : Cx} {pos px py ps : Pos} {k : Nat} {x y : Str} {i j : Nat} (hc : X.calm = true) (hN : X.N.Nodup) (hi : X.N[i]? = some x) (hj : X.N[j]? = some y) (hx : Loc X.env.scope x) (hy : Loc X.env.scope y) (fx : X.fn x = true ∨ X.env.scope.names.lookup x = some .local) (fy : X.fn y = true ∨ X.env.scope.names.lookup y = some .local) :
    PG X (.Tuple [.Name x px, .Starred (.Name y py) ps] k pos) (gSt X.K i j) := by
  refine ⟨fun pins s σ H v u Q I r hw => ?_⟩
  obtain ⟨a, z, zs, rfl, hq, hw⟩ := hw
  cases r
  obtain ⟨its, rv, pl, hz⟩ := I.list hq
  have ln := rv.length
  cases rv with
  | @cons _ v0 _ vs r0 rs =>
  rw [PyProof.Rows.assign_Tuple]
  refine wpAny_bind (wpAny_standAt ?_)
  have ea : assignEach [.Name x px, .Starred (.Name y py) ps] X.env = [(false, assign (.Name x px) X.env), (true, assign (.Name y py) X.env)] := rfl
  rw [ea]
  unfold unpack
  refine wpAny_bind (wpAny_holding (star_items (I.ok.hd hc) pl.isList (by simpa [ln] using hz) fun h' tk hk => ?_))
  have I1 : Inv X pins σ H { s with heap := h', toks := tk } := I.kept hk
  have hf : H h'.objs.size = none := I1.hok.fresh (Nat.le_refl _)
  have I2 : Inv X pins σ (upd H h'.objs.size (.lst zs)) { s with heap := h'.push { cls := .type "list", data := .seq vs.toArray }, toks := tk } :=
    I1.laid (t' := tk) (fun b u e => Heap.get?_push_of_some _ e) (Nat.le_refl _) ⟨by simpa [ln] using (show zs.length ≤ sizeLine by simp at hz; omega), vs, 0, rs, Heap.get?_push_size _ rfl⟩
  show wpAny _ _ (assignInOrder [assign (.Name x px) X.env, assign (.Name y py) X.env] [v0, .ref h'.objs.size]) _ _ _
  refine assignInOrder_cons (wpAny_assign_Name (store_ok I2 hN hi hx r0 (fun s3 I3 => ?_) fx))
  refine assignInOrder_cons (wpAny_assign_Name (store_ok (v := .ref h'.objs.size) I3 hN hj hy rfl (fun s4 I4 => ?_) fy))
  exact assignInOrder_nil ⟨_, _, I4, hw _ hf⟩
end LS
namespace J
open PySem PySem.Spec PyProof.Rows L2 RZ
def starAR (i j : Nat) (f : Rho → Res D) : Rho → SRes := fun ρ => evS (f ρ) ρ fun d => match d with
  | .list (d0 :: ds) => .nx ((ρ.set i (.sh d0)).set j (.sh (.list ds)))
  | _ => .bad
section
variable {X : Cx} {p : Pm} {f : Rho → Res D} {e : Expr} {pos : Pos}
theorem s_star {x y : Str} {i j k : Nat} {px py ps pt : Pos} (hK : X.K = p.K) (hc : X.calm = true) (hN : X.N.Nodup) (hi : X.N[i]? = some x) (hj : X.N[j]? = some y) (hx : Loc X.env.scope x) (hy : Loc X.env.scope y) (fx : X.fn x = true ∨ X.env.scope.names.lookup x = some .local) (fy : X.fn y = true ∨ X.env.scope.names.lookup y = some .local)
    (he : PE X e (eS p f)) (hs : swapsWithSole [.Tuple [.Name x px, .Starred (.Name y py) ps] k pt] e pos.line X.env = pure false) (hw : swappedStores [.Tuple [.Name x px, .Starred (.Name y py) ps] k pt] e X.env = pure none)
    (h1 : (assignEach [.Tuple [.Name x px, .Starred (.Name y py) ps] k pt] X.env).map (·.2) = [assign (.Tuple [.Name x px, .Starred (.Name y py) ps] k pt) X.env]) : PS X (.Assign [.Tuple [.Name x px, .Starred (.Name y py) ps] k pt] e pos) (sS p (starAR i j f)) :=
  (ps_asg he (LS.pg_star hc hN hi hj hx hy fx fy) hs hw h1).imp fun De σ H h => by
  obtain ⟨G0, B, G, ρ, xt, en, ht, h⟩ := h
  refine ev_st xt en ht [] h fun d v G' H' hk x' k' e' r xb eb kh => ?_
  cases r with
  | @lst a xs ds sq al =>
    cases al with
    | nil => exact hk.elim
    | @cons v0 vs d0 ds r0 rs =>
      refine ⟨a, v0, vs, rfl, ?_, fun q hq => ?_⟩
      · rw [hK]; exact x'.gh.sqL sq
      have en : Ext G' H' (upd G' q (.lst vs)) (upd H' q (.lst vs)) := Ext.new (o := .lst vs) x'.gh hq
      have e2 := ((e'.ext en).set i (r0.kp en.g)).set j (.lst (.inl (.inl upd_same)) (DvAll.kp en.g rs))
      exact hk _ _ _ (x'.trans en) (k'.trans en.g) e2
  | _ => exact hk.elim
theorem star_A {x y : Str} {i j k : Nat} {px py ps pt : Pos} (hN : X.N.Nodup) (hi : X.N[i]? = some x) (hj : X.N[j]? = some y) (he : PE X e (eS p f)) (hK : X.K = p.K := by rfl) (hc : X.calm = true := by rfl)
    (hx : Loc X.env.scope x := by first | exact Or.inl rfl | exact Or.inr rfl) (hy : Loc X.env.scope y := by first | exact Or.inl rfl | exact Or.inr rfl) (fx : X.fn x = true ∨ X.env.scope.names.lookup x = some .local := by first | exact .inl rfl | exact .inr rfl) (fy : X.fn y = true ∨ X.env.scope.names.lookup y = some .local := by first | exact .inl rfl | exact .inr rfl)
    (hs : swapsWithSole [.Tuple [.Name x px, .Starred (.Name y py) ps] k pt] e pos.line X.env = pure false := by rfl) (hw : swappedStores [.Tuple [.Name x px, .Starred (.Name y py) ps] k pt] e X.env = pure none := by rfl)
    (h1 : (assignEach [.Tuple [.Name x px, .Starred (.Name y py) ps] k pt] X.env).map (·.2) = [assign (.Tuple [.Name x px, .Starred (.Name y py) ps] k pt) X.env] := by rfl) : PS X (.Assign [.Tuple [.Name x px, .Starred (.Name y py) ps] k pt] e pos) (sS p (starAR i j f)) := s_star hK hc hN hi hj hx hy fx fy he hs hw h1
end
end J

set_option linter.all false
set_option maxRecDepth 100000
set_option maxHeartbeats 4000000
/-! # zip of a tuple and a list -/
namespace LR
open PySem PySem.Spec PyProof.Rows L2 RZ
/-- the tuple at a and the list at b as they stand at each turn -/
def ItM (K : PySem.W.Frag) (a b : Addr) : It :=
  ⟨fun i H => ∃ (xs ys : List V) (x y : V), SqT K H a xs ∧ SqL K H b ys ∧ xs[i]? = some x ∧ ys[i]? = some y,
    fun i H v H' => ∃ T x y, v = .ref T ∧ H T = none ∧ H' = upd H T (.tup [x, y]) ∧ (∀ xs, SqT K H a xs → xs[i]? = some x) ∧ ∀ ys, SqL K H b ys → ys[i]? = some y,
    fun i H => ∃ xs ys : List V, SqT K H a xs ∧ SqL K H b ys ∧ (xs.length ≤ i ∨ ys.length ≤ i)⟩
theorem sep_of {z TI TO i1 i2 a b : Addr} (D : ZipApart z TI TO i1 i2 a b) : ZipSep2 z TI TO i1 i2 [i1, a] [i2, b] where
  TIz := D.TIz
  TOz := D.TOz
  TITO := D.TITO
  TIi1 := D.TIi1
  mem1 := by simp
  zf1 := by simp [D.i1z.symm, D.l1z.symm]
  Tf1 := by simp [D.TOi1, D.l1TO.symm]
  TIi2 := D.TIi2
  mem2 := by simp
  zf2 := by simp [D.i2z.symm, D.l2z.symm]
  Tf2 := by simp [D.TOi2, D.l2TO.symm]
  sep1_2 := by simp [D.i12, D.l2i1.symm]
  sep2_1 := by simp [D.i12.symm, D.l1i2.symm]
theorem ex_tup {prog : Program} {w : World} {A : Around} {it t : Addr} {items : Array Value} {i : Nat} {h : Heap} (hh : A.handled = none) (hne : t ≠ it) (h1 : h.IsTupleIter it t i) (h2 : h.IsTuple t items) :
    ∃ (n : Nat) (P : Nat → Value → Prop) (St : Nat → Heap → Prop), Draws prog w A it [it, t] n P St ∧ St i h ∧ i ≤ n ∧ (items.size ≤ i → i = n) := by
  by_cases hl : items.size ≤ i
  · refine ⟨i, fun _ _ => False, fun j h => j = i ∧ h.IsTupleIter it t i ∧ h.IsTuple t items, ⟨?_, ?_, ?_, ?_⟩, ⟨rfl, h1, h2⟩, Nat.le_refl _, fun _ => rfl⟩
    · rintro j g ⟨rfl, ⟨o, ho, _⟩, _⟩; exact ⟨o, ho⟩
    · rintro j g g' ⟨rfl, a, b⟩ hk; exact ⟨rfl, a.at fun o e => hk it (by simp) o e, b.at fun o e => hk t (by simp) o e⟩
    · rintro j s Q E hj ⟨rfl, _⟩ _; omega
    · rintro s Q E ⟨_, a, b⟩ hE; exact wpAny_nextOf_tuple_end hh a b (by simp [hl]) hE
  · exact ⟨_, _, _, Draws.tuple hh it t hne items, ⟨h1, h2⟩, by omega, fun q => absurd q hl⟩
theorem ex_lst {prog : Program} {w : World} {A : Around} {it t : Addr} {items : Array Value} {i : Nat} {h : Heap} (hh : A.handled = none) (hne : t ≠ it) (h1 : h.IsListIter it t i) (h2 : h.IsList t items) :
    ∃ (n : Nat) (P : Nat → Value → Prop) (St : Nat → Heap → Prop), Draws prog w A it [it, t] n P St ∧ St i h ∧ i ≤ n ∧ (items.size ≤ i → i = n) := by
  by_cases hl : items.size ≤ i
  · refine ⟨i, fun _ _ => False, fun j h => j = i ∧ h.IsListIter it t i ∧ h.IsList t items, ⟨?_, ?_, ?_, ?_⟩, ⟨rfl, h1, h2⟩, Nat.le_refl _, fun _ => rfl⟩
    · rintro j g ⟨rfl, ⟨o, ho, _⟩, _⟩; exact ⟨o, ho⟩
    · rintro j g g' ⟨rfl, a, b⟩ hk; exact ⟨rfl, a.at fun o e => hk it (by simp) o e, b.at fun o e => hk t (by simp) o e⟩
    · rintro j s Q E hj ⟨rfl, _⟩ _; omega
    · rintro s Q E ⟨_, a, b⟩ hE; exact wpAny_nextOf_list_end hh a b (by simp [hl]) hE
  · exact ⟨_, _, _, Draws.list hh it t hne items, ⟨h1, h2⟩, by omega, fun q => absurd q hl⟩
theorem turn_zipM {P : Program} {w : World} {K : PySem.W.Frag} {elts : List Expr} {kk : Nat} {tpos : Pos} {a b z TI TO i1 i2 : Addr} (D : ZipApart z TI TO i1 i2 a b) :
    Turn P w K (.Tuple elts kk tpos) (ItM K a b) [z, TI, TO, i1, i2] z (fun i h => IsZip h z TI TO .none ∧ IsTupOf2 h TI (.ref i1) (.ref i2) ∧ (∃ x y, IsTupOf2 h TO x y) ∧ h.IsTupleIter i1 a i ∧ h.IsListIter i2 b i) where
  mem := by simp
  obj := fun i h st c hc => by
    obtain ⟨hz, hTI, ⟨x, y, hTO⟩, ⟨o1, e1, _, d1⟩, ⟨o2, e2, _, d2⟩⟩ := st
    have e' : c = z ∨ c = TI ∨ c = TO ∨ c = i1 ∨ c = i2 := by simpa using hc
    rcases e' with rfl | rfl | rfl | rfl | rfl
    · exact ⟨_, hz, fun v q => nomatch q⟩
    · exact ⟨_, hTI, fun v q => nomatch q⟩
    · exact ⟨_, hTO, fun v q => nomatch q⟩
    · exact ⟨o1, e1, fun v q => by rw [d1] at q; cases q⟩
    · exact ⟨o2, e2, fun v q => by rw [d2] at q; cases q⟩
  keep := fun i h h' st k => by
    obtain ⟨hz, hTI, ⟨x, y, hTO⟩, h1, h2⟩ := st
    exact ⟨k z (by simp) _ hz, k TI (by simp) _ hTI, ⟨x, y, k TO (by simp) _ hTO⟩, h1.at fun o q => k i1 (by simp) o q, h2.at fun o q => k i2 (by simp) o q⟩
  item := by
    intro X hP hw hK hc i pins s σ H E I hf st hg
    subst hP hw hK
    obtain ⟨hz, hTI, ⟨x0, y0, hTO⟩, h1, h2⟩ := st
    obtain ⟨xs, ys, x, y, hqx, hqy, hx, hy⟩ := hg
    obtain ⟨its, rv, p, _⟩ := I.tuple hqx
    obtain ⟨its2, rv2, p2, _⟩ := I.list hqy
    obtain ⟨u, hu, ru⟩ := rv.get hx
    obtain ⟨u2, hu2, ru2⟩ := rv2.get hy
    have hzl : z < s.heap.objs.size := Heap.lt_size hz
    have n1 : i < its.toArray.size := by have := (List.getElem?_eq_some_iff.1 hu).1; simpa using this
    have n2 : i < its2.toArray.size := by have := (List.getElem?_eq_some_iff.1 hu2).1; simpa using this
    refine wpAny_pyNext_zipD2_item (sep_of D) (Draws.tuple (A := X.A.in1) (I.ok.hd hc) i1 a D.l1i1 its.toArray) (Draws.list (A := X.A.in1) (I.ok.hd hc) i2 b D.l2i2 its2.toArray) hz hTI hTO ⟨h1, p⟩ ⟨h2, p2.isList⟩ n1 n2 fun y1 y2 h' tk e1 e2 z' TO' g1 g2 hT hsz hk => ?_
    have e1 : its.toArray[i]? = some y1 := e1
    have e2 : its2.toArray[i]? = some y2 := e2
    obtain rfl : u = y1 := by rw [List.getElem?_toArray, hu] at e1; injection e1
    obtain rfl : u2 = y2 := by rw [List.getElem?_toArray, hu2] at e2; injection e2
    refine ⟨_, rfl, wpAny_letOwnedTupleGo_zip (s := { s with heap := h', toks := tk }) z' fun h'' z'' sb => ?_⟩
    have hT2 : h''.get? s.heap.objs.size = some { cls := .type "tuple", data := .seq #[u, u2] } := (sb.2 _ (Nat.ne_of_gt hzl)).trans hT
    have new : ObjOk X.prog X.w (upd H s.heap.objs.size (.tup [x, y])) h'' s.heap.objs.size (.tup [x, y]) :=
      ⟨by show 2 ≤ sizeLine; decide, [u, u2], .cons ru (.cons ru2 .nil), ⟨_, hT2, rfl, _, rfl⟩⟩
    have I1 : Inv X pins σ (upd H s.heap.objs.size (.tup [x, y])) { s with heap := h'', toks := tk } :=
      I.turnedNew (t' := tk) (ch := [z, TI, TO, i1, i2]) (fun c o hb q => (sb.2 c (fun q' => hb (by simp [q']))).trans (hk c o (fun q' => hb (by simp [q'])) (fun q' => hb (by simp [q'])) (fun q' => hb (by simp [q'])) (fun q' => hb (by simp [q'])) q)) hf (Nat.le_refl _) new
    refine ⟨.ref s.heap.objs.size, _, I1, rfl, ⟨_, x, y, rfl, I.hok.fresh (Nat.le_refl _), rfl, fun l hl => by rw [I.tuple_inj hl hqx]; exact hx, fun l hl => by rw [I.list_inj hl hqy]; exact hy⟩, ⟨z'', ?_, ⟨u, u2, ?_⟩, ?_, ?_⟩, fun c hcm => ?_⟩
    · exact (sb.2 _ D.TIz).trans (hk _ _ D.TIz D.TITO D.TIi1 D.TIi2 hTI)
    · exact (sb.2 _ D.TOz).trans TO'
    · exact g1.1.at fun o q => (sb.2 _ D.i1z).trans q
    · exact g2.1.at fun o q => (sb.2 _ D.i2z).trans q
    · have hlt : c < s.heap.objs.size := by
        have e' : c = z ∨ c = TI ∨ c = TO ∨ c = i1 ∨ c = i2 := by simpa using hcm
        obtain ⟨_, l1, _⟩ := h1
        obtain ⟨_, l2, _⟩ := h2
        rcases e' with rfl | rfl | rfl | rfl | rfl
        · exact hzl
        · exact Heap.lt_size hTI
        · exact Heap.lt_size hTO
        · exact Heap.lt_size l1
        · exact Heap.lt_size l2
      rw [upd_ne (Nat.ne_of_lt hlt)]
      exact (hf c hcm).1
  done := by
    intro X hP hw hK hc i pins s σ H E I hf st hg
    subst hP hw hK
    obtain ⟨hz, hTI, ⟨x0, y0, hTO⟩, h1, h2⟩ := st
    obtain ⟨xs, ys, hqx, hqy, hend⟩ := hg
    obtain ⟨its, rv, p, _⟩ := I.tuple hqx
    obtain ⟨its2, rv2, p2, _⟩ := I.list hqy
    have l1 := rv.length
    have l2 := rv2.length
    obtain ⟨n1, P1, S1, D1, s1, m1, q1⟩ := ex_tup (prog := X.prog) (w := X.w) (A := X.A.in1) (I.ok.hd hc) D.l1i1 h1 p
    obtain ⟨n2, P2, S2, D2, s2, m2, q2⟩ := ex_lst (prog := X.prog) (w := X.w) (A := X.A.in1) (I.ok.hd hc) D.l2i2 h2 p2.isList
    have he : i = n1 ∨ i = n2 := by
      rcases hend with q | q
      · exact .inl (q1 (by simp; omega))
      · exact .inr (q2 (by simp; omega))
    exact wpAny_pyNext_zipD2_end (sep_of D) D1 D2 hz hTI hTO s1 s2 m1 m2 he fun h' tk hk => ⟨rfl, I.turnedL (t' := tk) (ch := [z, TI, TO, i1, i2]) (fun c o hb q =>
      hk c o (fun q' => hb (by simp [q'])) (fun q' => hb (by simp [q'])) (fun q' => hb (by simp [q'])) (fun q' => hb (by simp [q'])) q) hf⟩
  self := fun A i s Q E st h => wpAny_pyIter_zip st.1 h
def iZipM (K : PySem.W.Frag) (ta : TA) : TI := fun σ H R => ta σ H fun vs H1 => ∃ a b xs ys, vs = [.ref a, .ref b] ∧ SqT K H1 a xs ∧ SqL K H1 b ys ∧ R (ItM K a b) H1
theorem pi_zipM {X : Cx} {e e2 : Expr} {ta : TA} {p pos tpos : Pos} {elts : List Expr} {kk : Nat} (hg : Gl X "zip") (hm : X.mg "zip" = none) (ha : PA X [e, e2] ta)
    (hs : starEach [e, e2] X.env = (false, eval e X.env) :: starEach [e2] X.env := by rfl) (hpl : (backTo pos (starEach [e2] X.env)).any (·.1) = false := by rfl) :
    PI X (.Tuple elts kk tpos) (.Call (.Name "zip" p) [e, e2] [] pos) (iZipM X.K ta) := by
  refine ⟨fun pins s σ H R I h => ?_⟩
  refine Call_ (ld_blt I hg hm PyProof.Rows.boot_zip (PyProof.Rows.callWith_type1 (thn (ha.run pos pins s σ H _ I h) fun us s1 ⟨vs, H1, I1, r1, q1⟩ => ?_) hs hpl))
  obtain ⟨a, b, xs, ys, rfl, hqx, hqy, q⟩ := q1
  obtain _ | ⟨r, _ | ⟨r', _ | _⟩⟩ := r1
  cases r
  cases r'
  obtain ⟨its, rv, p1, _⟩ := I1.tuple hqx
  obtain ⟨its2, rv2, p2, _⟩ := I1.list hqy
  obtain ⟨o1, ho1, _⟩ := id p1
  refine zip_begins2 (begins_tuple a its.toArray) (begins_list b its2.toArray) p1 p2.isList fun h' hz hTI hTO g1 g2 hsz hk => wpAny_pyIter_zip hz ?_
  refine ⟨s1.heap.objs.size + 4, [s1.heap.objs.size + 4, s1.heap.objs.size + 2, s1.heap.objs.size + 3, s1.heap.objs.size, s1.heap.objs.size + 1], _, _, H1, rfl, I1.kept (t' := s1.toks) hk, turn_zipM (PySem.W.ktu_apart s1.heap.objs.size a b (Heap.lt_size ho1) p2.lt), ⟨hz, hTI, ⟨_, _, hTO⟩, ⟨_, g1, rfl, rfl⟩, ⟨_, g2, rfl, rfl⟩⟩, fun c hcm => ?_, q⟩
  have hle : s1.heap.objs.size ≤ c := by
    have e' : c = s1.heap.objs.size + 4 ∨ c = s1.heap.objs.size + 2 ∨ c = s1.heap.objs.size + 3 ∨ c = s1.heap.objs.size ∨ c = s1.heap.objs.size + 1 := by simpa using hcm
    rcases e' with z | z | z | z | z <;> rw [z] <;> first | exact Nat.le_refl _ | exact Nat.le_add_right _ _
  exact I1.fpOk hle (I1.hok.fresh hle)
end LR
namespace J
open PySem PySem.Spec PyProof.Rows L2 RZ
theorem walks_zipM {K : PySem.W.Frag} {G : Hp} {a b : Addr} {xs ys : List V} {ds es : List D} (r : SqT K G a xs) (q : DvAll K G xs ds) (r2 : SqL K G b ys) (q2 : DvAll K G ys es) : Walks K (LR.ItM K a b) G (zip2 ds es) := fun G1 H1 i k k1 => by
  have s1 : SqT K H1 a xs := (k.trans k1.kp).sqT r
  have s2 : SqL K H1 b ys := (k.trans k1.kp).sqL r2
  unfold zip2
  rw [List.length_zipWith]
  have l1 := q.length
  have l2 := q2.length
  refine ⟨fun hi => ?_, fun hi => ⟨xs, ys, s1, s2, by omega⟩⟩
  have h1 : i < xs.length := by omega
  have h2 : i < ys.length := by omega
  refine ⟨⟨xs, ys, xs[i], ys[i], s1, s2, by simp [h1], by simp [h2]⟩, fun x H2 y => ?_⟩
  obtain ⟨T, u, v, rfl, hT, rfl, g1, g2⟩ := y
  obtain ⟨d, hd, rd⟩ := q.get' (g1 xs s1)
  obtain ⟨e, he, re⟩ := q2.get' (g2 ys s2)
  have E : Ext G1 H1 (upd G1 T (.tup [u, v])) (upd H1 T (.tup [u, v])) := Ext.new k1 hT
  refine ⟨_, .tuple [d, e], E, ?_, .tup (SqT.of upd_same) (.cons (rd.kp (k.trans E.g)) (.cons (re.kp (k.trans E.g)) .nil))⟩
  rw [List.getElem?_zipWith, hd, he]
def zipMR (f : Rho → Res (List D)) : Rho → Res (List D) := fun ρ => (f ρ).bind fun xs => match xs with
  | [.tuple u, .list v] => .ok (zip2 u v)
  | _ => .bad
theorem zipM_ {X : Cx} {p : Pm} {a b : Expr} {f : Rho → Res (List D)} {p1 pos tpos : Pos} {elts : List Expr} {kk : Nat} (hm : X.mg "zip" = none) (ha : PA X [a, b] (aS p f)) (hK : X.K = p.K := by rfl) (hg : Gl X "zip" := by rfl) (hs : starEach [a, b] X.env = (false, eval a X.env) :: starEach [b] X.env := by rfl) (hpl : (backTo pos (starEach [b] X.env)).any (·.1) = false := by rfl) :
    PI X (.Tuple elts kk tpos) (.Call (.Name "zip" p1) [a, b] [] pos) (iS p (zipMR f)) := by
  refine (LR.pi_zipM hg hm ha hs hpl).imp fun σ H Q h => ?_
  obtain ⟨G, ρ, he, hk, ht, h⟩ := h
  refine sp_run he hk ht h fun xs dxs G1 H1 e1 rx h1 => ?_
  have rx : DvAll p.K G1 xs dxs := rx
  split at h1
  · obtain _ | ⟨r, _ | ⟨r2, _ | _⟩⟩ := rx
    cases r
    cases r2
    rename_i r q _ _ r2 q2
    exact ⟨_, _, _, _, rfl, by rw [hK]; exact e1.gh.sqT r, by rw [hK]; exact e1.gh.sqL r2, by rw [hK]; exact rS_nowI e1.gh h1 (walks_zipM r q r2 q2)⟩
  · exact h1.elim
end J

set_option linter.all false
set_option maxRecDepth 100000
set_option maxHeartbeats 4000000
/-! # len(set(a list of ints)) -/
namespace LU
open PySem PySem.Spec PyProof.Rows L2 RZ
/-- how many different ints there are -/
def cntI (ns : List Int) : Nat := (PyProof.Rows.firstMet (fun i => ns.getD i 0) ns.length).length
def tLenSet (K : PySem.W.Frag) (ta : TE) : TE := fun σ H Q => ta σ H fun x H1 => ∃ (l : Addr) (ns : List Int), x = .ref l ∧ SqL K H1 l (ns.map V.int) ∧ ns.length ≤ 4000 ∧ Q (.int (cntI ns : Nat)) H1
theorem pe_lenSet {X : Cx} {a : Expr} {ta : TE} {p p2 q pos : Pos} (hg : Gl X "len") (hm : X.mg "len" = none) (hg2 : Gl X "set") (hm2 : X.mg "set" = none) (ha : PE X a ta) (hc : X.calm = true := by rfl)
    (na : starEach [a] X.env = (false, eval a X.env) :: starEach [] X.env := by rfl) : PE X (.Call (.Name "len" p) [.Call (.Name "set" p2) [a] [] q] [] pos) (tLenSet X.K ta) := by
  refine ⟨fun pins s σ H Q I h => ?_⟩
  refine Call_ (ld_blt I hg hm boot_len ?_)
  refine PyProof.Rows.callWith_builtin1 (PyProof.Rows.args_cons ?_ rfl) rfl rfl
  refine Call_ (ld_blt I hg2 hm2 boot_set ?_)
  refine PyProof.Rows.callWith_type1 (PyProof.Rows.args_cons (thn (ha.run pins s σ H _ I h) fun v s1 ⟨x, H1, I1, r1, q1⟩ => PyProof.Rows.args_nil ?_) na) na rfl
  obtain ⟨l, ns, rfl, hq, hl, q1⟩ := q1
  cases r1
  obtain ⟨its, r, pl, hz⟩ := I1.list hq
  have hlen : its.toArray.size = ns.length := by rw [List.size_toArray, ← r.length, List.length_map]
  have hle := PyProof.Rows.firstMet_length_le (fun i => ns.getD i 0) ns.length
  refine call_set_list (I1.ok.hd hc) pl.isList (by simpa using intsAre_vals r) (by rw [hlen]; unfold scanBound; omega) fun h' tk hS hk => ?_
  refine PyProof.Rows.args_nil ?_
  rw [hlen] at hS
  obtain ⟨o, es, ep, t, ho, hex, hd, _, _, _, hf, hn⟩ := hS
  have I2 : Inv X pins σ H1 { s1 with heap := h', toks := tk } := I1.kept fun b o e => hk b o (Heap.lt_size e) e
  exact call_len_set ho hex hd hf (by rw [hn] <;> omega) ⟨.int (cntI ns : Nat), H1, I2.tok _, ⟨_, by rw [hn]; rfl⟩, q1⟩
end LU
namespace J
open PySem PySem.Spec PyProof.Rows L2 RZ
def intsD : List D → Option (List Int)
  | [] => some []
  | .int i :: ds => (intsD ds).map (i :: ·)
  | _ :: _ => none
theorem ints_dv {K : PySem.W.Frag} {G : Hp} : ∀ {xs : List V} {ds : List D} {ns : List Int}, DvAll K G xs ds → intsD ds = some ns → xs = ns.map V.int
  | _, _, ns, .nil, h => by
    have : some [] = some ns := h
    injection this with this
    subst this; rfl
  | _, _, ns, .cons (d := d) (ds := ds) r t, h => by
    cases r with
    | int i =>
      have h : (intsD ds).map (i :: ·) = some ns := h
      cases e : intsD ds with
      | none => rw [e] at h; cases h
      | some m =>
        rw [e] at h
        have : some (i :: m) = some ns := h
        injection this with this
        subst this
        rw [ints_dv t e]; rfl
    | _ => cases h
theorem ints_map : ∀ ns : List Int, intsD (ns.map PyData.int) = some ns
  | [] => rfl
  | n :: ns => by
    show (intsD (ns.map PyData.int)).map (n :: ·) = _
    rw [ints_map ns]; rfl
def lenSetD : D → Res D
  | .list ds => match intsD ds with
    | some ns => if ns.length ≤ 4000 then .ok (.int (LU.cntI ns : Nat)) else .bad
    | none => .bad
  | _ => .bad
theorem lenSet_ {X : Cx} {p : Pm} {a : Expr} {f : Rho → Res D} {p1 p2 q pos : Pos} (hm : X.mg "len" = none) (hm2 : X.mg "set" = none) (ha : PE X a (eS p f)) (hK : X.K = p.K := by rfl) (hc : X.calm = true := by rfl) (hg : Gl X "len" := by rfl) (hg2 : Gl X "set" := by rfl)
    (na : starEach [a] X.env = (false, eval a X.env) :: starEach [] X.env := by rfl) : PE X (.Call (.Name "len" p1) [.Call (.Name "set" p2) [a] [] q] [] pos) (eS p (do1 f lenSetD)) := by
  refine (LU.pe_lenSet hg hm hg2 hm2 ha hc na).imp fun σ H Q h => ?_
  obtain ⟨G, ρ, he, hk, ht, h⟩ := h
  refine sp_run he hk ht h fun x dx G1 H1 e1 rx h1 => ?_
  have rx : Dv p.K G1 x dx := rx
  cases rx with
  | lst r q =>
    rename_i l xs ds
    have h1 : rS p σ G1 H1 (relV p.K) (match intsD ds with
      | some ns => if ns.length ≤ 4000 then .ok (.int (LU.cntI ns : Nat)) else .bad
      | none => .bad) Q := h1
    cases e : intsD ds with
    | none => rw [e] at h1; exact h1.elim
    | some ns =>
      rw [e] at h1
      dsimp only at h1
      split at h1
      · rename_i hz
        have ex := ints_dv q e
        subst ex
        exact ⟨_, ns, rfl, by rw [hK]; exact e1.gh.sqL r, hz, rS_now e1.gh h1 (.int _)⟩
      · exact h1.elim
  | _ => exact h1.elim
section
variable {X : Cx} {p : Pm} {e : Expr} {f : Rho → Res D} {pos : Pos}
theorem DvAll.eraseIdx {K : PySem.W.Frag} {G : Hp} : ∀ {vs : List V} {ds : List D} (k : Nat), DvAll K G vs ds → DvAll K G (vs.eraseIdx k) (ds.eraseIdx k)
  | _, _, _, .nil => .nil
  | _, _, 0, .cons h t => t
  | _, _, k + 1, .cons h t => .cons h (DvAll.eraseIdx k t)
/-- xs.append(ys.pop(e)) -/
def popAppR (S : List Nat) (i j : Nat) (f : Rho → Res D) : Rho → SRes := fun ρ => (match ρ[i]?, ρ[j]? with
  | some (.ow ds), some (.ow es) => evS (f (fzs S ρ)) ρ fun d => (match d with
    | .int n => if (0 ≤ n ∧ n < es.length ∧ n < 4611686018427387904) ∧ i ≠ j ∧ ds.length < 16777216 then .nx ((ρ.set j (.ow (es.eraseIdx n.toNat))).set i (.ow (ds ++ [es.getD n.toNat .none]))) else .bad
    | _ => .bad)
  | _, _ => .bad)
theorem s_popApp (S : List Nat) {i j : Nat} {o o2 : Expr} {apos cpos apos2 cpos2 : Pos} (ho : PE X o (tVar i)) (ho2 : PE X o2 (tVar j)) (he : PE X e (eS p f)) (hbase : attributeBase o "append" X.env (eval o X.env) = eval o X.env) (hbase2 : attributeBase o2 "pop" X.env (eval o2 X.env) = eval o2 X.env)
    (hfew : ((backTo cpos (starEach ((.Call (.Attribute o2 "pop" apos2) [e] [] cpos2) :: []) X.env)).all (fun x => !x.1) && (backToKw cpos (keywordEach [] X.env)).all (fun x => x.1.isSome) && decide (((.Call (.Attribute o2 "pop" apos2) [e] [] cpos2 : Expr) :: []).length + ([] : List Keyword).length + (if ([] : List Keyword).isEmpty then 0 else 1) < 30)) = true)
    (hline : (apos.endLine == cpos.line) = true) (hse : starEach ((.Call (.Attribute o2 "pop" apos2) [e] [] cpos2) :: []) X.env = (false, eval (.Call (.Attribute o2 "pop" apos2) [e] [] cpos2) X.env) :: starEach [] X.env) (hplain : (backTo cpos (starEach [] X.env)).any (·.1) = false)
    (hfew2 : ((backTo cpos2 (starEach (e :: []) X.env)).all (fun x => !x.1) && (backToKw cpos2 (keywordEach [] X.env)).all (fun x => x.1.isSome) && decide ((e :: []).length + ([] : List Keyword).length + (if ([] : List Keyword).isEmpty then 0 else 1) < 30)) = true)
    (hline2 : (apos2.endLine == cpos2.line) = true) (hse2 : starEach (e :: []) X.env = (false, eval e X.env) :: starEach [] X.env) (hplain2 : (backTo cpos2 (starEach [] X.env)).any (·.1) = false)
    (hs : swapsWith (.Call (.Attribute o "append" apos) [.Call (.Attribute o2 "pop" apos2) [e] [] cpos2] [] cpos) none pos.line X.env = pure false) :
    PS X (.Expr (.Call (.Attribute o "append" apos) [.Call (.Attribute o2 "pop" apos2) [e] [] cpos2] [] cpos) pos) (sS p (popAppR S i j f)) := (ps_expr (pe_bm PySem.F.plainAttrs_list PySem.F.slot_list_append PySem.F.type_list_append mt_append ho (pa_cons (pe_bm PySem.F.plainAttrs_list PySem.F.slot_list_pop PySem.F.type_list_pop mt_popAt ho2 (pa_cons he pa_nil hse2) hbase2 hfew2 hline2 hse2 hplain2) pa_nil hse) hbase hfew hline hse hplain) hs).imp fun De σ H h => by
  obtain ⟨G0, B, G, ρ, x, e, ht, h⟩ := h
  unfold popAppR at h
  split at h
  · rename_i ds es hi hj
    obtain ⟨a, vs, h1, h2, h3, h4, h5⟩ := e.ow i ds hi
    obtain ⟨b, ws, k1, k2, k3, k4, k5⟩ := e.ow j es hj
    refine ⟨_, h1, .inl ⟨rfl, _, .inl (.inl h4)⟩, ?_⟩
    refine ⟨_, k1, .inl ⟨rfl, _, .inl (.inl k4)⟩, ?_⟩
    refine ev_st x e ht S h fun d w G' H' hk x' k' e' r xb eb kh => ?_
    have r : Dv p.K G' w d := r
    cases r <;> first | exact (show False from hk).elim | skip
    rename_i n
    dsimp only at hk
    split at hk
    · rename_i hz
      obtain ⟨⟨z1, z2, z3⟩, ne, z4⟩ := hz
      have hw : n.toNat < ws.length := by rw [k5.length]; omega
      have he2 : n.toNat < es.length := by omega
      have H1b : H' b = some (.lst ws) := kh _ _ k4 rfl
      have hin : seqIndex? n ws.length = some n.toNat := by
        unfold seqIndex?
        have : n < (ws.length : Int) := by rw [k5.length]; exact z2
        simp [show ¬ n < 0 by omega, z1, this]
      refine ⟨b, ws, n, n.toNat, ws[n.toNat], rfl, rfl, H1b, by omega, by omega, hin, List.getElem?_eq_getElem hw, ?_⟩
      obtain ⟨g1, g2⟩ := eb.mut xb j hj k1 H1b (k5.eraseIdx n.toNat)
      have hi2 : (ρ.set j (.ow (es.eraseIdx n.toNat)))[i]? = some (.ow ds) := by rw [List.getElem?_set_ne (fun z => ne z.symm)]; exact hi
      obtain ⟨a', vs', m1, m2, m3, m4, m5⟩ := g1.ow i ds hi2
      have ea : a' = a := by rw [h1] at m1; cases m1; rfl
      subst ea
      refine ⟨a', vs', ws[n.toNat], rfl, rfl, m4, by rw [sizeLine_eq, m5.length]; exact z4, ?_⟩
      have ry : Dv p.K G ws[n.toNat] (es.getD n.toNat .none) := by
        obtain ⟨y, hy, ry⟩ := k5.get' (List.getElem?_eq_getElem hw)
        rw [List.getD_eq_getElem?_getD, hy]
        exact ry
      obtain ⟨q1, q2⟩ := g1.mut g2 i hi2 h1 m4 (m5.append (.cons ry .nil))
      exact hk σ G _ q2 (Kp.refl _) q1
    · exact hk.elim
  · exact h.elim
theorem popApp_ (S : List Nat) {i j : Nat} {o o2 : Expr} {apos cpos apos2 cpos2 : Pos} (ho : PE X o (tVar i)) (ho2 : PE X o2 (tVar j)) (he : PE X e (eS p f)) (hbase : attributeBase o "append" X.env (eval o X.env) = eval o X.env := by rfl) (hbase2 : attributeBase o2 "pop" X.env (eval o2 X.env) = eval o2 X.env := by rfl)
    (hfew : ((backTo cpos (starEach ((.Call (.Attribute o2 "pop" apos2) [e] [] cpos2) :: []) X.env)).all (fun x => !x.1) && (backToKw cpos (keywordEach [] X.env)).all (fun x => x.1.isSome) && decide (((.Call (.Attribute o2 "pop" apos2) [e] [] cpos2 : Expr) :: []).length + ([] : List Keyword).length + (if ([] : List Keyword).isEmpty then 0 else 1) < 30)) = true := by rfl)
    (hline : (apos.endLine == cpos.line) = true := by rfl) (hse : starEach ((.Call (.Attribute o2 "pop" apos2) [e] [] cpos2) :: []) X.env = (false, eval (.Call (.Attribute o2 "pop" apos2) [e] [] cpos2) X.env) :: starEach [] X.env := by rfl) (hplain : (backTo cpos (starEach [] X.env)).any (·.1) = false := by rfl)
    (hfew2 : ((backTo cpos2 (starEach (e :: []) X.env)).all (fun x => !x.1) && (backToKw cpos2 (keywordEach [] X.env)).all (fun x => x.1.isSome) && decide ((e :: []).length + ([] : List Keyword).length + (if ([] : List Keyword).isEmpty then 0 else 1) < 30)) = true := by rfl)
    (hline2 : (apos2.endLine == cpos2.line) = true := by rfl) (hse2 : starEach (e :: []) X.env = (false, eval e X.env) :: starEach [] X.env := by rfl) (hplain2 : (backTo cpos2 (starEach [] X.env)).any (·.1) = false := by rfl)
    (hs : swapsWith (.Call (.Attribute o "append" apos) [.Call (.Attribute o2 "pop" apos2) [e] [] cpos2] [] cpos) none pos.line X.env = pure false := by rfl) :
    PS X (.Expr (.Call (.Attribute o "append" apos) [.Call (.Attribute o2 "pop" apos2) [e] [] cpos2] [] cpos) pos) (sS p (popAppR S i j f)) := s_popApp S ho ho2 he hbase hbase2 hfew hline hse hplain hfew2 hline2 hse2 hplain2 hs
end
end J

set_option linter.all false
set_option maxRecDepth 100000
set_option maxHeartbeats 4000000
/-! # a value that was read beside own lists, which lies in none of them -/
namespace J
open PySem PySem.Spec PyProof.Rows L2 RZ
mutual
/-- no part of the data is the list ds -/
def noSub (ds : List D) : D → Prop
  | .list es => es ≠ ds ∧ noSubs ds es
  | .tuple es => noSubs ds es
  | _ => True
def noSubs (ds : List D) : List D → Prop
  | [] => True
  | e :: es => noSub ds e ∧ noSubs ds es
end
theorem scal_same {K : PySem.W.Frag} {G G' : Hp} {v : V} {d d' : D} (h : Dv K G v d) (s : scalD d = true) (h' : Dv K G' v d') : d' = d := by
  cases h with
  | non => cases h'; rfl
  | bl b => cases h'; rfl
  | int i => cases h'; rfl
  | str x => cases h'; rfl
  | lst _ _ => cases s
  | tup _ _ => cases s
theorem scal_sames {K : PySem.W.Frag} {G G' : Hp} : ∀ {vs : List V} {ds ds' : List D}, DvAll K G vs ds → ds.all scalD = true → DvAll K G' vs ds' → ds' = ds
  | _, _, _, .nil, _, .nil => rfl
  | _, _, _, .cons r a, h, .cons r' a' => by
    rw [List.all_cons, Bool.and_eq_true] at h
    rw [scal_same r h.1 r', scal_sames a h.2 a']
open Classical in
/-- what is seen of G' without the addresses P -/
noncomputable def lessH (G : Hp) (P : Addr → Prop) : Hp := fun a => if P a then none else G a
theorem less_kp {G G' : Hp} {P : Addr → Prop} (k : Kp G G') (h : ∀ a, P a → G a = none) : Kp G (lessH G' P) := fun a o e n => by
  have np : ¬ P a := fun z => by rw [h a z] at e; cases e
  unfold lessH
  rw [if_neg np]
  exact k a o e n
theorem less_le {G : Hp} {P : Addr → Prop} {a : Addr} {o : HO} (h : lessH G P a = some o) : ¬ P a ∧ G a = some o := by
  unfold lessH at h
  by_cases z : P a
  · rw [if_pos z] at h; cases h
  · rw [if_neg z] at h; exact ⟨z, h⟩
theorem less_no {G : Hp} {P : Addr → Prop} {a : Addr} (h : P a) : lessH G P a = none := by unfold lessH; rw [if_pos h]
theorem less_eq {G : Hp} {P : Addr → Prop} {a : Addr} (h : ¬ P a) : lessH G P a = G a := by unfold lessH; rw [if_neg h]
mutual
theorem Dv.less {K : PySem.W.Frag} {G : Hp} {P : Addr → Prop} {C : D → Prop} (hl : ∀ a xs es, P a → Rd G a (.lst xs) → DvAll K G xs es → ¬ C (.list es)) (ht : ∀ a xs, P a → ¬ Rd G a (.tup xs)) (cl : ∀ es, C (.list es) → ∀ e ∈ es, C e) (ct : ∀ es, C (.tuple es) → ∀ e ∈ es, C e) :
    ∀ {v : V} {d : D}, Dv K G v d → C d → Dv K (lessH G P) v d
  | _, _, .non, _ => .non
  | _, _, .bl b, _ => .bl b
  | _, _, .int i, _ => .int i
  | _, _, .str x, _ => .str x
  | _, _, .lst (a := a) (xs := xs) (ds := es) h q, c => by
    refine .lst ?_ (DvAll.less hl ht cl ct q (cl es c))
    rcases h with h | h
    · have np : ¬ P a := fun z => hl a xs es z h q c
      exact .inl (by unfold Rd at h ⊢; rw [less_eq np]; exact h)
    · exact .inr h
  | _, _, .tup (a := a) (xs := xs) (ds := es) h q, c => by
    refine .tup ?_ (DvAll.less hl ht cl ct q (ct es c))
    rcases h with h | h
    · have np : ¬ P a := fun z => ht a xs z h
      exact .inl (by unfold Rd at h ⊢; rw [less_eq np]; exact h)
    · exact .inr h
theorem DvAll.less {K : PySem.W.Frag} {G : Hp} {P : Addr → Prop} {C : D → Prop} (hl : ∀ a xs es, P a → Rd G a (.lst xs) → DvAll K G xs es → ¬ C (.list es)) (ht : ∀ a xs, P a → ¬ Rd G a (.tup xs)) (cl : ∀ es, C (.list es) → ∀ e ∈ es, C e) (ct : ∀ es, C (.tuple es) → ∀ e ∈ es, C e) :
    ∀ {vs : List V} {ds : List D}, DvAll K G vs ds → (∀ e ∈ ds, C e) → DvAll K (lessH G P) vs ds
  | _, _, .nil, _ => .nil
  | _, _, .cons r a, c => .cons (Dv.less hl ht cl ct r (c _ (by simp))) (DvAll.less hl ht cl ct a fun e he => c e (by simp [he]))
end
theorem noSubs_mem {ds : List D} : ∀ {es : List D}, noSubs ds es → ∀ e ∈ es, noSub ds e
  | _ :: _, h, e, he => by
    rcases List.mem_cons.mp he with rfl | he
    · exact h.1
    · exact noSubs_mem h.2 e he
theorem fzs_ne {j : Nat} : ∀ (S : List Nat) (ρ : Rho), j ∉ S → (fzs S ρ)[j]? = ρ[j]?
  | [], _, _ => rfl
  | i :: S, ρ, h => by
    have hij : i ≠ j := fun z => h (by simp [z])
    have e := fzs_ne S (fz1 ρ i) fun z => h (List.mem_cons_of_mem _ z)
    show (fzs S (fz1 ρ i))[j]? = _
    rw [e]
    unfold fz1
    split <;> first | rfl | rw [List.getElem?_set_ne hij]
/-- the own lists that were read: scalars, and the value has none of them -/
def apartC (S : List Nat) (ρ : Rho) (d : D) : Prop := ∀ i ∈ S, ∀ s, ρ[i]? = some s → (∀ ds, s = .ow ds → ds.all scalD = true ∧ noSub ds d) ∧ ∀ es, s ≠ .od es
mutual
def noB (n : List Int) : D → Bool
  | .list es => !(decide (intsD es = some n)) && noBs n es
  | .tuple es => noBs n es
  | _ => true
def noBs (n : List Int) : List D → Bool
  | [] => true
  | e :: es => noB n e && noBs n es
end
def apartB (S : List Nat) (ρ : Rho) (d : D) : Bool := S.all fun i => match ρ[i]? with
  | some (.ow ds) => (match intsD ds with
    | some n => noB n d
    | none => false)
  | some (.od _) => false
  | _ => true
theorem ints_scal : ∀ {ds : List D} {n : List Int}, intsD ds = some n → ds.all scalD = true
  | [], _, _ => rfl
  | .int i :: ds, n, h => by
    have h : (intsD ds).map (i :: ·) = some n := h
    cases e : intsD ds with
    | none => rw [e] at h; cases h
    | some m =>
      show (true && ds.all scalD) = true
      rw [ints_scal e]; rfl
mutual
theorem no_of {ds : List D} {n : List Int} (hn : intsD ds = some n) : ∀ d : D, noB n d = true → noSub ds d
  | .list es, h => by
    have h : (!(decide (intsD es = some n)) && noBs n es) = true := h
    obtain ⟨h1, h2⟩ := Bool.and_eq_true_iff.mp h
    refine ⟨fun z => ?_, nos_of hn es h2⟩
    subst z
    simp [hn] at h1
  | .tuple es, h => nos_of hn es h
  | .none, _ => trivial
  | .bool _, _ => trivial
  | .int _, _ => trivial
  | .str _, _ => trivial
  | .dict _, _ => trivial
theorem nos_of {ds : List D} {n : List Int} (hn : intsD ds = some n) : ∀ es : List D, noBs n es = true → noSubs ds es
  | [], _ => trivial
  | e :: es, h => by
    have h : (noB n e && noBs n es) = true := h
    obtain ⟨h1, h2⟩ := Bool.and_eq_true_iff.mp h
    exact ⟨no_of hn e h1, nos_of hn es h2⟩
end
theorem apart_of {S : List Nat} {ρ : Rho} {d : D} (h : apartB S ρ d = true) : apartC S ρ d := fun i hi s hs => by
  have h1 := List.all_eq_true.mp h i hi
  rw [hs] at h1
  refine ⟨fun ds e => ?_, fun es e => ?_⟩
  · subst e
    dsimp only at h1
    cases q : intsD ds with
    | none => rw [q] at h1; cases h1
    | some n =>
      rw [q] at h1
      exact ⟨ints_scal q, no_of q d h1⟩
  · subst e
    cases h1
section
variable {X : Cx} {p : Pm} {G0 B G G' H H' : Hp} {σ : L2.St} {ρ : Rho} {De : Ends}
theorem thaw {S : List Nat} {v : V} {d : D} (e : EnvO p B G σ H ρ) (x' : Ext G0 B G' H') (k' : Kp G G') (e' : EnvO p B G' σ H' (fzs S ρ)) (r : Dv p.K G' v d) (xb : Ext G0 B G H') (eb : EnvO p B G σ H' ρ) (c : apartC S ρ d) :
    ∃ G2, Ext G0 B G2 H' ∧ Kp G G2 ∧ EnvO p B G2 σ H' ρ ∧ Dv p.K G2 v d := by
  let P : Addr → Prop := fun a => ∃ (i : Nat) (s : Sl), ρ[i]? = some s ∧ ((∃ ds, s = Sl.ow ds) ∨ ∃ es, s = Sl.od es) ∧ σ[i]? = some (some (V.ref a))
  have pn : ∀ a, P a → G a = none := fun a ⟨i, s, h1, h2, h3⟩ => by
    rcases h2 with ⟨ds, rfl⟩ | ⟨es, rfl⟩
    · obtain ⟨b, vs, q1, q2, q3, q4, q5⟩ := e.ow i ds h1
      rw [h3] at q1; cases q1; exact q3
    · obtain ⟨b, q1, q2, q3, q4⟩ := e.od i es h1
      rw [h3] at q1; cases q1; exact q3
  have kk := less_kp k' pn
  have gs : Gs (lessH G' P) H' := fun a o h => x'.gh a o (less_le h).2
  refine ⟨lessH G' P, ⟨xb.g.trans kk, x'.h, gs, fun a h => ?_, x'.t⟩, kk, ⟨eb.e.kp kk, fun i ds h => ?_, eb.ap, fun i es h => ?_, eb.ad⟩, ?_⟩
  · refine x'.n a fun z => h ?_
    by_cases q : P a
    · exact less_no q
    · rw [less_eq q]; exact z
  · obtain ⟨a, vs, q1, q2, q3, q4, q5⟩ := eb.ow i ds h
    exact ⟨a, vs, q1, q2, less_no ⟨i, _, h, .inl ⟨ds, rfl⟩, q1⟩, q4, q5.kp kk⟩
  · obtain ⟨a, q1, q2, q3, q4⟩ := eb.od i es h
    exact ⟨a, q1, q2, less_no ⟨i, _, h, .inr ⟨es, rfl⟩, q1⟩, q4⟩
  · refine Dv.less (C := fun d => ∀ i ∈ S, ∀ ds, ρ[i]? = some (.ow ds) → noSub ds d) (fun a xs es hP hr q hc => ?_) (fun a xs hP hr => ?_) (fun es hc e he i hi ds hd => noSubs_mem (hc i hi ds hd).2 e he) (fun es hc e he i hi ds hd => noSubs_mem (hc i hi ds hd) e he) r fun i hi ds hd => ((c i hi _ hd).1 ds rfl).2
    · obtain ⟨i, s, h1, h2, h3⟩ := hP
      rcases h2 with ⟨ds, rfl⟩ | ⟨fs, rfl⟩
      · obtain ⟨b, vs, q1, q2, q3, q4, q5⟩ := eb.ow i ds h1
        rw [h3] at q1
        cases q1
        have hg : G' a = some (.lst xs) := by
          rcases hr with hr | ⟨o, hr⟩
          · exact hr
          · have := (x'.gh _ _ hr).2; rw [q4] at this; cases this
        have exs : xs = vs := by
          have := (x'.gh _ _ hg).2
          rw [q4] at this; cases this; rfl
        subst exs
        by_cases hi : i ∈ S
        · exact (hc i hi ds h1).1 (scal_sames q5 ((c i hi _ h1).1 ds rfl).1 q)
        · obtain ⟨b, vs, w1, w2, w3, w4, w5⟩ := e'.ow i ds (by rw [fzs_ne S ρ hi]; exact h1)
          rw [h3] at w1
          cases w1
          rw [w3] at hg; cases hg
      · obtain ⟨b, q1, q2, q3, q4⟩ := eb.od i fs h1
        rw [h3] at q1
        cases q1
        rcases hr with hr | ⟨o, hr⟩ <;> (have := (x'.gh _ _ hr).2; rw [q4] at this; cases this)
    · obtain ⟨i, s, h1, h2, h3⟩ := hP
      rcases h2 with ⟨ds, rfl⟩ | ⟨fs, rfl⟩
      · obtain ⟨b, vs, q1, q2, q3, q4, q5⟩ := eb.ow i ds h1
        rw [h3] at q1
        cases q1
        rcases hr with hr | ⟨o, hr⟩ <;> (have := (x'.gh _ _ hr).2; rw [q4] at this; cases this)
      · obtain ⟨b, q1, q2, q3, q4⟩ := eb.od i fs h1
        rw [h3] at q1
        cases q1
        rcases hr with hr | ⟨o, hr⟩ <;> (have := (x'.gh _ _ hr).2; rw [q4] at this; cases this)
/-- x = e, where e reads own lists -/
def setWR (S : List Nat) (i : Nat) (f : Rho → Res D) : Rho → SRes := fun ρ => evS (f (fzs S ρ)) ρ fun d => if apartB S ρ d = true then .nx (ρ.set i (.sh d)) else .bad
theorem setW_read {S : List Nat} {i : Nat} {f : Rho → Res D} (h : sS p (setWR S i f) De σ H) : eS p f σ H fun v H1 => De.nx (σ.set i (some v)) H1 := by
  obtain ⟨G0, B, G, ρ, x, e, ht, h⟩ := h
  refine ev_st x e ht S h fun d v G' H' hk x' k' e' r xb eb kh => ?_
  split at hk
  · rename_i hz
    have r : Dv p.K G' v d := r
    obtain ⟨G2, y1, y2, y3, y4⟩ := thaw e x' k' e' r xb eb (apart_of hz)
    exact hk _ G2 H' y1 y2 (y3.set i y4)
  · exact hk.elim
theorem setW_ (S : List Nat) {i : Nat} {y : Str} {e : Expr} {f : Rho → Res D} {py pos : Pos} (hN : X.N.Nodup) (hi : X.N[i]? = some y) (he : PE X e (eS p f)) (hx : Loc X.env.scope y := by first | exact Or.inl rfl | exact Or.inr rfl) (hs : swapsWith e (some (.Name y py)) pos.line X.env = pure false := by rfl)
    (hf : X.fn y = true ∨ X.env.scope.names.lookup y = some .local := by first | exact .inl rfl | exact .inr rfl) : PS X (.Assign [.Name y py] e pos) (sS p (setWR S i f)) := (ps_set hN hi hx he hs).imp fun De σ H h => setW_read h
end
end J

set_option linter.all false
set_option maxRecDepth 100000
namespace J
open PySem PySem.Spec PyProof.Rows L2 RZ
/-! ### evaluating mirrors -/
@[simp] theorem do2_e (f g : Rho → Res D) (k : D → D → Res D) (ρ : Rho) : do2 f g k ρ = (f ρ).bind fun x => (g ρ).bind fun y => k x y := rfl
@[simp] theorem do1_e (f : Rho → Res D) (k : D → Res D) (ρ : Rho) : do1 f k ρ = (f ρ).bind k := rfl
@[simp] theorem cI_e (i : Int) (ρ : Rho) : cI i ρ = .ok (.int i) := rfl
@[simp] theorem cS_e (i : Str) (ρ : Rho) : cS i ρ = .ok (.str i) := rfl
@[simp] theorem cB_e (i : Bool) (ρ : Rho) : cB i ρ = .ok (.bool i) := rfl
@[simp] theorem cN_e (ρ : Rho) : cN ρ = .ok .none := rfl
@[simp] theorem rd_0 (s : Sl) (ρ : Rho) : rd 0 (s :: ρ) = match s with | .sh d => .ok d | _ => .bad := by cases s <;> rfl
@[simp] theorem rd_s (i : Nat) (s : Sl) (ρ : Rho) : rd (i + 1) (s :: ρ) = rd i ρ := rfl
@[simp] theorem consR_e (f : Rho → Res D) (g : Rho → Res (List D)) (ρ : Rho) : consR f g ρ = (f ρ).bind fun x => (g ρ).bind fun xs => .ok (x :: xs) := rfl
@[simp] theorem nilR_e (ρ : Rho) : nilR ρ = .ok [] := rfl
@[simp] theorem tstR_e (f : Rho → Res D) (ρ : Rho) : tstR f ρ = (f ρ).bind asB := rfl
@[simp] theorem truR_e (f : Rho → Res D) (ρ : Rho) : truR f ρ = (f ρ).bind truD := rfl
@[simp] theorem asB_e (b : Bool) : asB (.bool b) = .ok b := rfl
@[simp] theorem truB_e (b : Bool) : truD (.bool b) = .ok b := rfl
@[simp] theorem andT_e (u v : Rho → Res Bool) (ρ : Rho) : andT u v ρ = (u ρ).bind fun c => if c = true then v ρ else .ok false := rfl
@[simp] theorem orT_e (u v : Rho → Res Bool) (ρ : Rho) : orT u v ρ = (u ρ).bind fun c => if c = true then .ok true else v ρ := rfl
@[simp] theorem notT_e (u : Rho → Res Bool) (ρ : Rho) : notT u ρ = (u ρ).bind fun c => .ok (!c) := rfl
@[simp] theorem andV_e (f g : Rho → Res D) (ρ : Rho) : andV f g ρ = (f ρ).bind fun x => (asB x).bind fun c => if c = true then g ρ else .ok (.bool false) := rfl
@[simp] theorem orV_e (f g : Rho → Res D) (ρ : Rho) : orV f g ρ = (f ρ).bind fun x => (asB x).bind fun c => if c = true then .ok (.bool true) else g ρ := rfl
@[simp] theorem notV_e (f : Rho → Res D) (ρ : Rho) : notV f ρ = (f ρ).bind fun x => (asB x).bind fun c => .ok (.bool (!c)) := rfl
@[simp] theorem chn_e (f g h : Rho → Res D) (k k' : D → D → Res D) (ρ : Rho) : chn f g h k k' ρ = (f ρ).bind fun x => (g ρ).bind fun y => (k x y).bind fun z => (asB z).bind fun t => if t = true then (h ρ).bind fun w => k' y w else .ok (.bool false) := rfl
@[simp] theorem clR_e (n : Nat) (f : Rho → Res (List D)) (F : List D → Res D) (ρ : Rho) : clR n f F ρ = (f ρ).bind fun ds => if ds.length = n then F ds else .bad := rfl
@[simp] theorem callR_e (f : Rho → Res (List D)) (k : List D → Res D) (ρ : Rho) : callR f k ρ = (f ρ).bind k := rfl
@[simp] theorem tupR_e (f : Rho → Res (List D)) (ρ : Rho) : tupR f ρ = (f ρ).bind fun xs => if xs.length ≤ 16777216 then .ok (.tuple xs) else .bad := rfl
@[simp] theorem nlR_e (f : Rho → Res (List D)) (ρ : Rho) : nlR f ρ = (f ρ).bind fun xs => if xs.length ≤ 16777216 then .ok xs else .bad := rfl
@[simp] theorem nliR_e (f : Rho → Res (List D)) (ρ : Rho) : nliR f ρ = (f ρ).bind listL := rfl
@[simp] theorem nE_e (f : Rho → Res (List D)) (ρ : Rho) : nE f ρ = (f ρ).bind fun ds => .ok (.list ds) := rfl
@[simp] theorem itR_e (f : Rho → Res D) (ρ : Rho) : itR f ρ = (f ρ).bind walkD := rfl
@[simp] theorem walkL_e (xs : List D) : walkD (.list xs) = .ok xs := rfl
@[simp] theorem walkT_e (xs : List D) : walkD (.tuple xs) = .ok xs := rfl
@[simp] theorem cutR_e (f : Rho → Res D) (g h : Rho → Res (Option Int)) (ρ : Rho) : cutR f g h ρ = (f ρ).bind fun x => (g ρ).bind fun lo => (h ρ).bind fun hi => cutD x lo hi := rfl
@[simp] theorem oNone_e (ρ : Rho) : oNone ρ = .ok none := rfl
@[simp] theorem oSome_e (f : Rho → Res D) (ρ : Rho) : oSome f ρ = (f ρ).bind fun d => (asI d).bind fun i => .ok (some i) := rfl
@[simp] theorem asI_e (i : Int) : asI (.int i) = .ok i := rfl
@[simp] theorem cutDL_e (xs : List D) (lo hi : Option Int) : cutD (.list xs) lo hi = .ok (.list (cutL xs lo hi)) := rfl
@[simp] theorem cutDT_e (xs : List D) (lo hi : Option Int) : cutD (.tuple xs) lo hi = .ok (.tuple (cutL xs lo hi)) := rfl
@[simp] theorem evS_if {α : Type} (c : Prop) [Decidable c] (a b : Res α) (ρ : Rho) (k : α → SRes) : evS (if c then a else b) ρ k = if c then evS a ρ k else evS b ρ k := by split <;> rfl
@[simp] theorem fzs_nil (ρ : Rho) : fzs [] ρ = ρ := rfl
@[simp] theorem setR_e (S : List Nat) (i : Nat) (f : Rho → Res D) (ρ : Rho) : setR S i f ρ = evS (f (fzs S ρ)) ρ fun d => if S = [] ∨ scalD d = true then .nx (ρ.set i (.sh d)) else .bad := rfl
@[simp] theorem ownR_e (S : List Nat) (i : Nat) (f : Rho → Res (List D)) (ρ : Rho) : ownR S i f ρ = evS (f (fzs S ρ)) ρ fun ds => if S = [] ∨ ds.all scalD = true then .nx (ρ.set i (.ow ds)) else .bad := rfl
@[simp] theorem seqR_e (g h : Rho → SRes) (ρ : Rho) : seqR g h ρ = match g ρ with | .nx ρ' => h ρ' | r => r := rfl
@[simp] theorem nxR_e (ρ : Rho) : nxR ρ = .nx ρ := rfl
@[simp] theorem brkR_e (ρ : Rho) : brkR ρ = .bk ρ := rfl
@[simp] theorem ctnR_e (ρ : Rho) : ctnR ρ = .ct ρ := rfl
@[simp] theorem retR_e (S : List Nat) (f : Rho → Res D) (ρ : Rho) : retR S f ρ = evS (f (fzs S ρ)) ρ fun d => .rt d := rfl
@[simp] theorem retN_e (ρ : Rho) : retN ρ = .rt .none := rfl
@[simp] theorem raiR_e (c : Xc) (ρ : Rho) : raiR c ρ = .ex c ρ := rfl
@[simp] theorem exR_e (S : List Nat) (f : Rho → Res D) (ρ : Rho) : exR S f ρ = evS (f (fzs S ρ)) ρ fun _ => .nx ρ := rfl
@[simp] theorem ifR_e (S : List Nat) (t : Rho → Res Bool) (g h : Rho → SRes) (ρ : Rho) : ifR S t g h ρ = evS (t (fzs S ρ)) ρ fun c => if c = true then g ρ else h ρ := rfl
@[simp] theorem toFn_rt (d : D) : toFn (.rt d) = .ok d := rfl
@[simp] theorem toFn_rtO (d : List D) : toFn (.rtO d) = .ok (.list d) := rfl
@[simp] theorem toFn_nx (ρ : Rho) : toFn (.nx ρ) = .ok .none := rfl
@[simp] theorem toFn_ex (c : Xc) (ρ : Rho) : toFn (.ex c ρ) = .ex c := rfl
@[simp] theorem startR_e (n : Nat) (ds : List D) : startR n ds = ds.map Sl.sh ++ List.replicate (n - ds.length) .un := rfl
@[simp] theorem addI_e (i j : Int) : addD (.int i) (.int j) = .ok (.int (i + j)) := rfl
@[simp] theorem addII_e (i j : Int) : addI (.int i) (.int j) = .ok (.int (i + j)) := rfl
@[simp] theorem subI_e (i j : Int) : subD (.int i) (.int j) = .ok (.int (i - j)) := rfl
@[simp] theorem negI_e (i : Int) : negD (.int i) = .ok (.int (-i)) := rfl
theorem mul_l {i j : Int} (h1 : -18446744073709551616 < i) (h2 : i < 18446744073709551616) : mulD (.int i) (.int j) = .ok (.int (i * j)) := if_pos (.inl ⟨h1, h2⟩)
theorem mul_r {i j : Int} (h1 : -18446744073709551616 < j) (h2 : j < 18446744073709551616) : mulD (.int i) (.int j) = .ok (.int (i * j)) := if_pos (.inr ⟨h1, h2⟩)
theorem mod_e {i j : Int} (h : 0 < j) : modD (.int i) (.int j) = .ok (.int (i % j)) := if_pos h
theorem fdiv_e {i j : Int} (h : 0 < j) (h2 : j < 18446744073709551616) : fdivD (.int i) (.int j) = .ok (.int (i / j)) := if_pos ⟨h, Int.lt_of_lt_of_le h2 (by decide +kernel)⟩
@[simp] theorem lt_e (i j : Int) : ltD (.int i) (.int j) = .ok (.bool (decide (i < j))) := rfl
@[simp] theorem le_e (i j : Int) : leD (.int i) (.int j) = .ok (.bool (decide (i ≤ j))) := rfl
@[simp] theorem gt_e (i j : Int) : gtD (.int i) (.int j) = .ok (.bool (decide (j < i))) := rfl
@[simp] theorem ge_e (i j : Int) : geD (.int i) (.int j) = .ok (.bool (decide (j ≤ i))) := rfl
theorem shp_int (i : Int) : SeqAt.shaped (.int i) = true := rfl
@[simp] theorem eqI_e (i j : Int) : eqD (.int i) (.int j) = .ok (.bool (decide (i = j))) := by
  unfold eqD
  rw [if_pos ⟨rfl, rfl⟩]
  show Res.ok (PyData.bool (i == j)) = _
  rw [Bool.beq_eq_decide_eq]
@[simp] theorem neI_e (i j : Int) : neD (.int i) (.int j) = .ok (.bool (!decide (i = j))) := by
  unfold neD
  rw [if_pos ⟨rfl, rfl⟩]
  show Res.ok (PyData.bool (!(i == j))) = _
  rw [Bool.beq_eq_decide_eq]
@[simp] theorem isN_e : isD .none .none = .ok (.bool true) := rfl
@[simp] theorem intI_e (i : Int) : intD [.int i] = .ok (.int i) := rfl
@[simp] theorem intB_e (b : Bool) : intD [.bool b] = .ok (.int (if b then 1 else 0)) := rfl
@[simp] theorem lenL_e (xs : List D) : lenD [.list xs] = .ok (.int xs.length) := rfl
@[simp] theorem lenT_e (xs : List D) : lenD [.tuple xs] = .ok (.int xs.length) := rfl
theorem ixL_e {xs : List D} {i : Int} {d : D} (h0 : 0 ≤ i) (h : xs[i.toNat]? = some d) : ixD (.list xs) (.int i) = .ok d := by
  obtain ⟨k, rfl⟩ := Int.eq_ofNat_of_zero_le h0
  have e : atI xs ((k : Nat) : Int) = some d := atI_nat (by simpa using h)
  show (match atI xs ((k : Nat) : Int) with | some d => Res.ok d | none => .bad) = _
  rw [e]
theorem ixT_e {xs : List D} {i : Int} {d : D} (h0 : 0 ≤ i) (h : xs[i.toNat]? = some d) : ixD (.tuple xs) (.int i) = .ok d := by
  obtain ⟨k, rfl⟩ := Int.eq_ofNat_of_zero_le h0
  have e : atI xs ((k : Nat) : Int) = some d := atI_nat (by simpa using h)
  show (match atI xs ((k : Nat) : Int) with | some d => Res.ok d | none => .bad) = _
  rw [e]
/-! ### loops -/
/-- one turn -/
def turnR (b : D → Rho → Res Rho) (gb : Rho → SRes) (fs : List Nat) (d : D) (ρ : Rho) : SRes := match b d ρ with
  | .ok ρ1 => (match gb ρ1 with
    | .nx ρ2 => .nx (forget fs ρ2)
    | .ct ρ2 => .nx (forget fs ρ2)
    | .bk ρ2 => .bk (forget fs ρ2)
    | r => r)
  | _ => .bad
theorem forL_cons (b : D → Rho → Res Rho) (gb : Rho → SRes) (fs : List Nat) (d : D) (ds : List D) (ρ : Rho) : forL b gb fs (d :: ds) ρ = match turnR b gb fs d ρ with
    | .nx ρ2 => forL b gb fs ds ρ2
    | .bk ρ2 => .nx ρ2
    | r => r := by
  show (match b d ρ with | .ok ρ1 => loopS (gb ρ1) (forL b gb fs ds) fs | _ => SRes.bad) = _
  unfold turnR
  cases b d ρ with
  | ok ρ1 =>
    dsimp only
    unfold loopS
    cases gb ρ1 <;> rfl
  | _ => rfl
theorem forL_nil (b : D → Rho → Res Rho) (gb : Rho → SRes) (fs : List Nat) (ρ : Rho) : forL b gb fs [] ρ = .nx ρ := rfl
/-- all turns go on -/
theorem forL_nx {b : D → Rho → Res Rho} {gb : Rho → SRes} {fs : List Nat} (E : Nat → Rho) : ∀ (ds : List D) (k0 : Nat), (∀ (k : Nat) (d : D), ds[k]? = some d → turnR b gb fs d (E (k0 + k)) = .nx (E (k0 + k + 1))) → forL b gb fs ds (E k0) = .nx (E (k0 + ds.length))
  | [], k0, _ => rfl
  | d :: ds, k0, h => by
    have h0 := h 0 d rfl
    rw [Nat.add_zero] at h0
    rw [forL_cons, h0]
    show forL b gb fs ds (E (k0 + 1)) = _
    have := forL_nx E ds (k0 + 1) fun k d' hd => by
      have := h (k + 1) d' (by simpa using hd)
      rw [show k0 + 1 + k = k0 + (k + 1) by omega]; exact this
    rw [this, List.length_cons, show k0 + 1 + ds.length = k0 + (ds.length + 1) by omega]
/-- the same over a range -/
theorem rng_nx {b : D → Rho → Res Rho} {gb : Rho → SRes} {fs : List Nat} (E : Nat → Rho) {lo hi : Int} (h : ∀ k : Nat, k < (hi - lo).toNat → turnR b gb fs (.int (lo + k)) (E k) = .nx (E (k + 1))) : forL b gb fs (rngD lo hi) (E 0) = .nx (E (hi - lo).toNat) := by
  have := forL_nx (b := b) (gb := gb) (fs := fs) E (rngD lo hi) 0 fun k d hd => by
    unfold rngD at hd
    rw [List.getElem?_map] at hd
    obtain ⟨j, h1, h2⟩ := Option.map_eq_some_iff.mp hd
    obtain ⟨h3, h4⟩ := List.getElem?_eq_some_iff.mp h1
    rw [List.getElem_range] at h4
    subst h4
    subst h2
    rw [List.length_range] at h3
    rw [Nat.zero_add]
    exact h k h3
  rw [this]
  unfold rngD
  rw [Nat.zero_add, List.length_map, List.length_range]
/-- a search: each turn goes on with the same, or ends it all with what Pr tells -/
theorem forL_find {b : D → Rho → Res Rho} {gb : Rho → SRes} {fs : List Nat} {ρ : Rho} (Pr : SRes → Prop) : ∀ (ds : List D), (∀ d ∈ ds, turnR b gb fs d ρ = .nx ρ ∨ ((∀ ρ', turnR b gb fs d ρ ≠ .nx ρ') ∧ (∀ ρ', turnR b gb fs d ρ ≠ .bk ρ') ∧ Pr (turnR b gb fs d ρ))) → forL b gb fs ds ρ = .nx ρ ∨ Pr (forL b gb fs ds ρ)
  | [], _ => .inl rfl
  | d :: ds, h => by
    rcases h d List.mem_cons_self with e | ⟨e1, e2, e3⟩
    · rw [forL_cons, e]
      exact forL_find Pr ds fun d' hd => h d' (List.mem_cons_of_mem _ hd)
    · right
      rw [forL_cons]
      cases q : turnR b gb fs d ρ with
      | nx ρ' => exact absurd q (e1 ρ')
      | bk ρ' => exact absurd q (e2 ρ')
      | _ => rw [q] at e3; exact e3
/-- every turn keeps a fact of the state, and none ends the loop -/
theorem forL_inv {b : D → Rho → Res Rho} {gb : Rho → SRes} {fs : List Nat} (I : Nat → Rho → Prop) : ∀ (ds : List D) (k0 : Nat) (ρ : Rho), I k0 ρ → (∀ (k : Nat) (d : D) (ρ : Rho), ds[k]? = some d → I (k0 + k) ρ → ∃ ρ', turnR b gb fs d ρ = .nx ρ' ∧ I (k0 + k + 1) ρ') → ∃ ρ', forL b gb fs ds ρ = .nx ρ' ∧ I (k0 + ds.length) ρ'
  | [], k0, ρ, h0, _ => ⟨ρ, rfl, h0⟩
  | d :: ds, k0, ρ, h0, h => by
    obtain ⟨ρ1, e1, i1⟩ := h 0 d ρ rfl h0
    obtain ⟨ρ2, e2, i2⟩ := forL_inv I ds (k0 + 1) ρ1 i1 fun k d' ρ' hd hI => by
      have := h (k + 1) d' ρ' (by simpa using hd) (by rw [show k0 + (k + 1) = k0 + 1 + k by omega]; exact hI)
      rw [show k0 + 1 + k + 1 = k0 + (k + 1) + 1 by omega]; exact this
    refine ⟨ρ2, ?_, by rw [List.length_cons, show k0 + (ds.length + 1) = k0 + 1 + ds.length by omega]; exact i2⟩
    rw [forL_cons, e1]
    exact e2
/-- a loop that may be left: each turn goes on within I, or leaves with a state in J -/
theorem forL_brk {b : D → Rho → Res Rho} {gb : Rho → SRes} {fs : List Nat} (I : Nat → Rho → Prop) (Jp : Rho → Prop) : ∀ (ds : List D) (k0 : Nat) (ρ : Rho), I k0 ρ → (∀ (k : Nat) (d : D) (ρ : Rho), ds[k]? = some d → I (k0 + k) ρ → (∃ ρ', turnR b gb fs d ρ = .nx ρ' ∧ I (k0 + k + 1) ρ') ∨ ∃ ρ', turnR b gb fs d ρ = .bk ρ' ∧ Jp ρ') → (∀ ρ, I (k0 + ds.length) ρ → Jp ρ) → ∃ ρ', forL b gb fs ds ρ = .nx ρ' ∧ Jp ρ'
  | [], k0, ρ, h0, _, hj => ⟨ρ, rfl, hj ρ h0⟩
  | d :: ds, k0, ρ, h0, h, hj => by
    rcases h 0 d ρ rfl h0 with ⟨ρ1, e1, i1⟩ | ⟨ρ1, e1, i1⟩
    · obtain ⟨ρ2, e2, i2⟩ := forL_brk I Jp ds (k0 + 1) ρ1 i1 (fun k d' ρ' hd hI => by
        have := h (k + 1) d' ρ' (by simpa using hd) (by rw [show k0 + (k + 1) = k0 + 1 + k by omega]; exact hI)
        rw [show k0 + 1 + k + 1 = k0 + (k + 1) + 1 by omega]; exact this) fun ρ' hI => hj ρ' (by rw [List.length_cons, show k0 + (ds.length + 1) = k0 + 1 + ds.length by omega]; exact hI)
      refine ⟨ρ2, ?_, i2⟩
      rw [forL_cons, e1]
      exact e2
    · refine ⟨ρ1, ?_, i1⟩
      rw [forL_cons, e1]
@[simp] theorem forR_e (fi : Rho → Res (List D)) (b : D → Rho → Res Rho) (gb : Rho → SRes) (fs : List Nat) (ρ : Rho) : forR fi b gb fs ρ = evS (fi ρ) ρ fun ds => forL b gb fs ds (forget fs ρ) := rfl
@[simp] theorem forRg_e (S : List Nat) (fi : Rho → Res (List D)) (b : D → Rho → Res Rho) (gb : Rho → SRes) (fs : List Nat) (ρ : Rho) : forRg S fi b gb fs ρ = evS (fi (fzs S ρ)) ρ fun ds => forL b gb fs ds (forget fs ρ) := rfl
theorem rng1_e {f : Rho → Res (List D)} {ρ : Rho} {j : Int} (h : f ρ = .ok [.int j]) (h1 : -4611686018427387904 ≤ j) (h2 : j < 4611686018427387904) : rng1R f ρ = .ok (rngD 0 j) := by
  unfold rng1R
  rw [h]
  exact if_pos ⟨h1, h2⟩
theorem rng2_e {f : Rho → Res (List D)} {ρ : Rho} {i j : Int} (h : f ρ = .ok [.int i, .int j]) (h1 : -4611686018427387904 ≤ j) (h2 : j < 4611686018427387904) (h3 : -4611686018427387904 ≤ i) (h4 : i < 4611686018427387904) : rng2R f ρ = .ok (rngD i j) := by
  unfold rng2R
  rw [h]
  exact if_pos ⟨⟨h3, h4⟩, h1, h2⟩
@[simp] theorem forget_nil (ρ : Rho) : forget [] ρ = ρ := rfl
@[simp] theorem forget_cons (i : Nat) (fs : List Nat) (ρ : Rho) : forget (i :: fs) ρ = forget fs (ρ.set i .un) := rfl
@[simp] theorem bNm_e (i : Nat) (d : D) (ρ : Rho) : bNm i d ρ = .ok (ρ.set i (.sh d)) := rfl
/-! while -/
def wturn (gb : Rho → SRes) (fs : List Nat) (ρ : Rho) : SRes := match gb ρ with
    | .nx ρ2 => .nx (forget fs ρ2)
    | .ct ρ2 => .nx (forget fs ρ2)
    | .bk ρ2 => .bk (forget fs ρ2)
    | r => r
theorem whL_run {t : Rho → Res Bool} {gb : Rho → SRes} {S fs : List Nat} (E : Nat → Rho) : ∀ (m n k0 : Nat), m < n → (∀ k, k < m → t (fzs S (E (k0 + k))) = .ok true ∧ wturn gb fs (E (k0 + k)) = .nx (E (k0 + k + 1))) → t (fzs S (E (k0 + m))) = .ok false → whL t gb S fs n (E k0) = .nx (E (k0 + m))
  | 0, n + 1, k0, _, _, h => by
    unfold whL
    rw [show E k0 = E (k0 + 0) from rfl, h]
    rfl
  | m + 1, n + 1, k0, hn, hs, h => by
    obtain ⟨h1, h2⟩ := hs 0 (Nat.succ_pos m)
    unfold whL
    rw [show E k0 = E (k0 + 0) from rfl, h1]
    show loopS (gb (E (k0 + 0))) (whL t gb S fs n) fs = _
    have ih := whL_run E m n (k0 + 1) (by omega) (fun k hk => by
      have := hs (k + 1) (by omega)
      rw [show k0 + 1 + k = k0 + (k + 1) by omega]; exact this) (by rw [show k0 + 1 + m = k0 + (m + 1) by omega]; exact h)
    unfold wturn at h2
    unfold loopS
    cases q : gb (E (k0 + 0)) with
    | nx ρ2 =>
      rw [q] at h2
      have h3 := SRes.nx.inj h2
      show whL t gb S fs n (forget fs ρ2) = _
      rw [h3, Nat.add_zero, ih, show k0 + 1 + m = k0 + (m + 1) by omega]
    | ct ρ2 =>
      rw [q] at h2
      have h3 := SRes.nx.inj h2
      show whL t gb S fs n (forget fs ρ2) = _
      rw [h3, Nat.add_zero, ih, show k0 + 1 + m = k0 + (m + 1) by omega]
    | bk ρ2 => rw [q] at h2; cases h2
    | rt d => rw [q] at h2; cases h2
    | rtO d => rw [q] at h2; cases h2
    | ex c ρ => rw [q] at h2; cases h2
    | bad => rw [q] at h2; cases h2
@[simp] theorem whR_e (m : Rho → Nat) (t : Rho → Res Bool) (gb : Rho → SRes) (S fs : List Nat) (ρ : Rho) : whR m t gb S fs ρ = whL t gb S fs (m ρ) (forget fs ρ) := rfl
/-- by a measure: a state, a step, until the test falls -/
theorem whL_meas {t : Rho → Res Bool} {gb : Rho → SRes} {S fs : List Nat} {α : Type} (E : α → Rho) (Jp : Rho → Prop) (μ : α → Nat) (I : α → Prop) (hs : ∀ s, I s → (t (fzs S (E s)) = .ok true ∧ ∃ s', wturn gb fs (E s) = .nx (E s') ∧ I s' ∧ μ s' < μ s) ∨ (t (fzs S (E s)) = .ok false ∧ Jp (E s))) : ∀ (n : Nat) (s : α), μ s < n → I s → ∃ ρ', whL t gb S fs n (E s) = .nx ρ' ∧ Jp ρ'
  | 0, s, h, _ => absurd h (Nat.not_lt_zero _)
  | n + 1, s, h, hI => by
    unfold whL
    rcases hs s hI with ⟨h1, s', h2, h3, h4⟩ | ⟨h1, h2⟩
    · rw [h1]
      show ∃ ρ', loopS (gb (E s)) (whL t gb S fs n) fs = .nx ρ' ∧ _
      obtain ⟨ρ', e, j⟩ := whL_meas E Jp μ I hs n s' (by omega) h3
      refine ⟨ρ', ?_, j⟩
      unfold wturn at h2
      unfold loopS
      cases q : gb (E s) with
      | nx ρ2 =>
        rw [q] at h2
        have h5 := SRes.nx.inj h2
        show whL t gb S fs n (forget fs ρ2) = _
        rw [h5]; exact e
      | ct ρ2 =>
        rw [q] at h2
        have h5 := SRes.nx.inj h2
        show whL t gb S fs n (forget fs ρ2) = _
        rw [h5]; exact e
      | bk ρ2 => rw [q] at h2; cases h2
      | rt d => rw [q] at h2; cases h2
      | rtO d => rw [q] at h2; cases h2
      | ex c ρ => rw [q] at h2; cases h2
      | bad => rw [q] at h2; cases h2
    · rw [h1]
      exact ⟨_, rfl, h2⟩
end J

set_option linter.all false
set_option maxRecDepth 100000
namespace J
/-! ### numbers -/
theorem emod_mul_l (a b m : Int) : (a % m * b) % m = (a * b) % m := by rw [Int.mul_emod, Int.emod_emod_of_dvd a (Int.dvd_refl m), ← Int.mul_emod]
theorem emod_mul_r (a b m : Int) : (a * (b % m)) % m = (a * b) % m := by rw [Int.mul_comm, emod_mul_l, Int.mul_comm]
theorem pow_emod (a m : Int) : ∀ n : Nat, (a % m) ^ n % m = a ^ n % m
  | 0 => by simp
  | n + 1 => by rw [Int.pow_succ, Int.pow_succ, emod_mul_r, Int.mul_comm, ← emod_mul_r, pow_emod a m n, emod_mul_r, Int.mul_comm]
theorem mul_pow_emod (x y m : Int) (h : Nat) : (x % m * (y % m) ^ h) % m = (x * y ^ h) % m := by rw [emod_mul_l, ← emod_mul_r, pow_emod, emod_mul_r]
/-- the orders -/
def ords : List Nat := [11, 23, 29, 41, 53, 83, 89, 113, 131, 173, 179, 191, 233, 239, 251, 281, 293, 359, 419, 431, 443, 491, 509, 593, 641, 653, 659, 683, 719, 743, 761, 809, 911, 953, 1013]
def prm (n : Nat) : Bool := 2 ≤ n && (List.range 46).all fun k => k < 2 || n ≤ k || n % k != 0
def chkOrd (n : Nat) : Bool := !(11 ≤ n && prm n && prm (2 * n + 1)) || ords.contains n
theorem chk_ords : (List.range 1014).all chkOrd = true := by decide +kernel
/-- r ^ q is 1 or -1 for all r -/
def chkA (q : Nat) : Bool := (List.range (2 * q)).all fun i => (i + 1) ^ q % (2 * q + 1) == 1 || (i + 1) ^ q % (2 * q + 1) == 2 * q
def chkB (q : Nat) : Bool := (List.range (q - 1)).all fun i => (i + 1) ^ (q - 1) % q == 1
def chkC (q : Nat) : Bool := (List.range q).all fun d => d < 2 || q % d != 0
def chkD (q : Nat) : Bool := q % 2 == 1 && 11 ≤ q && q ≤ 1013
theorem chk_all : (ords.all fun q => chkA q && chkB q && chkC q && chkD q) = true := by decide +kernel
def IsOrd (q : Int) : Prop := ∃ n : Nat, n ∈ ords ∧ q = (n : Int)
theorem ord_chk {n : Nat} (h : n ∈ ords) : chkA n = true ∧ chkB n = true ∧ chkC n = true ∧ chkD n = true := by
  have := List.all_eq_true.mp chk_all n h
  simp only [Bool.and_eq_true] at this
  exact ⟨this.1.1.1, this.1.1.2, this.1.2, this.2⟩
theorem ord_D {q : Int} (h : IsOrd q) : 11 ≤ q ∧ q ≤ 1013 ∧ q % 2 = 1 := by
  obtain ⟨n, hn, rfl⟩ := h
  have := (ord_chk hn).2.2.2
  unfold chkD at this
  simp only [Bool.and_eq_true, beq_iff_eq, decide_eq_true_eq] at this
  omega
theorem ord_A {q r : Int} (h : IsOrd q) (h0 : 0 < r) (h1 : r < 2 * q + 1) : r ^ q.toNat % (2 * q + 1) = 1 ∨ r ^ q.toNat % (2 * q + 1) = 2 * q := by
  obtain ⟨n, hn, rfl⟩ := h
  have hA := (ord_chk hn).1
  unfold chkA at hA
  obtain ⟨k, rfl⟩ : ∃ k : Nat, r = ((k + 1 : Nat) : Int) := ⟨(r - 1).toNat, by omega⟩
  have := List.all_eq_true.mp hA k (List.mem_range.mpr (by omega))
  simp only [Bool.or_eq_true, beq_iff_eq] at this
  have e : ((k + 1 : Nat) : Int) ^ ((n : Int)).toNat % (2 * (n : Int) + 1) = (((k + 1) ^ n % (2 * n + 1) : Nat) : Int) := by
    rw [Int.toNat_natCast]
    push_cast
    rfl
  rw [e]
  omega
theorem ord_B {q s : Int} (h : IsOrd q) (h0 : 0 < s) (h1 : s < q) : s ^ (q.toNat - 1) % q = 1 := by
  obtain ⟨n, hn, rfl⟩ := h
  have hB := (ord_chk hn).2.1
  unfold chkB at hB
  obtain ⟨k, rfl⟩ : ∃ k : Nat, s = ((k + 1 : Nat) : Int) := ⟨(s - 1).toNat, by omega⟩
  have := List.all_eq_true.mp hB k (List.mem_range.mpr (by omega))
  simp only [beq_iff_eq] at this
  have e : ((k + 1 : Nat) : Int) ^ (((n : Int)).toNat - 1) % (n : Int) = (((k + 1) ^ (n - 1) % n : Nat) : Int) := by
    rw [Int.toNat_natCast]
    push_cast
    rfl
  rw [e]
  omega
theorem ord_C {q : Int} (h : IsOrd q) {d : Nat} (h0 : 2 ≤ d) (h1 : d < q.toNat) : q.toNat % d ≠ 0 := by
  obtain ⟨n, hn, rfl⟩ := h
  have hC := (ord_chk hn).2.2.1
  unfold chkC at hC
  rw [Int.toNat_natCast] at h1 ⊢
  have := List.all_eq_true.mp hC d (List.mem_range.mpr h1)
  simp only [Bool.or_eq_true, decide_eq_true_eq, bne_iff_ne] at this
  omega
/-- an element -/
def isEl (q v : Int) : Bool := decide (0 < v) && decide (v < 2 * q + 1) && decide (v ^ q.toNat % (2 * q + 1) = 1)
theorem isEl_iff {q v : Int} : isEl q v = true ↔ 0 < v ∧ v < 2 * q + 1 ∧ v ^ q.toNat % (2 * q + 1) = 1 := by
  unfold isEl
  simp only [Bool.and_eq_true, decide_eq_true_eq]
  exact ⟨fun h => ⟨h.1.1, h.1.2, h.2⟩, fun h => ⟨⟨h.1, h.2.1⟩, h.2.2⟩⟩
/-- powers modulo p -/
def pw (q b : Int) (e : Nat) : Int := b ^ e % (2 * q + 1)
theorem pw_nn {q b : Int} {e : Nat} (h : 11 ≤ q) : 0 ≤ pw q b e ∧ pw q b e < 2 * q + 1 := ⟨Int.emod_nonneg _ (by omega), Int.emod_lt_of_pos _ (by omega)⟩
theorem pw_mul {q b : Int} (i j : Nat) : pw q b i * pw q b j % (2 * q + 1) = pw q b (i + j) := by
  unfold pw
  rw [emod_mul_l, emod_mul_r, Int.pow_add]
theorem pw_pow {q b : Int} (i j : Nat) : pw q (pw q b i) j = pw q b (i * j) := by
  unfold pw
  rw [pow_emod, Int.pow_mul]
theorem pw_base {q b c : Int} (n : Nat) : pw q (b * c) n = pw q b n * pw q c n % (2 * q + 1) := by
  unfold pw
  rw [emod_mul_l, emod_mul_r, Int.mul_pow]
theorem pw_mod {q b : Int} (n : Nat) : pw q (b % (2 * q + 1)) n = pw q b n := by
  unfold pw
  rw [pow_emod]
theorem one_pw {q : Int} (h : 11 ≤ q) (n : Nat) : pw q 1 n = 1 := by
  unfold pw
  rw [Int.one_pow]
  exact Int.emod_eq_of_lt (by omega) (by omega)
theorem pw_pos {q b : Int} (h : IsOrd q) (hb : pw q b q.toNat = 1) (n : Nat) : 0 < pw q b n := by
  have hD := ord_D h
  have h1 := pw_nn (q := q) (b := b) (e := n) hD.1
  rcases Int.lt_or_eq_of_le h1.1 with h2 | h2
  · exact h2
  · exfalso
    have : pw q (pw q b n) q.toNat = 1 := by
      rw [pw_pow, Nat.mul_comm, ← pw_pow, hb, one_pw hD.1]
    rw [← h2] at this
    unfold pw at this
    rw [Int.zero_pow (by omega)] at this
    simp at this
/-- a power of an element is one -/
theorem el_pw {q b : Int} (h : IsOrd q) (hb : isEl q b = true) (n : Nat) : isEl q (pw q b n) = true := by
  have hD := ord_D h
  obtain ⟨b0, b1, b2⟩ := isEl_iff.mp hb
  have b3 : pw q b q.toNat = 1 := b2
  refine isEl_iff.mpr ⟨pw_pos h b3 n, (pw_nn hD.1).2, ?_⟩
  show pw q (pw q b n) q.toNat = 1
  rw [pw_pow, Nat.mul_comm, ← pw_pow, b3, one_pw hD.1]
theorem el_mul {q b c : Int} (h : IsOrd q) (hb : isEl q b = true) (hc : isEl q c = true) : isEl q (b * c % (2 * q + 1)) = true := by
  have hD := ord_D h
  obtain ⟨b0, b1, b2⟩ := isEl_iff.mp hb
  obtain ⟨c0, c1, c2⟩ := isEl_iff.mp hc
  have b3 : pw q b q.toNat = 1 := b2
  have c3 : pw q c q.toNat = 1 := c2
  have e : pw q (b * c) q.toNat = 1 := by
    rw [pw_base, b3, c3]
    exact Int.emod_eq_of_lt (by omega) (by omega)
  have := pw_pos h e 1
  unfold pw at this
  rw [Int.pow_succ, Int.pow_zero, Int.one_mul] at this
  refine isEl_iff.mpr ⟨this, Int.emod_lt_of_pos _ (by omega), ?_⟩
  show pw q _ q.toNat = 1
  rw [pw_mod, e]
theorem el_one {q : Int} (h : IsOrd q) : isEl q 1 = true := isEl_iff.mpr ⟨by omega, by have := ord_D h; omega, one_pw (ord_D h).1 _⟩
/-- squares are elements -/
theorem el_sq {q r : Int} (h : IsOrd q) (h0 : 0 < r) (h1 : r < 2 * q + 1) : isEl q (r * r % (2 * q + 1)) = true := by
  have hD := ord_D h
  have e : pw q (r * r) q.toNat = 1 := by
    rw [pw_base]
    have e1 : pw q r q.toNat = 1 ∨ pw q r q.toNat = 2 * q := ord_A h h0 h1
    rcases e1 with e1 | e1
    · rw [e1]
      exact Int.emod_eq_of_lt (by omega) (by omega)
    · rw [e1]
      have : 2 * q * (2 * q) = 1 + (2 * q + 1) * (2 * q - 1) := by
        rw [Int.mul_sub, Int.add_mul]
        omega
      rw [this, Int.add_mul_emod_self_left]
      exact Int.emod_eq_of_lt (by omega) (by omega)
  have := pw_pos h e 1
  unfold pw at this
  rw [Int.pow_succ, Int.pow_zero, Int.one_mul] at this
  refine isEl_iff.mpr ⟨this, Int.emod_lt_of_pos _ (by omega), ?_⟩
  show pw q _ q.toNat = 1
  rw [pw_mod, e]
theorem neg_pow_odd (s : Int) : ∀ n : Nat, (-s) ^ (2 * n + 1) = -(s ^ (2 * n + 1))
  | 0 => by simp [Int.pow_succ]
  | n + 1 => by
    have e : ∀ t : Int, t ^ (2 * (n + 1) + 1) = t ^ (2 * n + 1) * (t * t) := fun t => by
      rw [show 2 * (n + 1) + 1 = (2 * n + 1) + 1 + 1 by omega, Int.pow_succ, Int.pow_succ, Int.mul_assoc]
    rw [e, e, neg_pow_odd s n, Int.neg_mul_neg, Int.neg_mul]
theorem el_neg {q s : Int} (h : IsOrd q) (hs : isEl q s = true) : isEl q (2 * q + 1 - s) = false := by
  have hD := ord_D h
  obtain ⟨b0, b1, b2⟩ := isEl_iff.mp hs
  cases e : isEl q (2 * q + 1 - s) with
  | false => rfl
  | true =>
    exfalso
    obtain ⟨c0, c1, c2⟩ := isEl_iff.mp e
    obtain ⟨k, hk⟩ : ∃ k : Nat, q.toNat = 2 * k + 1 := ⟨q.toNat / 2, by omega⟩
    have e1 : (2 * q + 1 - s) ^ q.toNat % (2 * q + 1) = (-s) ^ q.toNat % (2 * q + 1) := by
      rw [← pow_emod (2 * q + 1 - s), ← pow_emod (-s)]
      congr 2
      rw [Int.sub_eq_add_neg, Int.add_emod_left]
    rw [e1, hk, neg_pow_odd, ← hk] at c2
    have e2 : (s ^ q.toNat + -(s ^ q.toNat)) % (2 * q + 1) = (1 + 1) % (2 * q + 1) := by
      rw [Int.add_emod, b2, c2]
    rw [Int.add_right_neg, Int.zero_emod, Int.emod_eq_of_lt (by omega) (by omega)] at e2
    omega
/-- an element other than 1 has no power 1 below the order -/
theorem pw_ne {q b : Int} (h : IsOrd q) (hb : pw q b q.toNat = 1) : ∀ (d : Nat), 0 < d → d < q.toNat → pw q b d = 1 → b % (2 * q + 1) = 1 := by
  intro d
  induction d using Nat.strongRecOn with
  | ind d ih =>
    intro h0 h1 hd
    have hD := ord_D h
    by_cases hd1 : d = 1
    · subst hd1
      unfold pw at hd
      rwa [Int.pow_succ, Int.pow_zero, Int.one_mul] at hd
    · have hC := ord_C h (d := d) (by omega) h1
      have hlt : q.toNat % d < d := Nat.mod_lt _ h0
      refine ih (q.toNat % d) hlt (Nat.pos_of_ne_zero hC) (by omega) ?_
      have e : q.toNat = d * (q.toNat / d) + q.toNat % d := (Nat.div_add_mod _ _).symm
      have h2 : pw q b (d * (q.toNat / d)) = 1 := by rw [← pw_pow, hd, one_pw hD.1]
      have h3 := pw_mul (q := q) (b := b) (d * (q.toNat / d)) (q.toNat % d)
      rw [← e, hb, h2, Int.one_mul] at h3
      rw [← h3]
      exact (Int.emod_eq_of_lt (pw_nn hD.1).1 (pw_nn hD.1).2).symm
/-- powers below the order are different -/
theorem pw_inj {q b : Int} (h : IsOrd q) (hb : isEl q b = true) (h1 : b ≠ 1) {i j : Nat} (hi : i < q.toNat) (hj : j < q.toNat) (e : pw q b i = pw q b j) : i = j := by
  have hD := ord_D h
  obtain ⟨b0, b1, b2⟩ := isEl_iff.mp hb
  have b3 : pw q b q.toNat = 1 := b2
  have key : ∀ {i j : Nat}, i < j → j < q.toNat → pw q b i = pw q b j → False := by
    intro i j hij hj e
    have h2 : pw q b (j - i) = 1 := by
      have e1 := pw_mul (q := q) (b := b) i (q.toNat - i)
      have e2 := pw_mul (q := q) (b := b) j (q.toNat - i)
      rw [e, e2, show j + (q.toNat - i) = q.toNat + (j - i) by omega, show i + (q.toNat - i) = q.toNat by omega, b3, ← pw_mul, b3, Int.one_mul] at e1
      rwa [Int.emod_eq_of_lt (pw_nn hD.1).1 (pw_nn hD.1).2] at e1
    have := pw_ne h b3 (j - i) (by omega) (by omega) h2
    rw [Int.emod_eq_of_lt (by omega) b1] at this
    exact h1 this
  rcases Nat.lt_trichotomy i j with h3 | h3 | h3
  · exact (key h3 hj e).elim
  · exact h3
  · exact (key h3 hi e.symm).elim
theorem pw_per {q b : Int} (h : IsOrd q) (hb : isEl q b = true) (n : Nat) : pw q b (n % q.toNat) = pw q b n := by
  have hD := ord_D h
  have b3 : pw q b q.toNat = 1 := (isEl_iff.mp hb).2.2
  have h2 : pw q b (q.toNat * (n / q.toNat)) = 1 := by rw [← pw_pow, b3, one_pw hD.1]
  have h3 := pw_mul (q := q) (b := b) (q.toNat * (n / q.toNat)) (n % q.toNat)
  rw [Nat.div_add_mod, h2, Int.one_mul, Int.emod_eq_of_lt (pw_nn hD.1).1 (pw_nn hD.1).2] at h3
  exact h3
end J

set_option linter.all false
set_option maxRecDepth 100000
namespace J
open PySem PySem.Spec PyProof.Rows L2 RZ
def owAt (i : Nat) (ρ : Rho) : Option (List D) := match ρ[i]? with
  | some (.ow ds) => some ds
  | _ => none
@[simp] theorem owAt_0 (s : Sl) (ρ : Rho) : owAt 0 (s :: ρ) = match s with | .ow d => some d | _ => none := by cases s <;> rfl
@[simp] theorem owAt_s (i : Nat) (s : Sl) (ρ : Rho) : owAt (i + 1) (s :: ρ) = owAt i ρ := rfl
def exAt (i : Nat) (ρ : Rho) : Option Xc := match ρ[i]? with
  | some (.exn c) => some c
  | _ => none
@[simp] theorem exAt_0 (s : Sl) (ρ : Rho) : exAt 0 (s :: ρ) = match s with | .exn d => some d | _ => none := by cases s <;> rfl
@[simp] theorem exAt_s (i : Nat) (s : Sl) (ρ : Rho) : exAt (i + 1) (s :: ρ) = exAt i ρ := rfl
@[simp] theorem appR_e (S : List Nat) (i : Nat) (f : Rho → Res D) (ρ : Rho) : appR S i f ρ = (match owAt i ρ with
  | some ds => evS (f (fzs S ρ)) ρ fun d => if (S = [] ∨ scalD d = true) ∧ ds.length < 16777216 then .nx (ρ.set i (.ow (ds ++ [d]))) else .bad
  | none => .bad) := by
  unfold appR owAt
  cases h : ρ[i]? with
  | none => rfl
  | some s => cases s <;> rfl
@[simp] theorem augR_e (S : List Nat) (i : Nat) (f : Rho → Res D) (ρ : Rho) : augR S i f ρ = (match rd i ρ with
  | .ok a => evS (f (fzs S ρ)) ρ fun d => evS (addI a d) ρ fun r => .nx (ρ.set i (.sh r))
  | _ => .bad) := by
  unfold augR rd
  cases h : ρ[i]? with
  | none => rfl
  | some s => cases s <;> rfl
@[simp] theorem retO_e (i : Nat) (ρ : Rho) : retO i ρ = (match owAt i ρ with
  | some ds => .rtO ds
  | none => .bad) := by
  unfold retO owAt
  cases h : ρ[i]? with
  | none => rfl
  | some s => cases s <;> rfl
@[simp] theorem isxR_e (cs : List Xc) (i : Nat) (t : Xc → Bool) (ρ : Rho) : isxR cs i t ρ = (match exAt i ρ with
  | some c => if c ∈ cs then .ok (.bool (t c)) else .bad
  | none => .bad) := by
  unfold isxR exAt
  cases h : ρ[i]? with
  | none => rfl
  | some s => cases s <;> rfl
@[simp] theorem unex_nil : unex [] = [] := rfl
@[simp] theorem unex_cons (s : Sl) (ρ : Rho) : unex (s :: ρ) = (match s with | .exn _ => .un | s => s) :: unex ρ := rfl
@[simp] theorem tryR_e (cs : List Xc) (h : Xc) (i : Nat) (g s : Rho → SRes) (ρ : Rho) : tryR cs h i g s ρ = match g ρ with
  | .ex c ρ' => if c ∈ cs then (if isSub c h = true then sufR i (s ((unex ρ').set i (.exn c))) else .ex c ρ') else .bad
  | r => r := rfl
@[simp] theorem sufR_rt (i : Nat) (d : D) : sufR i (.rt d) = .rt d := rfl
@[simp] theorem sufR_nx (i : Nat) (ρ : Rho) : sufR i (.nx ρ) = .nx (unex (ρ.set i .un)) := rfl
@[simp] theorem sufR_bk (i : Nat) (ρ : Rho) : sufR i (.bk ρ) = .bk (unex (ρ.set i .un)) := rfl
@[simp] theorem sufR_ct (i : Nat) (ρ : Rho) : sufR i (.ct ρ) = .ct (unex (ρ.set i .un)) := rfl
@[simp] theorem retL_e (S : List Nat) (f : Rho → Res (List D)) (ρ : Rho) : retL S f ρ = evS (f (fzs S ρ)) ρ fun ds => .rtO ds := rfl
@[simp] theorem pow18_e : powD (.int 10) (.int 18) = .ok (.int 1000000000000000000) := rfl
@[simp] theorem fzs_cons (i : Nat) (S : List Nat) (ρ : Rho) : fzs (i :: S) ρ = fzs S (fz1 ρ i) := rfl
@[simp] theorem fz1_0 (s : Sl) (ρ : Rho) : fz1 (s :: ρ) 0 = (match s with | .ow ds => .sh (.list ds) | .od es => .fd es | s => s) :: ρ := by cases s <;> rfl
@[simp] theorem fz1_s (i : Nat) (s : Sl) (ρ : Rho) : fz1 (s :: ρ) (i + 1) = s :: fz1 ρ i := by
  unfold fz1
  show (match ρ[i]? with | some (.ow ds) => (s :: ρ).set (i + 1) (.sh (.list ds)) | some (.od es) => (s :: ρ).set (i + 1) (.fd es) | _ => s :: ρ) = _
  cases ρ[i]? with
  | none => rfl
  | some t => cases t <;> rfl
@[simp] theorem turn_ok {b : D → Rho → Res Rho} {gb : Rho → SRes} {fs : List Nat} {d : D} {ρ ρ1 : Rho} : turnR b gb fs d ρ = (match b d ρ with
  | .ok ρ1 => (match gb ρ1 with
    | .nx ρ2 => .nx (forget fs ρ2)
    | .ct ρ2 => .nx (forget fs ρ2)
    | .bk ρ2 => .bk (forget fs ρ2)
    | r => r)
  | _ => .bad) := rfl
theorem appI (ms : List Int) (m : Int) : ms.map PyData.int ++ [PyData.int m] = (ms ++ [m]).map PyData.int := by simp
theorem cutL_len {α : Type} (xs : List α) : (cutL xs none (some 63)).length ≤ 63 := by
  unfold cutL
  rw [List.length_take]
  have : HT.sIx xs.length xs.length (some 63) ≤ 63 := by
    unfold HT.sIx
    simp
    omega
  omega
theorem cutL_sub {α : Type} (xs : List α) (lo hi : Option Int) : ∀ x ∈ cutL xs lo hi, x ∈ xs := fun x h => List.mem_of_mem_drop (List.mem_of_mem_take h)
@[simp] theorem rng1c (j : Int) (ρ : Rho) : rng1R (consR (cI j) nilR) ρ = if -4611686018427387904 ≤ j ∧ j < 4611686018427387904 then .ok (rngD 0 j) else .bad := rfl
@[simp] theorem rng2c (i j : Int) (ρ : Rho) : rng2R (consR (cI i) (consR (cI j) nilR)) ρ = if (-4611686018427387904 ≤ i ∧ i < 4611686018427387904) ∧ -4611686018427387904 ≤ j ∧ j < 4611686018427387904 then .ok (rngD i j) else .bad := rfl
theorem rngD_mem {lo hi : Int} {d : D} (h : d ∈ rngD lo hi) : ∃ i : Int, d = .int i ∧ lo ≤ i ∧ i < hi := by
  unfold rngD at h
  obtain ⟨k, h1, rfl⟩ := List.mem_map.mp h
  have := List.mem_range.mp h1
  exact ⟨_, rfl, by omega, by omega⟩
theorem rngD_len (lo hi : Int) : (rngD lo hi).length = (hi - lo).toNat := by
  unfold rngD
  rw [List.length_map, List.length_range]
theorem map_int {xs : List D} (h : ∀ x ∈ xs, ∃ i, x = PyData.int i) : ∃ is : List Int, xs = is.map PyData.int ∧ is.length = xs.length := by
  induction xs with
  | nil => exact ⟨[], rfl, rfl⟩
  | cons x xs ih =>
    obtain ⟨i, rfl⟩ := h x List.mem_cons_self
    obtain ⟨is, e, l⟩ := ih fun y hy => h y (List.mem_cons_of_mem _ hy)
    exact ⟨i :: is, by rw [e]; rfl, by simp [l]⟩
theorem whL_step {t : Rho → Res Bool} {gb : Rho → SRes} {S fs : List Nat} {n : Nat} {ρ ρ' : Rho} (h1 : t (fzs S ρ) = .ok true) (h2 : wturn gb fs ρ = .nx ρ') : whL t gb S fs (n + 1) ρ = whL t gb S fs n ρ' := by
  rw [whL]
  rw [h1]
  show loopS (gb ρ) (whL t gb S fs n) fs = _
  unfold wturn at h2
  unfold loopS
  cases q : gb ρ with
  | nx ρ2 =>
    rw [q] at h2
    show whL t gb S fs n (forget fs ρ2) = _
    rw [SRes.nx.inj h2]
  | ct ρ2 =>
    rw [q] at h2
    show whL t gb S fs n (forget fs ρ2) = _
    rw [SRes.nx.inj h2]
  | bk ρ2 => rw [q] at h2; cases h2
  | rt d => rw [q] at h2; cases h2
  | rtO d => rw [q] at h2; cases h2
  | ex c ρ => rw [q] at h2; cases h2
  | bad => rw [q] at h2; cases h2
theorem whL_stop {t : Rho → Res Bool} {gb : Rho → SRes} {S fs : List Nat} {n : Nat} {ρ : Rho} (h1 : t (fzs S ρ) = .ok false) : whL t gb S fs (n + 1) ρ = .nx ρ := by
  rw [whL]
  rw [h1]
  rfl
@[simp] theorem wturn_e (gb : Rho → SRes) (fs : List Nat) (ρ : Rho) : wturn gb fs ρ = match gb ρ with
    | .nx ρ2 => .nx (forget fs ρ2)
    | .ct ρ2 => .nx (forget fs ρ2)
    | .bk ρ2 => .bk (forget fs ρ2)
    | r => r := rfl
theorem kitB_ib : kitB "int" "bool" = some false := by decide +kernel
theorem kitB_ii : kitB "int" "int" = some true := by decide +kernel
theorem kitB_bb : kitB "bool" "bool" = some true := by decide +kernel
theorem kitB_lb : kitB "list" "bool" = some false := by decide +kernel
theorem kitB_ll : kitB "list" "list" = some true := by decide +kernel
@[simp] theorem isiB_int (i : Int) : isiD "bool" (.int i) = .ok (.bool false) := by
  show (match kitB "int" "bool" with | some b => Res.ok (PyData.bool b) | none => .bad) = _
  rw [kitB_ib]
@[simp] theorem isiB_bool (i : Bool) : isiD "bool" (.bool i) = .ok (.bool true) := by
  show (match kitB "bool" "bool" with | some b => Res.ok (PyData.bool b) | none => .bad) = _
  rw [kitB_bb]
@[simp] theorem isiI_int (i : Int) : isiD "int" (.int i) = .ok (.bool true) := by
  show (match kitB "int" "int" with | some b => Res.ok (PyData.bool b) | none => .bad) = _
  rw [kitB_ii]
end J

set_option linter.all false
set_option maxRecDepth 100000
namespace J
open PySem PySem.Spec PyProof.Rows L2 RZ
@[simp] theorem lay_ints (ms : List Int) : PyData.canLayAll0 (ms.map PyData.int) = true := by
  induction ms with
  | nil => rfl
  | cons m ms ih => simp [PyData.canLayAll0, PyData.canLay0, ih]
@[simp] theorem dep_ints (ms : List Int) : PyData.depthAll (ms.map PyData.int) = 0 := by
  induction ms with
  | nil => rfl
  | cons m ms ih => simp [PyData.depthAll, PyData.depth, ih]
@[simp] theorem eqv_ints (xs ys : List Int) : PyData.eqvAll (xs.map PyData.int) (ys.map PyData.int) = decide (xs = ys) := by
  induction xs generalizing ys with
  | nil => cases ys <;> simp [PyData.eqvAll]
  | cons x xs ih =>
    cases ys with
    | nil => simp [PyData.eqvAll]
    | cons y ys =>
      simp only [List.map_cons, PyData.eqvAll, PyData.eqv, ih, List.cons.injEq, Bool.decide_and]
      congr 1
theorem eqv_int (i j : Int) : PyData.eqv (.int i) (.int j) = decide (i = j) := by
  simp only [PyData.eqv, Bool.beq_eq_decide_eq]
@[simp] theorem shp_i (i : Int) : SeqAt.shaped (.int i) = true := rfl
@[simp] theorem shp_l (xs : List Int) : SeqAt.shaped (.list (xs.map PyData.int)) = true := by
  simp [SeqAt.shaped, PyData.canLay0, PyData.depth]
@[simp] theorem shp_t (xs : List Int) : SeqAt.shaped (.tuple (xs.map PyData.int)) = true := by
  simp [SeqAt.shaped, PyData.canLay0, PyData.depth]
theorem shp_tt (q : Int) (xs : List Int) : SeqAt.shaped (.tuple [.int q, .tuple (xs.map PyData.int)]) = true := by
  simp [SeqAt.shaped, PyData.canLay0, PyData.depth, PyData.canLayAll0, PyData.depthAll]
theorem shp_ll (xs ys : List Int) : SeqAt.shaped (.tuple [.list (xs.map PyData.int), .list (ys.map PyData.int)]) = true := by
  simp [SeqAt.shaped, PyData.canLay0, PyData.depth, PyData.canLayAll0, PyData.depthAll]
theorem ne_ll (xs ys : List Int) : neD (.tuple [.list (xs.map PyData.int), .list (ys.map PyData.int)]) (.tuple [.list (xs.map PyData.int), .list (ys.map PyData.int)]) = .ok (.bool false) := by
  unfold neD
  rw [if_pos ⟨shp_ll _ _, shp_ll _ _⟩]
  simp [PyData.eqv, PyData.eqvAll]
theorem ne_tt (q : Int) (xs : List Int) : neD (.tuple [.int q, .tuple (xs.map PyData.int)]) (.tuple [.int q, .tuple (xs.map PyData.int)]) = .ok (.bool false) := by
  unfold neD
  rw [if_pos ⟨shp_tt _ _, shp_tt _ _⟩]
  simp [PyData.eqv, PyData.eqvAll]
@[simp] theorem zipR_e (f : Rho → Res (List D)) (ρ : Rho) : zipR f ρ = (f ρ).bind fun xs => match xs with
  | [.list u, .list v] => .ok (zip2 u v)
  | [.tuple u, .tuple v] => .ok (zip2 u v)
  | _ => .bad := rfl
@[simp] theorem bNil_e (ds : List D) (ρ : Rho) : bNil ds ρ = .ok ρ := rfl
@[simp] theorem bCons_e (b : D → Rho → Res Rho) (bs : List D → Rho → Res Rho) (d : D) (ds : List D) (ρ : Rho) : bCons b bs (d :: ds) ρ = (b d ρ).bind (bs ds) := rfl
@[simp] theorem bTp_e (n : Nat) (bs : List D → Rho → Res Rho) (ds : List D) (ρ : Rho) : bTp n bs (.tuple ds) ρ = if ds.length = n then bs ds ρ else .bad := rfl
@[simp] theorem listL_l (xs : List D) : listL [.list xs] = .ok xs := rfl
@[simp] theorem listL_t (xs : List D) : listL [.tuple xs] = .ok xs := rfl
@[simp] theorem wipe_0 (ρ : Rho) : wipeR ρ [] = ρ := rfl
@[simp] theorem wipe_s (ρ : Rho) (v : Nat) (vs : List Nat) : wipeR ρ (v :: vs) = (wipeR ρ vs).set v .un := rfl
/-- a comprehension that makes integers -/
theorem lcL_int {b : D → Rho → Res Rho} {fe : Rho → Res D} {ρ : Rho} (P : D → Int → Prop) : ∀ (ds : List D), (∀ d ∈ ds, ∃ x, (b d ρ).bind fe = .ok (.int x) ∧ P d x) → ∃ xs : List Int, lcL b noIf fe ρ ds = .ok (xs.map PyData.int) ∧ xs.length = ds.length ∧ ∀ (k : Nat) (d : D) (x : Int), ds[k]? = some d → xs[k]? = some x → P d x
  | [], _ => ⟨[], rfl, rfl, fun k d x h => by simp at h⟩
  | d :: ds, h => by
    obtain ⟨x, e, hp⟩ := h d List.mem_cons_self
    obtain ⟨xs, e2, l, hps⟩ := lcL_int P ds fun d' hd => h d' (List.mem_cons_of_mem _ hd)
    refine ⟨x :: xs, ?_, by simp [l], fun k d' x' h1 h2 => ?_⟩
    · rw [lcL]
      cases e3 : b d ρ with
      | ok ρ1 =>
        rw [e3] at e
        have e : fe ρ1 = .ok (.int x) := e
        simp [noIf, e, e2]
      | ex c => rw [e3] at e; cases e
      | bad => rw [e3] at e; cases e
    · cases k with
      | zero =>
        simp at h1 h2
        subst h1 h2
        exact hp
      | succ k => exact hps k d' x' (by simpa using h1) (by simpa using h2)
theorem lc_int {fi : Rho → Res (List D)} {b : D → Rho → Res Rho} {fe : Rho → Res D} {vs : List Nat} {ρ : Rho} {n : Int} (P : Int → Int → Prop) (hfi : fi ρ = .ok (rngD 0 n)) (hn : n ≤ 16777216) (h : ∀ i : Int, 0 ≤ i → i < n → ∃ x, (b (.int i) (wipeR ρ vs)).bind fe = .ok (.int x) ∧ P i x) : ∃ xs : List Int, lcR fi b noIf fe vs ρ = .ok (xs.map PyData.int) ∧ xs.length = n.toNat ∧ ∀ (k : Nat) (x : Int), xs[k]? = some x → P k x := by
  obtain ⟨xs, e, l, hp⟩ := lcL_int (b := b) (fe := fe) (ρ := wipeR ρ vs) (fun d x => ∃ i : Int, d = .int i ∧ P i x) (rngD 0 n) fun d hd => by
    obtain ⟨i, rfl, h0, h1⟩ := rngD_mem hd
    obtain ⟨x, e, p⟩ := h i h0 h1
    exact ⟨x, e, i, rfl, p⟩
  have hl := rngD_len 0 n
  rw [Int.sub_zero] at hl
  refine ⟨xs, ?_, by rw [l, hl], fun k x hx => ?_⟩
  · unfold lcR
    rw [hfi]
    show (if (rngD 0 n).length ≤ 16777216 then noEx (lcL b noIf fe (wipeR ρ vs) (rngD 0 n)) else .bad) = _
    rw [hl, if_pos (by omega), e]
    rfl
  · have hk := (List.getElem?_eq_some_iff.mp hx).1
    have e1 : (rngD 0 n)[k]? = some (.int (0 + (k : Int))) := by
      unfold rngD
      rw [List.getElem?_map, List.getElem?_range (by omega)]
      rfl
    obtain ⟨i, h1, h2⟩ := hp k _ x e1 hx
    have h3 := PyData.int.inj h1
    rw [Int.zero_add] at h3
    rw [h3]
    exact h2
theorem zip2_get {xs ys : List Int} {k : Nat} {d : D} (h : (zip2 (xs.map PyData.int) (ys.map PyData.int))[k]? = some d) : ∃ x y, xs[k]? = some x ∧ ys[k]? = some y ∧ d = .tuple [.int x, .int y] := by
  unfold zip2 at h
  rw [List.getElem?_zipWith, List.getElem?_map, List.getElem?_map] at h
  cases e1 : xs[k]? with
  | none => rw [e1] at h; simp at h
  | some x =>
    cases e2 : ys[k]? with
    | none => rw [e1, e2] at h; simp at h
    | some y =>
      rw [e1, e2] at h
      simp at h
      exact ⟨x, y, rfl, rfl, h.symm⟩
theorem zip2_len {xs ys : List Int} : (zip2 (xs.map PyData.int) (ys.map PyData.int)).length = min xs.length ys.length := by
  unfold zip2
  rw [List.length_zipWith, List.length_map, List.length_map]
theorem seq_nx {g h : Rho → SRes} {ρ ρ' : Rho} (e : g ρ = .nx ρ') : seqR g h ρ = h ρ' := by
  unfold seqR
  rw [e]
theorem fn_nx {g h : Rho → SRes} {ρ ρ' : Rho} (e : g ρ = .nx ρ') {r : Res D} (k : toFn (h ρ') = r) : toFn (seqR g h ρ) = r := by rw [seq_nx e, k]
theorem for_nx {fi : Rho → Res (List D)} {b : D → Rho → Res Rho} {gb : Rho → SRes} {fs : List Nat} {ρ ρ' : Rho} {ds : List D} (h : fi ρ = .ok ds) (e : forL b gb fs ds (forget fs ρ) = .nx ρ') : forR fi b gb fs ρ = .nx ρ' := by
  unfold forR
  rw [h]
  exact e
end J

set_option linter.all false
set_option maxRecDepth 100000
namespace J
open PySem PySem.Spec PyProof.Rows L2 RZ
@[simp] theorem tup_l (xs : List D) : tupleD [.list xs] = .ok (.tuple xs) := rfl
@[simp] theorem tup_t (xs : List D) : tupleD [.tuple xs] = .ok (.tuple xs) := rfl
@[simp] theorem ix_l0 (x : D) (xs : List D) : ixD (.list (x :: xs)) (.int 0) = .ok x := ixL_e (by decide) rfl
@[simp] theorem ix_l1 (x y : D) (xs : List D) : ixD (.list (x :: y :: xs)) (.int 1) = .ok y := ixL_e (by decide) rfl
@[simp] theorem ix_t0 (x : D) (xs : List D) : ixD (.tuple (x :: xs)) (.int 0) = .ok x := ixT_e (by decide) rfl
@[simp] theorem ix_t1 (x y : D) (xs : List D) : ixD (.tuple (x :: y :: xs)) (.int 1) = .ok y := ixT_e (by decide) rfl
theorem sum_ints (xs : List Int) : sumD [.list (xs.map PyData.int)] = .ok (.int xs.sum) := by
  have : intsOf (xs.map PyData.int) = some xs := by
    induction xs with
    | nil => rfl
    | cons x xs ih => simp [intsOf, ih]
  show (match intsOf (xs.map PyData.int) with | some ns => Res.ok (PyData.int ns.sum) | none => .bad) = _
  rw [this]
theorem ne_l1 (a : Int) : neD (.list [.int a]) (.list [.int a]) = .ok (.bool false) := by
  unfold neD
  rw [if_pos ⟨shp_l [a], shp_l [a]⟩]
  have := eqv_ints [a] [a]
  simp only [decide_true] at this
  have e : PyData.eqv (.list [.int a]) (.list [.int a]) = true := by
    rw [PyData.eqv]
    exact this
  rw [e]
  rfl
theorem fil_range (k0 : Int) (h0 : 0 ≤ k0) : ∀ m : Nat, (List.range m).filter (fun k : Nat => decide (0 + (k : Int) = k0)) = if k0 < m then [k0.toNat] else []
  | 0 => by rw [if_neg (by omega)]; rfl
  | m + 1 => by
    rw [List.range_succ, List.filter_append, fil_range k0 h0 m]
    by_cases c : k0 < m
    · rw [if_pos c, if_pos (by omega), List.filter_cons_of_neg (by rw [decide_eq_true_eq]; omega)]
      rfl
    · rw [if_neg c]
      by_cases c2 : k0 = m
      · rw [if_pos (by omega), List.filter_cons_of_pos (by rw [decide_eq_true_eq]; omega)]
        simp
        omega
      · rw [if_neg (by omega), List.filter_cons_of_neg (by rw [decide_eq_true_eq]; omega)]
        rfl
theorem lcL_fil {b : D → Rho → Res Rho} {tt : Rho → Res Bool} {fe : Rho → Res D} {ρ : Rho} (t : Int → Bool) : ∀ (is : List Int), (∀ i ∈ is, ∃ ρ1, b (.int i) ρ = .ok ρ1 ∧ tt ρ1 = .ok (t i) ∧ fe ρ1 = .ok (.int i)) → lcL b tt fe ρ (is.map PyData.int) = .ok ((is.filter t).map PyData.int)
  | [], _ => rfl
  | i :: is, h => by
    obtain ⟨ρ1, e1, e2, e3⟩ := h i List.mem_cons_self
    have ih := lcL_fil (b := b) (tt := tt) (fe := fe) (ρ := ρ) t is fun j hj => h j (List.mem_cons_of_mem _ hj)
    rw [List.map_cons, lcL, e1]
    cases c : t i with
    | true =>
      rw [List.filter_cons_of_pos c]
      rw [c] at e2
      simp [e2, e3, ih]
    | false =>
      rw [List.filter_cons_of_neg (by rw [c]; decide)]
      rw [c] at e2
      simp [e2, e3, ih]
theorem lc_one {fi : Rho → Res (List D)} {b : D → Rho → Res Rho} {tt : Rho → Res Bool} {fe : Rho → Res D} {vs : List Nat} {ρ : Rho} {n e0 : Int} (hfi : fi ρ = .ok (rngD 0 n)) (hn : n ≤ 16777216) (h0 : 0 ≤ e0) (h1 : e0 < n) (h : ∀ i : Int, 0 ≤ i → i < n → ∃ ρ1, b (.int i) (wipeR ρ vs) = .ok ρ1 ∧ tt ρ1 = .ok (decide (i = e0)) ∧ fe ρ1 = .ok (.int i)) : lcR fi b tt fe vs ρ = .ok [.int e0] := by
  have hl := rngD_len 0 n
  rw [Int.sub_zero] at hl
  unfold lcR
  rw [hfi]
  show (if (rngD 0 n).length ≤ 16777216 then noEx (lcL b tt fe (wipeR ρ vs) (rngD 0 n)) else .bad) = _
  rw [hl, if_pos (by omega)]
  have e1 : rngD 0 n = ((List.range n.toNat).map fun k : Nat => 0 + (k : Int)).map PyData.int := by
    unfold rngD
    rw [List.map_map, Int.sub_zero]
    rfl
  rw [e1, lcL_fil (fun i => decide (i = e0)) _ fun i hi => by
    obtain ⟨k, hk, rfl⟩ := List.mem_map.mp hi
    have := List.mem_range.mp hk
    exact h _ (by omega) (by omega)]
  rw [List.filter_map]
  have e2 := fil_range e0 h0 n.toNat
  rw [if_pos (by omega)] at e2
  have e3 : (List.range n.toNat).filter ((fun i : Int => decide (i = e0)) ∘ fun k : Nat => 0 + (k : Int)) = [e0.toNat] := e2
  rw [e3]
  simp
  omega
theorem walk_base : walkD (.str "base") = .ok [.str ⟨#[98]⟩, .str ⟨#[97]⟩, .str ⟨#[115]⟩, .str ⟨#[101]⟩] := by rfl
theorem php : ∀ (n : Nat) (f : Nat → Nat), (∀ i, i < n + 1 → f i < n) → ∃ i j, i < j ∧ j < n + 1 ∧ f i = f j
  | 0, f, h => absurd (h 0 (by omega)) (by omega)
  | n + 1, f, h => by
    by_cases c : ∃ i, i < n + 1 ∧ f i = f (n + 1)
    · obtain ⟨i, hi, e⟩ := c
      exact ⟨i, n + 1, hi, by omega, e⟩
    · have hne : ∀ i, i < n + 1 → f i ≠ f (n + 1) := fun i hi e => c ⟨i, hi, e⟩
      obtain ⟨i, j, h1, h2, h3⟩ := php n (fun i => if f i > f (n + 1) then f i - 1 else f i) fun i hi => by
        have h1 := h i (by omega)
        have h2 := h (n + 1) (by omega)
        have h3 := hne i hi
        split <;> omega
      refine ⟨i, j, h1, by omega, ?_⟩
      have a1 := hne i (by omega)
      have a2 := hne j h2
      split at h3 <;> split at h3 <;> omega
theorem php_onto (n : Nat) (f : Nat → Nat) (h : ∀ i, i < n → f i < n) (inj : ∀ i j, i < n → j < n → f i = f j → i = j) (y : Nat) (hy : y < n) : ∃ i, i < n ∧ f i = y := by
  refine Classical.byContradiction fun c => ?_
  have hne : ∀ i, i < n → f i ≠ y := fun i hi e => c ⟨i, hi, e⟩
  obtain ⟨m, rfl⟩ : ∃ m, n = m + 1 := ⟨n - 1, by omega⟩
  obtain ⟨i, j, h1, h2, h3⟩ := php m (fun i => if f i > y then f i - 1 else f i) fun i hi => by
    have h1 := h i hi
    have h3 := hne i hi
    split <;> omega
  have a1 := hne i (by omega)
  have a2 := hne j h2
  have : f i = f j := by
    split at h3 <;> split at h3 <;> omega
  have := inj i j (by omega) h2 this
  omega
/-- each element is a power of each base other than 1 -/
theorem el_gen {q g v : Int} (hq : IsOrd q) (hg : isEl q g = true) (h1 : g ≠ 1) (hv : isEl q v = true) : ∃ e : Nat, e < q.toNat ∧ v = pw q g e := by
  have hD := ord_D hq
  have hb : ∀ {x}, isEl q x = true → 0 < x ∧ x < 2 * q + 1 := fun h => ⟨(isEl_iff.mp h).1, (isEl_iff.mp h).2.1⟩
  have key : ∀ {x y}, isEl q x = true → isEl q y = true → x ≠ 2 * q + 1 - y := fun {x y} hx hy e => by
    have := el_neg hq hy
    rw [← e, hx] at this
    cases this
  have hv0 := hb hv
  obtain ⟨e, he, hfe⟩ := php_onto q.toNat (fun e => (if pw q g e ≤ q then pw q g e - 1 else 2 * q - pw q g e).toNat) (fun e he => by
    have := hb (el_pw hq hg e)
    split <;> omega) (fun i j hi hj e => by
    have a := hb (el_pw hq hg i)
    have b := hb (el_pw hq hg j)
    have k1 := key (el_pw hq hg i) (el_pw hq hg j)
    refine pw_inj hq hg h1 hi hj ?_
    split at e <;> split at e <;> omega) (if v ≤ q then v - 1 else 2 * q - v).toNat (by split <;> omega)
  refine ⟨e, he, ?_⟩
  have a := hb (el_pw hq hg e)
  have k1 := key hv (el_pw hq hg e)
  split at hfe <;> split at hfe <;> omega
end J

set_option linter.all false
set_option maxRecDepth 100000
/-! # V: the mirrors over typed data -/
namespace V
open PySem PySem.Spec PyProof.Rows L2 RZ J
def Le {α β : Type} (enc : α → β) (t : Res α) (r : Res β) : Prop := match t with
  | .ok v => r = .ok (enc v)
  | .ex c => r = .ex c
  | .bad => True
theorem Le.ok {α β : Type} {enc : α → β} {t : Res α} {r : Res β} (h : Le enc t r) {v : α} (e : t = .ok v) : r = .ok (enc v) := by subst e; exact h
theorem Le.ex {α β : Type} {enc : α → β} {t : Res α} {r : Res β} (h : Le enc t r) {c : Xc} (e : t = .ex c) : r = .ex c := by subst e; exact h
theorem Le.bind {α β γ δ : Type} {enc : α → β} {enc2 : γ → δ} {t : Res α} {r : Res β} {k : α → Res γ} {h : β → Res δ} (a : Le enc t r) (b : ∀ v, Le enc2 (k v) (h (enc v))) : Le enc2 (t.bind k) (r.bind h) := by
  cases t with
  | ok v => rw [show r = .ok (enc v) from a]; exact b v
  | ex c => rw [show r = .ex c from a]; rfl
  | bad => trivial
section
variable {σ α β γ δ τ : Type} {E : σ → Rho} {enc : α → D} {e1 : α → D} {e2 : β → D} {e3 : γ → D}
def VE (E : σ → Rho) (enc : α → D) (f : Rho → Res D) (t : σ → Res α) : Prop := ∀ s, Le enc (t s) (f (E s))
def VP (E : σ → Rho) (enc : α → D) (f : Rho → Res D) (v : σ → α) : Prop := ∀ s, f (E s) = .ok (enc (v s))
def VT (E : σ → Rho) (f : Rho → Res Bool) (t : σ → Res Bool) : Prop := ∀ s, Le id (t s) (f (E s))
def VQ (E : σ → Rho) (f : Rho → Res Bool) (b : σ → Bool) : Prop := ∀ s, f (E s) = .ok (b s)
def VA (E : σ → Rho) (el : τ → List D) (f : Rho → Res (List D)) (t : σ → Res τ) : Prop := ∀ s, Le el (t s) (f (E s))
def VAP (E : σ → Rho) (el : τ → List D) (f : Rho → Res (List D)) (v : σ → τ) : Prop := ∀ s, f (E s) = .ok (el (v s))
def VI (E : σ → Rho) (enc : α → D) (f : Rho → Res (List D)) (t : σ → Res (List α)) : Prop := ∀ s, Le (List.map enc) (t s) (f (E s))
def VIP (E : σ → Rho) (enc : α → D) (f : Rho → Res (List D)) (v : σ → List α) : Prop := ∀ s, f (E s) = .ok ((v s).map enc)
def VO (E : σ → Rho) (f : Rho → Res (Option Int)) (t : σ → Res (Option Int)) : Prop := ∀ s, Le id (t s) (f (E s))
def VOP (E : σ → Rho) (f : Rho → Res (Option Int)) (v : σ → Option Int) : Prop := ∀ s, f (E s) = .ok (v s)
theorem VP.e {f : Rho → Res D} {v : σ → α} (h : VP E enc f v) : VE E enc f fun s => .ok (v s) := h
theorem VQ.e {f : Rho → Res Bool} {v : σ → Bool} (h : VQ E f v) : VT E f fun s => .ok (v s) := h
theorem VAP.e {el : τ → List D} {f : Rho → Res (List D)} {v : σ → τ} (h : VAP E el f v) : VA E el f fun s => .ok (v s) := h
theorem VIP.e {f : Rho → Res (List D)} {v : σ → List α} (h : VIP E enc f v) : VI E enc f fun s => .ok (v s) := h
theorem VOP.e {f : Rho → Res (Option Int)} {v : σ → Option Int} (h : VOP E f v) : VO E f fun s => .ok (v s) := h
/-! names, constants -/
abbrev eI : Int → D := PyData.int
abbrev eB : Bool → D := PyData.bool
abbrev eS : Str → D := PyData.str
abbrev eN : Unit → D := fun _ => .none
abbrev eD : D → D := fun d => d
abbrev eL (e : α → D) : List α → D := fun xs => .list (xs.map e)
abbrev eV (e : α → D) : List α → D := fun xs => .tuple (xs.map e)
abbrev eO (e : α → D) : Option α → D := fun o => match o with | some v => e v | none => .none
theorem v_var {i : Nat} {v : σ → α} (h : ∀ s, (E s)[i]? = some (.sh (enc (v s)))) : VP E enc (rd i) v := fun s => by unfold rd; rw [h s]
theorem v_int {i : Int} : VP E eI (cI i) fun _ => i := fun _ => rfl
theorem v_str {i : Str} : VP E eS (cS i) fun _ => i := fun _ => rfl
theorem v_bool {i : Bool} : VP E eB (cB i) fun _ => i := fun _ => rfl
theorem v_none : VP E eN cN fun _ => () := fun _ => rfl
/-- kept as data -/
theorem v_raw {f : Rho → Res D} : VE E eD f fun s => f (E s) := fun s => by
  show Le eD (f (E s)) (f (E s))
  unfold Le
  cases f (E s) <;> simp
theorem v_as {f : Rho → Res D} {v : σ → α} {e' : β → D} {w : α → β} (h : VP E enc f v) (hw : ∀ x, e' (w x) = enc x) : VP E e' f fun s => w (v s) := fun s => by rw [h s, hw]
theorem v_asE {f : Rho → Res D} {v : σ → Res α} {e' : β → D} {w : α → β} (h : VE E enc f v) (hw : ∀ x, e' (w x) = enc x) : VE E e' f fun s => (v s).bind fun x => .ok (w x) := fun s => by
  have := h s
  show Le e' ((v s).bind fun x => .ok (w x)) _
  cases q : v s with
  | ok x => rw [q] at this; show f (E s) = .ok (e' (w x)); rw [hw]; exact this
  | ex c => rw [q] at this; exact this
  | bad => trivial
/-! operators -/
theorem v_do2 {f g : Rho → Res D} {kd : D → D → Res D} {k : α → β → Res γ} {a : σ → Res α} {b : σ → Res β} (o : ∀ x y, Le e3 (k x y) (kd (e1 x) (e2 y))) (ha : VE E e1 f a) (hb : VE E e2 g b) : VE E e3 (do2 f g kd) fun s => (a s).bind fun x => (b s).bind fun y => k x y := fun s =>
  Le.bind (ha s) fun x => Le.bind (hb s) fun y => o x y
theorem v_do2p {f g : Rho → Res D} {kd : D → D → Res D} {k : α → β → Res γ} {a : σ → α} {b : σ → β} (o : ∀ x y, Le e3 (k x y) (kd (e1 x) (e2 y))) (ha : VP E e1 f a) (hb : VP E e2 g b) : VE E e3 (do2 f g kd) fun s => k (a s) (b s) := fun s => by
  show Le e3 _ ((f (E s)).bind fun x => (g (E s)).bind fun y => kd x y)
  rw [ha s, hb s]; exact o _ _
theorem v_do2t {f g : Rho → Res D} {kd : D → D → Res D} {k : α → β → γ} {a : σ → α} {b : σ → β} (o : ∀ x y, kd (e1 x) (e2 y) = .ok (e3 (k x y))) (ha : VP E e1 f a) (hb : VP E e2 g b) : VP E e3 (do2 f g kd) fun s => k (a s) (b s) := fun s => by
  show (f (E s)).bind _ = _
  rw [ha s, bind_ok, hb s, bind_ok]; exact o _ _
theorem v_do2e {f g : Rho → Res D} {kd : D → D → Res D} {k : α → β → γ} {a : σ → Res α} {b : σ → Res β} (o : ∀ x y, kd (e1 x) (e2 y) = .ok (e3 (k x y))) (ha : VE E e1 f a) (hb : VE E e2 g b) : VE E e3 (do2 f g kd) fun s => (a s).bind fun x => (b s).bind fun y => .ok (k x y) := v_do2 (k := fun x y => .ok (k x y)) o ha hb
theorem v_do1t {f : Rho → Res D} {kd : D → Res D} {k : α → β} {a : σ → α} (o : ∀ x, kd (e1 x) = .ok (e2 (k x))) (ha : VP E e1 f a) : VP E e2 (do1 f kd) fun s => k (a s) := fun s => by
  show (f (E s)).bind _ = _
  rw [ha s, bind_ok]; exact o _
theorem v_do1e {f : Rho → Res D} {kd : D → Res D} {k : α → β} {a : σ → Res α} (o : ∀ x, kd (e1 x) = .ok (e2 (k x))) (ha : VE E e1 f a) : VE E e2 (do1 f kd) fun s => (a s).bind fun x => .ok (k x) := fun s => Le.bind (ha s) fun x => o x
theorem o_add (x y : Int) : addD (eI x) (eI y) = .ok (eI (x + y)) := rfl
theorem o_sub (x y : Int) : subD (eI x) (eI y) = .ok (eI (x - y)) := rfl
theorem o_neg (x : Int) : negD (eI x) = .ok (eI (-x)) := rfl
def mulT (x y : Int) : Res Int := if (-18446744073709551616 < x ∧ x < 18446744073709551616) ∨ (-18446744073709551616 < y ∧ y < 18446744073709551616) then .ok (x * y) else .bad
def modT (x y : Int) : Res Int := if 0 < y then .ok (x % y) else .bad
def fdivT (x y : Int) : Res Int := if 0 < y ∧ y < 18446744073709551616 then .ok (x / y) else .bad
theorem o_mul (x y : Int) : Le eI (mulT x y) (mulD (eI x) (eI y)) := by
  unfold mulT
  by_cases h1 : -18446744073709551616 < x ∧ x < 18446744073709551616
  · rw [if_pos (.inl h1)]; exact mul_l h1.1 h1.2
  · by_cases h2 : -18446744073709551616 < y ∧ y < 18446744073709551616
    · rw [if_pos (.inr h2)]; exact mul_r h2.1 h2.2
    · rw [if_neg (by rintro (h | h); exact h1 h; exact h2 h)]; trivial
theorem o_mod (x y : Int) : Le eI (modT x y) (modD (eI x) (eI y)) := by
  unfold modT
  by_cases h : 0 < y
  · rw [if_pos h]; exact mod_e h
  · rw [if_neg h]; trivial
theorem o_fdiv (x y : Int) : Le eI (fdivT x y) (fdivD (eI x) (eI y)) := by
  unfold fdivT
  by_cases h : 0 < y ∧ y < 18446744073709551616
  · rw [if_pos h]; exact fdiv_e h.1 h.2
  · rw [if_neg h]; trivial
theorem v_mulc {c : Int} {g : Rho → Res D} {b : σ → Int} (h : -18446744073709551616 < c ∧ c < 18446744073709551616) (hb : VP E eI g b) : VP E eI (do2 (cI c) g mulD) fun s => c * b s := fun s => by
  show (cI c (E s)).bind _ = _
  rw [cI_e, bind_ok, hb s, bind_ok]; exact mul_l h.1 h.2
theorem v_mulcr {c : Int} {g : Rho → Res D} {b : σ → Int} (h : -18446744073709551616 < c ∧ c < 18446744073709551616) (hb : VP E eI g b) : VP E eI (do2 g (cI c) mulD) fun s => b s * c := fun s => by
  show (g (E s)).bind _ = _
  rw [hb s, bind_ok, cI_e, bind_ok]; exact mul_r h.1 h.2
theorem v_modc {c : Int} {g : Rho → Res D} {b : σ → Int} (h : 0 < c) (hb : VP E eI g b) : VP E eI (do2 g (cI c) modD) fun s => b s % c := fun s => by
  show (g (E s)).bind _ = _
  rw [hb s, bind_ok, cI_e, bind_ok]; exact mod_e h
theorem v_fdivc {c : Int} {g : Rho → Res D} {b : σ → Int} (h : 0 < c ∧ c < 18446744073709551616) (hb : VP E eI g b) : VP E eI (do2 g (cI c) fdivD) fun s => b s / c := fun s => by
  show (g (E s)).bind _ = _
  rw [hb s, bind_ok, cI_e, bind_ok]; exact fdiv_e h.1 h.2
theorem v_powc {m n r : Int} (h : powD (.int m) (.int n) = .ok (.int r)) : VP E eI (do2 (cI m) (cI n) powD) fun _ => r := fun s => h
theorem o_lt (x y : Int) : ltD (eI x) (eI y) = .ok (eB (decide (x < y))) := rfl
theorem o_le (x y : Int) : leD (eI x) (eI y) = .ok (eB (decide (x ≤ y))) := rfl
theorem o_gt (x y : Int) : gtD (eI x) (eI y) = .ok (eB (decide (x > y))) := rfl
theorem o_ge (x y : Int) : geD (eI x) (eI y) = .ok (eB (decide (x ≥ y))) := rfl
/-! equality -/
structure Ceq [DecidableEq α] (e : α → D) (n : Nat) : Prop where
  lay : ∀ x, PyData.canLay0 (e x) = true
  dep : ∀ x, PyData.depth (e x) ≤ n
  eqv : ∀ x y, PyData.eqv (e x) (e y) = decide (x = y)
theorem Ceq.shp [DecidableEq α] {e : α → D} {n : Nat} (c : Ceq e n) (h : n ≤ 64) (x : α) : SeqAt.shaped (e x) = true := by
  unfold SeqAt.shaped
  rw [c.lay x, Bool.true_and]
  exact decide_eq_true (Nat.le_trans (c.dep x) h)
theorem ceq_I : Ceq eI 0 := ⟨fun _ => rfl, fun _ => Nat.le_refl _, fun x y => by show (x == y) = _; rw [Bool.beq_eq_decide_eq]⟩
theorem ceq_B : Ceq eB 0 := ⟨fun _ => rfl, fun _ => Nat.le_refl _, fun x y => by cases x <;> cases y <;> rfl⟩
theorem ceq_N : Ceq eN 0 := ⟨fun _ => rfl, fun _ => Nat.le_refl _, fun x y => rfl⟩
theorem lay_all [DecidableEq α] {e : α → D} {n : Nat} (c : Ceq e n) (xs : List α) : PyData.canLayAll0 (xs.map e) = true := by
  induction xs with
  | nil => rfl
  | cons x xs ih => simp [PyData.canLayAll0, c.lay x, ih]
theorem dep_all [DecidableEq α] {e : α → D} {n : Nat} (c : Ceq e n) (xs : List α) : PyData.depthAll (xs.map e) ≤ n := by
  induction xs with
  | nil => exact Nat.zero_le _
  | cons x xs ih =>
    simp only [List.map_cons, PyData.depthAll]
    exact Nat.max_le.mpr ⟨c.dep x, ih⟩
theorem eqv_all [DecidableEq α] {e : α → D} {n : Nat} (c : Ceq e n) (xs ys : List α) : PyData.eqvAll (xs.map e) (ys.map e) = decide (xs = ys) := by
  induction xs generalizing ys with
  | nil => cases ys <;> simp [PyData.eqvAll]
  | cons x xs ih =>
    cases ys with
    | nil => simp [PyData.eqvAll]
    | cons y ys => simp only [List.map_cons, PyData.eqvAll, c.eqv, ih, List.cons.injEq, Bool.decide_and]
theorem ceq_L [DecidableEq α] {e : α → D} {n : Nat} (c : Ceq e n) : Ceq (eL e) (n + 1) := ⟨fun xs => by simp [PyData.canLay0, lay_all c], fun xs => by have := dep_all c xs; simp only [PyData.depth]; omega, fun xs ys => by simp only [PyData.eqv]; exact eqv_all c xs ys⟩
theorem ceq_V [DecidableEq α] {e : α → D} {n : Nat} (c : Ceq e n) : Ceq (eV e) (n + 1) := ⟨fun xs => by simp [PyData.canLay0, lay_all c], fun xs => by have := dep_all c xs; simp only [PyData.depth]; omega, fun xs ys => by simp only [PyData.eqv]; exact eqv_all c xs ys⟩
end
end V

set_option linter.all false
set_option maxRecDepth 100000
namespace V
open PySem PySem.Spec PyProof.Rows L2 RZ J
section
variable {σ α β γ δ τ Ω : Type} {E E' : σ → Rho} {enc : α → D} {e1 : α → D} {e2 : β → D} {e3 : γ → D}
theorem o_eq [DecidableEq α] {e : α → D} {n : Nat} (c : Ceq e n) (h : n ≤ 64) (x y : α) : eqD (e x) (e y) = .ok (eB (decide (x = y))) := by
  unfold eqD; rw [if_pos ⟨c.shp h x, c.shp h y⟩, c.eqv]
theorem o_ne [DecidableEq α] {e : α → D} {n : Nat} (c : Ceq e n) (h : n ≤ 64) (x y : α) : neD (e x) (e y) = .ok (eB (decide (x ≠ y))) := by
  unfold neD; rw [if_pos ⟨c.shp h x, c.shp h y⟩, c.eqv]
  show _ = Res.ok (eB (decide (¬ x = y)))
  rw [decide_not]
theorem any_eqv [DecidableEq α] {e : α → D} {n : Nat} (c : Ceq e n) (x : α) (xs : List α) : ((xs.map e).any fun z => PyData.eqv z (e x)) = decide (x ∈ xs) := by
  induction xs with
  | nil => rfl
  | cons y ys ih => rw [List.map_cons, List.any_cons, c.eqv, ih, Bool.eq_iff_iff, Bool.or_eq_true, decide_eq_true_eq, decide_eq_true_eq, decide_eq_true_eq, List.mem_cons]; exact ⟨fun h => h.imp Eq.symm id, fun h => h.imp Eq.symm id⟩
theorem o_in [DecidableEq α] {e : α → D} {n : Nat} (c : Ceq e n) (h : n ≤ 63) (x : α) (ys : List α) : inD (e x) (eL e ys) = .ok (eB (decide (x ∈ ys))) := by
  show (if _ then _ else _) = _
  rw [if_pos ⟨c.shp (by omega) x, (ceq_L c).shp (by omega) ys⟩, any_eqv c]
theorem o_nin [DecidableEq α] {e : α → D} {n : Nat} (c : Ceq e n) (h : n ≤ 63) (x : α) (ys : List α) : notInD (e x) (eL e ys) = .ok (eB (decide (x ∉ ys))) := by
  show (if _ then _ else _) = _
  rw [if_pos ⟨c.shp (by omega) x, (ceq_L c).shp (by omega) ys⟩, any_eqv c, decide_not]
theorem v_isN {f : Rho → Res D} {e : α → D} {b : Bool} {a : σ → α} (h : ∀ x, isNone (e x) = b) (ha : VP E e f a) : VP E eB (do2 f cN isD) fun _ => b := fun s => by
  show (f (E s)).bind _ = _
  rw [ha s, bind_ok, cN_e, bind_ok, ← h (a s)]; rfl
theorem v_isntN {f : Rho → Res D} {e : α → D} {b : Bool} {a : σ → α} (h : ∀ x, isNone (e x) = b) (ha : VP E e f a) : VP E eB (do2 f cN isntD) fun _ => !b := fun s => by
  show (f (E s)).bind _ = _
  rw [ha s, bind_ok, cN_e, bind_ok, ← h (a s)]; rfl
theorem v_isNE {f : Rho → Res D} {e : α → D} {b : Bool} {a : σ → Res α} (h : ∀ x, isNone (e x) = b) (ha : VE E e f a) : VE E eB (do2 f cN isD) fun s => (a s).bind fun _ => .ok b := fun s => Le.bind (ha s) fun x => by show _ = _; rw [cN_e, bind_ok, ← h x]; rfl
theorem v_isntNE {f : Rho → Res D} {e : α → D} {b : Bool} {a : σ → Res α} (h : ∀ x, isNone (e x) = b) (ha : VE E e f a) : VE E eB (do2 f cN isntD) fun s => (a s).bind fun _ => .ok (!b) := fun s => Le.bind (ha s) fun x => by show _ = _; rw [cN_e, bind_ok, ← h x]; rfl
/-- a value or None -/
theorem v_isNO {f : Rho → Res D} {e : α → D} {a : σ → Option α} (h : ∀ x, isNone (e x) = false) (ha : VP E (eO e) f a) : VP E eB (do2 f cN isD) fun s => (a s).isNone := fun s => by
  show (f (E s)).bind _ = .ok (eB (a s).isNone)
  rw [ha s, bind_ok, cN_e, bind_ok]
  cases q : a s with
  | none => rfl
  | some x => show Res.ok (PyData.bool (isNone (e x))) = _; rw [h x]; rfl
theorem v_isntNO {f : Rho → Res D} {e : α → D} {a : σ → Option α} (h : ∀ x, isNone (e x) = false) (ha : VP E (eO e) f a) : VP E eB (do2 f cN isntD) fun s => (a s).isSome := fun s => by
  show (f (E s)).bind _ = .ok (eB (a s).isSome)
  rw [ha s, bind_ok, cN_e, bind_ok]
  cases q : a s with
  | none => rfl
  | some x => show Res.ok (PyData.bool (!isNone (e x))) = _; rw [h x]; rfl
/-! tests -/
theorem v_tst {f : Rho → Res D} {b : σ → Bool} (h : VP E eB f b) : VQ E (tstR f) b := fun s => by
  show (f (E s)).bind asB = _; rw [h s]; rfl
theorem v_tstE {f : Rho → Res D} {b : σ → Res Bool} (h : VE E eB f b) : VT E (tstR f) b := fun s => by
  have := h s
  show Le id (b s) ((f (E s)).bind asB)
  cases q : b s with
  | ok x => rw [q] at this; rw [show f (E s) = .ok (eB x) from this]; rfl
  | ex c => rw [q] at this; rw [show f (E s) = .ex c from this]; rfl
  | bad => trivial
theorem v_tru {f : Rho → Res D} {e : α → D} {k : α → Bool} {v : σ → α} (o : ∀ x, truD (e x) = .ok (k x)) (h : VP E e f v) : VQ E (truR f) fun s => k (v s) := fun s => by
  show (f (E s)).bind truD = _; rw [h s]; exact o _
theorem v_truE {f : Rho → Res D} {e : α → D} {k : α → Bool} {v : σ → Res α} (o : ∀ x, truD (e x) = .ok (k x)) (h : VE E e f v) : VT E (truR f) fun s => (v s).bind fun x => .ok (k x) := fun s => Le.bind (h s) fun x => o x
theorem tru_B (x : Bool) : truD (eB x) = .ok x := rfl
theorem tru_I (x : Int) : truD (eI x) = .ok (decide (x ≠ 0)) := by show Res.ok (x != 0) = _; rw [bne_eq_decide_ne]
where
  bne_eq_decide_ne {x : Int} : (x != 0) = decide (x ≠ 0) := by by_cases h : x = 0 <;> simp [h]
theorem tru_L {e : α → D} (x : List α) : truD (eL e x) = .ok (!x.isEmpty) := by show Res.ok _ = _; simp
theorem tru_V {e : α → D} (x : List α) : truD (eV e x) = .ok (!x.isEmpty) := by show Res.ok _ = _; simp
theorem v_and {u v : Rho → Res Bool} {a b : σ → Bool} (ha : VQ E u a) (hb : VQ E v b) : VQ E (andT u v) fun s => a s && b s := fun s => by
  show (u (E s)).bind _ = .ok (a s && b s)
  rw [ha s, bind_ok]
  cases a s with
  | true => exact hb s
  | false => rfl
theorem v_or {u v : Rho → Res Bool} {a b : σ → Bool} (ha : VQ E u a) (hb : VQ E v b) : VQ E (orT u v) fun s => a s || b s := fun s => by
  show (u (E s)).bind _ = .ok (a s || b s)
  rw [ha s, bind_ok]
  cases a s with
  | true => rfl
  | false => exact hb s
theorem v_not {u : Rho → Res Bool} {a : σ → Bool} (ha : VQ E u a) : VQ E (notT u) fun s => !a s := fun s => by
  show (u (E s)).bind _ = _
  rw [ha s]; rfl
theorem v_andE {u v : Rho → Res Bool} {a b : σ → Res Bool} (ha : VT E u a) (hb : VT E v b) : VT E (andT u v) fun s => (a s).bind fun c => if c = true then b s else .ok false := fun s => Le.bind (ha s) fun c => by
  cases c with
  | true => exact hb s
  | false => exact rfl
theorem v_orE {u v : Rho → Res Bool} {a b : σ → Res Bool} (ha : VT E u a) (hb : VT E v b) : VT E (orT u v) fun s => (a s).bind fun c => if c = true then .ok true else b s := fun s => Le.bind (ha s) fun c => by
  cases c with
  | true => exact rfl
  | false => exact hb s
theorem v_notE {u : Rho → Res Bool} {a : σ → Res Bool} (ha : VT E u a) : VT E (notT u) fun s => (a s).bind fun c => .ok (!c) := fun s => Le.bind (ha s) fun c => rfl
theorem v_andV {f g : Rho → Res D} {a b : σ → Bool} (ha : VP E eB f a) (hb : VP E eB g b) : VP E eB (andV f g) fun s => a s && b s := fun s => by
  show (f (E s)).bind _ = .ok (eB (a s && b s))
  rw [ha s, bind_ok]
  show (if a s = true then g (E s) else .ok (.bool false)) = .ok (eB (a s && b s))
  cases a s with
  | true => exact hb s
  | false => rfl
theorem v_orV {f g : Rho → Res D} {a b : σ → Bool} (ha : VP E eB f a) (hb : VP E eB g b) : VP E eB (orV f g) fun s => a s || b s := fun s => by
  show (f (E s)).bind _ = .ok (eB (a s || b s))
  rw [ha s, bind_ok]
  show (if a s = true then .ok (.bool true) else g (E s)) = .ok (eB (a s || b s))
  cases a s with
  | true => rfl
  | false => exact hb s
theorem v_notV {f : Rho → Res D} {a : σ → Bool} (ha : VP E eB f a) : VP E eB (notV f) fun s => !a s := fun s => by
  show (f (E s)).bind _ = _
  rw [ha s]; rfl
theorem v_andVE {f g : Rho → Res D} {a b : σ → Res Bool} (ha : VE E eB f a) (hb : VE E eB g b) : VE E eB (andV f g) fun s => (a s).bind fun c => if c = true then b s else .ok false := fun s => Le.bind (ha s) fun c => by
  show Le eB (if c = true then b s else _) (if c = true then g (E s) else _)
  cases c with
  | true => exact hb s
  | false => exact rfl
theorem v_orVE {f g : Rho → Res D} {a b : σ → Res Bool} (ha : VE E eB f a) (hb : VE E eB g b) : VE E eB (orV f g) fun s => (a s).bind fun c => if c = true then .ok true else b s := fun s => Le.bind (ha s) fun c => by
  show Le eB (if c = true then _ else b s) (if c = true then _ else g (E s))
  cases c with
  | true => exact rfl
  | false => exact hb s
theorem v_notVE {f : Rho → Res D} {a : σ → Res Bool} (ha : VE E eB f a) : VE E eB (notV f) fun s => (a s).bind fun c => .ok (!c) := fun s => Le.bind (ha s) fun c => rfl
theorem v_chn {f g h : Rho → Res D} {k k' : D → D → Res D} {p : α → β → Bool} {p' : β → γ → Bool} {a : σ → α} {b : σ → β} {c : σ → γ} (o : ∀ x y, k (e1 x) (e2 y) = .ok (eB (p x y))) (o' : ∀ x y, k' (e2 x) (e3 y) = .ok (eB (p' x y))) (ha : VP E e1 f a) (hb : VP E e2 g b) (hc : VP E e3 h c) :
    VP E eB (chn f g h k k') fun s => p (a s) (b s) && p' (b s) (c s) := fun s => by
  show (f (E s)).bind _ = .ok (eB (p (a s) (b s) && p' (b s) (c s)))
  rw [ha s, bind_ok, hb s, bind_ok, o, bind_ok]
  show (if p (a s) (b s) = true then (h (E s)).bind (fun w => k' (e2 (b s)) w) else .ok (.bool false)) = .ok (eB (p (a s) (b s) && p' (b s) (c s)))
  cases p (a s) (b s) with
  | true => rw [if_pos rfl, hc s, bind_ok, o']; rfl
  | false => rfl
theorem v_chnE {f g h : Rho → Res D} {k k' : D → D → Res D} {p : α → β → Bool} {p' : β → γ → Bool} {a : σ → Res α} {b : σ → Res β} {c : σ → Res γ} (o : ∀ x y, k (e1 x) (e2 y) = .ok (eB (p x y))) (o' : ∀ x y, k' (e2 x) (e3 y) = .ok (eB (p' x y))) (ha : VE E e1 f a) (hb : VE E e2 g b) (hc : VE E e3 h c) :
    VE E eB (chn f g h k k') fun s => (a s).bind fun x => (b s).bind fun y => if p x y = true then (c s).bind fun z => .ok (p' y z) else .ok false := fun s => Le.bind (ha s) fun x => Le.bind (hb s) fun y => by
  rw [o, bind_ok]
  show Le eB _ (if p x y = true then _ else _)
  cases p x y with
  | true => exact Le.bind (hc s) fun z => o' y z
  | false => exact rfl
theorem v_ifE {t : Rho → Res Bool} {f g : Rho → Res D} {b : σ → Bool} {u v : σ → Res α} (hb : VQ E t b) (hf : VE E enc f u) (hg : VE E enc g v) : VE E enc (ifE t f g) fun s => if b s = true then u s else v s := fun s => by
  show Le enc _ ((t (E s)).bind _)
  rw [hb s, bind_ok]
  dsimp only
  split
  · exact hf s
  · exact hg s
theorem v_ifEE {t : Rho → Res Bool} {f g : Rho → Res D} {b : σ → Res Bool} {u v : σ → Res α} (hb : VT E t b) (hf : VE E enc f u) (hg : VE E enc g v) : VE E enc (ifE t f g) fun s => (b s).bind fun c => if c = true then u s else v s := fun s => Le.bind (hb s) fun c => by
  dsimp only [id]
  split
  · exact hf s
  · exact hg s
/-! argument lists -/
theorem va_nil : VAP E (fun _ : Unit => []) nilR fun _ => () := fun _ => rfl
theorem va_one {f : Rho → Res D} {v : σ → α} (h : VP E enc f v) : VAP E (fun x => [enc x]) (consR f nilR) v := fun s => by
  show (f (E s)).bind _ = _; rw [h s]; rfl
theorem va_cons {f : Rho → Res D} {g : Rho → Res (List D)} {el : τ → List D} {v : σ → α} {w : σ → τ} (h : VP E enc f v) (hg : VAP E el g w) : VAP E (fun x : α × τ => enc x.1 :: el x.2) (consR f g) fun s => (v s, w s) := fun s => by
  show (f (E s)).bind _ = _
  rw [h s, bind_ok, hg s]; rfl
theorem va_oneE {f : Rho → Res D} {v : σ → Res α} (h : VE E enc f v) : VA E (fun x => [enc x]) (consR f nilR) v := fun s => by
  have := h s
  show Le _ (v s) ((f (E s)).bind _)
  cases q : v s with
  | ok x => rw [q] at this; rw [show f (E s) = .ok (enc x) from this]; rfl
  | ex c => rw [q] at this; rw [show f (E s) = .ex c from this]; rfl
  | bad => trivial
theorem va_consE {f : Rho → Res D} {g : Rho → Res (List D)} {el : τ → List D} {v : σ → Res α} {w : σ → Res τ} (h : VE E enc f v) (hg : VA E el g w) : VA E (fun x : α × τ => enc x.1 :: el x.2) (consR f g) fun s => (v s).bind fun x => (w s).bind fun y => .ok (x, y) := fun s =>
  Le.bind (h s) fun x => Le.bind (hg s) fun y => rfl
/-- calls -/
theorem v_call {n : Nat} {fa : Rho → Res (List D)} {S : List D → Res D} {el : τ → List D} {T : τ → Res α} {v : σ → τ} (hS : ∀ x, Le enc (T x) (S (el x))) (hl : ∀ x, (el x).length = n) (ha : VAP E el fa v) : VE E enc (clR n fa S) fun s => T (v s) := fun s => by
  show Le enc _ ((fa (E s)).bind _)
  rw [ha s, bind_ok, if_pos (hl _)]; exact hS _
theorem v_callE {n : Nat} {fa : Rho → Res (List D)} {S : List D → Res D} {el : τ → List D} {T : τ → Res α} {v : σ → Res τ} (hS : ∀ x, Le enc (T x) (S (el x))) (hl : ∀ x, (el x).length = n) (ha : VA E el fa v) : VE E enc (clR n fa S) fun s => (v s).bind T := fun s => Le.bind (ha s) fun x => by
  rw [if_pos (hl x)]; exact hS x
theorem v_bi {fa : Rho → Res (List D)} {k : List D → Res D} {el : τ → List D} {T : τ → α} {v : σ → τ} (o : ∀ x, k (el x) = .ok (enc (T x))) (ha : VAP E el fa v) : VP E enc (callR fa k) fun s => T (v s) := fun s => by
  show (fa (E s)).bind _ = _
  rw [ha s]; exact o _
theorem v_biE {fa : Rho → Res (List D)} {k : List D → Res D} {el : τ → List D} {T : τ → Res α} {v : σ → Res τ} (o : ∀ x, Le enc (T x) (k (el x))) (ha : VA E el fa v) : VE E enc (callR fa k) fun s => (v s).bind T := fun s => Le.bind (ha s) fun x => o x
theorem b_lenL {e : α → D} (x : List α) : lenD [eL e x] = .ok (eI x.length) := by show Res.ok _ = _; simp
theorem b_lenV {e : α → D} (x : List α) : lenD [eV e x] = .ok (eI x.length) := by show Res.ok _ = _; simp
theorem b_int (x : Int) : intD [eI x] = .ok (eI x) := rfl
theorem b_intB (x : Bool) : intD [eB x] = .ok (eI (if x = true then 1 else 0)) := rfl
theorem b_abs (x : Int) : absD [eI x] = .ok (eI (if x < 0 then -x else x)) := rfl
theorem b_max (x : Int × Int) : maxD [eI x.1, eI x.2] = .ok (eI (if x.2 > x.1 then x.2 else x.1)) := rfl
theorem b_min (x : Int × Int) : minD [eI x.1, eI x.2] = .ok (eI (if x.2 < x.1 then x.2 else x.1)) := rfl
theorem b_tupL {e : α → D} (x : List α) : tupleD [eL e x] = .ok (eV e x) := rfl
theorem b_tupV {e : α → D} (x : List α) : tupleD [eV e x] = .ok (eV e x) := rfl
theorem b_sum (x : List Int) : sumD [eL eI x] = .ok (eI x.sum) := sum_ints x
theorem b_all (x : List Bool) : allD [eL eB x] = .ok (eB (x.all id)) := by show (match boolsOf (x.map eB) with | some ns => _ | none => _) = _; rw [boolsOf_map]
theorem b_any (x : List Bool) : anyD [eL eB x] = .ok (eB (x.any id)) := by show (match boolsOf (x.map eB) with | some ns => _ | none => _) = _; rw [boolsOf_map]
/-! index, slices -/
def ixT (xs : List α) (i : Int) : Res α := match atI xs i with
  | some v => .ok v
  | none => .bad
theorem atI_map {e : α → D} (xs : List α) (i : Int) : atI (xs.map e) i = (atI xs i).map e := by
  unfold atI
  rw [List.length_map]
  cases ixN xs.length i with
  | none => rfl
  | some j => exact List.getElem?_map
theorem o_ixL {e : α → D} (xs : List α) (i : Int) : Le e (ixT xs i) (ixD (eL e xs) (eI i)) := by
  unfold ixT
  cases h : atI xs i with
  | none => trivial
  | some v =>
    show (match atI (xs.map e) i with | some d => Res.ok d | none => .bad) = _
    rw [atI_map, h]; rfl
theorem o_ixV {e : α → D} (xs : List α) (i : Int) : Le e (ixT xs i) (ixD (eV e xs) (eI i)) := by
  unfold ixT
  cases h : atI xs i with
  | none => trivial
  | some v =>
    show (match atI (xs.map e) i with | some d => Res.ok d | none => .bad) = _
    rw [atI_map, h]; rfl
theorem v_prj {f : Rho → Res D} {v : σ → α} {i : Int} {π : α → β} (o : ∀ x, ixD (e1 x) (.int i) = .ok (e2 (π x))) (h : VP E e1 f v) : VP E e2 (do2 f (cI i) ixD) fun s => π (v s) := fun s => by
  show (f (E s)).bind _ = _
  rw [h s, bind_ok, cI_e, bind_ok]; exact o _
theorem v_prjE {f : Rho → Res D} {v : σ → Res α} {i : Int} {π : α → β} (o : ∀ x, ixD (e1 x) (.int i) = .ok (e2 (π x))) (h : VE E e1 f v) : VE E e2 (do2 f (cI i) ixD) fun s => (v s).bind fun x => .ok (π x) := fun s => Le.bind (h s) fun x => by show _ = _; rw [cI_e, bind_ok]; exact o x
theorem vo_none : VOP E oNone fun _ => none := fun _ => rfl
theorem vo_some {f : Rho → Res D} {v : σ → Int} (h : VP E eI f v) : VOP E (oSome f) fun s => some (v s) := fun s => by
  show (f (E s)).bind _ = _; rw [h s]; rfl
theorem cutL_map2 {e : α → D} (xs : List α) (lo hi : Option Int) : cutL (xs.map e) lo hi = (cutL xs lo hi).map e := by
  unfold cutL
  rw [List.length_map, ← List.map_drop, ← List.map_take]
theorem v_cutL {e : α → D} {f : Rho → Res D} {g h : Rho → Res (Option Int)} {v : σ → List α} {a b : σ → Option Int} (hf : VP E (eL e) f v) (hg : VOP E g a) (hh : VOP E h b) : VP E (eL e) (cutR f g h) fun s => cutL (v s) (a s) (b s) := fun s => by
  show (f (E s)).bind _ = _
  rw [hf s, bind_ok, hg s, bind_ok, hh s, bind_ok]
  show Res.ok (PyData.list (cutL ((v s).map e) _ _)) = _
  rw [cutL_map2]
theorem v_cutV {e : α → D} {f : Rho → Res D} {g h : Rho → Res (Option Int)} {v : σ → List α} {a b : σ → Option Int} (hf : VP E (eV e) f v) (hg : VOP E g a) (hh : VOP E h b) : VP E (eV e) (cutR f g h) fun s => cutL (v s) (a s) (b s) := fun s => by
  show (f (E s)).bind _ = _
  rw [hf s, bind_ok, hg s, bind_ok, hh s, bind_ok]
  show Res.ok (PyData.tuple (cutL ((v s).map e) _ _)) = _
  rw [cutL_map2]
theorem v_cutLE {e : α → D} {f : Rho → Res D} {g h : Rho → Res (Option Int)} {v : σ → Res (List α)} {a b : σ → Res (Option Int)} (hf : VE E (eL e) f v) (hg : VO E g a) (hh : VO E h b) : VE E (eL e) (cutR f g h) fun s => (v s).bind fun x => (a s).bind fun lo => (b s).bind fun hi => .ok (cutL x lo hi) := fun s => Le.bind (hf s) fun x => Le.bind (hg s) fun lo => Le.bind (hh s) fun hi => by
  show Res.ok (PyData.list (cutL (x.map e) _ _)) = _
  rw [cutL_map2]; rfl
theorem v_cutVE {e : α → D} {f : Rho → Res D} {g h : Rho → Res (Option Int)} {v : σ → Res (List α)} {a b : σ → Res (Option Int)} (hf : VE E (eV e) f v) (hg : VO E g a) (hh : VO E h b) : VE E (eV e) (cutR f g h) fun s => (v s).bind fun x => (a s).bind fun lo => (b s).bind fun hi => .ok (cutL x lo hi) := fun s => Le.bind (hf s) fun x => Le.bind (hg s) fun lo => Le.bind (hh s) fun hi => by
  show Res.ok (PyData.tuple (cutL (x.map e) _ _)) = _
  rw [cutL_map2]; rfl
/-! joins, displays -/
def catT (xs ys : List α) : Res (List α) := if xs.length + ys.length ≤ 16777216 then .ok (xs ++ ys) else .bad
theorem o_catL {e : α → D} (xs ys : List α) : Le (eL e) (catT xs ys) (addD (eL e xs) (eL e ys)) := by
  unfold catT
  split
  · rename_i h
    show (if _ then _ else _) = _
    rw [if_pos (by simpa using h)]; simp
  · trivial
theorem o_catV {e : α → D} (xs ys : List α) : Le (eV e) (catT xs ys) (addD (eV e xs) (eV e ys)) := by
  unfold catT
  split
  · rename_i h
    show (if _ then _ else _) = _
    rw [if_pos (by simpa using h)]; simp
  · trivial
theorem v_tup {fa : Rho → Res (List D)} {el : τ → List D} {v : σ → τ} (h : VAP E el fa v) (hl : ∀ x, (el x).length ≤ 16777216) : VP E (fun x => .tuple (el x)) (tupR fa) v := fun s => by
  show (fa (E s)).bind _ = _
  rw [h s, bind_ok, if_pos (hl _)]
theorem v_tupE {fa : Rho → Res (List D)} {el : τ → List D} {v : σ → Res τ} (h : VA E el fa v) (hl : ∀ x, (el x).length ≤ 16777216) : VE E (fun x => .tuple (el x)) (tupR fa) v := fun s => by
  have := h s
  show Le _ (v s) ((fa (E s)).bind _)
  cases q : v s with
  | ok x => rw [q] at this; rw [show fa (E s) = .ok (el x) from this, bind_ok, if_pos (hl _)]; rfl
  | ex c => rw [q] at this; rw [show fa (E s) = .ex c from this]; rfl
  | bad => trivial
/-! displays of one type: vi_cons gives lists -/
theorem vi_nil : VIP E enc nilR fun _ => [] := fun _ => rfl
theorem vi_cons {f : Rho → Res D} {g : Rho → Res (List D)} {v : σ → α} {w : σ → List α} (h : VP E enc f v) (hg : VIP E enc g w) : VIP E enc (consR f g) fun s => v s :: w s := fun s => by
  show (f (E s)).bind _ = _
  rw [h s, bind_ok, hg s]; rfl
theorem vi_consE {f : Rho → Res D} {g : Rho → Res (List D)} {v : σ → Res α} {w : σ → Res (List α)} (h : VE E enc f v) (hg : VI E enc g w) : VI E enc (consR f g) fun s => (v s).bind fun x => (w s).bind fun y => .ok (x :: y) := fun s => Le.bind (h s) fun x => Le.bind (hg s) fun y => rfl
theorem vi_starL {f : Rho → Res D} {g : Rho → Res (List D)} {v : σ → List α} {w : σ → List α} (h : VP E (eL enc) f v) (hg : VIP E enc g w) : VIP E enc (starR f g) fun s => v s ++ w s := fun s => by
  show (f (E s)).bind _ = _
  rw [h s, bind_ok]
  show (Res.ok _).bind _ = _
  rw [bind_ok, hg s, bind_ok, List.map_append]
theorem vi_starV {f : Rho → Res D} {g : Rho → Res (List D)} {v : σ → List α} {w : σ → List α} (h : VP E (eV enc) f v) (hg : VIP E enc g w) : VIP E enc (starR f g) fun s => v s ++ w s := fun s => by
  show (f (E s)).bind _ = _
  rw [h s, bind_ok]
  show (Res.ok _).bind _ = _
  rw [bind_ok, hg s, bind_ok, List.map_append]
theorem vi_starLE {f : Rho → Res D} {g : Rho → Res (List D)} {v : σ → Res (List α)} {w : σ → Res (List α)} (h : VE E (eL enc) f v) (hg : VI E enc g w) : VI E enc (starR f g) fun s => (v s).bind fun x => (w s).bind fun y => .ok (x ++ y) := fun s => Le.bind (h s) fun x => by
  show Le _ _ ((Res.ok _).bind _)
  rw [bind_ok]
  exact Le.bind (hg s) fun y => by show _ = _; rw [List.map_append]
theorem vi_starVE {f : Rho → Res D} {g : Rho → Res (List D)} {v : σ → Res (List α)} {w : σ → Res (List α)} (h : VE E (eV enc) f v) (hg : VI E enc g w) : VI E enc (starR f g) fun s => (v s).bind fun x => (w s).bind fun y => .ok (x ++ y) := fun s => Le.bind (h s) fun x => by
  show Le _ _ ((Res.ok _).bind _)
  rw [bind_ok]
  exact Le.bind (hg s) fun y => by show _ = _; rw [List.map_append]
@[irreducible] def limT (xs : List α) : Res (List α) := if xs.length ≤ 16777216 then .ok xs else .bad
theorem lim_le {e : α → D} {t : Res (List α)} {r : Res (List D)} {el : List α → β} {h : List D → Res β} (a : Le (List.map e) t r) (o : ∀ xs : List α, xs.length ≤ 16777216 → h (xs.map e) = .ok (el xs)) : Le el (t.bind limT) (r.bind h) := by
  cases t with
  | ok xs =>
    rw [show r = .ok (xs.map e) from a, bind_ok, bind_ok]
    unfold limT
    split
    · rename_i hz; exact o xs hz
    · trivial
  | ex c => rw [show r = .ex c from a]; rfl
  | bad => trivial
theorem v_tupVE {f : Rho → Res (List D)} {t : σ → Res (List α)} (h : VI E enc f t) : VE E (eV enc) (tupR f) fun s => (t s).bind limT := fun s => lim_le (h s) fun xs hz => if_pos (by simpa using hz)
theorem v_nlE {f : Rho → Res (List D)} {t : σ → Res (List α)} (h : VI E enc f t) : VI E enc (nlR f) fun s => (t s).bind limT := fun s => lim_le (h s) fun xs hz => if_pos (by simpa using hz)
/-- of a display without stars: its length is plain -/
theorem v_tupVP {f : Rho → Res (List D)} {t : σ → List α} (h : VIP E enc f t) (hl : ∀ s, (t s).length ≤ 16777216) : VP E (eV enc) (tupR f) t := fun s => by
  show (f (E s)).bind _ = _
  rw [h s, bind_ok, if_pos (by simpa using hl s)]
theorem v_nlP {f : Rho → Res (List D)} {t : σ → List α} (h : VIP E enc f t) (hl : ∀ s, (t s).length ≤ 16777216) : VIP E enc (nlR f) t := fun s => by
  show (f (E s)).bind _ = _
  rw [h s, bind_ok, if_pos (by simpa using hl s)]
theorem v_nE {f : Rho → Res (List D)} {t : σ → Res (List α)} (h : VI E enc f t) : VE E (eL enc) (nE f) t := fun s => by
  have := h s
  show Le _ (t s) ((f (E s)).bind _)
  cases q : t s with
  | ok xs => rw [q] at this; rw [show f (E s) = .ok (xs.map enc) from this]; rfl
  | ex c => rw [q] at this; rw [show f (E s) = .ex c from this]; rfl
  | bad => trivial
theorem v_nEP {f : Rho → Res (List D)} {t : σ → List α} (h : VIP E enc f t) : VP E (eL enc) (nE f) t := fun s => by
  show (f (E s)).bind _ = _
  rw [h s]; rfl
theorem v_listL {f : Rho → Res (List D)} {t : σ → List α} (h : VAP E (fun x => [eL enc x]) f t) : VIP E enc (nliR f) t := fun s => by
  show (f (E s)).bind _ = _
  rw [h s]; rfl
theorem v_listV {f : Rho → Res (List D)} {t : σ → List α} (h : VAP E (fun x => [eV enc x]) f t) : VIP E enc (nliR f) t := fun s => by
  show (f (E s)).bind _ = _
  rw [h s]; rfl
theorem v_listLE {f : Rho → Res (List D)} {t : σ → Res (List α)} (h : VA E (fun x => [eL enc x]) f t) : VI E enc (nliR f) t := fun s => by
  have := h s
  show Le _ (t s) ((f (E s)).bind _)
  cases q : t s with
  | ok xs => rw [q] at this; rw [show f (E s) = .ok [eL enc xs] from this]; rfl
  | ex c => rw [q] at this; rw [show f (E s) = .ex c from this]; rfl
  | bad => trivial
theorem v_listVE {f : Rho → Res (List D)} {t : σ → Res (List α)} (h : VA E (fun x => [eV enc x]) f t) : VI E enc (nliR f) t := fun s => by
  have := h s
  show Le _ (t s) ((f (E s)).bind _)
  cases q : t s with
  | ok xs => rw [q] at this; rw [show f (E s) = .ok [eV enc xs] from this]; rfl
  | ex c => rw [q] at this; rw [show f (E s) = .ex c from this]; rfl
  | bad => trivial
theorem v_addLL {f g : Rho → Res D} {a b : σ → Res (List α)} (ha : VE E (eL enc) f a) (hb : VE E (eL enc) g b) : VI E enc (do2L f g addLL) fun s => (a s).bind fun x => (b s).bind fun y => catT x y := fun s => Le.bind (ha s) fun x => Le.bind (hb s) fun y => by
  unfold catT
  split
  · rename_i h
    show (if _ then _ else _) = _
    rw [if_pos (by simpa using h)]; simp
  · trivial
end
end V

set_option linter.all false
set_option maxRecDepth 100000
namespace V
open PySem PySem.Spec PyProof.Rows L2 RZ J
section
variable {σ σ' α β γ δ τ Ω : Type} {E E' : σ → Rho} {enc : α → D} {e1 : α → D} {e2 : β → D} {e3 : γ → D}
/-! iterations -/
theorem w_list {f : Rho → Res D} {v : σ → List α} (h : VP E (eL enc) f v) : VIP E enc (itR f) v := fun s => by show (f (E s)).bind _ = _; rw [h s]; rfl
theorem w_tup {f : Rho → Res D} {v : σ → List α} (h : VP E (eV enc) f v) : VIP E enc (itR f) v := fun s => by show (f (E s)).bind _ = _; rw [h s]; rfl
theorem w_listE {f : Rho → Res D} {v : σ → Res (List α)} (h : VE E (eL enc) f v) : VI E enc (itR f) v := fun s => by
  have := h s
  show Le _ (v s) ((f (E s)).bind _)
  cases q : v s with
  | ok xs => rw [q] at this; rw [show f (E s) = .ok (eL enc xs) from this]; rfl
  | ex c => rw [q] at this; rw [show f (E s) = .ex c from this]; rfl
  | bad => trivial
theorem w_tupE {f : Rho → Res D} {v : σ → Res (List α)} (h : VE E (eV enc) f v) : VI E enc (itR f) v := fun s => by
  have := h s
  show Le _ (v s) ((f (E s)).bind _)
  cases q : v s with
  | ok xs => rw [q] at this; rw [show f (E s) = .ok (eV enc xs) from this]; rfl
  | ex c => rw [q] at this; rw [show f (E s) = .ex c from this]; rfl
  | bad => trivial
theorem w_tupT {f : Rho → Res D} {v : σ → List α} (h : VP E (eV enc) f v) : VIP E enc (itTR f) v := fun s => by show (f (E s)).bind _ = _; rw [h s]; rfl
theorem w_tupTE {f : Rho → Res D} {v : σ → Res (List α)} (h : VE E (eV enc) f v) : VI E enc (itTR f) v := fun s => by
  have := h s
  show Le _ (v s) ((f (E s)).bind _)
  cases q : v s with
  | ok xs => rw [q] at this; rw [show f (E s) = .ok (eV enc xs) from this]; rfl
  | ex c => rw [q] at this; rw [show f (E s) = .ex c from this]; rfl
  | bad => trivial
/-- a text, sign by sign -/
def signsT (x : Str) : List Str := x.cps.toList.map fun c => (⟨#[c]⟩ : Str)
theorem w_str {f : Rho → Res D} {v : σ → Str} (h : VP E eS f v) : VIP E eS (itR f) fun s => signsT (v s) := fun s => by
  show (f (E s)).bind _ = _
  rw [h s, bind_ok]
  show Res.ok _ = Res.ok _
  unfold signsT
  rw [List.map_map]; rfl
def rngI (lo hi : Int) : List Int := (List.range (hi - lo).toNat).map fun (k : Nat) => lo + k
@[irreducible] def rngT (lo hi : Int) : Res (List Int) := if (-4611686018427387904 ≤ lo ∧ lo < 4611686018427387904) ∧ -4611686018427387904 ≤ hi ∧ hi < 4611686018427387904 then .ok (rngI lo hi) else .bad
theorem rngD_map (lo hi : Int) : rngD lo hi = (rngI lo hi).map eI := by
  unfold rngD rngI
  rw [List.map_map]; rfl
theorem w_rng1 {f : Rho → Res D} {v : σ → Res Int} (h : VE E eI f v) : VI E eI (rng1R (consR f nilR)) fun s => (v s).bind fun x => rngT 0 x := fun s => by
  have := h s
  show Le _ ((v s).bind _) ((Res.bind ((f (E s)).bind fun x => .ok [x])) _)
  cases q : v s with
  | ok x =>
    rw [q] at this
    rw [show f (E s) = .ok (eI x) from this, bind_ok]
    unfold rngT
    split
    · rename_i hz
      exact (if_pos hz.2).trans (congrArg Res.ok (rngD_map 0 x))
    · trivial
  | ex c => rw [q] at this; rw [show f (E s) = .ex c from this]; rfl
  | bad => trivial
theorem w_rng2 {f g : Rho → Res D} {v w : σ → Res Int} (h : VE E eI f v) (h' : VE E eI g w) : VI E eI (rng2R (consR f (consR g nilR))) fun s => (v s).bind fun x => (w s).bind fun y => rngT x y := fun s => by
  have a := h s
  have b := h' s
  show Le _ ((v s).bind _) ((Res.bind ((f (E s)).bind fun x => ((g (E s)).bind fun y => .ok [y]).bind fun xs => .ok (x :: xs))) _)
  cases q : v s with
  | ok x =>
    rw [q] at a
    rw [show f (E s) = .ok (eI x) from a, bind_ok]
    cases q2 : w s with
    | ok y =>
      rw [q2] at b
      rw [show g (E s) = .ok (eI y) from b, bind_ok, bind_ok, bind_ok, bind_ok, bind_ok]
      unfold rngT
      split
      · rename_i hz
        exact (if_pos hz).trans (congrArg Res.ok (rngD_map x y))
      · trivial
    | ex c => rw [q2] at b; rw [show g (E s) = .ex c from b]; rfl
    | bad => trivial
  | ex c => rw [q] at a; rw [show f (E s) = .ex c from a]; rfl
  | bad => trivial
/-- bounds that are written -/
theorem w_rngc {j : Int} (h : -4611686018427387904 ≤ j ∧ j < 4611686018427387904) : VIP E eI (rng1R (consR (cI j) nilR)) fun _ => rngI 0 j := fun s => (if_pos h).trans (congrArg Res.ok (rngD_map 0 j))
theorem w_rngcc {i j : Int} (h : (-4611686018427387904 ≤ i ∧ i < 4611686018427387904) ∧ -4611686018427387904 ≤ j ∧ j < 4611686018427387904) : VIP E eI (rng2R (consR (cI i) (consR (cI j) nilR))) fun _ => rngI i j := fun s => (if_pos h).trans (congrArg Res.ok (rngD_map i j))
theorem zip2_map {e : α → D} {e' : β → D} (xs : List α) (ys : List β) : zip2 (xs.map e) (ys.map e') = (List.zip xs ys).map fun p => PyData.tuple [e p.1, e' p.2] := by
  unfold zip2
  rw [List.zipWith_map, List.zip, List.map_zipWith]
theorem w_zipL {e : α → D} {e' : β → D} {f : Rho → Res (List D)} {v : σ → List α × List β} (h : VAP E (fun x => [eL e x.1, eL e' x.2]) f v) : VIP E (fun p : α × β => PyData.tuple [e p.1, e' p.2]) (zipR f) fun s => List.zip (v s).1 (v s).2 := fun s => by
  show (f (E s)).bind _ = _
  rw [h s, bind_ok]
  show Res.ok (zip2 _ _) = _
  rw [zip2_map]
theorem w_zipV {e : α → D} {e' : β → D} {f : Rho → Res (List D)} {v : σ → List α × List β} (h : VAP E (fun x => [eV e x.1, eV e' x.2]) f v) : VIP E (fun p : α × β => PyData.tuple [e p.1, e' p.2]) (zipR f) fun s => List.zip (v s).1 (v s).2 := fun s => by
  show (f (E s)).bind _ = _
  rw [h s, bind_ok]
  show Res.ok (zip2 _ _) = _
  rw [zip2_map]
theorem w_zipLE {e : α → D} {e' : β → D} {f : Rho → Res (List D)} {v : σ → Res (List α × List β)} (h : VA E (fun x => [eL e x.1, eL e' x.2]) f v) : VI E (fun p : α × β => PyData.tuple [e p.1, e' p.2]) (zipR f) fun s => (v s).bind fun x => .ok (List.zip x.1 x.2) := fun s => Le.bind (h s) fun x => by
  show Res.ok (zip2 _ _) = _
  rw [zip2_map]
theorem w_zipVE {e : α → D} {e' : β → D} {f : Rho → Res (List D)} {v : σ → Res (List α × List β)} (h : VA E (fun x => [eV e x.1, eV e' x.2]) f v) : VI E (fun p : α × β => PyData.tuple [e p.1, e' p.2]) (zipR f) fun s => (v s).bind fun x => .ok (List.zip x.1 x.2) := fun s => Le.bind (h s) fun x => by
  show Res.ok (zip2 _ _) = _
  rw [zip2_map]
def enumT (xs : List α) : List (Int × α) := List.zipWith (fun (k : Nat) a => ((k : Int), a)) (List.range xs.length) xs
theorem enum_map {e : α → D} (xs : List α) : enumD (xs.map e) = (enumT xs).map fun p => PyData.tuple [eI p.1, e p.2] := by
  unfold enumD enumT
  rw [List.length_map, List.zipWith_map_right, List.map_zipWith]
theorem w_enum {f : Rho → Res D} {v : σ → List α} (h : VP E (eL enc) f v) : VIP E (fun p : Int × α => PyData.tuple [eI p.1, enc p.2]) (enumR (consR f nilR)) fun s => enumT (v s) := fun s => by
  show (Res.bind ((f (E s)).bind _) _) = _
  rw [h s]
  show Res.ok (enumD _) = _
  rw [enum_map]
theorem w_enumE {f : Rho → Res D} {v : σ → Res (List α)} (h : VE E (eL enc) f v) : VI E (fun p : Int × α => PyData.tuple [eI p.1, enc p.2]) (enumR (consR f nilR)) fun s => (v s).bind fun x => .ok (enumT x) := fun s => by
  have := h s
  show Le _ ((v s).bind _) (Res.bind ((f (E s)).bind _) _)
  cases q : v s with
  | ok xs => rw [q] at this; rw [show f (E s) = .ok (eL enc xs) from this]; show Res.ok (enumD _) = _; rw [enum_map]
  | ex c => rw [q] at this; rw [show f (E s) = .ex c from this]; rfl
  | bad => trivial
/-! comprehensions -/
def mapT (t : α → Res Bool) (f : α → Res β) : List α → Res (List β)
  | [] => .ok []
  | x :: xs => (noEx (t x)).bind fun c => if c = true then (noEx (f x)).bind fun y => (mapT t f xs).bind fun ys => .ok (y :: ys) else mapT t f xs
def compT (t : α → Res Bool) (f : α → Res β) (xs : List α) : Res (List β) := if xs.length ≤ 16777216 then noEx (mapT t f xs) else .bad
theorem Le.noEx {enc : α → δ} {t : Res α} {r : Res δ} (h : Le enc t r) : Le enc (noEx t) (noEx r) := by
  cases t with
  | ok v => rw [show r = .ok (enc v) from h]; exact rfl
  | ex c => trivial
  | bad => trivial
theorem lc_map {b : D → Rho → Res Rho} {tt : Rho → Res Bool} {fe : Rho → Res D} {ρ : Rho} {E2 : α → Rho} {e : α → D} {t : α → Res Bool} {f : α → Res β} (hb : ∀ x, b (e x) ρ = .ok (E2 x)) (ht : VT E2 tt t) (hf : VE E2 e2 fe f) : ∀ xs : List α, Le (List.map e2) (mapT t f xs) (lcL b tt fe ρ (xs.map e))
  | [] => rfl
  | x :: xs => by
    show Le _ _ ((b (e x) ρ).bind _)
    rw [hb x, bind_ok]
    refine Le.bind (enc := id) (Le.noEx (ht x)) fun c => ?_
    cases c with
    | true => exact Le.bind (Le.noEx (hf x)) fun y => Le.bind (lc_map hb ht hf xs) fun ys => rfl
    | false => exact lc_map hb ht hf xs
theorem v_lc {fi : Rho → Res (List D)} {b : D → Rho → Res Rho} {tt : Rho → Res Bool} {fe : Rho → Res D} {vs : List Nat} {e : α → D} {xs : σ → Res (List α)} {E2 : σ × α → Rho} {t : σ × α → Res Bool} {f : σ × α → Res β}
    (hi : VI E e fi xs) (hb : ∀ s x, b (e x) (wipeR (E s) vs) = .ok (E2 (s, x))) (ht : VT E2 tt t) (hf : VE E2 e2 fe f) : VI E e2 (lcR fi b tt fe vs) fun s => (xs s).bind fun ys => compT (fun x => t (s, x)) (fun x => f (s, x)) ys := fun s => Le.bind (hi s) fun ys => by
  unfold compT
  rw [List.length_map]
  split
  · exact Le.noEx (lc_map (hb s) (fun x => ht (s, x)) (fun x => hf (s, x)) ys)
  · trivial
theorem vq_noIf : VT E noIf fun _ => .ok true := fun _ => rfl
/-! any, all -/
def gexT (e : Bool) (f : α → Res Bool) : List α → Res Bool
  | [] => .ok (!e)
  | x :: xs => (noEx (f x)).bind fun c => if c = e then .ok e else gexT e f xs
theorem gex_map {e0 : Bool} {b : D → Rho → Res Rho} {fe : Rho → Res D} {ρ : Rho} {E2 : α → Rho} {e : α → D} {f : α → Res Bool} (hb : ∀ x, b (e x) ρ = .ok (E2 x)) (hf : VE E2 eB fe f) : ∀ xs : List α, Le eB (gexT e0 f xs) (gexL e0 b fe ρ (xs.map e))
  | [] => rfl
  | x :: xs => by
    show Le _ _ ((b (e x) ρ).bind _)
    rw [hb x, bind_ok]
    refine Le.bind (Le.noEx (hf x)) fun c => ?_
    show Le eB (if c = e0 then _ else _) (if c = e0 then _ else _)
    split
    · exact rfl
    · exact gex_map hb hf xs
theorem v_gex {e0 : Bool} {fi : Rho → Res (List D)} {b : D → Rho → Res Rho} {fe : Rho → Res D} {vs : List Nat} {e : α → D} {xs : σ → Res (List α)} {E2 : σ × α → Rho} {f : σ × α → Res Bool}
    (hi : VI E e fi xs) (hb : ∀ s x, b (e x) (wipeR (E s) vs) = .ok (E2 (s, x))) (hf : VE E2 eB fe f) : VE E eB (gexR e0 fi b fe vs) fun s => (xs s).bind fun ys => noEx (gexT e0 (fun x => f (s, x)) ys) := fun s => Le.bind (hi s) fun ys => Le.noEx (gex_map (hb s) (fun x => hf (s, x)) ys)
/-! ### statements -/
/-- what the rest of a def, a turn comes to -/
structure Ob (Ω : Type) where
  ok : Ω → SRes → Prop
def ObR {Ω : Type} (o : Ob Ω) (t : Res Ω) (r : SRes) : Prop := match t with
  | .ok w => o.ok w r
  | .ex c => ∃ ρ, r = .ex c ρ
  | .bad => True
def VB (o : Ob Ω) (E : σ → Rho) (g : Rho → SRes) (t : σ → Res Ω) : Prop := ∀ s, ObR o (t s) (g (E s))
theorem ObR.bind {o : Ob Ω} {enc : α → β} {t : Res α} {r : Res β} {ρ : Rho} {k : α → Res Ω} {h : β → SRes} (a : Le enc t r) (b : ∀ v, ObR o (k v) (h (enc v))) : ObR o (t.bind k) (evS r ρ h) := by
  cases t with
  | ok v => rw [show r = .ok (enc v) from a]; exact b v
  | ex c => rw [show r = .ex c from a]; exact ⟨ρ, rfl⟩
  | bad => trivial
/-- at the end of a def -/
def obF (enc : Ω → D) : Ob Ω := ⟨fun w r => toFn r = .ok (enc w)⟩
def obFL (enc : α → D) : Ob (List α) := ⟨fun w r => toFnL r = .ok (w.map enc)⟩
theorem fn_of {o : Ω → D} {g : Rho → SRes} {t : Res Ω} {ρ : Rho} (h : ObR (obF o) t (g ρ)) : Le o t (toFn (g ρ)) := by
  cases t with
  | ok w => exact h
  | ex c => obtain ⟨ρ', e⟩ := h; rw [e]; exact rfl
  | bad => trivial
theorem fnL_of {o : α → D} {g : Rho → SRes} {t : Res (List α)} {ρ : Rho} (h : ObR (obFL o) t (g ρ)) : Le (List.map o) t (toFnL (g ρ)) := by
  cases t with
  | ok w => exact h
  | ex c => obtain ⟨ρ', e⟩ := h; rw [e]; exact rfl
  | bad => trivial
inductive Fl (τ Ω : Type) where
  | nx (s : τ) | bk (s : τ) | out (o : Ω)
/-- a block that is followed by others -/
def obJ (E1 : τ → Rho) (o : Ob Ω) : Ob (Fl τ Ω) := ⟨fun w r => match w with
  | .nx s => r = .nx (E1 s)
  | .bk _ => False
  | .out w => o.ok w r ∧ (∀ ρ, r ≠ .nx ρ) ∧ ∀ c ρ, r ≠ .ex c ρ⟩
/-- a loop's turn -/
def obL (EL : τ → Rho) (fs : List Nat) (o : Ob Ω) : Ob (Fl τ Ω) := ⟨fun w r => match w with
  | .nx s => ∃ ρ, (r = .nx ρ ∨ r = .ct ρ) ∧ forget fs ρ = EL s
  | .bk s => ∃ ρ, r = .bk ρ ∧ forget fs ρ = EL s
  | .out w => o.ok w r ∧ ((∃ d, r = .rt d) ∨ ∃ d, r = .rtO d)⟩

/-! rules of statements. hE: what the state is behind a store -/
theorem s_nx {o : Ob Ω} {w : σ → Res Ω} (h : ∀ s, ObR o (w s) (.nx (E s))) : VB o E nxR w := h
/-- the end of a def that hands back None -/
theorem s_endF {o : Ob Unit} (h : o = obF eN) : VB o E nxR fun _ => .ok () := fun s => by subst h; exact rfl
theorem s_retNF {o : Ob Unit} (h : o = obF eN) : VB o E retN fun _ => .ok () := fun s => by subst h; exact rfl
theorem s_endJ {E1 : τ → Rho} {o : Ob Ω} {π : σ → τ} (h : ∀ s, E s = E1 (π s)) : VB (obJ E1 o) E nxR fun s => .ok (.nx (π s)) := fun s => congrArg SRes.nx (h s)
theorem s_endL {EL : τ → Rho} {fs : List Nat} {o : Ob Ω} {π : σ → τ} (h : ∀ s, forget fs (E s) = EL (π s)) : VB (obL EL fs o) E nxR fun s => .ok (.nx (π s)) := fun s => ⟨E s, .inl rfl, h s⟩
theorem s_ctn {EL : τ → Rho} {fs : List Nat} {o : Ob Ω} {π : σ → τ} (h : ∀ s, forget fs (E s) = EL (π s)) : VB (obL EL fs o) E ctnR fun s => .ok (.nx (π s)) := fun s => ⟨E s, .inr rfl, h s⟩
theorem s_brk {EL : τ → Rho} {fs : List Nat} {o : Ob Ω} {π : σ → τ} (h : ∀ s, forget fs (E s) = EL (π s)) : VB (obL EL fs o) E brkR fun s => .ok (.bk (π s)) := fun s => ⟨E s, rfl, h s⟩
theorem s_ctnG {o : Ob Ω} {w : σ → Ω} (h : ∀ s, o.ok (w s) (.ct (E s))) : VB o E ctnR fun s => .ok (w s) := h
theorem s_brkG {o : Ob Ω} {w : σ → Ω} (h : ∀ s, o.ok (w s) (.bk (E s))) : VB o E brkR fun s => .ok (w s) := h
theorem ct_L {EL : τ → Rho} {fs : List Nat} {o : Ob Ω} {s : τ} {ρ : Rho} (h : forget fs ρ = EL s) : (obL EL fs o).ok (.nx s) (.ct ρ) := ⟨ρ, .inr rfl, h⟩
theorem bk_L {EL : τ → Rho} {fs : List Nat} {o : Ob Ω} {s : τ} {ρ : Rho} (h : forget fs ρ = EL s) : (obL EL fs o).ok (.bk s) (.bk ρ) := ⟨ρ, rfl, h⟩
theorem ct_J {E1 : τ → Rho} {o : Ob Ω} {w : Ω} {ρ : Rho} (h : o.ok w (.ct ρ)) : (obJ E1 o).ok (.out w) (.ct ρ) := ⟨h, fun _ z => (nomatch z), fun _ _ z => (nomatch z)⟩
theorem bk_J {E1 : τ → Rho} {o : Ob Ω} {w : Ω} {ρ : Rho} (h : o.ok w (.bk ρ)) : (obJ E1 o).ok (.out w) (.bk ρ) := ⟨h, fun _ z => (nomatch z), fun _ _ z => (nomatch z)⟩
/-- what may be handed back to the outside -/
structure Out (o : Ob Ω) (enc : α → D) (mk : α → Ω) : Prop where
  rt : ∀ v, o.ok (mk v) (.rt (enc v))
structure OutO (o : Ob Ω) (enc : α → D) (mk : List α → Ω) : Prop where
  rt : ∀ v : List α, o.ok (mk v) (.rtO (v.map enc))
theorem out_F : Out (obF enc) enc id := ⟨fun _ => rfl⟩
theorem out_J {E1 : τ → Rho} {o : Ob Ω} {mk : α → Ω} (h : Out o enc mk) : Out (obJ E1 o) enc (fun v => Fl.out (mk v)) := ⟨fun v => ⟨h.rt v, fun ρ z => (nomatch z), fun c ρ z => (nomatch z)⟩⟩
theorem out_L {EL : τ → Rho} {fs : List Nat} {o : Ob Ω} {mk : α → Ω} (h : Out o enc mk) : Out (obL EL fs o) enc (fun v => Fl.out (mk v)) := ⟨fun v => ⟨h.rt v, .inl ⟨_, rfl⟩⟩⟩
theorem outO_F : OutO (obF (eL enc)) enc id := ⟨fun _ => rfl⟩
theorem outO_FL : OutO (obFL enc) enc id := ⟨fun _ => rfl⟩
theorem outO_J {E1 : τ → Rho} {o : Ob Ω} {mk : List α → Ω} (h : OutO o enc mk) : OutO (obJ E1 o) enc (fun v => Fl.out (mk v)) := ⟨fun v => ⟨h.rt v, fun ρ z => (nomatch z), fun c ρ z => (nomatch z)⟩⟩
theorem outO_L {EL : τ → Rho} {fs : List Nat} {o : Ob Ω} {mk : List α → Ω} (h : OutO o enc mk) : OutO (obL EL fs o) enc (fun v => Fl.out (mk v)) := ⟨fun v => ⟨h.rt v, .inr ⟨_, rfl⟩⟩⟩
theorem s_ret {o : Ob Ω} {mk : α → Ω} {S : List Nat} {f : Rho → Res D} {v : σ → Res α} {ES : σ → Rho} (ho : Out o enc mk) (hS : ∀ s, fzs S (E s) = ES s) (h : VE ES enc f v) : VB o E (retR S f) fun s => (v s).bind fun x => .ok (mk x) := fun s => by
  show ObR o _ (evS (f (fzs S (E s))) _ _)
  rw [hS s]
  exact ObR.bind (h s) fun x => ho.rt x
theorem s_retO {o : Ob Ω} {mk : List α → Ω} {i : Nat} {π : σ → List α} (ho : OutO o enc mk) (h : ∀ s, (E s)[i]? = some (.ow ((π s).map enc))) : VB o E (retO i) fun s => .ok (mk (π s)) := fun s => by
  show o.ok _ (match (E s)[i]? with | some (.ow ds) => SRes.rtO ds | _ => .bad)
  rw [h s]; exact ho.rt _
theorem s_retL {o : Ob Ω} {mk : List α → Ω} {S : List Nat} {f : Rho → Res (List D)} {v : σ → Res (List α)} {ES : σ → Rho} (ho : OutO o enc mk) (hS : ∀ s, fzs S (E s) = ES s) (h : VI ES enc f v) : VB o E (retL S f) fun s => (v s).bind fun x => .ok (mk x) := fun s => by
  show ObR o _ (evS (f (fzs S (E s))) _ _)
  rw [hS s]
  exact ObR.bind (h s) fun x => ho.rt x
theorem s_rai {o : Ob Ω} {c : Xc} : VB o E (raiR c) fun _ => .ex c := fun s => ⟨_, rfl⟩
theorem seq_ev {o : Ob Ω} {f : Res α} {ρ : Rho} {k : α → SRes} {h : Rho → SRes} {t : Res Ω} (q : ObR o t (evS f ρ fun d => match k d with | .nx ρ' => h ρ' | r => r)) : ObR o t (match evS f ρ k with | .nx ρ' => h ρ' | r => r) := by
  cases f <;> exact q
/-- x = e; rest -/
theorem s_set {o : Ob Ω} {S : List Nat} {i : Nat} {f : Rho → Res D} {h : Rho → SRes} {v : σ → Res α} {ES : σ → Rho} {E1 : σ' → Rho} {ins : σ → α → σ'} {k : σ' → Res Ω} (hS : ∀ s, fzs S (E s) = ES s) (hz : S = [] ∨ ∀ x, scalD (enc x) = true) (hf : VE ES enc f v) (hE : ∀ s x, (E s).set i (.sh (enc x)) = E1 (ins s x)) (hk : VB o E1 h k) :
    VB o E (seqR (setR S i f) h) fun s => (v s).bind fun x => k (ins s x) := fun s => by
  refine seq_ev ?_
  rw [hS s]
  refine ObR.bind (hf s) fun x => ?_
  try dsimp only
  rw [if_pos (hz.imp id fun z => z x), hE s x]
  exact hk _
theorem s_setP {o : Ob Ω} {S : List Nat} {i : Nat} {f : Rho → Res D} {h : Rho → SRes} {v : σ → α} {ES : σ → Rho} {E1 : σ' → Rho} {ins : σ → α → σ'} {k : σ' → Res Ω} (hS : ∀ s, fzs S (E s) = ES s) (hz : S = [] ∨ ∀ x, scalD (enc x) = true) (hf : VP ES enc f v) (hE : ∀ s x, (E s).set i (.sh (enc x)) = E1 (ins s x)) (hk : VB o E1 h k) :
    VB o E (seqR (setR S i f) h) fun s => k (ins s (v s)) := s_set hS hz hf.e hE hk
/-- an own list -/
theorem s_own {o : Ob Ω} {S : List Nat} {i : Nat} {f : Rho → Res (List D)} {h : Rho → SRes} {v : σ → Res (List α)} {ES : σ → Rho} {E1 : σ' → Rho} {ins : σ → List α → σ'} {k : σ' → Res Ω} (hS : ∀ s, fzs S (E s) = ES s) (hz : S = [] ∨ ∀ x, scalD (enc x) = true) (hf : VI ES enc f v) (hE : ∀ s x, (E s).set i (.ow (x.map enc)) = E1 (ins s x)) (hk : VB o E1 h k) :
    VB o E (seqR (ownR S i f) h) fun s => (v s).bind fun x => k (ins s x) := fun s => by
  refine seq_ev ?_
  rw [hS s]
  refine ObR.bind (hf s) fun x => ?_
  try dsimp only
  rw [if_pos (hz.imp id fun z => by rw [List.all_map]; exact List.all_eq_true.mpr fun y _ => z y), hE s x]
  exact hk _
theorem s_ownP {o : Ob Ω} {S : List Nat} {i : Nat} {f : Rho → Res (List D)} {h : Rho → SRes} {v : σ → List α} {ES : σ → Rho} {E1 : σ' → Rho} {ins : σ → List α → σ'} {k : σ' → Res Ω} (hS : ∀ s, fzs S (E s) = ES s) (hz : S = [] ∨ ∀ x, scalD (enc x) = true) (hf : VIP ES enc f v) (hE : ∀ s x, (E s).set i (.ow (x.map enc)) = E1 (ins s x)) (hk : VB o E1 h k) :
    VB o E (seqR (ownR S i f) h) fun s => k (ins s (v s)) := s_own hS hz hf.e hE hk
/-- x, y = e -/
theorem s_asg {o : Ob Ω} {b : D → Rho → Res Rho} {f : Rho → Res D} {h : Rho → SRes} {v : σ → Res α} {E1 : σ' → Rho} {ins : σ → α → σ'} {k : σ' → Res Ω} (hf : VE E enc f v) (hE : ∀ s x, b (enc x) (E s) = .ok (E1 (ins s x))) (hk : VB o E1 h k) :
    VB o E (seqR (asgR b f) h) fun s => (v s).bind fun x => k (ins s x) := fun s => by
  refine seq_ev ?_
  refine ObR.bind (hf s) fun x => ?_
  rw [hE s x]
  exact hk _
theorem s_asgP {o : Ob Ω} {b : D → Rho → Res Rho} {f : Rho → Res D} {h : Rho → SRes} {v : σ → α} {E1 : σ' → Rho} {ins : σ → α → σ'} {k : σ' → Res Ω} (hf : VP E enc f v) (hE : ∀ s x, b (enc x) (E s) = .ok (E1 (ins s x))) (hk : VB o E1 h k) :
    VB o E (seqR (asgR b f) h) fun s => k (ins s (v s)) := s_asg hf.e hE hk
/-- x, y = a, b -/
theorem s_par {o : Ob Ω} {i j : Nat} {f : Rho → Res (List D)} {h : Rho → SRes} {v : σ → Res (α × β)} {E1 : σ' → Rho} {ins : σ → α × β → σ'} {k : σ' → Res Ω} (hf : VA E (fun x : α × β => [e1 x.1, e2 x.2]) f v) (hE : ∀ s x, ((E s).set i (.sh (e1 x.1))).set j (.sh (e2 x.2)) = E1 (ins s x)) (hk : VB o E1 h k) :
    VB o E (seqR (parR [] i j f) h) fun s => (v s).bind fun x => k (ins s x) := fun s => by
  refine seq_ev ?_
  refine ObR.bind (hf s) fun x => ?_
  dsimp only
  rw [if_pos (.inl rfl), hE s x]
  exact hk _
theorem s_ex {o : Ob Ω} {S : List Nat} {f : Rho → Res D} {h : Rho → SRes} {v : σ → Res α} {ES : σ → Rho} {k : σ → Res Ω} (hS : ∀ s, fzs S (E s) = ES s) (hf : VE ES enc f v) (hk : VB o E h k) :
    VB o E (seqR (exR S f) h) fun s => (v s).bind fun _ => k s := fun s => by
  refine seq_ev ?_
  rw [hS s]
  exact ObR.bind (hf s) fun x => hk s
def appT (xs : List α) (x : α) : Res (List α) := if xs.length < 16777216 then .ok (xs ++ [x]) else .bad
theorem s_app {o : Ob Ω} {S : List Nat} {i : Nat} {f : Rho → Res D} {h : Rho → SRes} {v : σ → Res α} {π : σ → List α} {ES : σ → Rho} {E1 : σ' → Rho} {ins : σ → List α → σ'} {k : σ' → Res Ω} (hi : ∀ s, (E s)[i]? = some (.ow ((π s).map enc))) (hS : ∀ s, fzs S (E s) = ES s) (hz : S = [] ∨ ∀ x, scalD (enc x) = true) (hf : VE ES enc f v) (hE : ∀ s x, (E s).set i (.ow (x.map enc)) = E1 (ins s x)) (hk : VB o E1 h k) :
    VB o E (seqR (appR S i f) h) fun s => (v s).bind fun x => (appT (π s) x).bind fun y => k (ins s y) := fun s => by
  have e : appR S i f (E s) = evS (f (fzs S (E s))) (E s) fun d => if (S = [] ∨ scalD d = true) ∧ ((π s).map enc).length < 16777216 then .nx ((E s).set i (.ow ((π s).map enc ++ [d]))) else .bad := by
    unfold appR; rw [hi s]
  show ObR o _ (match appR S i f (E s) with | .nx ρ' => h ρ' | r => r)
  rw [e]
  refine seq_ev ?_
  rw [hS s]
  refine ObR.bind (hf s) fun x => ?_
  unfold appT
  rw [List.length_map]
  split
  · rename_i hlt
    rw [if_pos ⟨hz.imp id fun z => z x, hlt⟩]
    have := hE s (π s ++ [x])
    rw [List.map_append] at this
    exact this ▸ hk _
  · trivial
def setT (xs : List α) (i : Int) (x : α) : Res (List α) := if 0 ≤ i ∧ i < xs.length then .ok (xs.set i.toNat x) else .bad
def extT (xs ys : List α) : Res (List α) := if xs.length + ys.length ≤ 16777216 then .ok (xs ++ ys) else .bad
theorem s_ext {o : Ob Ω} {i : Nat} {f : Rho → Res D} {h : Rho → SRes} {v : σ → Res β} {wd : β → List α} {π : σ → List α} {E1 : σ' → Rho} {ins : σ → List α → σ'} {k : σ' → Res Ω} (hi : ∀ s, (E s)[i]? = some (.ow ((π s).map enc))) (hf : VE E e2 f v) (hw : ∀ y, seqD (e2 y) = .ok ((wd y).map enc)) (hE : ∀ s x, (E s).set i (.ow (x.map enc)) = E1 (ins s x)) (hk : VB o E1 h k) :
    VB o E (seqR (extR i f) h) fun s => (v s).bind fun x => (extT (π s) (wd x)).bind fun y => k (ins s y) := fun s => by
  have e : extR i f (E s) = evS (f (E s)) (E s) fun d => match seqD d with
    | .ok zs => if ((π s).map enc).length + zs.length ≤ 16777216 then .nx ((E s).set i (.ow ((π s).map enc ++ zs))) else .bad
    | _ => .bad := by
    unfold extR; rw [hi s]; try rfl
  show ObR o _ (match extR i f (E s) with | .nx ρ' => h ρ' | r => r)
  rw [e]
  refine seq_ev ?_
  refine ObR.bind (hf s) fun x => ?_
  rw [hw x]
  unfold extT
  dsimp only
  rw [List.length_map, List.length_map]
  split
  · rename_i hlt
    have := hE s (π s ++ wd x)
    rw [List.map_append] at this
    exact this ▸ hk _
  · trivial
/-- if, at the end of a block -/
theorem s_if {o : Ob Ω} {S : List Nat} {c : Rho → Res Bool} {g h : Rho → SRes} {b : σ → Res Bool} {t u : σ → Res Ω} {ES : σ → Rho} (hS : ∀ s, fzs S (E s) = ES s) (hc : VT ES c b) (hg : VB o E g t) (hh : VB o E h u) : VB o E (ifR S c g h) fun s => (b s).bind fun z => if z = true then t s else u s := fun s => by
  show ObR o _ (evS (c (fzs S (E s))) _ _)
  rw [hS s]
  refine ObR.bind (hc s) fun z => ?_
  dsimp only [id]
  split
  · exact hg s
  · exact hh s
theorem s_ifP {o : Ob Ω} {S : List Nat} {c : Rho → Res Bool} {g h : Rho → SRes} {b : σ → Bool} {t u : σ → Res Ω} {ES : σ → Rho} (hS : ∀ s, fzs S (E s) = ES s) (hc : VQ ES c b) (hg : VB o E g t) (hh : VB o E h u) : VB o E (ifR S c g h) fun s => if b s = true then t s else u s := s_if hS hc.e hg hh
/-- if c: g (which does not come through); rest -/
theorem seq_if {S : List Nat} {c : Rho → Res Bool} {g k h : Rho → SRes} : seqR (ifR S c g k) h = ifR S c (seqR g h) (seqR k h) := by
  funext ρ
  show (match evS (c (fzs S ρ)) ρ _ with | .nx ρ' => h ρ' | r => r) = evS (c (fzs S ρ)) ρ _
  cases c (fzs S ρ) with
  | ok b => cases b <;> rfl
  | ex _ => rfl
  | bad => rfl
theorem VB.cg {o : Ob Ω} {g g' : Rho → SRes} {t : σ → Res Ω} (h : VB o E g t) (e : g' = g) : VB o E g' t := e ▸ h
theorem s_seqif {o : Ob Ω} {S : List Nat} {c : Rho → Res Bool} {g k h : Rho → SRes} {b : σ → Res Bool} {t u : σ → Res Ω} {ES : σ → Rho} (hS : ∀ s, fzs S (E s) = ES s) (hc : VT ES c b) (hg : VB o E (seqR g h) t) (hh : VB o E (seqR k h) u) : VB o E (seqR (ifR S c g k) h) fun s => (b s).bind fun z => if z = true then t s else u s := (s_if hS hc hg hh).cg seq_if
theorem s_seqifP {o : Ob Ω} {S : List Nat} {c : Rho → Res Bool} {g k h : Rho → SRes} {b : σ → Bool} {t u : σ → Res Ω} {ES : σ → Rho} (hS : ∀ s, fzs S (E s) = ES s) (hc : VQ ES c b) (hg : VB o E (seqR g h) t) (hh : VB o E (seqR k h) u) : VB o E (seqR (ifR S c g k) h) fun s => if b s = true then t s else u s := (s_ifP hS hc hg hh).cg seq_if
/-- what does not come through needs no rest -/
theorem seq_ret {S : List Nat} {f : Rho → Res D} {h : Rho → SRes} : seqR (retR S f) h = retR S f := by
  funext ρ
  show (match evS (f (fzs S ρ)) ρ _ with | .nx ρ' => h ρ' | r => r) = evS (f (fzs S ρ)) ρ _
  cases f (fzs S ρ) <;> rfl
theorem seq_rai {c : Xc} {h : Rho → SRes} : seqR (raiR c) h = raiR c := rfl
theorem seq_brk {h : Rho → SRes} : seqR brkR h = brkR := rfl
theorem seq_ctn {h : Rho → SRes} : seqR ctnR h = ctnR := rfl
theorem seq_nxR {h : Rho → SRes} : seqR nxR h = h := rfl
theorem seq_seq {f g h : Rho → SRes} : seqR (seqR f g) h = seqR f (seqR g h) := by
  funext ρ
  show (match (match f ρ with | .nx ρ' => g ρ' | r => r) with | .nx ρ' => h ρ' | r => r) = match f ρ with | .nx ρ' => (match g ρ' with | .nx ρ'' => h ρ'' | r => r) | r => r
  cases f ρ <;> rfl
theorem seq_fz {S : List Nat} {g h : Rho → SRes} : seqR (fzR S g) h = fzR S (seqR g h) := rfl
theorem s_fz {o : Ob Ω} {S : List Nat} {g : Rho → SRes} {t : σ → Res Ω} {ES : σ → Rho} (hS : ∀ s, fzs S (E s) = ES s) (h : VB o ES g t) : VB o E (fzR S g) t := fun s => by show ObR o _ (g (fzs S (E s))); rw [hS s]; exact h s
/-- a last statement is followed by nothing -/
theorem seq_last {g : Rho → SRes} : seqR g nxR = g := by
  funext ρ
  show (match g ρ with | .nx ρ' => SRes.nx ρ' | r => r) = g ρ
  cases g ρ <;> rfl
theorem VB.last {o : Ob Ω} {g : Rho → SRes} {t : σ → Res Ω} (h : VB o E (seqR g nxR) t) : VB o E g t := h.cg seq_last.symm
/-- a block that falls through, joined -/
theorem s_join {o : Ob Ω} {g h : Rho → SRes} {E1 : τ → Rho} {t : σ → Res (Fl τ Ω)} {k : τ → Res Ω} (hg : VB (obJ E1 o) E g t) (hk : VB o E1 h k) : VB o E (seqR g h) fun s => (t s).bind fun w => match w with | .nx s1 => k s1 | .bk s1 => k s1 | .out x => .ok x := fun s => by
  have := hg s
  show ObR o ((t s).bind _) (match g (E s) with | .nx ρ' => h ρ' | r => r)
  cases q : t s with
  | ok w =>
    rw [q] at this
    cases w with
    | nx s1 =>
      have this : g (E s) = .nx (E1 s1) := this
      rw [this]; exact hk s1
    | bk s1 => exact (show False from this).elim
    | out x =>
      have this : o.ok x (g (E s)) ∧ (∀ ρ, g (E s) ≠ .nx ρ) ∧ ∀ c ρ, g (E s) ≠ .ex c ρ := this
      cases q2 : g (E s) with
      | nx ρ => exact absurd q2 (this.2.1 ρ)
      | _ => rw [q2] at this; exact this.1
  | ex c =>
    rw [q] at this
    obtain ⟨ρ, e⟩ := this
    rw [e]; exact ⟨ρ, rfl⟩
  | bad => trivial
/-! loops -/
def forT (body : α → τ → Res (Fl τ Ω)) : List α → τ → Res (Fl τ Ω)
  | [], s => .ok (.nx s)
  | x :: xs, s => (body x s).bind fun w => match w with
    | .nx s' => forT body xs s'
    | .bk s' => .ok (.nx s')
    | .out v => .ok (.out v)
theorem for_ok {o : Ob Ω} {b : D → Rho → Res Rho} {gb : Rho → SRes} {fs : List Nat} {e : α → D} {EL : τ → Rho} {EB : α × τ → Rho} {t : α × τ → Res (Fl τ Ω)} (hb : ∀ x s, b (e x) (EL s) = .ok (EB (x, s))) (ht : VB (obL EL fs o) EB gb t) : ∀ (xs : List α) (s : τ), match forT (fun x s => t (x, s)) xs s with
    | .ok (.nx s') => forL b gb fs (xs.map e) (EL s) = .nx (EL s')
    | .ok (.bk _) => False
    | .ok (.out w) => ∃ r, forL b gb fs (xs.map e) (EL s) = r ∧ o.ok w r ∧ ((∃ d, r = .rt d) ∨ ∃ d, r = .rtO d)
    | .ex c => ∃ ρ, forL b gb fs (xs.map e) (EL s) = .ex c ρ
    | .bad => True
  | [], s => rfl
  | x :: xs, s => by
    have h := ht (x, s)
    have ih := for_ok hb ht xs
    rw [List.map_cons, forL_cons]
    unfold turnR
    rw [hb x s]
    unfold forT
    cases q : t (x, s) with
    | bad => trivial
    | ex c =>
      rw [q] at h
      obtain ⟨ρ, e⟩ := h
      dsimp only
      rw [e]
      exact ⟨ρ, rfl⟩
    | ok w =>
      rw [q] at h
      rw [bind_ok]
      cases w with
      | nx s' =>
        obtain ⟨ρ, e, hf⟩ := h
        dsimp only
        rcases e with e | e <;> (rw [e]; dsimp only; rw [hf]; exact ih s')
      | bk s' =>
        obtain ⟨ρ, e, hf⟩ := h
        dsimp only
        rw [e]
        exact congrArg SRes.nx hf
      | out v =>
        obtain ⟨h1, h2⟩ := h
        dsimp only
        rcases h2 with ⟨d, e⟩ | ⟨d, e⟩ <;> (rw [e] at h1 ⊢; refine ⟨_, rfl, h1, ?_⟩)
        · exact .inl ⟨d, rfl⟩
        · exact .inr ⟨d, rfl⟩
theorem s_for {o : Ob Ω} {fi : Rho → Res (List D)} {b : D → Rho → Res Rho} {gb h : Rho → SRes} {fs : List Nat} {e : α → D} {xs : σ → Res (List α)} {EL : σ → τ → Rho} {EB : σ → α × τ → Rho} {s0 : σ → τ} {t : σ → α × τ → Res (Fl τ Ω)} {E1 : σ' → Rho} {π : σ → τ → σ'} {k : σ' → Res Ω}
    (hi : VI E e fi xs) (h0 : ∀ s, forget fs (E s) = EL s (s0 s)) (hb : ∀ s x u, b (e x) (EL s u) = .ok (EB s (x, u))) (ht : ∀ s, VB (obL (EL s) fs o) (EB s) gb (t s)) (hE : ∀ s u, EL s u = E1 (π s u)) (hk : VB o E1 h k) :
    VB o E (seqR (forR fi b gb fs) h) fun s => (xs s).bind fun ys => (forT (fun x u => t s (x, u)) ys (s0 s)).bind fun w => match w with | .nx u => k (π s u) | .bk u => k (π s u) | .out x => .ok x := fun s => by
  refine seq_ev (k := fun ds => forL b gb fs ds (forget fs (E s))) ?_
  refine ObR.bind (hi s) fun ys => ?_
  rw [h0 s]
  have := for_ok (b := b) (e := e) (hb s) (ht s) ys (s0 s)
  cases q : forT (fun x u => t s (x, u)) ys (s0 s) with
  | bad => trivial
  | ex c =>
    rw [q] at this
    obtain ⟨ρ, e⟩ := this
    rw [e]; exact ⟨ρ, rfl⟩
  | ok w =>
    rw [q] at this
    cases w with
    | nx u =>
      have this : forL b gb fs (ys.map e) (EL s (s0 s)) = .nx (EL s u) := this
      rw [this, hE s u]; exact hk _
    | bk u => exact this.elim
    | out x =>
      obtain ⟨r, e1, e2, e3⟩ := this
      rw [e1]
      rcases e3 with ⟨d, e3⟩ | ⟨d, e3⟩ <;> (rw [e3] at e2 ⊢; exact e2)
theorem s_forg {o : Ob Ω} {S : List Nat} {fi : Rho → Res (List D)} {b : D → Rho → Res Rho} {gb h : Rho → SRes} {fs : List Nat} {e : α → D} {xs : σ → Res (List α)} {ES : σ → Rho} {EL : σ → τ → Rho} {EB : σ → α × τ → Rho} {s0 : σ → τ} {t : σ → α × τ → Res (Fl τ Ω)} {E1 : σ' → Rho} {π : σ → τ → σ'} {k : σ' → Res Ω}
    (hS : ∀ s, fzs S (E s) = ES s) (hi : VI ES e fi xs) (h0 : ∀ s, forget fs (E s) = EL s (s0 s)) (hb : ∀ s x u, b (e x) (EL s u) = .ok (EB s (x, u))) (ht : ∀ s, VB (obL (EL s) fs o) (EB s) gb (t s)) (hE : ∀ s u, EL s u = E1 (π s u)) (hk : VB o E1 h k) :
    VB o E (seqR (forRg S fi b gb fs) h) fun s => (xs s).bind fun ys => (forT (fun x u => t s (x, u)) ys (s0 s)).bind fun w => match w with | .nx u => k (π s u) | .bk u => k (π s u) | .out x => .ok x := fun s => by
  have := s_for (o := o) (E := E) (fi := fun _ => fi (ES s)) (b := b) (gb := gb) (h := h) (fs := fs) (e := e) (xs := fun _ => xs s) (EL := EL) (EB := EB) (s0 := s0) (t := t) (E1 := E1) (π := π) (k := k) (fun _ => hi s) h0 hb ht hE hk s
  show ObR o _ (match evS (fi (fzs S (E s))) (E s) _ with | .nx ρ' => h ρ' | r => r)
  rw [hS s]; exact this
/-- while, with fuel -/
def whT (n : Nat) (test : τ → Res Bool) (body : τ → Res (Fl τ Ω)) (s : τ) : Res (Fl τ Ω) := match n with
  | 0 => .bad
  | n + 1 => (test s).bind fun c => if c = true then (body s).bind fun w => match w with
      | .nx s' => whT n test body s'
      | .bk s' => .ok (.nx s')
      | .out v => .ok (.out v)
    else .ok (.nx s)
def LoopOk (o : Ob Ω) (EL : τ → Rho) (t : Res (Fl τ Ω)) (r : SRes) : Prop := match t with
    | .ok (.nx s') => r = .nx (EL s')
    | .ok (.bk _) => False
    | .ok (.out w) => o.ok w r ∧ ((∃ d, r = .rt d) ∨ ∃ d, r = .rtO d)
    | .ex x => ∃ ρ, r = .ex x ρ
    | .bad => True
theorem wh_ok {o : Ob Ω} {c : Rho → Res Bool} {gb : Rho → SRes} {S fs : List Nat} {EL ES : τ → Rho} {tb : τ → Res Bool} {t : τ → Res (Fl τ Ω)} (hS : ∀ s, fzs S (EL s) = ES s) (hc : VT ES c tb) (ht : VB (obL EL fs o) EL gb t) : ∀ (n : Nat) (s : τ), LoopOk o EL (whT n tb t s) (whL c gb S fs n (EL s))
  | 0, s => trivial
  | n + 1, s => by
    have h := ht s
    have ih := wh_ok hS hc ht n
    have hcs := hc s
    unfold whT
    unfold whL
    rw [hS s]
    cases q : tb s with
    | bad => trivial
    | ex x => rw [q] at hcs; rw [show c (ES s) = .ex x from hcs]; exact ⟨_, rfl⟩
    | ok z =>
      rw [q] at hcs
      rw [show c (ES s) = .ok z from hcs, bind_ok]
      cases z with
      | false => exact rfl
      | true =>
        rw [if_pos rfl]
        show LoopOk o EL ((t s).bind _) (loopS (gb (EL s)) (whL c gb S fs n) fs)
        unfold loopS
        cases q2 : t s with
        | bad => trivial
        | ex x => rw [q2] at h; obtain ⟨ρ, e⟩ := h; rw [e]; exact ⟨ρ, rfl⟩
        | ok w =>
          rw [q2] at h
          rw [bind_ok]
          cases w with
          | nx s' =>
            obtain ⟨ρ, e, hf⟩ := h
            dsimp only
            rcases e with e | e <;> (rw [e]; dsimp only; rw [hf]; exact ih s')
          | bk s' =>
            obtain ⟨ρ, e, hf⟩ := h
            dsimp only
            rw [e]
            exact congrArg SRes.nx hf
          | out v =>
            obtain ⟨h1, h2⟩ := h
            dsimp only
            rcases h2 with ⟨d, e⟩ | ⟨d, e⟩ <;> (rw [e] at h1 ⊢; refine ⟨h1, ?_⟩)
            · exact .inl ⟨d, rfl⟩
            · exact .inr ⟨d, rfl⟩
theorem s_wh {o : Ob Ω} {m : Rho → Nat} {N : Nat} {c : Rho → Res Bool} {gb h : Rho → SRes} {S fs : List Nat} {EL ES : σ → τ → Rho} {s0 : σ → τ} {tb : σ → τ → Res Bool} {t : σ → τ → Res (Fl τ Ω)} {E1 : σ' → Rho} {π : σ → τ → σ'} {k : σ' → Res Ω}
    (hm : ∀ s, m (E s) = N) (h0 : ∀ s, forget fs (E s) = EL s (s0 s)) (hS : ∀ s u, fzs S (EL s u) = ES s u) (hc : ∀ s, VT (ES s) c (tb s)) (ht : ∀ s, VB (obL (EL s) fs o) (EL s) gb (t s)) (hE : ∀ s u, EL s u = E1 (π s u)) (hk : VB o E1 h k) :
    VB o E (seqR (whR m c gb S fs) h) fun s => (whT N (tb s) (t s) (s0 s)).bind fun w => match w with | .nx u => k (π s u) | .bk u => k (π s u) | .out x => .ok x := fun s => by
  have := wh_ok (EL := EL s) (ES := ES s) (hS s) (hc s) (ht s) N (s0 s)
  show ObR o ((whT N (tb s) (t s) (s0 s)).bind _) (match whL c gb S fs (m (E s)) (forget fs (E s)) with | .nx ρ' => h ρ' | r => r)
  rw [hm s, h0 s]
  cases q : whT N (tb s) (t s) (s0 s) with
  | bad => trivial
  | ex c =>
    rw [q] at this
    obtain ⟨ρ, e⟩ := this
    rw [e]; exact ⟨ρ, rfl⟩
  | ok w =>
    rw [q] at this
    cases w with
    | nx u =>
      have this : whL c gb S fs N (EL s (s0 s)) = .nx (EL s u) := this
      rw [this, hE s u]; exact hk _
    | bk u => exact this.elim
    | out x =>
      obtain ⟨e2, e3⟩ := this
      rcases e3 with ⟨d, e3⟩ | ⟨d, e3⟩ <;> (rw [e3] at e2 ⊢; exact e2)
end
end V

set_option linter.all false
set_option maxRecDepth 100000
namespace V
open PySem PySem.Spec PyProof.Rows L2 RZ J
section
variable {σ σ' α β γ δ τ Ω : Type} {E E' : σ → Rho} {enc : α → D} {e1 : α → D} {e2 : β → D} {e3 : γ → D}
/-! texts -/
def istr (x : Int) : Str := toString x
def strIT (x : Int) : Res Str := if x.natAbs.log2 < 1920 then .ok (istr x) else .bad
def strST (x : Str) : Res Str := if x.length ≤ 16777216 then .ok x else .bad
theorem o_fmtI (x : Int) : Le eS (strIT x) (fmtD (eI x)) := by
  unfold strIT
  split
  · rename_i h; exact if_pos h
  · trivial
theorem o_fmtS (x : Str) : Le eS (strST x) (fmtD (eS x)) := by
  unfold strST
  split
  · rename_i h; exact if_pos h
  · trivial
theorem v_do1p {f : Rho → Res D} {kd : D → Res D} {k : α → Res β} {a : σ → Res α} (o : ∀ x, Le e2 (k x) (kd (e1 x))) (ha : VE E e1 f a) : VE E e2 (do1 f kd) fun s => (a s).bind k := fun s => Le.bind (ha s) o
theorem b_strI (x : Int) : Le eS (strIT x) (strD [eI x]) := by
  unfold strIT
  split
  · rename_i h; exact if_pos h
  · trivial
theorem b_strS (x : Str) : strD [eS x] = .ok (eS x) := rfl
def lenST (x : Str) : Res Int := if x.length ≤ 16777216 then .ok x.length else .bad
theorem b_lenS (x : Str) : Le eI (lenST x) (lenD [eS x]) := by
  unfold lenST
  split
  · rename_i h; exact if_pos h
  · trivial
def ordT (x : Str) : Res Int := if x.length = 1 then .ok (x.cps.getD 0 0 : Nat) else .bad
theorem b_ord (x : Str) : Le eI (ordT x) (ordD [eS x]) := by
  unfold ordT
  split
  · rename_i h; exact if_pos h
  · trivial
def ixS (x : Str) (i : Int) : Res Str := if x.length ≤ 16777216 then (match atI x.cps.toList i with | some c => .ok ⟨#[c]⟩ | none => .bad) else .bad
theorem o_ixS (x : Str) (i : Int) : Le eS (ixS x i) (ixD (eS x) (eI i)) := by
  unfold ixS
  split
  · rename_i h
    cases q : atI x.cps.toList i with
    | none => trivial
    | some c => exact (if_pos h).trans (by rw [q])
  · trivial
def catS (x y : Str) : Res Str := if x.length + y.length ≤ 16777216 then .ok (x ++ y) else .bad
theorem o_catS (x y : Str) : Le eS (catS x y) (addD (eS x) (eS y)) := by
  unfold catS
  split
  · rename_i h; exact if_pos h
  · trivial
def VJ (E : σ → Rho) (fs : List (Rho → Res D)) (t : σ → Str → Res Str) : Prop := ∀ s acc, Le id (t s acc) (jsL fs acc (E s))
theorem vj_nil : VJ E [] fun _ acc => .ok acc := fun _ _ => rfl
theorem vj_cons {f : Rho → Res D} {fs : List (Rho → Res D)} {v : σ → Res Str} {t : σ → Str → Res Str} (h : VE E eS f v) (ht : VJ E fs t) : VJ E (f :: fs) fun s acc => (v s).bind fun y => if (acc ++ y).length ≤ 16777216 then t s (acc ++ y) else .bad := fun s acc => by
  refine Le.bind (h s) fun y => ?_
  dsimp only
  split
  · exact ht s _
  · trivial
theorem v_fst {fs : List (Rho → Res D)} {t : σ → Str → Res Str} (h : VJ E fs t) : VE E eS (fstR fs) fun s => t s Str.empty := fun s => by
  have := h s Str.empty
  show Le eS (t s Str.empty) ((jsL fs Str.empty (E s)).bind _)
  cases q : t s Str.empty with
  | ok x => rw [q] at this; rw [show jsL fs Str.empty (E s) = .ok x from this]; rfl
  | ex c => rw [q] at this; rw [show jsL fs Str.empty (E s) = .ex c from this]; rfl
  | bad => trivial
def joinT (x : Str) (ys : List Str) : Res Str := if (ys.map (·.length)).sum + ys.length * x.length ≤ 16777216 then .ok (Txt.join x ys) else .bad
theorem join_le (x : Str) (ys : List Str) : Le eS (joinT x ys) (match strsOf (ys.map eS) with
    | some ys => if (ys.map (·.length)).sum + ys.length * x.length ≤ 16777216 then .ok (.str (Txt.join x ys)) else .bad
    | none => .bad) := by
  rw [strsOf_map]
  unfold joinT
  split
  · rename_i h; exact if_pos h
  · trivial
theorem v_joinL {f g : Rho → Res D} {v : σ → Res Str} {w : σ → Res (List Str)} (hf : VE E eS f v) (hg : VE E (eL eS) g w) : VE E eS (joinR f g) fun s => (v s).bind fun x => (w s).bind fun ys => joinT x ys := fun s => Le.bind (hf s) fun x => Le.bind (hg s) fun ys => join_le x ys
theorem v_joinV {f g : Rho → Res D} {v : σ → Res Str} {w : σ → Res (List Str)} (hf : VE E eS f v) (hg : VE E (eV eS) g w) : VE E eS (joinR f g) fun s => (v s).bind fun x => (w s).bind fun ys => joinT x ys := fun s => Le.bind (hf s) fun x => Le.bind (hg s) fun ys => join_le x ys
def eqST (x y : Str) : Res Bool := if SeqAt.shaped (eS x) = true ∧ SeqAt.shaped (eS y) = true then .ok (x == y) else .bad
def neST (x y : Str) : Res Bool := if SeqAt.shaped (eS x) = true ∧ SeqAt.shaped (eS y) = true then .ok (!(x == y)) else .bad
theorem o_eqS (x y : Str) : Le eB (eqST x y) (eqD (eS x) (eS y)) := by
  unfold eqST eqD
  split
  · exact rfl
  · trivial
theorem o_neS (x y : Str) : Le eB (neST x y) (neD (eS x) (eS y)) := by
  unfold neST neD
  split
  · exact rfl
  · trivial
/-! the error at hand -/
theorem v_isx {cs : List Xc} {i : Nat} {t : Xc → Bool} {π : σ → Xc} (h : ∀ s, (E s)[i]? = some (.exn (π s))) : VE E eB (isxR cs i t) fun s => if π s ∈ cs then .ok (t (π s)) else .bad := fun s => by
  unfold isxR
  rw [h s]
  dsimp only
  split
  · exact rfl
  · trivial
/-! xs[i] = e -/
def stT (xs : List α) (i : Int) (x : α) : Res (List α) := match ixN xs.length i with
  | some j => .ok (xs.set j x)
  | none => .bad
theorem s_si {o : Ob Ω} {S : List Nat} {i : Nat} {fi f : Rho → Res D} {h : Rho → SRes} {v : σ → Res α} {w : σ → Res Int} {π : σ → List α} {ES : σ → Rho} {E1 : σ' → Rho} {ins : σ → List α → σ'} {k : σ' → Res Ω} (hi : ∀ s, (E s)[i]? = some (.ow ((π s).map enc))) (hS : ∀ s, fzs S (E s) = ES s) (hz : S = [] ∨ ∀ x, scalD (enc x) = true) (hf : VE ES enc f v) (hw : VE ES eI fi w) (hE : ∀ s x, (E s).set i (.ow (x.map enc)) = E1 (ins s x)) (hk : VB o E1 h k) :
    VB o E (seqR (siR S i fi f) h) fun s => (v s).bind fun x => (w s).bind fun j => (stT (π s) j x).bind fun y => k (ins s y) := fun s => by
  have e : siR S i fi f (E s) = evS (f (fzs S (E s))) (E s) fun d => evS (fi (fzs S (E s))) (E s) fun k => (match k with
    | .int k => (match ixN ((π s).map enc).length k with
      | some j => if scalD d = true ∨ S = [] then .nx ((E s).set i (.ow (((π s).map enc).set j d))) else .bad
      | none => .bad)
    | _ => .bad) := by
    unfold siR; rw [hi s]; try rfl
  show ObR o _ (match siR S i fi f (E s) with | .nx ρ' => h ρ' | r => r)
  rw [e]
  refine seq_ev ?_
  rw [hS s]
  refine ObR.bind (hf s) fun x => ?_
  refine seq_ev ?_
  refine ObR.bind (hw s) fun j => ?_
  dsimp only
  unfold stT
  rw [List.length_map]
  cases ixN (π s).length j with
  | none => trivial
  | some n =>
    dsimp only
    rw [if_pos (hz.elim .inr fun z => .inl (z x)), bind_ok]
    have := hE s ((π s).set n x)
    rw [List.map_set] at this
    exact this ▸ hk _
/-! try -/
def Keep (E : σ → Rho) (g : Rho → SRes) : Prop := ∀ s c ρ', g (E s) = .ex c ρ' → ρ' = E s
theorem evS_ex' {f : Res α} {ρ ρ' : Rho} {k : α → SRes} {c : Xc} (h : evS f ρ k = .ex c ρ') (hk : ∀ a c ρ', k a = .ex c ρ' → ρ' = ρ) : ρ' = ρ := by
  cases f with
  | ok a => exact hk a c ρ' h
  | ex c' => cases h; rfl
  | bad => cases h
theorem k_ret {S : List Nat} {f : Rho → Res D} : Keep E (retR S f) := fun s c ρ' h => evS_ex' h fun a c ρ' h => nomatch h
theorem k_ex {S : List Nat} {f : Rho → Res D} : Keep E (exR S f) := fun s c ρ' h => evS_ex' h fun a c ρ' h => nomatch h
theorem k_set {S : List Nat} {i : Nat} {f : Rho → Res D} : Keep E (setR S i f) := fun s c ρ' h => evS_ex' h fun a c ρ' h => by
  split at h <;> cases h
theorem k_asg {b : D → Rho → Res Rho} {f : Rho → Res D} : Keep E (asgR b f) := fun s c ρ' h => evS_ex' h fun a c ρ' h => by
  split at h <;> cases h
theorem k_nx : Keep E nxR := fun s c ρ' h => nomatch h
theorem k_if {S : List Nat} {c : Rho → Res Bool} {g h : Rho → SRes} (hg : Keep E g) (hh : Keep E h) : Keep E (ifR S c g h) := fun s x ρ' q => evS_ex' q fun a c ρ' h => by
  split at h
  · exact hg s _ _ h
  · exact hh s _ _ h
theorem k_ifseq {S : List Nat} {c : Rho → Res Bool} {g : Rho → SRes} {f : Rho → Res D} {S2 : List Nat} {h : Rho → SRes} (hg : seqR (retR S2 f) h = retR S2 f) (hh : Keep E h) : Keep E (seqR (ifR S c (retR S2 f) nxR) h) := fun s x ρ' q => by
  rw [seq_if, hg] at q
  exact k_if k_ret (show Keep E (seqR nxR h) from hh) s x ρ' q
def unO (i : Option Nat) (ρ : Rho) : Rho := match i with | some i => ρ.set i .un | none => ρ
def obH (i : Option Nat) (E1 : τ → Rho) (o : Ob Ω) : Ob (Fl τ Ω) := ⟨fun w r => match w with
  | .nx s => ∃ ρ, r = .nx ρ ∧ unex (unO i ρ) = E1 s
  | .bk _ => False
  | .out w => o.ok w r ∧ ((∃ d, r = .rt d) ∨ ∃ d, r = .rtO d)⟩
theorem out_H {i : Option Nat} {E1 : τ → Rho} {o : Ob Ω} {mk : α → Ω} (h : Out o enc mk) : Out (obH i E1 o) enc (fun v => Fl.out (mk v)) := ⟨fun v => ⟨h.rt v, .inl ⟨_, rfl⟩⟩⟩
theorem outO_H {i : Option Nat} {E1 : τ → Rho} {o : Ob Ω} {mk : List α → Ω} (h : OutO o enc mk) : OutO (obH i E1 o) enc (fun v => Fl.out (mk v)) := ⟨fun v => ⟨h.rt v, .inr ⟨_, rfl⟩⟩⟩
theorem s_endH {i : Option Nat} {E1 : τ → Rho} {o : Ob Ω} {π : σ → τ} (h : ∀ s, unex (unO i (E s)) = E1 (π s)) : VB (obH i E1 o) E nxR fun s => .ok (.nx (π s)) := fun s => ⟨_, rfl, h s⟩
def tryT (cs : List Xc) (h : Xc) (t : Res (Fl τ Ω)) (k : Xc → Res (Fl τ Ω)) : Res (Fl τ Ω) := match t with
  | .ex c => if c ∈ cs then (if isSub c h = true then (match k c with | .ex _ => .bad | r => r) else .ex c) else .bad
  | r => r
theorem try_core {o : Ob Ω} {cs : List Xc} {x : Xc} {g r : Rho → SRes} {h : Rho → SRes} {E1 : τ → Rho} {EH : σ × Xc → Rho} {i : Option Nat} {t : σ → Res (Fl τ Ω)} {u : σ × Xc → Res (Fl τ Ω)} {k : τ → Res Ω} {R : Rho → SRes} (hg : VB (obJ E1 o) E g t) (hkp : Keep E g) (hu : VB (obH i E1 o) EH r u) (hk : VB o E1 h k)
    (hR : ∀ s, (∀ c ρ, g (E s) ≠ .ex c ρ) → R (E s) = g (E s)) (hR3 : ∀ s c, g (E s) = .ex c (E s) → c ∈ cs → ¬ isSub c x = true → R (E s) = .ex c (E s))
    (hR2 : ∀ s c, g (E s) = .ex c (E s) → c ∈ cs → isSub c x = true → (∀ ρ, r (EH (s, c)) = .nx ρ → R (E s) = .nx (unex (unO i ρ))) ∧ (∀ d, r (EH (s, c)) = .rt d → R (E s) = .rt d) ∧ ∀ d, r (EH (s, c)) = .rtO d → R (E s) = .rtO d) (s : σ) :
    ObR o ((tryT cs x (t s) fun c => u (s, c)).bind fun w => match w with | .nx s1 => k s1 | .bk s1 => k s1 | .out v => .ok v) (match R (E s) with | .nx ρ' => h ρ' | r => r) := by
  have a := hg s
  cases q : t s with
  | bad => trivial
  | ok w =>
    rw [q] at a
    cases w with
    | nx s1 =>
      have a : g (E s) = .nx (E1 s1) := a
      rw [hR s (fun c ρ z => by rw [a] at z; cases z), a]; exact hk s1
    | bk s1 => exact (show False from a).elim
    | out v =>
      have a : o.ok v (g (E s)) ∧ (∀ ρ, g (E s) ≠ .nx ρ) ∧ ∀ c ρ, g (E s) ≠ .ex c ρ := a
      obtain ⟨a1, a2, a3⟩ := a
      rw [hR s a3]
      cases q2 : g (E s) with
      | nx ρ => exact absurd q2 (a2 ρ)
      | ex c ρ => exact absurd q2 (a3 c ρ)
      | _ => rw [q2] at a1; exact a1
  | ex c =>
    rw [q] at a
    obtain ⟨ρ, e⟩ := a
    have e2 := hkp s c ρ e
    subst e2
    show ObR o (Res.bind (if c ∈ cs then _ else .bad) _) _
    by_cases hc : c ∈ cs
    · rw [if_pos hc]
      by_cases hs : isSub c x = true
      · rw [if_pos hs]
        obtain ⟨r1, r2, r3⟩ := hR2 s c e hc hs
        have b := hu (s, c)
        dsimp only
        cases q3 : u (s, c) with
        | bad => trivial
        | ex c' => trivial
        | ok w =>
          rw [q3] at b
          cases w with
          | nx s1 =>
            obtain ⟨ρ2, e1, e2⟩ := b
            rw [r1 ρ2 e1, e2]; exact hk s1
          | bk s1 => exact (show False from b).elim
          | out v =>
            obtain ⟨b1, b2⟩ := b
            rcases b2 with ⟨d, e2⟩ | ⟨d, e2⟩
            · rw [r2 d e2]; rw [e2] at b1; exact b1
            · rw [r3 d e2]; rw [e2] at b1; exact b1
      · rw [if_neg hs, hR3 s c e hc hs]; exact ⟨_, rfl⟩
    · rw [if_neg hc]; trivial
theorem s_try {o : Ob Ω} {cs : List Xc} {x : Xc} {i : Nat} {g r h : Rho → SRes} {E1 : τ → Rho} {EH : σ × Xc → Rho} {t : σ → Res (Fl τ Ω)} {u : σ × Xc → Res (Fl τ Ω)} {k : τ → Res Ω} (hg : VB (obJ E1 o) E g t) (hkp : Keep E g) (hE : ∀ s c, (unex (E s)).set i (.exn c) = EH (s, c)) (hu : VB (obH (some i) E1 o) EH r u) (hk : VB o E1 h k) :
    VB o E (seqR (tryR cs x i g r) h) fun s => (tryT cs x (t s) fun c => u (s, c)).bind fun w => match w with | .nx s1 => k s1 | .bk s1 => k s1 | .out v => .ok v :=
  try_core (R := tryR cs x i g r) (i := some i) hg hkp hu hk (fun s q => by
    unfold tryR
    cases q2 : g (E s) with
    | ex c ρ => exact absurd q2 (q c ρ)
    | _ => rfl) (fun s c q hc hs => by unfold tryR; rw [q]; dsimp only; rw [if_pos hc, if_neg hs]) fun s c q hc hs => by
    have e : tryR cs x i g r (E s) = sufR i (r (EH (s, c))) := by unfold tryR; rw [q]; dsimp only; rw [if_pos hc, if_pos hs, hE s c]
    rw [e]
    exact ⟨fun ρ z => by rw [z]; rfl, fun d z => by rw [z]; rfl, fun d z => by rw [z]; rfl⟩
theorem s_try0 {o : Ob Ω} {cs : List Xc} {x : Xc} {g r h : Rho → SRes} {E1 : τ → Rho} {EH : σ × Xc → Rho} {t : σ → Res (Fl τ Ω)} {u : σ × Xc → Res (Fl τ Ω)} {k : τ → Res Ω} (hg : VB (obJ E1 o) E g t) (hkp : Keep E g) (hE : ∀ s c, unex (E s) = EH (s, c)) (hu : VB (obH none E1 o) EH r u) (hk : VB o E1 h k) :
    VB o E (seqR (tryR0 cs x g r) h) fun s => (tryT cs x (t s) fun c => u (s, c)).bind fun w => match w with | .nx s1 => k s1 | .bk s1 => k s1 | .out v => .ok v :=
  try_core (R := tryR0 cs x g r) (i := none) hg hkp hu hk (fun s q => by
    unfold tryR0
    cases q2 : g (E s) with
    | ex c ρ => exact absurd q2 (q c ρ)
    | _ => rfl) (fun s c q hc hs => by unfold tryR0; rw [q]; dsimp only; rw [if_pos hc, if_neg hs]) fun s c q hc hs => by
    have e : tryR0 cs x g r (E s) = sufR0 (r (EH (s, c))) := by unfold tryR0; rw [q]; dsimp only; rw [if_pos hc, if_pos hs, hE s c]
    rw [e]
    exact ⟨fun ρ z => by rw [z]; rfl, fun d z => by rw [z]; rfl, fun d z => by rw [z]; rfl⟩
end
end V

set_option linter.all false
set_option maxRecDepth 100000
namespace V
open PySem PySem.Spec PyProof.Rows L2 RZ J
section
variable {σ σ' α β γ δ τ Ω : Type} {E E' : σ → Rho} {enc : α → D} {e1 : α → D} {e2 : β → D} {e3 : γ → D} {e4 : δ → D} {e5 : τ → D} {e6 : Ω → D}
abbrev eT2 (e1 : α → D) (e2 : β → D) : α × β → D := fun p => .tuple [e1 p.1, e2 p.2]
abbrev eT3 (e1 : α → D) (e2 : β → D) (e3 : γ → D) : α × β × γ → D := fun p => .tuple [e1 p.1, e2 p.2.1, e3 p.2.2]
abbrev eT4 (e1 : α → D) (e2 : β → D) (e3 : γ → D) (e4 : δ → D) : α × β × γ × δ → D := fun p => .tuple [e1 p.1, e2 p.2.1, e3 p.2.2.1, e4 p.2.2.2]
abbrev eT5 (e1 : α → D) (e2 : β → D) (e3 : γ → D) (e4 : δ → D) (e5 : τ → D) : α × β × γ × δ × τ → D := fun p => .tuple [e1 p.1, e2 p.2.1, e3 p.2.2.1, e4 p.2.2.2.1, e5 p.2.2.2.2]
abbrev eT6 (e1 : α → D) (e2 : β → D) (e3 : γ → D) (e4 : δ → D) (e5 : τ → D) (e6 : Ω → D) : α × β × γ × δ × τ × Ω → D := fun p => .tuple [e1 p.1, e2 p.2.1, e3 p.2.2.1, e4 p.2.2.2.1, e5 p.2.2.2.2.1, e6 p.2.2.2.2.2]
theorem ceq_mono [DecidableEq α] {e : α → D} {n m : Nat} (c : Ceq e n) (h : n ≤ m) : Ceq e m := ⟨c.lay, fun x => Nat.le_trans (c.dep x) h, c.eqv⟩
theorem ceq_T2 [DecidableEq α] [DecidableEq β] {n m : Nat} (c1 : Ceq e1 n) (c2 : Ceq e2 m) : Ceq (eT2 e1 e2) (max n m + 1) := ⟨fun x => by simp [PyData.canLay0, PyData.canLayAll0, c1.lay, c2.lay], fun x => by
  have h1 := c1.dep x.1
  have h2 := c2.dep x.2
  simp only [PyData.depth, PyData.depthAll]; omega, fun x y => by
  simp only [PyData.eqv, PyData.eqvAll, c1.eqv, c2.eqv, Bool.and_true, ← Bool.decide_and, Prod.ext_iff]⟩
theorem ceq_T3 [DecidableEq α] [DecidableEq β] [DecidableEq γ] {n m k : Nat} (c1 : Ceq e1 n) (c2 : Ceq e2 m) (c3 : Ceq e3 k) : Ceq (eT3 e1 e2 e3) (max n (max m k) + 1) := ⟨fun x => by simp [PyData.canLay0, PyData.canLayAll0, c1.lay, c2.lay, c3.lay], fun x => by
  have h1 := c1.dep x.1
  have h2 := c2.dep x.2.1
  have h3 := c3.dep x.2.2
  simp only [PyData.depth, PyData.depthAll]; omega, fun x y => by
  simp only [PyData.eqv, PyData.eqvAll, c1.eqv, c2.eqv, c3.eqv, Bool.and_true, ← Bool.decide_and, Prod.ext_iff]⟩
theorem ceq_T4 [DecidableEq α] [DecidableEq β] [DecidableEq γ] [DecidableEq δ] {n m k l : Nat} (c1 : Ceq e1 n) (c2 : Ceq e2 m) (c3 : Ceq e3 k) (c4 : Ceq e4 l) : Ceq (eT4 e1 e2 e3 e4) (max n (max m (max k l)) + 1) := ⟨fun x => by simp [PyData.canLay0, PyData.canLayAll0, c1.lay, c2.lay, c3.lay, c4.lay], fun x => by
  have h1 := c1.dep x.1
  have h2 := c2.dep x.2.1
  have h3 := c3.dep x.2.2.1
  have h4 := c4.dep x.2.2.2
  simp only [PyData.depth, PyData.depthAll]; omega, fun x y => by
  simp only [PyData.eqv, PyData.eqvAll, c1.eqv, c2.eqv, c3.eqv, c4.eqv, Bool.and_true, ← Bool.decide_and, Prod.ext_iff]⟩
theorem ceq_OI : Ceq (eO eI) 0 := ⟨fun x => by cases x <;> rfl, fun x => by cases x <;> exact Nat.le_refl _, fun x y => by
  cases x with
  | none => cases y <;> rfl
  | some a =>
    cases y with
    | none => rfl
    | some b => show (a == b) = decide (some a = some b); rw [Bool.beq_eq_decide_eq, decide_eq_decide]; exact ⟨fun h => by rw [h], fun h => Option.some.inj h⟩⟩
/-! more rules -/
theorem v_ifP {t : Rho → Res Bool} {f g : Rho → Res D} {b : σ → Bool} {u v : σ → α} (hb : VQ E t b) (hf : VP E enc f u) (hg : VP E enc g v) : VP E enc (ifE t f g) fun s => if b s = true then u s else v s := fun s => by
  show (t (E s)).bind _ = _
  rw [hb s, bind_ok]
  dsimp only
  split
  · exact hf s
  · exact hg s
theorem v_biEt {fa : Rho → Res (List D)} {k : List D → Res D} {el : τ → List D} {T : τ → α} {v : σ → Res τ} (o : ∀ x, k (el x) = .ok (enc (T x))) (ha : VA E el fa v) : VE E enc (callR fa k) fun s => (v s).bind fun x => .ok (T x) := fun s => Le.bind (ha s) fun x => o x
theorem v_callN {n : Nat} {fa : Rho → Res (List D)} {S : List D → Res (List D)} {el : τ → List D} {T : τ → Res (List α)} {v : σ → Res τ} (hS : ∀ x, Le (List.map enc) (T x) (S (el x))) (hl : ∀ x, (el x).length = n) (ha : VA E el fa v) : VI E enc (clN n fa S) fun s => (v s).bind T := fun s => Le.bind (ha s) fun x => by
  rw [if_pos (hl x)]; exact hS x
theorem le_nf {T : Res (List α)} {r : Res (List D)} (h : Le (List.map enc) T r) : Le (eL enc) T (r.bind fun xs => .ok (.list xs)) := by
  cases T with
  | ok v => rw [show r = .ok (v.map enc) from h]; rfl
  | ex c => rw [show r = .ex c from h]; rfl
  | bad => trivial
def repLT (xs : List α) (k : Int) : Res (List α) := if -9223372036854775808 ≤ k ∧ k < 9223372036854775808 ∧ xs.length * k.toNat ≤ 16777216 then .ok (List.replicate k.toNat xs).flatten else .bad
theorem v_rep {f : Rho → Res (List D)} {g : Rho → Res D} {v : σ → Res (List α)} {w : σ → Res Int} (hf : VI E enc f v) (hg : VE E eI g w) : VI E enc (repR f g) fun s => (v s).bind fun xs => (w s).bind fun k => repLT xs k := fun s => Le.bind (hf s) fun xs => Le.bind (hg s) fun k => by
  show Le _ _ (if _ then _ else _)
  unfold repLT
  rw [List.length_map]
  split
  · show _ = _; simp
  · trivial
def repVT (xs : List α) (k : Int) : Res (List α) := if xs ≠ [] ∧ 2 ≤ k ∧ k ≤ 1000 ∧ xs.length ≤ 1000 then .ok (List.replicate k.toNat xs).flatten else .bad
theorem s_endG {o : Ob Ω} {w : Ω} (h : ∀ ρ, o.ok w (.nx ρ)) : VB o E nxR fun _ => .ok w := fun s => h _
theorem s_retNG {o : Ob Ω} {w : Ω} (h : o.ok w (.rt .none)) : VB o E retN fun _ => .ok w := fun s => h
/-- what does not come through -/
def NF (g : Rho → SRes) : Prop := ∀ ρ ρ', g ρ ≠ .nx ρ'
theorem nf_ret {S : List Nat} {f : Rho → Res D} : NF (retR S f) := fun ρ ρ' h => by
  have : evS (f (fzs S ρ)) ρ (fun d => SRes.rt d) = .nx ρ' := h
  cases q : f (fzs S ρ) <;> rw [q] at this <;> cases this
theorem nf_retL {S : List Nat} {f : Rho → Res (List D)} : NF (retL S f) := fun ρ ρ' h => by
  have : evS (f (fzs S ρ)) ρ (fun d => SRes.rtO d) = .nx ρ' := h
  cases q : f (fzs S ρ) <;> rw [q] at this <;> cases this
theorem nf_retO {i : Nat} : NF (retO i) := fun ρ ρ' h => by
  unfold retO at h
  split at h <;> cases h
theorem nf_retN : NF retN := fun ρ ρ' h => nomatch h
theorem nf_rai {c : Xc} : NF (raiR c) := fun ρ ρ' h => nomatch h
theorem nf_brk : NF brkR := fun ρ ρ' h => nomatch h
theorem nf_ctn : NF ctnR := fun ρ ρ' h => nomatch h
theorem nf_seq {g h : Rho → SRes} (n : NF h) : NF (seqR g h) := fun ρ ρ' q => by
  have q : (match g ρ with | .nx ρ1 => h ρ1 | r => r) = .nx ρ' := q
  cases e : g ρ with
  | nx ρ1 => rw [e] at q; exact n _ _ q
  | _ => rw [e] at q; cases q
theorem nf_if {S : List Nat} {c : Rho → Res Bool} {g h : Rho → SRes} (a : NF g) (b : NF h) : NF (ifR S c g h) := fun ρ ρ' q => by
  have q : evS (c (fzs S ρ)) ρ (fun z => if z = true then g ρ else h ρ) = .nx ρ' := q
  cases e : c (fzs S ρ) with
  | ok z =>
    rw [e] at q
    have q : (if z = true then g ρ else h ρ) = .nx ρ' := q
    split at q
    · exact a _ _ q
    · exact b _ _ q
  | _ => rw [e] at q; cases q
theorem nf_fz {S : List Nat} {g : Rho → SRes} (a : NF g) : NF (fzR S g) := fun ρ ρ' q => a _ _ q
theorem seq_nf {g h : Rho → SRes} (n : NF g) : seqR g h = g := by
  funext ρ
  show (match g ρ with | .nx ρ' => h ρ' | r => r) = g ρ
  cases e : g ρ with
  | nx ρ' => exact absurd e (n ρ ρ')
  | _ => rfl
/-- if c: g, which does not come through; rest -/
theorem s_guard {o : Ob Ω} {S : List Nat} {c : Rho → Res Bool} {g h : Rho → SRes} {b : σ → Res Bool} {t u : σ → Res Ω} {ES : σ → Rho} (nf : NF g) (hS : ∀ s, fzs S (E s) = ES s) (hc : VT ES c b) (hg : VB o E g t) (hh : VB o E h u) : VB o E (seqR (ifR S c g nxR) h) fun s => (b s).bind fun z => if z = true then t s else u s :=
  s_seqif hS hc (hg.cg (seq_nf nf)) hh
theorem s_guardP {o : Ob Ω} {S : List Nat} {c : Rho → Res Bool} {g h : Rho → SRes} {b : σ → Bool} {t u : σ → Res Ω} {ES : σ → Rho} (nf : NF g) (hS : ∀ s, fzs S (E s) = ES s) (hc : VQ ES c b) (hg : VB o E g t) (hh : VB o E h u) : VB o E (seqR (ifR S c g nxR) h) fun s => if b s = true then t s else u s :=
  s_seqifP hS hc (hg.cg (seq_nf nf)) hh
/-- x += e -/
theorem s_aug {o : Ob Ω} {S : List Nat} {i : Nat} {f : Rho → Res D} {h : Rho → SRes} {v : σ → Res Int} {π : σ → Int} {ES : σ → Rho} {E1 : σ' → Rho} {ins : σ → Int → σ'} {k : σ' → Res Ω} (hi : ∀ s, (E s)[i]? = some (.sh (eI (π s)))) (hS : ∀ s, fzs S (E s) = ES s) (hf : VE ES eI f v) (hE : ∀ s x, (E s).set i (.sh (eI x)) = E1 (ins s x)) (hk : VB o E1 h k) :
    VB o E (seqR (J.augR S i f) h) fun s => (v s).bind fun x => k (ins s (π s + x)) := fun s => by
  have e : J.augR S i f (E s) = evS (f (fzs S (E s))) (E s) fun d => evS (addI (eI (π s)) d) (E s) fun r => .nx ((E s).set i (.sh r)) := by
    unfold J.augR; rw [hi s]
  show ObR o _ (match J.augR S i f (E s) with | .nx ρ' => h ρ' | r => r)
  rw [e]
  refine seq_ev ?_
  rw [hS s]
  refine ObR.bind (hf s) fun x => ?_
  show ObR o _ (h ((E s).set i (.sh (eI (π s + x)))))
  rw [hE s]
  exact hk _
/-! isinstance -/
theorem kitB_is : kitB "int" "str" = some false := by decide +kernel
theorem kitB_il : kitB "int" "list" = some false := by decide +kernel
theorem kitB_it : kitB "int" "tuple" = some false := by decide +kernel
theorem kitB_bi : kitB "bool" "int" = some true := by decide +kernel
theorem kitB_tt' : kitB "tuple" "tuple" = some true := by decide +kernel
theorem kitB_tb : kitB "tuple" "bool" = some false := by decide +kernel
theorem kitB_ss : kitB "str" "str" = some true := by decide +kernel
theorem kitB_bl : kitB "bool" "list" = some false := by decide +kernel
theorem isi_of {n m : String} {b : Bool} (e : α → D) (h : ∀ x, tyN (e x) = n) (k : kitB n m = some b) (x : α) : isiD m (e x) = .ok (eB b) := by
  show (match kitB (tyN (e x)) m with | some b => Res.ok (PyData.bool b) | none => .bad) = _
  rw [h x, k]
end
theorem v_isNOE {f : Rho → Res D} {e : α → D} {a : σ → Res (Option α)} (h : ∀ x, isNone (e x) = false) (ha : VE E (eO e) f a) : VE E eB (do2 f cN isD) fun s => (a s).bind fun o => .ok o.isNone := fun s => Le.bind (ha s) fun o => by
  show _ = _
  rw [cN_e, bind_ok]
  cases o with
  | none => rfl
  | some x => show Res.ok (PyData.bool (isNone (e x))) = _; rw [h x]; rfl
theorem v_isntNOE {f : Rho → Res D} {e : α → D} {a : σ → Res (Option α)} (h : ∀ x, isNone (e x) = false) (ha : VE E (eO e) f a) : VE E eB (do2 f cN isntD) fun s => (a s).bind fun o => .ok o.isSome := fun s => Le.bind (ha s) fun o => by
  show _ = _
  rw [cN_e, bind_ok]
  cases o with
  | none => rfl
  | some x => show Res.ok (PyData.bool (!isNone (e x))) = _; rw [h x]; rfl
def frO : Option α → Res α | some x => .ok x | none => .bad
theorem frO_le (e : α → D) (x : Option α) : Le e (frO x) (.ok (eO e x)) := by
  cases x with
  | none => trivial
  | some x => exact rfl
/-- a value taken for another type, where it can be -/
theorem v_castE {f : Rho → Res D} {v : σ → Res α} {e' : β → D} {w : α → Res β} (h : VE E enc f v) (hw : ∀ x, Le e' (w x) (.ok (enc x))) : VE E e' f fun s => (v s).bind w := fun s => by
  have := h s
  show Le e' ((v s).bind w) _
  cases q : v s with
  | ok x =>
    rw [q] at this
    have h2 := hw x
    have h3 : f (E s) = .ok (enc x) := this
    rw [h3]; exact h2
  | ex c => rw [q] at this; exact this
  | bad => trivial
def to2 : List α → Res (α × α) | [a, b] => .ok (a, b) | _ => .bad
def to3 : List α → Res (α × α × α) | [a, b, c] => .ok (a, b, c) | _ => .bad
def to4 : List α → Res (α × α × α × α) | [a, b, c, d] => .ok (a, b, c, d) | _ => .bad
def to5 : List α → Res (α × α × α × α × α) | [a, b, c, d, e] => .ok (a, b, c, d, e) | _ => .bad
theorem to2_le (e : α → D) (x : List α) : Le (eT2 e e) (to2 x) (.ok (eV e x)) := by
  match x with
  | [] | [_] | _ :: _ :: _ :: _ => trivial
  | [_, _] => exact rfl
theorem to3_le (e : α → D) (x : List α) : Le (eT3 e e e) (to3 x) (.ok (eV e x)) := by
  match x with
  | [] | [_] | [_, _] | _ :: _ :: _ :: _ :: _ => trivial
  | [_, _, _] => exact rfl
theorem to4_le (e : α → D) (x : List α) : Le (eT4 e e e e) (to4 x) (.ok (eV e x)) := by
  match x with
  | [] | [_] | [_, _] | [_, _, _] | _ :: _ :: _ :: _ :: _ :: _ => trivial
  | [_, _, _, _] => exact rfl
theorem to5_le (e : α → D) (x : List α) : Le (eT5 e e e e e) (to5 x) (.ok (eV e x)) := by
  match x with
  | [] | [_] | [_, _] | [_, _, _] | [_, _, _, _] | _ :: _ :: _ :: _ :: _ :: _ :: _ => trivial
  | [_, _, _, _, _] => exact rfl

theorem o_isBB (x y : Bool) : isBD (eB x) (eB y) = .ok (eB (x == y)) := rfl
theorem o_isntBB (x y : Bool) : isntBD (eB x) (eB y) = .ok (eB (x != y)) := rfl
theorem o_repV {e : α → D} (xs : List α) (k : Int) : Le (eV e) (repVT xs k) (mulD (eV e xs) (eI k)) := by
  unfold repVT
  split
  · rename_i h
    show (if _ then _ else _) = _
    rw [if_pos (by simpa using h)]
    show Res.ok (PyData.tuple (List.replicate k.toNat (xs.map e)).flatten) = .ok (PyData.tuple ((List.replicate k.toNat xs).flatten.map e))
    rw [List.map_flatten, List.map_replicate]
  · trivial
theorem flat_map {e : α → D} (h : ∀ x, flatD (e x) = true) : ∀ xs : List α, flatDs (xs.map e) = true
  | [] => rfl
  | x :: xs => by show (flatD (e x) && flatDs (xs.map e)) = true; rw [h x, flat_map h xs]; rfl
theorem flat_I (i : Int) : flatD (eI i) = true := rfl
theorem flat_VI (xs : List Int) : flatD (eV eI xs) = true := flat_map flat_I xs
theorem flat_TIV (p : Int × List Int) : flatD (eT2 eI (eV eI) p) = true := by
  show (true && (flatDs (p.2.map eI) && true)) = true
  rw [flat_map flat_I]; rfl
theorem s_siF {o : Ob Ω} {s0 : Nat} {S : List Nat} {i : Nat} {fi f : Rho → Res D} {h : Rho → SRes} {v : σ → Res α} {w : σ → Res Int} {π : σ → List α} {ES : σ → Rho} {E1 : σ' → Rho} {ins : σ → List α → σ'} {k : σ' → Res Ω} (hi : ∀ s, (E s)[i]? = some (.ow ((π s).map enc))) (hS : ∀ s, fzs (s0 :: S) (E s) = ES s) (hz : ∀ x, flatD (enc x) = true) (hf : VE ES enc f v) (hw : VE ES eI fi w) (hE : ∀ s x, (E s).set i (.ow (x.map enc)) = E1 (ins s x)) (hk : VB o E1 h k) :
    VB o E (seqR (siFR s0 S i fi f) h) fun s => (v s).bind fun x => (w s).bind fun j => (stT (π s) j x).bind fun y => k (ins s y) := fun s => by
  have e : siFR s0 S i fi f (E s) = evS (f (fzs (s0 :: S) (E s))) (E s) fun d => evS (fi (fzs (s0 :: S) (E s))) (E s) fun k => (match k with
    | .int k => (match ixN ((π s).map enc).length k with
      | some j => if flatD d = true then .nx ((E s).set i (.ow (((π s).map enc).set j d))) else .bad
      | none => .bad)
    | _ => .bad) := by
    unfold siFR; rw [hi s]; try rfl
  show ObR o _ (match siFR s0 S i fi f (E s) with | .nx ρ' => h ρ' | r => r)
  rw [e]
  refine seq_ev ?_
  rw [hS s]
  refine ObR.bind (hf s) fun x => ?_
  refine seq_ev ?_
  refine ObR.bind (hw s) fun j => ?_
  dsimp only
  unfold stT
  rw [List.length_map]
  cases ixN (π s).length j with
  | none => trivial
  | some n =>
    dsimp only
    rw [if_pos (hz x), bind_ok]
    have := hE s ((π s).set n x)
    rw [List.map_set] at this
    exact this ▸ hk _

end V

set_option linter.all false
set_option maxRecDepth 100000
set_option maxHeartbeats 4000000
namespace V
open PySem PySem.Spec PyProof.Rows L2 RZ J
variable {α β τ Ω : Type}
theorem bOk (x : α) (f : α → Res β) : (Res.ok x).bind f = f x := by
  have : ∀ t : Res α, t = .ok x → t.bind f = f x := fun t h => by subst h; exact rfl
  exact this _ rfl
theorem id2 (x : α) : id x = x := by
  have : ∀ t : α, t = x → id t = x := fun t h => by subst h; exact rfl
  exact this _ rfl
theorem bEx (c : Xc) (f : α → Res β) : (Res.ex c : Res α).bind f = .ex c := rfl
theorem modT_e {x y : Int} (h : 0 < y) : modT x y = .ok (x % y) := if_pos h
theorem fdivT_e {x y : Int} (h : 0 < y) (h2 : y < 18446744073709551616) : fdivT x y = .ok (x / y) := if_pos ⟨h, h2⟩
theorem mulT_l {x y : Int} (h : -18446744073709551616 < x) (h2 : x < 18446744073709551616) : mulT x y = .ok (x * y) := if_pos (.inl ⟨h, h2⟩)
theorem mulT_r {x y : Int} (h : -18446744073709551616 < y) (h2 : y < 18446744073709551616) : mulT x y = .ok (x * y) := if_pos (.inr ⟨h, h2⟩)
theorem atI_nn {xs : List α} {i : Int} (h0 : 0 ≤ i) (h : i < xs.length) : atI xs i = xs[i.toNat]? := by
  unfold atI ixN
  rw [if_pos h0, if_pos h]; rfl
theorem iT_e {xs : List α} {i : Int} {v : α} (h0 : 0 ≤ i) (h : xs[i.toNat]? = some v) : ixT xs i = .ok v := by
  unfold ixT
  have := (List.getElem?_eq_some_iff.mp h).1
  rw [atI_nn h0 (by omega), h]
theorem iT_lt {xs : List α} {i : Int} (h0 : 0 ≤ i) (h : i < xs.length) : ∃ v, ixT xs i = .ok v ∧ v ∈ xs :=
  ⟨xs[i.toNat]'(by omega), iT_e h0 (List.getElem?_eq_getElem (by omega)), List.getElem_mem _⟩
theorem appT_e {xs : List α} {x : α} (h : xs.length < 16777216) : appT xs x = .ok (xs ++ [x]) := if_pos h
theorem limT_e {xs : List α} (h : xs.length ≤ 16777216) : limT xs = .ok xs := by unfold limT; exact if_pos h
theorem catT_e {xs ys : List α} (h : xs.length + ys.length ≤ 16777216) : catT xs ys = .ok (xs ++ ys) := if_pos h
theorem rngT_e {lo hi : Int} (h1 : -4611686018427387904 ≤ lo) (h2 : lo < 4611686018427387904) (h3 : -4611686018427387904 ≤ hi) (h4 : hi < 4611686018427387904) : rngT lo hi = .ok (rngI lo hi) := by unfold rngT; exact if_pos ⟨⟨h1, h2⟩, h3, h4⟩
theorem rngI_len (lo hi : Int) : (rngI lo hi).length = (hi - lo).toNat := by unfold rngI; simp
theorem rngI_mem {lo hi x : Int} (h : x ∈ rngI lo hi) : lo ≤ x ∧ x < hi := by
  unfold rngI at h
  obtain ⟨k, hk, rfl⟩ := List.mem_map.mp h
  have := List.mem_range.mp hk
  omega
theorem rngI_get {lo hi x : Int} {k : Nat} (h : (rngI lo hi)[k]? = some x) : x = lo + k ∧ k < (hi - lo).toNat := by
  unfold rngI at h
  rw [List.getElem?_map] at h
  cases q : (List.range (hi - lo).toNat)[k]? with
  | none => rw [q] at h; cases h
  | some j =>
    rw [q] at h
    obtain ⟨h1, h2⟩ := List.getElem?_eq_some_iff.mp q
    rw [List.getElem_range] at h2
    rw [List.length_range] at h1
    cases h; exact ⟨by rw [← h2], h1⟩
theorem forT_inv {f : α → τ → Res (Fl τ Ω)} (I : Nat → τ → Prop) : ∀ (xs : List α) (k : Nat) (s : τ), I k s → (∀ j x s, xs[j]? = some x → I (k + j) s → ∃ s', f x s = .ok (.nx s') ∧ I (k + j + 1) s') → ∃ s', forT f xs s = .ok (.nx s') ∧ I (k + xs.length) s'
  | [], k, s, h, _ => ⟨s, rfl, h⟩
  | x :: xs, k, s, h, st => by
    obtain ⟨s1, e1, i1⟩ := st 0 x s rfl h
    obtain ⟨s2, e2, i2⟩ := forT_inv I xs (k + 1) s1 i1 fun j y s hy hi => by
      obtain ⟨s', e, i⟩ := st (j + 1) y s hy (by rw [show k + (j + 1) = k + 1 + j by omega]; exact hi)
      exact ⟨s', e, by rw [show k + 1 + j + 1 = k + (j + 1) + 1 by omega]; exact i⟩
    refine ⟨s2, ?_, by rw [List.length_cons, show k + (xs.length + 1) = k + 1 + xs.length by omega]; exact i2⟩
    show Res.bind (f x s) _ = _
    rw [e1, bOk]; exact e2
theorem forT_fold {f : α → τ → Res (Fl τ Ω)} (g : τ → α → τ) : ∀ (xs : List α) (s : τ), (∀ x ∈ xs, ∀ s, f x s = .ok (.nx (g s x))) → forT f xs s = .ok (.nx (xs.foldl g s))
  | [], s, _ => rfl
  | x :: xs, s, h => by
    show Res.bind (f x s) _ = _
    rw [h x (by simp) s, bOk]
    exact forT_fold g xs _ fun y hy => h y (by simp [hy])
theorem forT_pass {f : α → τ → Res (Fl τ Ω)} {s : τ} (xs : List α) (h : ∀ x ∈ xs, f x s = .ok (.nx s)) : forT f xs s = .ok (.nx s) := by
  induction xs with
  | nil => rfl
  | cons x xs ih =>
    show Res.bind (f x s) _ = _
    rw [h x (by simp), bOk]
    exact ih fun y hy => h y (by simp [hy])
theorem whT_step {test : τ → Res Bool} {body : τ → Res (Fl τ Ω)} {n : Nat} {s s' : τ} (h1 : test s = .ok true) (h2 : body s = .ok (.nx s')) : whT (n + 1) test body s = whT n test body s' := by
  show Res.bind (test s) _ = _
  rw [h1, bOk, if_pos rfl, h2, bOk]
theorem whT_brk {test : τ → Res Bool} {body : τ → Res (Fl τ Ω)} {n : Nat} {s s' : τ} (h1 : test s = .ok true) (h2 : body s = .ok (.bk s')) : whT (n + 1) test body s = .ok (.nx s') := by
  show Res.bind (test s) _ = _
  rw [h1, bOk, if_pos rfl, h2, bOk]
theorem whT_out {test : τ → Res Bool} {body : τ → Res (Fl τ Ω)} {n : Nat} {s : τ} {v : Ω} (h1 : test s = .ok true) (h2 : body s = .ok (.out v)) : whT (n + 1) test body s = .ok (.out v) := by
  show Res.bind (test s) _ = _
  rw [h1, bOk, if_pos rfl, h2, bOk]
theorem whT_stop {test : τ → Res Bool} {body : τ → Res (Fl τ Ω)} {n : Nat} {s : τ} (h1 : test s = .ok false) : whT (n + 1) test body s = .ok (.nx s) := by
  show Res.bind (test s) _ = _
  rw [h1, bOk, if_neg (by decide)]
theorem compT_e {t : α → Res Bool} {f : α → Res β} (g : α → β) (xs : List α) (h : xs.length ≤ 16777216) (ht : ∀ x ∈ xs, t x = .ok true) (hf : ∀ x ∈ xs, f x = .ok (g x)) : compT t f xs = .ok (xs.map g) := by
  unfold compT
  rw [if_pos h]
  have : ∀ ys : List α, (∀ x ∈ ys, x ∈ xs) → mapT t f ys = .ok (ys.map g) := by
    intro ys
    induction ys with
    | nil => intro _; rfl
    | cons y ys ih =>
      intro hy
      show Res.bind (noEx (t y)) _ = _
      rw [ht y (hy y (by simp))]
      show Res.bind (noEx (f y)) _ = _
      rw [hf y (hy y (by simp))]
      show Res.bind (mapT t f ys) _ = _
      rw [ih fun x hx => hy x (by simp [hx])]; rfl
  rw [this xs fun x h => h]; rfl
/-- all items of a comprehension are of a kind -/
theorem compT_all {t : α → Res Bool} {f : α → Res β} (P : β → Prop) (xs : List α) (h : xs.length ≤ 16777216) (ht : ∀ x ∈ xs, t x = .ok true) (hf : ∀ x ∈ xs, ∃ y, f x = .ok y ∧ P y) : ∃ ys, compT t f xs = .ok ys ∧ ys.length = xs.length ∧ ∀ y ∈ ys, P y := by
  unfold compT
  rw [if_pos h]
  have : ∀ ys : List α, (∀ x ∈ ys, x ∈ xs) → ∃ zs, mapT t f ys = .ok zs ∧ zs.length = ys.length ∧ ∀ y ∈ zs, P y := by
    intro ys
    induction ys with
    | nil => intro _; exact ⟨[], rfl, rfl, fun _ h => by cases h⟩
    | cons y ys ih =>
      intro hy
      obtain ⟨z, e, p⟩ := hf y (hy y (by simp))
      obtain ⟨zs, e2, l2, p2⟩ := ih fun x hx => hy x (by simp [hx])
      refine ⟨z :: zs, ?_, by simp [l2], fun x hx => ?_⟩
      · show Res.bind (noEx (t y)) _ = _
        rw [ht y (hy y (by simp))]
        show Res.bind (noEx (f y)) _ = _
        rw [e]
        show Res.bind (mapT t f ys) _ = _
        rw [e2]; rfl
      · rcases List.mem_cons.mp hx with rfl | hx
        · exact p
        · exact p2 x hx
  obtain ⟨zs, e, l, p⟩ := this xs fun x h => h
  exact ⟨zs, by rw [e]; rfl, l, p⟩
theorem pow_split (s m r : Int) (v : Int) (hr : 0 ≤ r) : ((if r % 2 = 1 then v * s % m else v) * (s * s % m) ^ (r / 2).toNat) % m = v * s ^ r.toNat % m := by
  rw [← emod_mul_r _ ((s * s % m) ^ _), pow_emod, emod_mul_r]
  have e : r.toNat = (r / 2).toNat + (r / 2).toNat + (r % 2).toNat := by omega
  have e2 : (s * s) ^ (r / 2).toNat = s ^ ((r / 2).toNat + (r / 2).toNat) := by rw [Int.mul_pow, Int.pow_add]
  by_cases h : r % 2 = 1
  · rw [if_pos h, emod_mul_l, e, h, e2, Int.pow_add s _ (Int.toNat 1), Int.mul_assoc]
    congr 1
    show v * (s * _) = v * (_ * s ^ 1)
    rw [Int.pow_one, Int.mul_comm s]
  · have h0 : r % 2 = 0 := by omega
    rw [if_neg h, e, h0, e2]; rfl
/-- the powers: square and multiply -/
theorem whT_pow {test : τ → Res Bool} {body : τ → Res (Fl τ Ω)} {m : Int} (hm : 0 < m) (A : Int → Int → Int → τ)
    (ht : ∀ v s r, test (A v s r) = .ok (decide (r > 0)))
    (hb : ∀ v s r, 0 ≤ v → v < m → 0 ≤ s → s < m → 0 < r → body (A v s r) = .ok (.nx (A (if r % 2 = 1 then v * s % m else v) (s * s % m) (r / 2)))) :
    ∀ (n : Nat) (v s r : Int), 0 ≤ v → v < m → 0 ≤ s → s < m → 0 ≤ r → r.toNat < 2 ^ n → ∃ s', whT (n + 1) test body (A v s r) = .ok (.nx (A (v * s ^ r.toNat % m) s' 0))
  | n, v, s, r, v0, v1, s0, s1, r0, hr => by
    by_cases h : r = 0
    · subst h
      refine ⟨s, ?_⟩
      rw [whT_stop (by rw [ht]; rfl)]
      rw [show Int.toNat 0 = 0 from rfl, Int.pow_zero, Int.mul_one, Int.emod_eq_of_lt v0 v1]
    · match n, hr with
      | 0, hr => have : r.toNat < 1 := hr; omega
      | n + 1, hr =>
        have hp : 0 < r := by omega
        have w := whT_pow hm A ht hb n (if r % 2 = 1 then v * s % m else v) (s * s % m) (r / 2) (by split; exact Int.emod_nonneg _ (by omega); exact v0) (by split; exact Int.emod_lt_of_pos _ hm; exact v1) (Int.emod_nonneg _ (by omega)) (Int.emod_lt_of_pos _ hm) (by omega) (by have : 2 ^ (n + 1) = 2 ^ n * 2 := Nat.pow_succ 2 n; omega)
        obtain ⟨s', w⟩ := w
        refine ⟨s', ?_⟩
        rw [whT_step (by rw [ht]; simp [hp]) (hb v s r v0 v1 s0 s1 hp), w, pow_split s m r v r0]
theorem run_pow {γ : Type} {test : τ → Res Bool} {body : τ → Res (Fl τ Ω)} {m : Int} (A : Int → Int → Int → τ) {n : Nat} {v s r : Int} {k : Fl τ Ω → Res γ} {o : Res γ} (hm : 0 < m) (hk : ∀ s', k (.nx (A (v * s ^ r.toNat % m) s' 0)) = o)
    (ht : ∀ v s r, test (A v s r) = .ok (decide (r > 0)))
    (hb : ∀ v s r, 0 ≤ v → v < m → 0 ≤ s → s < m → 0 < r → body (A v s r) = .ok (.nx (A (if r % 2 = 1 then v * s % m else v) (s * s % m) (r / 2))))
    (v0 : 0 ≤ v) (v1 : v < m) (s0 : 0 ≤ s) (s1 : s < m) (r0 : 0 ≤ r) (hr : r.toNat < 2 ^ n) : (whT (n + 1) test body (A v s r)).bind k = o := by
  obtain ⟨s', w⟩ := whT_pow hm A ht hb n v s r v0 v1 s0 s1 r0 hr
  rw [w, bOk]; exact hk s'
def Ok {α : Type} (t : Res α) (P : α → Prop) : Prop := ∃ x, t = .ok x ∧ P x
/-- a loop with an invariant, and what comes after it -/
theorem run_for {γ : Type} {f : α → τ → Res (Fl τ Ω)} (I : Nat → τ → Prop) {xs : List α} {s : τ} {k : Fl τ Ω → Res γ} {P : Res γ → Prop} (h0 : I 0 s) (st : ∀ j x s, xs[j]? = some x → I j s → Ok (f x s) fun w => ∃ s', w = .nx s' ∧ I (j + 1) s') (hk : ∀ s', I xs.length s' → P (k (.nx s'))) : P ((forT f xs s).bind k) := by
  obtain ⟨s', e, i⟩ := forT_inv (f := f) I xs 0 s h0 fun j x s h i => by
    rw [Nat.zero_add] at i ⊢
    obtain ⟨_, e, s', rfl, i'⟩ := st j x s h i
    exact ⟨s', e, i'⟩
  rw [e, bOk]; exact hk s' (by rw [Nat.zero_add] at i; exact i)
theorem run_pass {γ : Type} {f : α → τ → Res (Fl τ Ω)} {xs : List α} {s : τ} {k : Fl τ Ω → Res γ} {o : Res γ} (st : ∀ x ∈ xs, f x s = .ok (.nx s)) (hk : k (.nx s) = o) : (forT f xs s).bind k = o := by
  rw [forT_pass xs st, bOk]; exact hk
theorem bb {f : α → Res β} {t : Res α} {x : α} {o : Res β} (h : t = .ok x) (k : f x = o) : t.bind f = o := by rw [h, bOk]; exact k
theorem ob {f : α → Res β} {t : Res α} {P : α → Prop} {o : Res β} (h : Ok t P) (k : ∀ x, P x → f x = o) : t.bind f = o := by
  obtain ⟨x, e, p⟩ := h
  rw [e, bOk]; exact k x p
theorem oo {f : α → Res β} {t : Res α} {P : α → Prop} {Q : β → Prop} (h : Ok t P) (k : ∀ x, P x → Ok (f x) Q) : Ok (t.bind f) Q := by
  obtain ⟨x, e, p⟩ := h
  rw [e, bOk]; exact k x p
theorem oe {f : α → Res β} {t : Res α} {x : α} {Q : β → Prop} (h : t = .ok x) (k : Ok (f x) Q) : Ok (t.bind f) Q := by rw [h, bOk]; exact k
theorem o_comp {t : α → Res Bool} {f : α → Res β} (P : β → Prop) {xs : List α} (h : xs.length ≤ 16777216) (ht : ∀ x ∈ xs, t x = .ok true) (hf : ∀ x ∈ xs, Ok (f x) P) : Ok (compT t f xs) fun ys => ys.length = xs.length ∧ ∀ y ∈ ys, P y := compT_all P xs h ht hf
theorem ok_i {x : α} {P : α → Prop} (h : P x) : Ok (.ok x) P := ⟨x, rfl, h⟩
/-- the first that is found -/
theorem run_find {γ : Type} {f : α → τ → Res (Fl τ Ω)} {xs : List α} {s : τ} {k : Fl τ Ω → Res γ} {P : Res γ → Prop} (Q : Ω → Prop) (st : ∀ x ∈ xs, f x s = .ok (.nx s) ∨ ∃ w, f x s = .ok (.out w) ∧ Q w) (hn : P (k (.nx s))) (ho : ∀ w, Q w → P (k (.out w))) : P ((forT f xs s).bind k) := by
  induction xs with
  | nil => exact hn
  | cons x xs ih =>
    show P (Res.bind (Res.bind (f x s) _) _)
    rcases st x (by simp) with h | ⟨w, h, q⟩
    · rw [h, bOk]; exact ih fun y hy => st y (by simp [hy])
    · rw [h, bOk]; exact ho w q
theorem gex_all {f : α → Res Bool} {g : α → Bool} : ∀ xs : List α, (∀ x ∈ xs, f x = .ok (g x)) → gexT false f xs = .ok (xs.all g)
  | [], _ => rfl
  | x :: xs, h => by
    show (noEx (f x)).bind _ = _
    rw [h x (by simp)]
    show (if g x = false then Res.ok false else gexT false f xs) = _
    rw [gex_all xs fun y hy => h y (by simp [hy]), List.all_cons]
    cases g x <;> rfl
theorem cut_from {xs : List α} {n : Nat} (h : n ≤ xs.length) : cutL xs (some (n : Int)) none = xs.drop n := by
  have e : HT.sIx xs.length 0 (some (n : Int)) = n := by
    unfold HT.sIx
    simp only []
    rw [if_neg (by omega)]
    omega
  unfold cutL
  rw [e, show HT.sIx xs.length xs.length none = xs.length from rfl]
  exact List.take_of_length_le (by simp)
theorem cut_to {xs : List α} {n : Nat} (h : n ≤ xs.length) : cutL xs none (some (n : Int)) = xs.take n := by
  have e : HT.sIx xs.length xs.length (some (n : Int)) = n := by
    unfold HT.sIx
    simp only []
    rw [if_neg (by omega)]
    omega
  unfold cutL
  rw [e, show HT.sIx xs.length 0 none = 0 from rfl]; rfl
theorem stT_e {xs : List α} {i : Int} {x : α} (h0 : 0 ≤ i) (h : i < xs.length) : stT xs i x = .ok (xs.set i.toNat x) := by
  unfold stT ixN
  rw [if_pos h0, if_pos h]
/-- a loop that may break -/
theorem run_brk {γ : Type} {f : α → τ → Res (Fl τ Ω)} (I : Nat → τ → Prop) (B : τ → Prop) {xs : List α} {s : τ} {k : Fl τ Ω → Res γ} {P : Res γ → Prop} (h0 : I 0 s) (st : ∀ j x s, xs[j]? = some x → I j s → Ok (f x s) fun w => (∃ s', w = .nx s' ∧ I (j + 1) s') ∨ ∃ s', w = .bk s' ∧ B s') (hk : ∀ s', I xs.length s' ∨ B s' → P (k (.nx s'))) : P ((forT f xs s).bind k) := by
  have : ∀ (xs : List α) (n : Nat) (s : τ), I n s → (∀ j x s, xs[j]? = some x → I (n + j) s → Ok (f x s) fun w => (∃ s', w = .nx s' ∧ I (n + j + 1) s') ∨ ∃ s', w = .bk s' ∧ B s') → ∃ s', forT f xs s = .ok (.nx s') ∧ (I (n + xs.length) s' ∨ B s') := by
    intro xs
    induction xs with
    | nil => intro n s h _; exact ⟨s, rfl, .inl h⟩
    | cons x xs ih =>
      intro n s h st
      obtain ⟨w, e, h1⟩ := st 0 x s rfl h
      rcases h1 with ⟨s1, rfl, i1⟩ | ⟨s1, rfl, b1⟩
      · obtain ⟨s2, e2, i2⟩ := ih (n + 1) s1 i1 fun j y s hy hi => by
          have := st (j + 1) y s hy (by rw [show n + (j + 1) = n + 1 + j by omega]; exact hi)
          rw [show n + (j + 1) + 1 = n + 1 + j + 1 by omega] at this
          exact this
        refine ⟨s2, ?_, by rw [List.length_cons, show n + (xs.length + 1) = n + 1 + xs.length by omega]; exact i2⟩
        show Res.bind (f x s) _ = _
        rw [e, bOk]; exact e2
      · refine ⟨s1, ?_, .inr b1⟩
        show Res.bind (f x s) _ = _
        rw [e, bOk]
  obtain ⟨s', e, i⟩ := this xs 0 s h0 fun j x s h i => by
    rw [Nat.zero_add] at i ⊢
    exact st j x s h i
  rw [e, bOk]; exact hk s' (by rw [Nat.zero_add] at i; exact i)
theorem catS_e {x y : Str} (h : x.length + y.length ≤ 16777216) : catS x y = .ok (x ++ y) := if_pos h
theorem str_len (x y : Str) : (x ++ y).length = x.length + y.length := by show (x.cps ++ y.cps).size = _; simp [Str.length]
theorem str_ok {x y : Str} (h : PyData.strOk x = true) (h2 : PyData.strOk y = true) : PyData.strOk (x ++ y) = true := by
  show (x.cps ++ y.cps).all _ = true
  rw [Array.all_append]
  exact Bool.and_eq_true_iff.mpr ⟨h, h2⟩
theorem fold_len : ∀ (l : List Str) (a : Array Nat) , (l.foldl (fun acc p => acc ++ (Str.ofString "").cps ++ p.cps) a).size = a.size + (l.map fun x => x.length).sum
  | [], a => by simp
  | x :: l, a => by
    rw [List.foldl_cons, fold_len l]
    have : (Str.ofString "").cps.size = 0 := by decide +kernel
    simp [Str.length, this]; omega
theorem join_len (l : List Str) : (Txt.join (Str.ofString "") l).length = (l.map fun x => x.length).sum := by
  show Array.size (List.foldl _ _ _) = _
  match l with
  | [] => rfl
  | x :: l =>
    rw [fold_len]; simp [Str.length]
theorem fold_ok : ∀ (l : List Str) (a : Array Nat), (a.all fun x => decide (x < 1114112)) = true → (∀ x ∈ l, PyData.strOk x = true) → ((l.foldl (fun acc p => acc ++ (Str.ofString "").cps ++ p.cps) a).all fun x => decide (x < 1114112)) = true
  | [], a, h, _ => h
  | x :: l, a, h, hl => by
    rw [List.foldl_cons]
    refine fold_ok l _ ?_ fun y hy => hl y (by simp [hy])
    have e : ((Str.ofString "").cps.all fun x => decide (x < 1114112)) = true := by decide +kernel
    rw [Array.all_append, Array.all_append, h, e]
    exact hl x (by simp)
theorem join_ok (l : List Str) (h : ∀ x ∈ l, PyData.strOk x = true) : PyData.strOk (Txt.join (Str.ofString "") l) = true := by
  match l with
  | [] => decide +kernel
  | x :: l => exact fold_ok l x.cps (h x (by simp)) fun y hy => h y (by simp [hy])
theorem sum_le {n : Nat} : ∀ (l : List Str), (∀ x ∈ l, x.length ≤ n) → (l.map fun x => x.length).sum ≤ l.length * n
  | [], _ => by simp
  | x :: l, h => by
    have := sum_le l fun y hy => h y (by simp [hy])
    have := h x (by simp)
    simp only [List.map_cons, List.sum_cons, List.length_cons, Nat.add_mul, Nat.one_mul]
    omega
theorem joinT_e {l : List Str} (h : (l.map fun x => x.length).sum ≤ 16777216) : joinT (Str.ofString "") l = .ok (Txt.join (Str.ofString "") l) := by
  unfold joinT
  have : (Str.ofString "").length = 0 := by decide +kernel
  rw [if_pos (by rw [this, Nat.mul_zero]; exact h)]
theorem shp_s {x : Str} (h : PyData.strOk x = true) : SeqAt.shaped (V.eS x) = true := by
  show (PyData.strOk x && decide (0 ≤ 64)) = true
  rw [h]; rfl
theorem neS_same {x : Str} (h : PyData.strOk x = true) : neST x x = .ok false := by
  unfold neST
  rw [if_pos ⟨shp_s h, shp_s h⟩]; simp
theorem eqS_same {x : Str} (h : PyData.strOk x = true) : eqST x x = .ok true := by
  unfold eqST
  rw [if_pos ⟨shp_s h, shp_s h⟩]; simp
/-- a loop that checks -/
theorem forT_chk {f : α → τ → Res (Fl τ Ω)} {s : τ} {x0 : Xc} (p : α → Bool) : ∀ xs : List α, (∀ x ∈ xs, f x s = if p x = true then .ok (.nx s) else .ex x0) → forT f xs s = if xs.all p = true then .ok (.nx s) else .ex x0
  | [], _ => rfl
  | x :: xs, h => by
    show Res.bind (f x s) _ = _
    rw [h x (by simp), List.all_cons]
    cases e : p x with
    | true => rw [if_pos rfl, bOk, Bool.true_and]; exact forT_chk p xs fun y hy => h y (by simp [hy])
    | false => rw [if_neg (by simp), bEx, Bool.false_and, if_neg (by simp)]
theorem cutL_le (xs : List α) (lo hi : Option Int) : (cutL xs lo hi).length ≤ xs.length := by
  unfold cutL
  rw [List.length_take, List.length_drop]; omega
theorem extT_e {xs ys : List α} (h : xs.length + ys.length ≤ 16777216) : extT xs ys = .ok (xs ++ ys) := if_pos h
theorem repVT_e {xs : List α} {k : Int} (h0 : xs ≠ []) (h : 2 ≤ k) (h2 : k ≤ 1000) (h3 : xs.length ≤ 1000) : repVT xs k = .ok (List.replicate k.toNat xs).flatten := if_pos ⟨h0, h, h2, h3⟩
end V

set_option linter.all false
set_option maxRecDepth 100000
set_option maxHeartbeats 4000000
/-! # typed: comprehensions out of which an error may come -/
namespace V
open PySem PySem.Spec PyProof.Rows L2 RZ J
section
variable {α β σ : Type} {E : σ → Rho} {e2 : β → D}
def mapXT (t : α → Res Bool) (f : α → Res β) : List α → Res (List β)
  | [] => .ok []
  | x :: xs => (t x).bind fun c => if c = true then (f x).bind fun y => (mapXT t f xs).bind fun ys => .ok (y :: ys) else mapXT t f xs
def compXT (t : α → Res Bool) (f : α → Res β) (xs : List α) : Res (List β) := if xs.length ≤ 16777216 then mapXT t f xs else .bad
theorem lcX_map {b : D → Rho → Res Rho} {tt : Rho → Res Bool} {fe : Rho → Res D} {ρ : Rho} {E2 : α → Rho} {e : α → D} {t : α → Res Bool} {f : α → Res β} (hb : ∀ x, b (e x) ρ = .ok (E2 x)) (ht : VT E2 tt t) (hf : VE E2 e2 fe f) : ∀ xs : List α, Le (List.map e2) (mapXT t f xs) (lcX b tt fe ρ (xs.map e))
  | [] => rfl
  | x :: xs => by
    show Le _ _ ((b (e x) ρ).bind _)
    rw [hb x, bind_ok]
    have h := ht x
    show Le _ ((t x).bind _) ((tt (E2 x)).bind _)
    cases q : t x with
    | bad => trivial
    | ex c => rw [q] at h; rw [show tt (E2 x) = .ex c from h]; rfl
    | ok c =>
      rw [q] at h
      rw [show tt (E2 x) = .ok c from h, bind_ok]
      cases c with
      | true =>
        show Le (List.map e2) ((f x).bind fun y => (mapXT t f xs).bind fun ys => .ok (y :: ys)) ((fe (E2 x)).bind fun d => (lcX b tt fe ρ (xs.map e)).bind fun ds => .ok (d :: ds))
        exact Le.bind (hf x) fun y => Le.bind (lcX_map hb ht hf xs) fun ys => rfl
      | false => exact lcX_map hb ht hf xs
theorem v_lcX {fi : Rho → Res (List D)} {b : D → Rho → Res Rho} {tt : Rho → Res Bool} {fe : Rho → Res D} {vs : List Nat} {e : α → D} {xs : σ → Res (List α)} {E2 : σ × α → Rho} {t : σ × α → Res Bool} {f : σ × α → Res β}
    (hi : VI E e fi xs) (hb : ∀ s x, b (e x) (wipeR (E s) vs) = .ok (E2 (s, x))) (ht : VT E2 tt t) (hf : VE E2 e2 fe f) : VI E e2 (lcRX fi b tt fe vs) fun s => (xs s).bind fun ys => compXT (fun x => t (s, x)) (fun x => f (s, x)) ys := fun s => Le.bind (hi s) fun ys => by
  unfold compXT
  rw [List.length_map]
  split
  · exact lcX_map (hb s) (fun x => ht (s, x)) (fun x => hf (s, x)) ys
  · trivial
theorem compXT_e {t : α → Res Bool} {f : α → Res β} (g : α → β) (xs : List α) (h : xs.length ≤ 16777216) (ht : ∀ x ∈ xs, t x = .ok true) (hf : ∀ x ∈ xs, f x = .ok (g x)) : compXT t f xs = .ok (xs.map g) := by
  unfold compXT
  rw [if_pos h]
  have : ∀ ys : List α, (∀ x ∈ ys, x ∈ xs) → mapXT t f ys = .ok (ys.map g) := by
    intro ys
    induction ys with
    | nil => intro _; rfl
    | cons y ys ih =>
      intro hy
      show Res.bind (t y) _ = _
      rw [ht y (hy y (by simp)), bOk, if_pos rfl, hf y (hy y (by simp)), bOk, ih fun x hx => hy x (by simp [hx]), bOk]; rfl
  exact this xs fun x h => h
/-- each item is made, or raises the same -/
theorem compXT_if {t : α → Res Bool} {f : α → Res β} {x0 : Xc} (p : α → Bool) (g : α → β) (xs : List α) (h : xs.length ≤ 16777216) (ht : ∀ x ∈ xs, t x = .ok true) (hf : ∀ x ∈ xs, f x = if p x = true then .ok (g x) else .ex x0) : compXT t f xs = if xs.all p = true then .ok (xs.map g) else .ex x0 := by
  unfold compXT
  rw [if_pos h]
  have : ∀ ys : List α, (∀ x ∈ ys, x ∈ xs) → mapXT t f ys = if ys.all p = true then .ok (ys.map g) else .ex x0 := by
    intro ys
    induction ys with
    | nil => intro _; rfl
    | cons y ys ih =>
      intro hy
      show Res.bind (t y) _ = _
      rw [ht y (hy y (by simp)), bOk, if_pos rfl, hf y (hy y (by simp)), ih fun x hx => hy x (by simp [hx]), List.all_cons]
      cases p y with
      | false => rfl
      | true =>
        rw [if_pos rfl, bOk, Bool.true_and]
        cases ys.all p with
        | true => rw [if_pos rfl, if_pos rfl, bOk]; rfl
        | false => rw [if_neg Bool.false_ne_true, if_neg Bool.false_ne_true]; rfl
  exact this xs fun x h => h
end
section
variable {σ α β γ : Type} {E : σ → Rho} {e1 : α → D} {e2 : β → D} {e3 : γ → D}
/-! in a tuple -/
theorem o_inV [DecidableEq α] {e : α → D} {n : Nat} (c : Ceq e n) (h : n ≤ 63) (x : α) (ys : List α) : inD (e x) (eV e ys) = .ok (eB (decide (x ∈ ys))) := by
  have hs : (if SeqAt.shaped (e x) = true ∧ SeqAt.shaped (.list (ys.map e)) = true then Res.ok (PyData.bool ((ys.map e).any fun z => PyData.eqv z (e x))) else .bad) = .ok (eB (decide (x ∈ ys))) := by rw [if_pos ⟨c.shp (by omega) x, (ceq_L c).shp (by omega) ys⟩, any_eqv c]
  show inD (e x) (.tuple _) = _
  unfold inD
  exact hs
theorem o_ninV [DecidableEq α] {e : α → D} {n : Nat} (c : Ceq e n) (h : n ≤ 63) (x : α) (ys : List α) : notInD (e x) (eV e ys) = .ok (eB (decide (x ∉ ys))) := by
  have hs : (if SeqAt.shaped (e x) = true ∧ SeqAt.shaped (.list (ys.map e)) = true then Res.ok (PyData.bool (!(ys.map e).any fun z => PyData.eqv z (e x))) else .bad) = .ok (eB (decide (x ∉ ys))) := by rw [if_pos ⟨c.shp (by omega) x, (ceq_L c).shp (by omega) ys⟩, any_eqv c, decide_not]
  show notInD (e x) (.tuple _) = _
  unfold notInD
  exact hs
/-! options -/
theorem ceq_O [DecidableEq α] {e : α → D} {n : Nat} (hn : ∀ x, isNone (e x) = false) (c : Ceq e n) : Ceq (eO e) n := ⟨fun x => by
  cases x with
  | none => rfl
  | some a => exact c.lay a, fun x => by
  cases x with
  | none => exact Nat.zero_le _
  | some a => exact c.dep a, fun x y => by
  have no : ∀ d : D, isNone d = false → PyData.eqv d .none = false ∧ PyData.eqv .none d = false := fun d h => by cases d <;> first | exact ⟨rfl, rfl⟩ | cases h
  cases x with
  | none =>
    cases y with
    | none => rfl
    | some b => rw [show PyData.eqv (eO e none) (eO e (some b)) = false from (no _ (hn b)).2]; simp
  | some a =>
    cases y with
    | none => rw [show PyData.eqv (eO e (some a)) (eO e none) = false from (no _ (hn a)).1]; simp
    | some b => rw [show PyData.eqv (eO e (some a)) (eO e (some b)) = _ from c.eqv a b]; simp⟩
/-- items kept as data -/
theorem v_asVD {f : Rho → Res D} {v : σ → List α} (h : VP E (eV e1) f v) : VP E (eV eD) f fun s => (v s).map e1 := fun s => by rw [h s]; simp
theorem v_asVDE {f : Rho → Res D} {v : σ → Res (List α)} (h : VE E (eV e1) f v) : VE E (eV eD) f fun s => (v s).bind fun x => .ok (x.map e1) := fun s => by
  have := h s
  show Le _ ((v s).bind _) _
  cases q : v s with
  | ok x => rw [q] at this; rw [show f (E s) = .ok (eV e1 x) from this]; show Res.ok _ = Res.ok _; simp
  | ex c => rw [q] at this; rw [show f (E s) = .ex c from this]; rfl
  | bad => trivial
def asIt : D → Res Int
  | .int i => .ok i
  | _ => .bad
def lenDT (d : D) : Res Int := (lenD [d]).bind asIt
theorem b_lenDD (d : D) : Le eI (lenDT d) (lenD [eD d]) := by
  unfold lenDT
  show Le eI ((lenD [d]).bind asIt) (lenD [d])
  cases lenD [d] with
  | ok x => cases x <;> first | exact rfl | trivial
  | ex c => exact rfl
  | bad => trivial
theorem lenDT_V (e : α → D) (xs : List α) : lenDT (eV e xs) = .ok (xs.length : Int) := by
  unfold lenDT
  rw [show lenD [eV e xs] = .ok (.int xs.length) from b_lenV xs]; rfl
/-! over data whose type is not told -/
theorem le_asB {r : Res D} : Le eB (r.bind asB) r := by
  cases r with
  | ok d => cases d <;> first | exact rfl | trivial
  | ex c => exact rfl
  | bad => trivial
theorem v_do2D {f g : Rho → Res D} {kd : D → D → Res D} {a : σ → Res α} {b : σ → Res β} (ha : VE E e1 f a) (hb : VE E e2 g b) : VE E eB (do2 f g kd) fun s => (a s).bind fun x => (b s).bind fun y => (kd (e1 x) (e2 y)).bind asB := fun s => Le.bind (ha s) fun x => Le.bind (hb s) fun y => le_asB
theorem v_do1D {f : Rho → Res D} {kd : D → Res D} {a : σ → Res α} (ha : VE E e1 f a) : VE E eB (do1 f kd) fun s => (a s).bind fun x => (kd (e1 x)).bind asB := fun s => Le.bind (ha s) fun x => le_asB
/-! the beginning of a tuple of a known length -/
theorem v_cutT {f : Rho → Res D} {g h : Rho → Res (Option Int)} {v : σ → α} {π : α → β} {lo hi : Option Int} (hf : VP E e1 f v) (hg : VOP E g fun _ => lo) (hh : VOP E h fun _ => hi) (o : ∀ x, cutD (e1 x) lo hi = .ok (e2 (π x))) : VP E e2 (cutR f g h) fun s => π (v s) := fun s => by
  show (f (E s)).bind _ = _
  rw [hf s, bind_ok, hg s, bind_ok, hh s, bind_ok]; exact o _
theorem v_cutTE {f : Rho → Res D} {g h : Rho → Res (Option Int)} {v : σ → Res α} {π : α → β} {lo hi : Option Int} (hf : VE E e1 f v) (hg : VOP E g fun _ => lo) (hh : VOP E h fun _ => hi) (o : ∀ x, cutD (e1 x) lo hi = .ok (e2 (π x))) : VE E e2 (cutR f g h) fun s => (v s).bind fun x => .ok (π x) := fun s => Le.bind (hf s) fun x => by
  show ((g (E s)).bind _) = _
  rw [hg s, bind_ok, hh s, bind_ok]; exact o _
end
end V

set_option linter.all false
set_option maxRecDepth 100000
set_option maxHeartbeats 4000000
/-! # typed: comprehensions of two clauses -/
namespace V
open PySem PySem.Spec PyProof.Rows L2 RZ J
section
variable {α β γ σ : Type} {E : σ → Rho} {e2 : β → D}
def map2T (t : α → Res Bool) (xs1 : α → Res (List γ)) (t1 : α → γ → Res Bool) (f : α → γ → Res β) : List α → Res (List β)
  | [] => .ok []
  | x :: xs => (noEx (t x)).bind fun c => if c = true then (noEx (xs1 x)).bind fun zs => (noEx (mapT (t1 x) (f x) zs)).bind fun ys => (map2T t xs1 t1 f xs).bind fun r => .ok (ys ++ r) else map2T t xs1 t1 f xs
def comp2T (t : α → Res Bool) (xs1 : α → Res (List γ)) (t1 : α → γ → Res Bool) (f : α → γ → Res β) (xs : List α) : Res (List β) := (noEx (map2T t xs1 t1 f xs)).bind fun all => if all.length ≤ 16777216 then .ok all else .bad
theorem lc2_map {b b1 : D → Rho → Res Rho} {tt tt1 : Rho → Res Bool} {fi1 : Rho → Res (List D)} {fe : Rho → Res D} {vs1 : List Nat} {ρ : Rho} {E1 : α → Rho} {E2 : α × γ → Rho} {e : α → D} {e1 : γ → D} {t : α → Res Bool} {xs1 : α → Res (List γ)} {t1 : α × γ → Res Bool} {f : α × γ → Res β}
    (hb : ∀ x, b (e x) ρ = .ok (E1 x)) (ht : VT E1 tt t) (hi1 : VI E1 e1 fi1 xs1) (hb1 : ∀ x z, b1 (e1 z) (wipeR (E1 x) vs1) = .ok (E2 (x, z))) (ht1 : VT E2 tt1 t1) (hf : VE E2 e2 fe f) :
    ∀ xs : List α, Le (List.map e2) (map2T t xs1 (fun x z => t1 (x, z)) (fun x z => f (x, z)) xs) (lc2L b tt fi1 b1 tt1 fe vs1 ρ (xs.map e))
  | [] => rfl
  | x :: xs => by
    have ih := lc2_map hb ht hi1 hb1 ht1 hf xs
    show Le _ _ ((b (e x) ρ).bind _)
    rw [hb x, bind_ok]
    have h := ht x
    show Le _ ((noEx (t x)).bind _) ((noEx (tt (E1 x))).bind _)
    cases q : t x with
    | bad => trivial
    | ex c => trivial
    | ok c =>
      rw [q] at h
      rw [show tt (E1 x) = .ok c from h]
      cases c with
      | true =>
        show Le (List.map e2) ((noEx (xs1 x)).bind fun zs => (noEx (mapT (fun z => t1 (x, z)) (fun z => f (x, z)) zs)).bind fun ys => (map2T t xs1 (fun x z => t1 (x, z)) (fun x z => f (x, z)) xs).bind fun r => .ok (ys ++ r)) ((noEx (fi1 (E1 x))).bind fun es => (noEx (lcL b1 tt1 fe (wipeR (E1 x) vs1) es)).bind fun ds => (lc2L b tt fi1 b1 tt1 fe vs1 ρ (xs.map e)).bind fun r => .ok (ds ++ r))
        exact Le.bind (Le.noEx (hi1 x)) fun zs => Le.bind (Le.noEx (lc_map (hb1 x) (fun z => ht1 (x, z)) (fun z => hf (x, z)) zs)) fun ys => Le.bind ih fun r => by
          show Res.ok _ = Res.ok _
          rw [List.map_append]
      | false =>
        show Le _ (map2T t xs1 _ _ xs) (lc2L b tt fi1 b1 tt1 fe vs1 ρ (xs.map e))
        exact ih
theorem v_lc2 {fi : Rho → Res (List D)} {b b1 : D → Rho → Res Rho} {tt tt1 : Rho → Res Bool} {fi1 : Rho → Res (List D)} {fe : Rho → Res D} {vs vs1 : List Nat} {e : α → D} {e1 : γ → D} {xs : σ → Res (List α)} {E1 : σ × α → Rho} {E2 : (σ × α) × γ → Rho} {t : σ × α → Res Bool} {xs1 : σ × α → Res (List γ)} {t1 : (σ × α) × γ → Res Bool} {f : (σ × α) × γ → Res β}
    (hi : VI E e fi xs) (hb : ∀ s x, b (e x) (wipeR (E s) vs) = .ok (E1 (s, x))) (ht : VT E1 tt t) (hi1 : VI E1 e1 fi1 xs1) (hb1 : ∀ s z, b1 (e1 z) (wipeR (E1 s) vs1) = .ok (E2 (s, z))) (ht1 : VT E2 tt1 t1) (hf : VE E2 e2 fe f) :
    VI E e2 (lc2R fi b tt fi1 b1 tt1 fe vs vs1) fun s => (xs s).bind fun ys => comp2T (fun x => t (s, x)) (fun x => xs1 (s, x)) (fun x z => t1 ((s, x), z)) (fun x z => f ((s, x), z)) ys := fun s => Le.bind (hi s) fun ys => by
  unfold comp2T
  refine Le.bind (Le.noEx (lc2_map (E1 := fun x => E1 (s, x)) (E2 := fun q => E2 ((s, q.1), q.2)) (xs1 := fun x => xs1 (s, x)) (t1 := fun q => t1 ((s, q.1), q.2)) (f := fun q => f ((s, q.1), q.2)) (hb s) (fun x => ht (s, x)) (fun x => hi1 (s, x)) (fun x z => hb1 (s, x) z) (fun q => ht1 ((s, q.1), q.2)) (fun q => hf ((s, q.1), q.2)) ys)) fun all => ?_
  rw [List.length_map]
  split
  · rfl
  · trivial
end
end V

set_option linter.all false
set_option maxRecDepth 100000
set_option maxHeartbeats 4000000
/-! # typed: sum, max, min of a list or tuple; list(range(..)); xs.index(x) -/
namespace V
open PySem PySem.Spec PyProof.Rows L2 RZ J
section
variable {α β γ σ : Type} {E : σ → Rho} {enc : α → D}
theorem ints_e : ∀ x : List Int, intsOf (x.map eI) = some x
  | [] => rfl
  | n :: ns => by show (intsOf (ns.map eI)).map (n :: ·) = _; rw [ints_e ns]; rfl
theorem b_sum2L (x : List Int) : sum2D [eL eI x] = .ok (eI x.sum) := by show (match intsOf (x.map eI) with | some ns => _ | none => _) = _; rw [ints_e]
theorem b_sum2V (x : List Int) : sum2D [eV eI x] = .ok (eI x.sum) := by show (match intsOf (x.map eI) with | some ns => _ | none => _) = _; rw [ints_e]
theorem b_sumTV (x : List Int) : sumTD [eV eI x] = .ok (eI x.sum) := by show (match intsOf (x.map eI) with | some ns => _ | none => _) = _; rw [ints_e]
def maxO : List Int → Res Int
  | [] => .bad
  | n :: ns => .ok (bigI n ns)
def minO : List Int → Res Int
  | [] => .bad
  | n :: ns => .ok (lowI n ns)
theorem b_max2L (x : List Int) : Le eI (maxO x) (max2D [eL eI x]) := by
  cases x with
  | nil => exact trivial
  | cons n ns => show max2D [.list ((n :: ns).map eI)] = _; simp only [max2D, seqI]; rw [ints_e]
theorem b_max2V (x : List Int) : Le eI (maxO x) (max2D [eV eI x]) := by
  cases x with
  | nil => exact trivial
  | cons n ns => show max2D [.tuple ((n :: ns).map eI)] = _; simp only [max2D, seqI]; rw [ints_e]
theorem b_maxTV (x : List Int) : Le eI (maxO x) (maxTD [eV eI x]) := by
  cases x with
  | nil => exact trivial
  | cons n ns => show maxTD [.tuple ((n :: ns).map eI)] = _; simp only [maxTD, tupI]; rw [ints_e]
theorem b_min2L (x : List Int) : Le eI (minO x) (min2D [eL eI x]) := by
  cases x with
  | nil => exact trivial
  | cons n ns => show min2D [.list ((n :: ns).map eI)] = _; simp only [min2D, seqI]; rw [ints_e]
theorem b_min2V (x : List Int) : Le eI (minO x) (min2D [eV eI x]) := by
  cases x with
  | nil => exact trivial
  | cons n ns => show min2D [.tuple ((n :: ns).map eI)] = _; simp only [min2D, seqI]; rw [ints_e]
theorem b_minTV (x : List Int) : Le eI (minO x) (minTD [eV eI x]) := by
  cases x with
  | nil => exact trivial
  | cons n ns => show minTD [.tuple ((n :: ns).map eI)] = _; simp only [minTD, tupI]; rw [ints_e]
@[irreducible] def lrgT (i j : Int) : Res (List Int) := if (-(2 : Int) ^ 62 ≤ i ∧ i < 2 ^ 62 ∧ -(2 : Int) ^ 62 ≤ j ∧ j < 2 ^ 62) ∧ (j - i).toNat ≤ 16777216 then .ok ((List.range (j - i).toNat).map fun k : Nat => i + (k : Int)) else .bad
theorem v_lrg {f g : Rho → Res D} {a b : σ → Res Int} (ha : VE E eI f a) (hb : VE E eI g b) : VI E eI (do2L f g lrgL) fun s => (a s).bind fun x => (b s).bind fun y => lrgT x y := fun s => Le.bind (ha s) fun x => Le.bind (hb s) fun y => by
  unfold lrgT
  show Le _ _ (if (-(2 : Int) ^ 62 ≤ x ∧ x < 2 ^ 62 ∧ -(2 : Int) ^ 62 ≤ y ∧ y < 2 ^ 62) ∧ (y - x).toNat ≤ 16777216 then Res.ok ((List.range (y - x).toNat).map fun k : Nat => PyData.int (x + (k : Int))) else .bad)
  split
  · show Res.ok _ = Res.ok _
    rw [List.map_map]
    rfl
  · exact trivial
def indexT (xs : List Int) (y : Int) : Res Int := if xs.findIdx (fun z => decide (z = y)) < xs.length then .ok (xs.findIdx (fun z => decide (z = y)) : Nat) else .bad
theorem idx_e (y : Int) : ∀ xs : List Int, (xs.map eI).findIdx (fun z => PyData.eqv z (eI y)) = xs.findIdx (fun z => decide (z = y))
  | [] => rfl
  | x :: xs => by
    rw [List.map_cons, List.findIdx_cons, List.findIdx_cons, idx_e y xs, ceq_I.eqv]
theorem v_index {f g : Rho → Res D} {a : σ → Res (List Int)} {b : σ → Res Int} (ha : VE E (eL eI) f a) (hb : VE E eI g b) : VE E eI (indexR f g) fun s => (a s).bind fun x => (b s).bind fun y => indexT x y := fun s => Le.bind (ha s) fun x => by
  show Le _ _ ((g (E s)).bind fun y => indexD (.list (x.map eI)) y)
  refine Le.bind (hb s) fun y => ?_
  unfold indexT
  show Le _ _ (if (SeqAt.shaped (.list (x.map eI)) = true ∧ SeqAt.shaped (eI y) = true) ∧ (x.map eI).findIdx (fun z => PyData.eqv z (eI y)) < (x.map eI).length then Res.ok (PyData.int ((x.map eI).findIdx (fun z => PyData.eqv z (eI y)) : Nat)) else .bad)
  rw [idx_e, List.length_map]
  split
  · rename_i h
    rw [if_pos ⟨⟨(ceq_L ceq_I).shp (by omega) x, ceq_I.shp (by omega) y⟩, h⟩]
    rfl
  · exact trivial
end
end V

set_option linter.all false
set_option maxRecDepth 100000
set_option maxHeartbeats 4000000
/-! # typed: a list walked backwards -/
namespace V
open PySem PySem.Spec PyProof.Rows L2 RZ J
section
variable {α β γ σ : Type} {E : σ → Rho} {enc : α → D}
theorem w_rev {f : Rho → Res D} {v : σ → List α} (h : VP E (eL enc) f v) : VIP E enc (revR (consR f nilR)) fun s => (v s).reverse := fun s => by
  show ((consR f nilR) (E s)).bind _ = _
  unfold consR nilR
  rw [h s]
  show Res.ok (List.reverse ((v s).map enc)) = _
  rw [← List.map_reverse]
end
end V

set_option linter.all false
set_option maxRecDepth 100000
set_option maxHeartbeats 4000000
/-! # typed: tests of a text -/
namespace V
open PySem PySem.Spec PyProof.Rows L2 RZ J
theorem o_txt (g : Str → Bool) (x : Str) : txtD g (V.eS x) = .ok (eB (g x)) := rfl
theorem vo_someE {σ : Type} {E : σ → Rho} {f : Rho → Res D} {v : σ → Res Int} (h : VE E eI f v) : VO E (oSome f) fun s => (v s).bind fun x => .ok (some x) := fun s => Le.bind (h s) fun x => rfl
end V

set_option linter.all false
set_option maxRecDepth 100000
set_option maxHeartbeats 4000000
/-! # typed: a try whose body raises nothing; a text that is made, sign by sign -/
namespace V
open PySem PySem.Spec PyProof.Rows L2 RZ J
section
variable {σ τ Ω α : Type} {E : σ → Rho}
theorem s_thru {o : Ob Ω} {x : Xc} {g r h : Rho → SRes} {E1 : τ → Rho} {t : σ → Res (Fl τ Ω)} {k : τ → Res Ω} (hg : VB (obJ E1 o) E g t) (hk : VB o E1 h k) :
    VB o E (seqR (tryR0 [] x g r) h) fun s => (noEx (t s)).bind fun w => match w with | .nx s1 => k s1 | .bk s1 => k s1 | .out v => .ok v := fun s => by
  have a := hg s
  show ObR o ((noEx (t s)).bind fun w => match w with | .nx s1 => k s1 | .bk s1 => k s1 | .out v => .ok v) (match tryR0 [] x g r (E s) with | .nx ρ' => h ρ' | r => r)
  cases q : t s with
  | bad => trivial
  | ex c => trivial
  | ok w =>
    rw [q] at a
    cases w with
    | nx s1 =>
      have a : g (E s) = .nx (E1 s1) := a
      unfold tryR0
      rw [a]; exact hk s1
    | bk s1 => exact (show False from a).elim
    | out v =>
      have a : o.ok v (g (E s)) ∧ (∀ ρ, g (E s) ≠ .nx ρ) ∧ ∀ c ρ, g (E s) ≠ .ex c ρ := a
      obtain ⟨a1, a2, a3⟩ := a
      unfold tryR0
      cases q2 : g (E s) with
      | nx ρ => exact absurd q2 (a2 ρ)
      | ex c ρ => exact absurd q2 (a3 c ρ)
      | _ => rw [q2] at a1; exact a1
theorem w_strE {f : Rho → Res D} {v : σ → Res Str} (h : VE E eS f v) : VI E eS (itR f) fun s => (v s).bind fun x => .ok (signsT x) := fun s => by
  refine Le.bind (h s) fun x => ?_
  show Res.ok _ = Res.ok _
  unfold signsT
  rw [List.map_map]; rfl
end
end V

set_option linter.all false
set_option maxRecDepth 100000
set_option maxHeartbeats 4000000
/-! # typed: a try with several clauses -/
namespace V
open PySem PySem.Spec PyProof.Rows L2 RZ J
section
variable {σ τ Ω α : Type} {E : σ → Rho}
/-- nothing may be raised in a suite -/
def inSu (t : Res α) : Res α := match t with
  | .ex _ => .bad
  | r => r
def clsT (s : σ) (c : Xc) : List (List Xc × (σ × Xc → Res (Fl τ Ω))) → Res (Fl τ Ω)
  | [] => .ex c
  | (ks, u) :: r => if ks.any (isSub c) = true then inSu (u (s, c)) else clsT s c r
def tryCT (cs : List Xc) (us : List (List Xc × (σ × Xc → Res (Fl τ Ω)))) (s : σ) (t : Res (Fl τ Ω)) : Res (Fl τ Ω) := match t with
  | .ex c => if c ∈ cs then clsT s c us else .bad
  | r => r
/-- the clauses of both readings; P: where an error of the body may stand -/
inductive VC (P : σ → Rho → Prop) (E1 : τ → Rho) (o : Ob Ω) : List Clau → List (List Xc × (σ × Xc → Res (Fl τ Ω))) → Prop
  | nil : VC P E1 o [] []
  | bare {ks : List Xc} {r : Rho → SRes} {u : σ × Xc → Res (Fl τ Ω)} {l us} (hu : ∀ s c ρ, P s ρ → ObR (obH none E1 o) (u (s, c)) (r (unex ρ))) (h : VC P E1 o l us) : VC P E1 o ((ks, none, r) :: l) ((ks, u) :: us)
  | named {ks : List Xc} {i : Nat} {r : Rho → SRes} {u : σ × Xc → Res (Fl τ Ω)} {l us} (hu : ∀ s c ρ, P s ρ → ObR (obH (some i) E1 o) (u (s, c)) (r ((unex ρ).set i (.exn c)))) (h : VC P E1 o l us) : VC P E1 o ((ks, some i, r) :: l) ((ks, u) :: us)
theorem su_core {o : Ob Ω} {i : Option Nat} {E1 : τ → Rho} {h : Rho → SRes} {k : τ → Res Ω} {t : Res (Fl τ Ω)} {r r' : SRes} (a : ObR (obH i E1 o) t r) (hk : VB o E1 h k) (h1 : ∀ ρ, r = .nx ρ → r' = .nx (unex (unO i ρ))) (h2 : ∀ d, r = .rt d → r' = .rt d) (h3 : ∀ d, r = .rtO d → r' = .rtO d) :
    ObR o ((inSu t).bind fun w => match w with | .nx s1 => k s1 | .bk s1 => k s1 | .out v => .ok v) (match (generalizing := false) r' with | .nx ρ' => h ρ' | r => r) := by
  cases t with
  | bad => trivial
  | ex c => trivial
  | ok w =>
    cases w with
    | nx s1 =>
      obtain ⟨ρ, e1, e2⟩ := a
      rw [h1 ρ e1, e2]; exact hk s1
    | bk s1 => exact (show False from a).elim
    | out v =>
      obtain ⟨b1, ⟨d, e⟩ | ⟨d, e⟩⟩ := a
      · rw [h2 d e]; rw [e] at b1; exact b1
      · rw [h3 d e]; rw [e] at b1; exact b1
theorem VC.run {P : σ → Rho → Prop} {o : Ob Ω} {E1 : τ → Rho} {l : List Clau} {us : List (List Xc × (σ × Xc → Res (Fl τ Ω)))} {h : Rho → SRes} {k : τ → Res Ω} (v : VC P E1 o l us) (hk : VB o E1 h k) (s : σ) (c : Xc) (ρ : Rho) (hp : P s ρ) :
    ObR o ((clsT s c us).bind fun w => match w with | .nx s1 => k s1 | .bk s1 => k s1 | .out v => .ok v) (match claR c ρ l with | .nx ρ' => h ρ' | r => r) := by
  induction v with
  | nil => exact ⟨_, rfl⟩
  | @bare ks r u l us hu _ ih =>
    unfold clsT claR
    by_cases q : ks.any (isSub c) = true
    · rw [if_pos q, if_pos q]
      exact su_core (hu s c ρ hp) hk (fun ρ z => by rw [z]; rfl) (fun d z => by rw [z]; rfl) fun d z => by rw [z]; rfl
    · rw [if_neg q, if_neg q]; exact ih
  | @named ks i r u l us hu _ ih =>
    unfold clsT claR
    by_cases q : ks.any (isSub c) = true
    · rw [if_pos q, if_pos q]
      exact su_core (hu s c ρ hp) hk (fun ρ z => by rw [z]; rfl) (fun d z => by rw [z]; rfl) fun d z => by rw [z]; rfl
    · rw [if_neg q, if_neg q]; exact ih
theorem s_tryC {P : σ → Rho → Prop} {o : Ob Ω} {cs : List Xc} {l : List Clau} {us : List (List Xc × (σ × Xc → Res (Fl τ Ω)))} {g h : Rho → SRes} {E1 : τ → Rho} {t : σ → Res (Fl τ Ω)} {k : τ → Res Ω} (hg : VB (obJ E1 o) E g t) (hkp : ∀ s c ρ, g (E s) = .ex c ρ → P s ρ) (v : VC P E1 o l us) (hk : VB o E1 h k) :
    VB o E (seqR (tryC cs l g) h) fun s => (tryCT cs us s (t s)).bind fun w => match w with | .nx s1 => k s1 | .bk s1 => k s1 | .out v => .ok v := fun s => by
  have a := hg s
  show ObR o ((tryCT cs us s (t s)).bind fun w => match w with | .nx s1 => k s1 | .bk s1 => k s1 | .out v => .ok v) (match tryC cs l g (E s) with | .nx ρ' => h ρ' | r => r)
  unfold tryC
  cases q : t s with
  | bad => trivial
  | ok w =>
    rw [q] at a
    cases w with
    | nx s1 =>
      have a : g (E s) = .nx (E1 s1) := a
      rw [a]; exact hk s1
    | bk s1 => exact (show False from a).elim
    | out v =>
      have a : o.ok v (g (E s)) ∧ (∀ ρ, g (E s) ≠ .nx ρ) ∧ ∀ c ρ, g (E s) ≠ .ex c ρ := a
      obtain ⟨a1, a2, a3⟩ := a
      cases q2 : g (E s) with
      | nx ρ => exact absurd q2 (a2 ρ)
      | ex c ρ => exact absurd q2 (a3 c ρ)
      | _ => rw [q2] at a1; exact a1
  | ex c =>
    rw [q] at a
    obtain ⟨ρ, e⟩ := a
    rw [e]
    show ObR o ((if c ∈ cs then _ else .bad : Res _).bind _) _
    dsimp only
    by_cases hc : c ∈ cs
    · rw [if_pos hc, if_pos hc]; exact v.run hk s c ρ (hkp s c ρ e)
    · rw [if_neg hc]; trivial
/-- the body has changed nothing -/
theorem vc_bare {o : Ob Ω} {E1 : τ → Rho} {EH : σ × Xc → Rho} {ks : List Xc} {r : Rho → SRes} {u : σ × Xc → Res (Fl τ Ω)} {l us} (hE : ∀ s c, unex (E s) = EH (s, c)) (hu : VB (obH none E1 o) EH r u) (h : VC (fun s ρ => ρ = E s) E1 o l us) : VC (fun s ρ => ρ = E s) E1 o ((ks, none, r) :: l) ((ks, u) :: us) :=
  .bare (fun s c ρ e => by subst e; rw [hE s c]; exact hu (s, c)) h
theorem vc_named {o : Ob Ω} {E1 : τ → Rho} {EH : σ × Xc → Rho} {ks : List Xc} {i : Nat} {r : Rho → SRes} {u : σ × Xc → Res (Fl τ Ω)} {l us} (hE : ∀ s c, (unex (E s)).set i (.exn c) = EH (s, c)) (hu : VB (obH (some i) E1 o) EH r u) (h : VC (fun s ρ => ρ = E s) E1 o l us) : VC (fun s ρ => ρ = E s) E1 o ((ks, some i, r) :: l) ((ks, u) :: us) :=
  .named (fun s c ρ e => by subst e; rw [hE s c]; exact hu (s, c)) h
/-- the suite reads nothing -/
theorem vc_blind {o : Ob Ω} {E1 : τ → Rho} {ks : List Xc} {r : Rho → SRes} {v : Res (Fl τ Ω)} {l us} (hu : VB (obH none E1 o) (fun ρ : Rho => ρ) r fun _ => v) (h : VC (fun (_ : σ) _ => True) E1 o l us) : VC (fun (_ : σ) _ => True) E1 o ((ks, none, r) :: l) ((ks, fun _ => v) :: us) :=
  .bare (fun _ _ ρ _ => hu (unex ρ)) h
end
end V

set_option linter.all false
set_option maxRecDepth 100000
set_option maxHeartbeats 4000000
/-! # typed: a, *b = a list -/
namespace V
open PySem PySem.Spec PyProof.Rows L2 RZ J
section
variable {σ σ' α Ω : Type} {E : σ → Rho} {enc : α → D}
def hdT : List α → Res (α × List α)
  | x :: xs => .ok (x, xs)
  | [] => .bad
theorem s_starA {o : Ob Ω} {i j : Nat} {f : Rho → Res D} {h : Rho → SRes} {v : σ → Res (List α)} {E1 : σ' → Rho} {ins : σ → α × List α → σ'} {k : σ' → Res Ω} (hf : VE E (eL enc) f v) (hE : ∀ s x, ((E s).set i (.sh (enc x.1))).set j (.sh (eL enc x.2)) = E1 (ins s x)) (hk : VB o E1 h k) :
    VB o E (seqR (starAR i j f) h) fun s => ((v s).bind hdT).bind fun x => k (ins s x) := fun s => by
  refine seq_ev ?_
  have a := hf s
  dsimp only
  cases q : v s with
  | bad => trivial
  | ex c => rw [q] at a; rw [show f (E s) = .ex c from a]; exact ⟨_, rfl⟩
  | ok xs =>
    rw [q] at a
    rw [show f (E s) = .ok (eL enc xs) from a]
    cases xs with
    | nil => trivial
    | cons x xs =>
      show ObR o (k (ins s (x, xs))) (h (((E s).set i (.sh (enc x))).set j (.sh (eL enc xs))))
      rw [hE s (x, xs)]
      exact hk _
end
end V

set_option linter.all false
set_option maxRecDepth 100000
set_option maxHeartbeats 4000000
/-! # typed: zip of a tuple and a list -/
namespace V
open PySem PySem.Spec PyProof.Rows L2 RZ J
section
variable {σ α β : Type} {E : σ → Rho}
theorem w_zipM {e : α → D} {e' : β → D} {f : Rho → Res (List D)} {v : σ → List α × List β} (h : VAP E (fun x => [eV e x.1, eL e' x.2]) f v) : VIP E (fun p : α × β => PyData.tuple [e p.1, e' p.2]) (zipMR f) fun s => List.zip (v s).1 (v s).2 := fun s => by
  show (f (E s)).bind _ = _
  rw [h s, bind_ok]
  show Res.ok (zip2 _ _) = _
  rw [zip2_map]
theorem w_zipME {e : α → D} {e' : β → D} {f : Rho → Res (List D)} {v : σ → Res (List α × List β)} (h : VA E (fun x => [eV e x.1, eL e' x.2]) f v) : VI E (fun p : α × β => PyData.tuple [e p.1, e' p.2]) (zipMR f) fun s => (v s).bind fun x => .ok (List.zip x.1 x.2) := fun s => Le.bind (h s) fun x => by
  show Res.ok (zip2 _ _) = _
  rw [zip2_map]
theorem v_tup3 {γ : Type} {e1 : α → D} {e2 : β → D} {e3 : γ → D} {f1 f2 f3 : Rho → Res D} {a : σ → α} {b : σ → β} {c : σ → γ} (h1 : VP E e1 f1 a) (h2 : VP E e2 f2 b) (h3 : VP E e3 f3 c) : VP E (eT3 e1 e2 e3) (tupR (consR f1 (consR f2 (consR f3 nilR)))) fun s => (a s, b s, c s) :=
  v_tup (el := fun x : α × β × γ => [e1 x.1, e2 x.2.1, e3 x.2.2]) (va_cons h1 (va_cons h2 (va_one h3))) fun _ => Nat.le_of_ble_eq_true rfl
theorem v_nint {i : Int} : VP E eI (do1 (cI i) negD) fun _ => -i := fun _ => rfl
end
end V

set_option linter.all false
set_option maxRecDepth 100000
set_option maxHeartbeats 4000000
/-! # typed: len(set(xs)), xs.append(ys.pop(i)) -/
namespace V
open PySem PySem.Spec PyProof.Rows L2 RZ J
section
variable {σ σ' α β Ω : Type} {E : σ → Rho} {enc : α → D}
def lenSetT (ns : List Int) : Res Int := if ns.length ≤ 4000 then .ok (LU.cntI ns : Nat) else .bad
theorem v_lenSet {f : Rho → Res D} {v : σ → Res (List Int)} (h : VE E (eL eI) f v) : VE E eI (do1 f lenSetD) fun s => (v s).bind lenSetT := fun s => Le.bind (h s) fun x => by
  show Le eI (lenSetT x) (match intsD (x.map PyData.int) with
    | some ns => if ns.length ≤ 4000 then .ok (.int (LU.cntI ns : Nat)) else .bad
    | none => .bad)
  rw [J.ints_map]
  unfold lenSetT
  dsimp only
  split
  · rfl
  · trivial
theorem mapErase : ∀ (xs : List α) (k : Nat), (xs.map enc).eraseIdx k = (xs.eraseIdx k).map enc
  | [], _ => rfl
  | _ :: _, 0 => rfl
  | x :: xs, k + 1 => by
    show enc x :: (xs.map enc).eraseIdx k = enc x :: (xs.eraseIdx k).map enc
    rw [mapErase xs k]
def popT (ys : List α) (n : Int) : Res (α × List α) := if 0 ≤ n ∧ n < ys.length ∧ n < 4611686018427387904 then (match ys[n.toNat]? with
  | some y => .ok (y, ys.eraseIdx n.toNat)
  | none => .bad) else .bad
theorem s_popApp {o : Ob Ω} {S : List Nat} {i j : Nat} {f : Rho → Res D} {h : Rho → SRes} {v : σ → Res Int} {π π2 : σ → List α} {ES : σ → Rho} {E1 : σ' → Rho} {ins : σ → List α × List α → σ'} {k : σ' → Res Ω} (hij : i ≠ j) (hi : ∀ s, (E s)[i]? = some (.ow ((π s).map enc))) (hj : ∀ s, (E s)[j]? = some (.ow ((π2 s).map enc))) (hS : ∀ s, fzs S (E s) = ES s) (hf : VE ES eI f v) (hE : ∀ s x, ((E s).set j (.ow (x.2.map enc))).set i (.ow (x.1.map enc)) = E1 (ins s x)) (hk : VB o E1 h k) :
    VB o E (seqR (popAppR S i j f) h) fun s => (v s).bind fun n => (popT (π2 s) n).bind fun y => (appT (π s) y.1).bind fun z => k (ins s (z, y.2)) := fun s => by
  have e : popAppR S i j f (E s) = evS (f (fzs S (E s))) (E s) fun d => (match d with
    | .int n => if (0 ≤ n ∧ n < ((π2 s).map enc).length ∧ n < 4611686018427387904) ∧ i ≠ j ∧ ((π s).map enc).length < 16777216 then .nx (((E s).set j (.ow (((π2 s).map enc).eraseIdx n.toNat))).set i (.ow ((π s).map enc ++ [((π2 s).map enc).getD n.toNat .none]))) else .bad
    | _ => .bad) := by
    unfold popAppR; rw [hi s, hj s]; try rfl
  show ObR o _ (match popAppR S i j f (E s) with | .nx ρ' => h ρ' | r => r)
  rw [e]
  refine seq_ev ?_
  rw [hS s]
  refine ObR.bind (hf s) fun n => ?_
  dsimp only
  unfold popT
  rw [List.length_map, List.length_map]
  by_cases hn : 0 ≤ n ∧ n < ((π2 s).length : Int) ∧ n < 4611686018427387904
  rotate_left
  · rw [if_neg hn]; trivial
  rw [if_pos hn]
  have hlt : n.toNat < (π2 s).length := by omega
  rw [List.getElem?_eq_getElem hlt]
  dsimp only
  rw [bind_ok]
  unfold appT
  dsimp only
  by_cases hl : (π s).length < 16777216
  rotate_left
  · rw [if_neg hl]; trivial
  rw [if_pos hl, if_pos ⟨hn, hij, hl⟩, bind_ok]
  have hs := hE s (π s ++ [(π2 s)[n.toNat]], (π2 s).eraseIdx n.toNat)
  dsimp only at hs ⊢
  have eg : ((π2 s).map enc).getD n.toNat .none = enc (π2 s)[n.toNat] := by
    rw [List.getD_eq_getElem?_getD, List.getElem?_map, List.getElem?_eq_getElem hlt]; rfl
  have em : ((π2 s).map enc).eraseIdx n.toNat = ((π2 s).eraseIdx n.toNat).map enc := mapErase _ _
  rw [eg, em]
  rw [List.map_append] at hs
  exact hs ▸ hk _
/-- x = e beside one own list of ints, x a list of lists of ints -/
def apLL (ys : List Int) (x : List (List Int)) : Bool := !x.isEmpty && x.all fun r => decide (r ≠ ys)
theorem map_int_inj : ∀ {xs ys : List Int}, xs.map PyData.int = ys.map PyData.int → xs = ys
  | [], [], _ => rfl
  | x :: xs, y :: ys, h => by
    have h := List.cons.inj h
    have h1 : x = y := by have := h.1; injection this
    rw [h1, map_int_inj h.2]
  | [], _ :: _, h => nomatch h
  | _ :: _, [], h => nomatch h
theorem noBs_ints (n : List Int) : ∀ xs : List Int, noBs n (xs.map PyData.int) = true
  | [] => rfl
  | _ :: xs => by
    show (true && noBs n (xs.map PyData.int)) = true
    rw [noBs_ints n xs]; rfl
theorem noBs_LL {ys : List Int} : ∀ x : List (List Int), (∀ r ∈ x, r ≠ ys) → noBs ys (x.map (eL eI)) = true
  | [], _ => rfl
  | r :: x, h => by
    show ((!(decide (intsD (r.map PyData.int) = some ys)) && noBs ys (r.map PyData.int)) && noBs ys (x.map (eL eI))) = true
    have nr : ¬ (intsD (r.map PyData.int) = some ys) := fun z => h r (by simp) (by rw [J.ints_map] at z; injection z)
    rw [noBs_ints, noBs_LL x fun r hr => h r (by simp [hr]), decide_eq_false nr]; rfl
theorem apart_LL {j : Nat} {ρ : Rho} {ys : List Int} {x : List (List Int)} (hj : ρ[j]? = some (.ow (ys.map eI))) (h : apLL ys x = true) : apartB [j] ρ (eL (eL eI) x) = true := by
  unfold apartB
  rw [List.all_cons, List.all_nil, Bool.and_true, hj]
  obtain ⟨h1, h2⟩ := Bool.and_eq_true_iff.mp h
  have h2 : ∀ r ∈ x, r ≠ ys := fun r hr => of_decide_eq_true (List.all_eq_true.mp h2 r hr)
  have ei : intsD (ys.map eI) = some ys := J.ints_map ys
  show (match intsD (ys.map eI) with
    | some n => noB n (eL (eL eI) x)
    | none => false) = true
  rw [ei]
  show (!(decide (intsD (x.map (eL eI)) = some ys)) && noBs ys (x.map (eL eI))) = true
  have nr : ¬ (intsD (x.map (eL eI)) = some ys) := fun z => by
    cases x with
    | nil => simp at h1
    | cons r x => cases z
  rw [noBs_LL x h2, decide_eq_false nr]; rfl
theorem s_setLL {o : Ob Ω} {i j : Nat} {f : Rho → Res D} {h : Rho → SRes} {v : σ → Res (List (List Int))} {π : σ → List Int} {ES : σ → Rho} {E1 : σ' → Rho} {ins : σ → List (List Int) → σ'} {k : σ' → Res Ω} (hj : ∀ s, (E s)[j]? = some (.ow ((π s).map eI))) (hS : ∀ s, fzs [j] (E s) = ES s) (hf : VE ES (eL (eL eI)) f v) (hE : ∀ s x, (E s).set i (.sh (eL (eL eI) x)) = E1 (ins s x)) (hk : VB o E1 h k) :
    VB o E (seqR (setWR [j] i f) h) fun s => (v s).bind fun x => if apLL (π s) x = true then k (ins s x) else .bad := fun s => by
  refine seq_ev ?_
  rw [hS s]
  refine ObR.bind (hf s) fun x => ?_
  by_cases c : apLL (π s) x = true
  · rw [if_pos c, if_pos (apart_LL (hj s) c), hE s x]
    exact hk _
  · rw [if_neg c]; trivial
end
end V

namespace LK
open PySem PySem.Spec PyProof.Rows L2 RZ J
open L2H (RoomH HotC FnH PIH)
def g_is_exponent : Rho → SRes :=
  (retR [] (chn (cI 0) (rd 1) (rd 0) leD ltD))
def S_is_exponent : List D → Res D := fun ds => toFn (g_is_exponent (startR 2 ds))
def g_check_exponent : Rho → SRes :=
  (ifR [] (notT (truR (clR 2 (consR (rd 0) (consR (rd 1) nilR)) S_is_exponent)))
    (raiR Xc.notAllowed)
    nxR)
def S_check_exponent : List D → Res D := fun ds => toFn (g_check_exponent (startR 2 ds))
def g_check_polynomial : Rho → SRes :=
  (seqR (ifR [] (orT (tstR (do2 (callR (consR (rd 1) nilR) lenD) (cI 1) ltD)) (tstR (do2 (callR (consR (rd 1) nilR) lenD) (cI 10) gtD)))
    (raiR Xc.notAllowed)
    nxR)
    (forR (itR (rd 1)) (bNm 2)
    (exR [] (clR 2 (consR (rd 0) (consR (rd 2) nilR)) S_check_exponent)) [2]))
def S_check_polynomial : List D → Res D := fun ds => toFn (g_check_polynomial (startR 3 ds))
def g_value_at : Rho → SRes :=
  (seqR (exR [] (clR 2 (consR (rd 0) (consR (rd 1) nilR)) S_check_polynomial))
    (seqR (setR [] 3 (cI 0))
    (seqR (forR (revR (consR (rd 1) nilR)) (bNm 4)
    (setR [] 3 (do2 (do2 (do2 (rd 3) (rd 2) mulD) (rd 4) addD) (rd 0) modD)) [4])
    (retR [] (rd 3)))))
def S_value_at : List D → Res D := fun ds => toFn (g_value_at (startR 5 ds))
def g_check_places : Rho → SRes :=
  (seqR (ifR [] (truR (gexR true (itR (rd 0)) (bNm 1) (orV (do2 (rd 1) (cI 1) ltD) (do2 (rd 1) (cI 10) gtD)) [1]))
    (raiR Xc.notAllowed)
    nxR)
    (ifR [] (tstR (do2 (do1 (rd 0) lenSetD) (callR (consR (rd 0) nilR) lenD) neD))
    (raiR Xc.notAllowed)
    nxR))
def S_check_places : List D → Res D := fun ds => toFn (g_check_places (startR 2 ds))
def g_shares_of : Rho → SRes :=
  (seqR (exR [] (clR 2 (consR (rd 0) (consR (rd 1) nilR)) S_check_polynomial))
    (seqR (exR [] (clR 1 (consR (rd 2) nilR) S_check_places))
    (retR [] (nE (lcR (itR (rd 2)) (bNm 3) noIf (tupR (consR (rd 3) (consR (clR 3 (consR (rd 0) (consR (rd 1) (consR (rd 3) nilR))) S_value_at) nilR))) [3])))))
def S_shares_of : List D → Res D := fun ds => toFn (g_shares_of (startR 4 ds))
def g_check_points : Rho → SRes :=
  (seqR (exR [] (clR 1 (consR (nE (lcR (itR (rd 1)) (bTp 2 (bCons (bNm 2) (bCons (bNm 3) bNil))) noIf (rd 2) [2, 3])) nilR) S_check_places))
    (ifR [] (notT (truR (gexR false (itR (rd 1)) (bTp 2 (bCons (bNm 3) (bCons (bNm 4) bNil))) (clR 2 (consR (rd 0) (consR (rd 4) nilR)) S_is_exponent) [3, 4])))
    (raiR Xc.notAllowed)
    nxR))
def S_check_points : List D → Res D := fun ds => toFn (g_check_points (startR 5 ds))
def g_raised : Rho → SRes :=
  (seqR (setR [] 3 (cI 1))
    (seqR (setR [] 4 (do2 (rd 1) (rd 0) modD))
    (seqR (whR (fun _ => 40) (tstR (do2 (rd 2) (cI 0) gtD))
    (seqR (ifR [] (tstR (do2 (do2 (rd 2) (cI 2) modD) (cI 1) eqD))
    (setR [] 3 (do2 (do2 (rd 3) (rd 4) mulD) (rd 0) modD))
    nxR)
    (seqR (setR [] 4 (do2 (do2 (rd 4) (rd 4) mulD) (rd 0) modD))
    (setR [] 2 (do2 (rd 2) (cI 2) fdivD)))) [] [])
    (retR [] (rd 3)))))
def S_raised : List D → Res D := fun ds => toFn (g_raised (startR 5 ds))
def g_check_system : Rho → SRes :=
  (seqR (ifR [] (orT (tstR (do2 (rd 0) (cI 1) ltD)) (tstR (do2 (rd 0) (cI 40) gtD)))
    (raiR Xc.notAllowed)
    nxR)
    (seqR (ifR [] (tstR (do2 (callR (consR (rd 1) nilR) lenD) (cI 60) gtD))
    (raiR Xc.notAllowed)
    nxR)
    (seqR (ifR [] (truR (gexR true (itR (rd 1)) (bNm 3) (do2 (callR (consR (rd 3) nilR) lenD) (rd 0) neD) [3]))
    (raiR Xc.notAllowed)
    nxR)
    (ifR [] (tstR (do2 (callR (consR (rd 2) nilR) lenD) (callR (consR (rd 1) nilR) lenD) neD))
    (raiR Xc.notAllowed)
    nxR))))
def S_check_system : List D → Res D := fun ds => toFn (g_check_system (startR 4 ds))
def g_first_row_with : Rho → SRes :=
  (seqR (forR (rng2R (consR (rd 1) (consR (callR (consR (rd 0) nilR) lenD) nilR))) (bNm 3)
    (ifR [] (tstR (do2 (do2 (do2 (rd 0) (rd 3) ixD) (rd 2) ixD) (cI 0) neD))
    (retR [] (rd 3))
    nxR) [3])
    (retR [] cN))
def S_first_row_with : List D → Res D := fun ds => toFn (g_first_row_with (startR 4 ds))
def g_swapped : Rho → SRes :=
  (seqR (ownR [] 3 (nliR (consR (rd 0) nilR)))
    (seqR (siR [] 3 (rd 1) (do2 (rd 0) (rd 2) ixD))
    (seqR (siR [] 3 (rd 2) (do2 (rd 0) (rd 1) ixD))
    (retO 3))))
def S_swapped : List D → Res D := fun ds => toFn (g_swapped (startR 4 ds))
def g_quotient : Rho → SRes :=
  (seqR (ifR [] (tstR (do2 (do2 (rd 2) (rd 0) modD) (cI 0) eqD))
    (raiR Xc.notAllowed)
    nxR)
    (retR [] (do2 (do2 (rd 1) (clR 3 (consR (rd 0) (consR (rd 2) (consR (do2 (rd 0) (cI 2) subD) nilR))) S_raised) mulD) (rd 0) modD)))
def S_quotient : List D → Res D := fun ds => toFn (g_quotient (startR 3 ds))
def g_less_multiple : Rho → SRes :=
  (retR [] (nE (lcR (zipR (consR (rd 1) (consR (rd 3) nilR))) (bTp 2 (bCons (bNm 4) (bCons (bNm 5) bNil))) noIf (do2 (do2 (rd 4) (do2 (rd 2) (rd 5) mulD) subD) (rd 0) modD) [4, 5])))
def S_less_multiple : List D → Res D := fun ds => toFn (g_less_multiple (startR 6 ds))
def g_cleared : Rho → SRes :=
  (seqR (setR [] 4 (clR 3 (consR (rd 0) (consR (cI 1) (consR (do2 (do2 (rd 1) (rd 2) ixD) (rd 3) ixD) nilR))) S_quotient))
    (seqR (setR [] 5 (nE (lcR (itR (do2 (rd 1) (rd 2) ixD)) (bNm 6) noIf (do2 (do2 (rd 4) (rd 6) mulD) (rd 0) modD) [6])))
    (retR [] (nE (lcR (enumR (consR (rd 1) nilR)) (bTp 2 (bCons (bNm 7) (bCons (bNm 8) bNil))) noIf (ifE (tstR (do2 (rd 7) (rd 2) eqD)) (rd 5) (clR 4 (consR (rd 0) (consR (rd 8) (consR (do2 (rd 8) (rd 3) ixD) (consR (rd 5) nilR)))) S_less_multiple)) [7, 8])))))
def S_cleared : List D → Res D := fun ds => toFn (g_cleared (startR 9 ds))
def g_reduced : Rho → SRes :=
  (seqR (setR [] 3 (nE (lcR (itR (rd 1)) (bNm 7) noIf (nE (lcR (itR (rd 7)) (bNm 8) noIf (do2 (rd 8) (rd 0) modD) [8])) [7])))
    (seqR (ownR [] 4 (nlR nilR))
    (seqR (forR (rng1R (consR (rd 2) nilR)) (bNm 5)
    (seqR (setR [4] 6 (clR 3 (consR (rd 3) (consR (callR (consR (rd 4) nilR) lenD) (consR (rd 5) nilR))) S_first_row_with))
    (ifR [] (tstR (do2 (rd 6) cN isntD))
    (seqR (setWR [4] 3 (clR 4 (consR (rd 0) (consR (clR 3 (consR (rd 3) (consR (rd 6) (consR (callR (consR (rd 4) nilR) lenD) nilR))) S_swapped) (consR (callR (consR (rd 4) nilR) lenD) (consR (rd 5) nilR)))) S_cleared))
    (appR [] 4 (rd 5)))
    nxR)) [5, 6])
    (fzR [4] (retR [] (tupR (consR (rd 3) (consR (rd 4) nilR))))))))
def S_reduced : List D → Res D := fun ds => toFn (g_reduced (startR 9 ds))
def g_step_of : Rho → SRes :=
  (seqR (ownR [] 5 (repR (nlR (consR (cI 0) nilR)) (rd 1)))
    (seqR (siR [] 5 (rd 4) (cI 1))
    (seqR (forR (zipR (consR (rd 3) (consR (rd 2) nilR))) (bTp 2 (bCons (bNm 6) (bCons (bNm 7) bNil)))
    (siR [] 5 (rd 6) (do2 (do1 (do2 (rd 7) (rd 4) ixD) negD) (rd 0) modD)) [6, 7])
    (retO 5))))
def S_step_of : List D → Res D := fun ds => toFn (g_step_of (startR 8 ds))
def g_solutions : Rho → SRes :=
  (seqR (exR [] (clR 3 (consR (rd 1) (consR (rd 2) (consR (rd 3) nilR))) S_check_system))
    (seqR (setR [] 4 (nE (lcR (zipR (consR (rd 2) (consR (rd 3) nilR))) (bTp 2 (bCons (bNm 9) (bCons (bNm 11) bNil))) noIf (nE (nlR (starR (rd 9) (consR (rd 11) nilR)))) [9, 11])))
    (seqR (asgR (bTp 2 (bCons (bNm 5) (bCons (bNm 6) bNil))) (clR 3 (consR (rd 0) (consR (rd 4) (consR (rd 1) nilR))) S_reduced))
    (seqR (ifR [] (truR (gexR true (itR (cutR (rd 5) (oSome (callR (consR (rd 6) nilR) lenD)) oNone)) (bNm 9) (do2 (do2 (rd 9) (rd 1) ixD) (cI 0) neD) [9]))
    (raiR Xc.missing)
    nxR)
    (seqR (ownR [] 7 (repR (nlR (consR (cI 0) nilR)) (rd 1)))
    (seqR (forR (zipR (consR (rd 6) (consR (rd 5) nilR))) (bTp 2 (bCons (bNm 8) (bCons (bNm 9) bNil)))
    (siR [] 7 (rd 8) (do2 (rd 9) (rd 1) ixD)) [8, 9])
    (seqR (setR [] 10 (nE (lcR (rng1R (consR (rd 1) nilR)) (bNm 12) (tstR (do2 (rd 12) (rd 6) notInD)) (clR 5 (consR (rd 0) (consR (rd 1) (consR (rd 5) (consR (rd 6) (consR (rd 12) nilR))))) S_step_of) [12])))
    (fzR [7] (retR [] (tupR (consR (rd 7) (consR (rd 10) nilR))))))))))))
def S_solutions : List D → Res D := fun ds => toFn (g_solutions (startR 13 ds))
def g_leading_through : Rho → SRes :=
  (seqR (setR [] 2 (nE (lcR (itR (rd 1)) (bTp 2 (bCons (bNm 5) (bCons (bNm 4) bNil))) noIf (nE (lcR (rng1R (consR (callR (consR (rd 1) nilR) lenD) nilR)) (bNm 6) noIf (clR 3 (consR (rd 0) (consR (rd 5) (consR (rd 6) nilR))) S_raised) [6])) [5, 4])))
    (seqR (asgR (bTp 2 (bCons (bNm 3) (bCons (bNm 4) bNil))) (clR 4 (consR (rd 0) (consR (callR (consR (rd 1) nilR) lenD) (consR (rd 2) (consR (nE (lcR (itR (rd 1)) (bTp 2 (bCons (bNm 4) (bCons (bNm 7) bNil))) noIf (rd 7) [4, 7])) nilR)))) S_solutions))
    (retR [] (rd 3))))
def S_leading_through : List D → Res D := fun ds => toFn (g_leading_through (startR 8 ds))
def g_polynomial_of : Rho → SRes :=
  (seqR (ifR [] (orT (tstR (do2 (callR (consR (rd 1) nilR) lenD) (cI 1) ltD)) (tstR (do2 (callR (consR (rd 1) nilR) lenD) (cI 10) gtD)))
    (raiR Xc.notAllowed)
    nxR)
    (seqR (exR [] (clR 2 (consR (rd 0) (consR (rd 1) nilR)) S_check_points))
    (retR [] (clR 2 (consR (rd 0) (consR (rd 1) nilR)) S_leading_through))))
def S_polynomial_of : List D → Res D := fun ds => toFn (g_polynomial_of (startR 2 ds))
def g_secret_of : Rho → SRes :=
  (retR [] (do2 (clR 2 (consR (rd 0) (consR (rd 1) nilR)) S_polynomial_of) (cI 0) ixD))
def S_secret_of : List D → Res D := fun ds => toFn (g_secret_of (startR 2 ds))
def g__law_numbers : Rho → SRes :=
  (seqR (ownR [] 2 (nlR nilR))
    (seqR (forR (rng1R (consR (callR (consR (rd 0) nilR) lenD) nilR)) (bNm 3)
    (seqR (setR [] 6 (callR (consR (callR (consR (do2 (rd 0) (rd 3) ixD) nilR) intD) nilR) absD))
    (ifR [] (tstR (do2 (rd 6) (do2 (cI 10) (cI 18) powD) geD))
    (forR (rng1R (consR (cI 60) nilR)) (bNm 7)
    (ifR [2] (andT (tstR (do2 (rd 6) (cI 0) gtD)) (tstR (do2 (callR (consR (rd 2) nilR) lenD) (rd 1) ltD)))
    (seqR (appR [] 2 (do2 (rd 6) (cI 10007) modD))
    (setR [] 6 (do2 (rd 6) (cI 10007) fdivD)))
    nxR) [7])
    (ifR [2] (tstR (do2 (callR (consR (rd 2) nilR) lenD) (rd 1) ltD))
    (seqR (setR [] 8 (do2 (callR (consR (do2 (do2 (do2 (rd 6) (cI 48271) mulD) (do2 (rd 3) (cI 69621) mulD) addD) (cI 11) addD) nilR) intD) (cI 2147483647) modD))
    (appR [] 2 (do2 (do2 (callR (consR (do2 (do2 (do2 (rd 8) (cI 16807) mulD) (do2 (cI 7) (rd 3) mulD) addD) (cI 3) addD) nilR) intD) (cI 2147483647) modD) (cI 3) fdivD)))
    nxR))) [3, 6, 7, 8])
    (seqR (setR [2] 4 (callR (consR (rd 2) nilR) lenD))
    (seqR (setR [] 5 (do2 (cI 5381) (callR (consR (rd 0) nilR) lenD) addD))
    (seqR (forR (rng1R (consR (callR (consR (cI 0) (consR (do2 (rd 1) (rd 4) subD) nilR)) maxD) nilR)) (bNm 3)
    (seqR (ifR [] (tstR (do2 (rd 4) (cI 0) gtD))
    (setR [2] 5 (do2 (rd 5) (do2 (rd 2) (do2 (rd 3) (rd 4) modD) ixD) addD))
    nxR)
    (seqR (setR [] 5 (do2 (callR (consR (do2 (do2 (rd 5) (cI 48271) mulD) (rd 3) addD) nilR) intD) (cI 2147483647) modD))
    (appR [] 2 (do2 (rd 5) (cI 7) fdivD)))) [3])
    (fzR [2] (retR [] (cutR (rd 2) oNone (oSome (rd 1))))))))))
def S__law_numbers : List D → Res D := fun ds => toFn (g__law_numbers (startR 9 ds))
def g__law_is_prime : Rho → SRes :=
  (seqR (forR (rng2R (consR (cI 2) (consR (cI 46) nilR))) (bNm 1)
    (ifR [] (andT (tstR (do2 (rd 1) (rd 0) ltD)) (tstR (do2 (do2 (rd 0) (rd 1) modD) (cI 0) eqD)))
    (retR [] (cB false))
    nxR) [1])
    (retR [] (do2 (rd 0) (cI 1) gtD)))
def S__law_is_prime : List D → Res D := fun ds => toFn (g__law_is_prime (startR 2 ds))
def g__law_order : Rho → SRes :=
  (seqR (forR (rng2R (consR (do2 (cI 11) (do2 (rd 0) (cI 1003) modD) addD) (consR (cI 1014) nilR))) (bNm 1)
    (ifR [] (andT (truR (clR 1 (consR (rd 1) nilR) S__law_is_prime)) (truR (clR 1 (consR (do2 (do2 (cI 2) (rd 1) mulD) (cI 1) addD) nilR) S__law_is_prime)))
    (retR [] (rd 1))
    nxR) [1])
    (retR [] (cI 11)))
def S__law_order : List D → Res D := fun ds => toFn (g__law_order (startR 2 ds))
def g__law_value : Rho → SRes :=
  (seqR (setR [] 3 (cI 0))
    (seqR (setR [] 4 (cI 1))
    (seqR (forR (itR (rd 1)) (bNm 5)
    (seqR (setR [] 3 (do2 (rd 3) (do2 (rd 5) (rd 4) mulD) addD))
    (setR [] 4 (do2 (callR (consR (do2 (rd 4) (rd 2) mulD) nilR) intD) (rd 0) modD))) [5])
    (retR [] (do2 (callR (consR (rd 3) nilR) intD) (rd 0) modD)))))
def S__law_value : List D → Res D := fun ds => toFn (g__law_value (startR 6 ds))
def g__law_places : Rho → SRes :=
  (seqR (ownR [] 2 (nlR (consR (cI 1) (consR (cI 2) (consR (cI 3) (consR (cI 4) (consR (cI 5) (consR (cI 6) (consR (cI 7) (consR (cI 8) (consR (cI 9) (consR (cI 10) nilR))))))))))))
    (seqR (ownR [] 3 (nlR nilR))
    (seqR (forR (rng1R (consR (rd 1) nilR)) (bNm 4)
    (popAppR [2] 3 2 (do2 (do2 (rd 0) (rd 4) ixD) (callR (consR (rd 2) nilR) lenD) modD)) [4])
    (retO 3))))
def S__law_places : List D → Res D := fun ds => toFn (g__law_places (startR 5 ds))
def g__law_word : Rho → SRes :=
  (seqR (tryR [Xc.cloakError, Xc.notAllowed, Xc.missing] Xc.cloakError 4
    (ifR [] (tstR (do2 (rd 0) (cI 0) eqD))
    (exR [] (clR 3 (consR (rd 1) (consR (rd 2) (consR (cI 3) nilR))) S_value_at))
    (ifR [] (tstR (do2 (rd 0) (cI 1) eqD))
    (exR [] (clR 3 (consR (rd 1) (consR (rd 2) (consR (rd 3) nilR))) S_shares_of))
    (ifR [] (tstR (do2 (rd 0) (cI 2) eqD))
    (exR [] (clR 2 (consR (rd 1) (consR (rd 2) nilR)) S_polynomial_of))
    (exR [] (clR 2 (consR (rd 1) (consR (rd 2) nilR)) S_secret_of)))))
    (retR [] (isxR [Xc.cloakError, Xc.notAllowed, Xc.missing] 4 (fun c => isSub c Xc.notAllowed))))
    (retR [] (cB false)))
def S__law_word : List D → Res D := fun ds => toFn (g__law_word (startR 5 ds))
def g__law_doors : Rho → SRes :=
  (seqR (setR [] 3 (nE (nlR (consR (tupR (consR (cI 0) (consR (nE (nlR nilR)) (consR (nE (nlR nilR)) nilR)))) (consR (tupR (consR (cI 0) (consR (nE (repR (nlR (consR (cI 0) nilR)) (cI 11))) (consR (nE (nlR nilR)) nilR)))) (consR (tupR (consR (cI 0) (consR (nE (nlR (consR (rd 0) nilR))) (consR (nE (nlR nilR)) nilR)))) (consR (tupR (consR (cI 0) (consR (do2 (rd 1) (nE (nlR (consR (do1 (cI 1) negD) nilR))) addD) (consR (nE (nlR nilR)) nilR)))) (consR (tupR (consR (cI 1) (consR (nE (nlR nilR)) (consR (nE (nlR (consR (cI 1) nilR))) nilR)))) (consR (tupR (consR (cI 1) (consR (rd 1) (consR (nE (nlR (consR (cI 0) nilR))) nilR)))) nilR)))))))))
    (seqR (setR [] 3 (do2 (rd 3) (nE (nlR (consR (tupR (consR (cI 1) (consR (rd 1) (consR (nE (nlR (consR (cI 1) (consR (cI 11) nilR)))) nilR)))) (consR (tupR (consR (cI 1) (consR (rd 1) (consR (nE (nlR (consR (cI 2) (consR (cI 3) (consR (cI 2) nilR))))) nilR)))) (consR (tupR (consR (cI 1) (consR (rd 1) (consR (nE (nlR (consR (do1 (cI 1) negD) nilR))) nilR)))) nilR))))) addD))
    (seqR (forR (itR (nE (nlR (consR (nE (nlR nilR)) (consR (do2 (rd 2) (cutR (rd 2) oNone (oSome (cI 1))) addD) (consR (nE (nlR (consR (tupR (consR (cI 0) (consR (cI 1) nilR))) nilR))) (consR (nE (nlR (consR (tupR (consR (cI 11) (consR (cI 1) nilR))) nilR))) (consR (nE (nlR (consR (tupR (consR (cI 1) (consR (rd 0) nilR))) nilR))) (consR (nE (nlR (consR (tupR (consR (cI 1) (consR (do1 (cI 1) negD) nilR))) nilR))) (consR (nE (nlR (consR (tupR (consR (cI 5) (consR (cI 1) nilR))) (consR (tupR (consR (cI 5) (consR (cI 1) nilR))) nilR)))) nilR)))))))))) (bNm 4)
    (setR [] 3 (do2 (rd 3) (nE (nlR (consR (tupR (consR (cI 2) (consR (rd 4) (consR (nE (nlR nilR)) nilR)))) (consR (tupR (consR (cI 3) (consR (rd 4) (consR (nE (nlR nilR)) nilR)))) nilR)))) addD)) [4])
    (seqR (forR (itR (rd 3)) (bNm 5)
    (ifR [] (notT (truR (clR 4 (consR (do2 (rd 5) (cI 0) ixD) (consR (rd 0) (consR (do2 (rd 5) (cI 1) ixD) (consR (do2 (rd 5) (cI 2) ixD) nilR)))) S__law_word)))
    (retR [] (cB false))
    nxR) [5])
    (retR [] (andV (do2 (clR 3 (consR (rd 0) (consR (rd 1) (consR (nE (nlR nilR)) nilR))) S_shares_of) (nE (nlR nilR)) eqD) (do2 (cI 10) (cI 10) eqD)))))))
def S__law_doors : List D → Res D := fun ds => toFn (g__law_doors (startR 6 ds))
def g_law : Rho → SRes :=
  (seqR (setR [] 1 (clR 2 (consR (rd 0) (consR (cI 60) nilR)) S__law_numbers))
    (seqR (setR [] 2 (clR 1 (consR (do2 (rd 1) (cI 0) ixD) nilR) S__law_order))
    (seqR (setR [] 3 (nE (lcR (rng1R (consR (do2 (cI 1) (do2 (do2 (rd 1) (cI 11) ixD) (cI 10) modD) addD) nilR)) (bNm 13) noIf (do2 (do2 (rd 1) (do2 (cI 1) (rd 13) addD) ixD) (rd 2) modD) [13])))
    (seqR (setR [] 4 (clR 2 (consR (cutR (rd 1) (oSome (cI 12)) oNone) (consR (callR (consR (rd 3) nilR) lenD) nilR)) S__law_places))
    (seqR (setR [] 5 (nE (nliR (consR (rd 3) nilR))))
    (seqR (setR [] 6 (nE (lcR (itR (rd 4)) (bNm 8) noIf (tupR (consR (rd 8) (consR (clR 3 (consR (rd 2) (consR (rd 3) (consR (rd 8) nilR))) S__law_value) nilR))) [8])))
    (seqR (setR [] 7 (clR 3 (consR (rd 2) (consR (rd 3) (consR (nE (nliR (consR (rd 4) nilR))) nilR))) S_shares_of))
    (seqR (ifR [] (orT (notT (truR (do1 (rd 7) (isiD "list")))) (orT (tstR (do2 (rd 7) (rd 6) neD)) (tstR (do2 (rd 3) (rd 5) neD))))
    (retR [] (cB false))
    nxR)
    (seqR (forR (itR (nE (nlR (consR (cI 0) (consR (do2 (rd 1) (cI 23) ixD) (consR (do2 (cI 0) (do2 (rd 1) (cI 24) ixD) subD) (consR (rd 2) (consR (cI 5) nilR)))))))) (bNm 8)
    (ifR [] (tstR (do2 (clR 3 (consR (rd 2) (consR (rd 3) (consR (rd 8) nilR))) S_value_at) (clR 3 (consR (rd 2) (consR (rd 3) (consR (rd 8) nilR))) S__law_value) neD))
    (retR [] (cB false))
    nxR) [8])
    (seqR (ifR [] (orT (tstR (do2 (clR 2 (consR (rd 2) (consR (rd 7) nilR)) S_polynomial_of) (rd 3) neD)) (orT (tstR (do2 (clR 2 (consR (rd 2) (consR (rd 7) nilR)) S_secret_of) (do2 (rd 3) (cI 0) ixD) neD)) (tstR (do2 (rd 7) (rd 6) neD))))
    (retR [] (cB false))
    nxR)
    (seqR (setR [] 9 (nE (lcR (itR (clR 2 (consR (cutR (rd 1) (oSome (cI 25)) oNone) (consR (do2 (callR (consR (rd 3) nilR) lenD) (do2 (do2 (cI 10) (callR (consR (rd 3) nilR) lenD) subD) (cI 2) fdivD) addD) nilR)) S__law_places)) (bNm 8) noIf (tupR (consR (rd 8) (consR (clR 3 (consR (rd 2) (consR (rd 3) (consR (rd 8) nilR))) S__law_value) nilR))) [8])))
    (seqR (ifR [] (tstR (do2 (clR 2 (consR (rd 2) (consR (rd 9) nilR)) S_polynomial_of) (do2 (rd 3) (nE (repR (nlR (consR (cI 0) nilR)) (do2 (callR (consR (rd 9) nilR) lenD) (callR (consR (rd 3) nilR) lenD) subD))) addD) neD))
    (retR [] (cB false))
    nxR)
    (seqR (setR [] 10 (nE (lcR (itR (rd 4)) (bNm 8) noIf (tupR (consR (rd 8) (consR (do2 (do2 (rd 1) (do2 (cI 36) (rd 8) addD) ixD) (rd 2) modD) nilR))) [8])))
    (seqR (setR [] 11 (clR 2 (consR (rd 2) (consR (rd 10) nilR)) S_polynomial_of))
    (seqR (ifR [] (orT (tstR (do2 (callR (consR (rd 11) nilR) lenD) (callR (consR (rd 10) nilR) lenD) neD)) (tstR (do2 (clR 2 (consR (rd 2) (consR (rd 10) nilR)) S_secret_of) (do2 (rd 11) (cI 0) ixD) neD)))
    (retR [] (cB false))
    nxR)
    (seqR (forR (itR (rd 10)) (bTp 2 (bCons (bNm 8) (bCons (bNm 12) bNil)))
    (ifR [] (tstR (do2 (clR 3 (consR (rd 2) (consR (rd 11) (consR (rd 8) nilR))) S__law_value) (rd 12) neD))
    (retR [] (cB false))
    nxR) [8, 12])
    (retR [] (clR 3 (consR (rd 2) (consR (rd 3) (consR (rd 6) nilR))) S__law_doors))))))))))))))))))
def S_law : List D → Res D := fun ds => toFn (g_law (startR 14 ds))
end LK
set_option linter.all false
set_option maxRecDepth 100000
set_option maxHeartbeats 8000000
namespace LK
open PySem PySem.Spec PyProof.Rows L2 RZ J V
def tv_is_exponent : { t : (Int × Int) → Res Bool // VB (obF eB) (fun s : (Int × Int) => ([.sh (eI s.1), .sh (eI s.2)] : Rho)) g_is_exponent t } := ⟨_,
 (s_ret out_F (fun _ => rfl) (VP.e (v_chn o_le o_lt (v_int (i := 0)) (v_var (enc := eI) (i := 1) (v := (fun s : (Int × Int) => s.2)) (fun _ => rfl)) (v_var (enc := eI) (i := 0) (v := (fun s : (Int × Int) => s.1)) (fun _ => rfl)))))⟩
def T_is_exponent (x : (Int × Int)) : Res Bool := tv_is_exponent.1 x
theorem v_is_exponent (x : (Int × Int)) : Le eB (T_is_exponent x) (S_is_exponent [eI (x.1), eI (x.2)]) := fn_of (g := g_is_exponent) (tv_is_exponent.2 x)
def tv_check_exponent : { t : (Int × Int) → Res Unit // VB (obF eN) (fun s : (Int × Int) => ([.sh (eI s.1), .sh (eI s.2)] : Rho)) g_check_exponent t } := ⟨_,
 (s_if (fun _ => rfl) (v_notE (v_truE tru_B (v_call (T := T_is_exponent) v_is_exponent (fun _ => rfl) (va_cons (v_var (enc := eI) (i := 0) (v := (fun s : (Int × Int) => s.1)) (fun _ => rfl)) (va_one (v_var (enc := eI) (i := 1) (v := (fun s : (Int × Int) => s.2)) (fun _ => rfl)))))))
 s_rai
 (s_endG (w := ()) (fun _ => rfl)))⟩
def T_check_exponent (x : (Int × Int)) : Res Unit := tv_check_exponent.1 x
theorem v_check_exponent (x : (Int × Int)) : Le eN (T_check_exponent x) (S_check_exponent [eI (x.1), eI (x.2)]) := fn_of (g := g_check_exponent) (tv_check_exponent.2 x)
def tv_check_polynomial : { t : (Int × (List Int)) → Res Unit // VB (obF eN) (fun s : (Int × (List Int)) => ([.sh (eI s.1), .sh ((eL eI) s.2), .un] : Rho)) g_check_polynomial t } := ⟨_,
 (s_guardP nf_rai (fun _ => rfl) (v_or (v_tst (v_do2t o_lt (v_bi (enc := eI) (T := fun x : List _ => (x.length : Int)) b_lenL (va_one (v_var (enc := (eL eI)) (i := 1) (v := (fun s : (Int × (List Int)) => s.2)) (fun _ => rfl)))) (v_int (i := 1)))) (v_tst (v_do2t o_gt (v_bi (enc := eI) (T := fun x : List _ => (x.length : Int)) b_lenL (va_one (v_var (enc := (eL eI)) (i := 1) (v := (fun s : (Int × (List Int)) => s.2)) (fun _ => rfl)))) (v_int (i := 10)))))
 s_rai
 (VB.last (s_for (EL := (fun (s : (Int × (List Int))) (u : Unit) => ([.sh (eI s.1), .sh ((eL eI) s.2), .un] : Rho))) (EB := (fun (s1 : (Int × (List Int))) (s : (Int × Unit)) => ([.sh (eI s1.1), .sh ((eL eI) s1.2), .sh (eI s.1)] : Rho))) (s0 := (fun s : (Int × (List Int)) => ())) (E1 := (fun s : ((Int × (List Int)) × Unit) => ([.sh (eI s.1.1), .sh ((eL eI) s.1.2), .un] : Rho))) (π := Prod.mk) (VIP.e (w_list (v_var (enc := (eL eI)) (i := 1) (v := (fun s : (Int × (List Int)) => s.2)) (fun _ => rfl)))) (fun _ => rfl) (fun _ _ _ => rfl) (fun s1 =>
 (VB.last (s_ex (fun _ => rfl) (v_call (T := T_check_exponent) v_check_exponent (fun _ => rfl) (va_cons (v_var (enc := eI) (i := 0) (v := (fun s : (Int × Unit) => s1.1)) (fun _ => rfl)) (va_one (v_var (enc := eI) (i := 2) (v := (fun s : (Int × Unit) => s.1)) (fun _ => rfl)))))
 (s_endL (π := (fun s : (Int × Unit) => ())) (fun _ => rfl))))) (fun _ _ => rfl)
 (s_endG (w := ()) (fun _ => rfl)))))⟩
def T_check_polynomial (x : (Int × (List Int))) : Res Unit := tv_check_polynomial.1 x
theorem v_check_polynomial (x : (Int × (List Int))) : Le eN (T_check_polynomial x) (S_check_polynomial [eI (x.1), (eL eI) (x.2)]) := fn_of (g := g_check_polynomial) (tv_check_polynomial.2 x)
def tv_value_at : { t : (Int × (List Int) × Int) → Res Int // VB (obF eI) (fun s : (Int × (List Int) × Int) => ([.sh (eI s.1), .sh ((eL eI) s.2.1), .sh (eI s.2.2), .un, .un] : Rho)) g_value_at t } := ⟨_,
 (s_ex (fun _ => rfl) (v_call (T := T_check_polynomial) v_check_polynomial (fun _ => rfl) (va_cons (v_var (enc := eI) (i := 0) (v := (fun s : (Int × (List Int) × Int) => s.1)) (fun _ => rfl)) (va_one (v_var (enc := (eL eI)) (i := 1) (v := (fun s : (Int × (List Int) × Int) => s.2.1)) (fun _ => rfl)))))
 (s_setP (E1 := (fun s : ((Int × (List Int) × Int) × Int) => ([.sh (eI s.1.1), .sh ((eL eI) s.1.2.1), .sh (eI s.1.2.2), .sh (eI s.2), .un] : Rho))) (ins := Prod.mk) (fun _ => rfl) (.inl rfl) (v_int (i := 0)) (fun _ _ => rfl)
 (s_for (EL := (fun (s : ((Int × (List Int) × Int) × Int)) (u : Int) => ([.sh (eI s.1.1), .sh ((eL eI) s.1.2.1), .sh (eI s.1.2.2), .sh (eI u), .un] : Rho))) (EB := (fun (s2 : ((Int × (List Int) × Int) × Int)) (s : (Int × Int)) => ([.sh (eI s2.1.1), .sh ((eL eI) s2.1.2.1), .sh (eI s2.1.2.2), .sh (eI s.2), .sh (eI s.1)] : Rho))) (s0 := (fun s : ((Int × (List Int) × Int) × Int) => s.2)) (E1 := (fun s : (((Int × (List Int) × Int) × Int) × Int) => ([.sh (eI s.1.1.1), .sh ((eL eI) s.1.1.2.1), .sh (eI s.1.1.2.2), .sh (eI s.2), .un] : Rho))) (π := Prod.mk) (VIP.e (w_rev (v_var (enc := (eL eI)) (i := 1) (v := (fun s : ((Int × (List Int) × Int) × Int) => s.1.2.1)) (fun _ => rfl)))) (fun _ => rfl) (fun _ _ _ => rfl) (fun s2 =>
 (VB.last (s_set (E1 := (fun s : ((Int × Int) × Int) => ([.sh (eI s2.1.1), .sh ((eL eI) s2.1.2.1), .sh (eI s2.1.2.2), .sh (eI s.2), .sh (eI s.1.1)] : Rho))) (ins := Prod.mk) (fun _ => rfl) (.inl rfl) (v_do2 o_mod (v_do2e o_add (v_do2p o_mul (v_var (enc := eI) (i := 3) (v := (fun s : (Int × Int) => s.2)) (fun _ => rfl)) (v_var (enc := eI) (i := 2) (v := (fun s : (Int × Int) => s2.1.2.2)) (fun _ => rfl))) (VP.e (v_var (enc := eI) (i := 4) (v := (fun s : (Int × Int) => s.1)) (fun _ => rfl)))) (VP.e (v_var (enc := eI) (i := 0) (v := (fun s : (Int × Int) => s2.1.1)) (fun _ => rfl)))) (fun _ _ => rfl)
 (s_endL (π := (fun s : ((Int × Int) × Int) => s.2)) (fun _ => rfl))))) (fun _ _ => rfl)
 (s_ret out_F (fun _ => rfl) (VP.e (v_var (enc := eI) (i := 3) (v := (fun s : (((Int × (List Int) × Int) × Int) × Int) => s.2)) (fun _ => rfl)))))))⟩
def T_value_at (x : (Int × (List Int) × Int)) : Res Int := tv_value_at.1 x
theorem v_value_at (x : (Int × (List Int) × Int)) : Le eI (T_value_at x) (S_value_at [eI (x.1), (eL eI) (x.2.1), eI (x.2.2)]) := fn_of (g := g_value_at) (tv_value_at.2 x)
def tv_check_places : { t : (List Int) → Res Unit // VB (obF eN) (fun s : (List Int) => ([.sh ((eL eI) s), .un] : Rho)) g_check_places t } := ⟨_,
 (s_guard nf_rai (fun _ => rfl) (v_truE tru_B (v_gex (E2 := (fun s : ((List Int) × Int) => ([.sh ((eL eI) s.1), .sh (eI s.2)] : Rho))) (VIP.e (w_list (v_var (enc := (eL eI)) (i := 0) (v := (fun s : (List Int) => s)) (fun _ => rfl)))) (fun _ _ => rfl) (VP.e (v_orV (v_do2t o_lt (v_var (enc := eI) (i := 1) (v := (fun s : ((List Int) × Int) => s.2)) (fun _ => rfl)) (v_int (i := 1))) (v_do2t o_gt (v_var (enc := eI) (i := 1) (v := (fun s : ((List Int) × Int) => s.2)) (fun _ => rfl)) (v_int (i := 10)))))))
 s_rai
 (s_if (fun _ => rfl) (v_tstE (v_do2e (o_ne ceq_I (by decide)) (v_lenSet (VP.e (v_var (enc := (eL eI)) (i := 0) (v := (fun s : (List Int) => s)) (fun _ => rfl)))) (VP.e (v_bi (enc := eI) (T := fun x : List _ => (x.length : Int)) b_lenL (va_one (v_var (enc := (eL eI)) (i := 0) (v := (fun s : (List Int) => s)) (fun _ => rfl)))))))
 s_rai
 (s_endG (w := ()) (fun _ => rfl))))⟩
def T_check_places (x : (List Int)) : Res Unit := tv_check_places.1 x
theorem v_check_places (x : (List Int)) : Le eN (T_check_places x) (S_check_places [(eL eI) (x)]) := fn_of (g := g_check_places) (tv_check_places.2 x)
def tv_shares_of : { t : (Int × (List Int) × (List Int)) → Res (List (Int × Int)) // VB (obF (eL (eT2 eI eI))) (fun s : (Int × (List Int) × (List Int)) => ([.sh (eI s.1), .sh ((eL eI) s.2.1), .sh ((eL eI) s.2.2), .un] : Rho)) g_shares_of t } := ⟨_,
 (s_ex (fun _ => rfl) (v_call (T := T_check_polynomial) v_check_polynomial (fun _ => rfl) (va_cons (v_var (enc := eI) (i := 0) (v := (fun s : (Int × (List Int) × (List Int)) => s.1)) (fun _ => rfl)) (va_one (v_var (enc := (eL eI)) (i := 1) (v := (fun s : (Int × (List Int) × (List Int)) => s.2.1)) (fun _ => rfl)))))
 (s_ex (fun _ => rfl) (v_call (T := T_check_places) v_check_places (fun _ => rfl) (va_one (v_var (enc := (eL eI)) (i := 2) (v := (fun s : (Int × (List Int) × (List Int)) => s.2.2)) (fun _ => rfl))))
 (s_ret out_F (fun _ => rfl) (v_nE (v_lc (E2 := (fun s : ((Int × (List Int) × (List Int)) × Int) => ([.sh (eI s.1.1), .sh ((eL eI) s.1.2.1), .sh ((eL eI) s.1.2.2), .sh (eI s.2)] : Rho))) (VIP.e (w_list (v_var (enc := (eL eI)) (i := 2) (v := (fun s : (Int × (List Int) × (List Int)) => s.2.2)) (fun _ => rfl)))) (fun _ _ => rfl) vq_noIf (v_tupE (va_consE (VP.e (v_var (enc := eI) (i := 3) (v := (fun s : ((Int × (List Int) × (List Int)) × Int) => s.2)) (fun _ => rfl))) (va_oneE (v_call (T := T_value_at) v_value_at (fun _ => rfl) (va_cons (v_var (enc := eI) (i := 0) (v := (fun s : ((Int × (List Int) × (List Int)) × Int) => s.1.1)) (fun _ => rfl)) (va_cons (v_var (enc := (eL eI)) (i := 1) (v := (fun s : ((Int × (List Int) × (List Int)) × Int) => s.1.2.1)) (fun _ => rfl)) (va_one (v_var (enc := eI) (i := 3) (v := (fun s : ((Int × (List Int) × (List Int)) × Int) => s.2)) (fun _ => rfl)))))))) (fun _ => Nat.le_of_ble_eq_true rfl)))))))⟩
def T_shares_of (x : (Int × (List Int) × (List Int))) : Res (List (Int × Int)) := tv_shares_of.1 x
theorem v_shares_of (x : (Int × (List Int) × (List Int))) : Le (eL (eT2 eI eI)) (T_shares_of x) (S_shares_of [eI (x.1), (eL eI) (x.2.1), (eL eI) (x.2.2)]) := fn_of (g := g_shares_of) (tv_shares_of.2 x)
def tv_check_points : { t : (Int × (List (Int × Int))) → Res Unit // VB (obF eN) (fun s : (Int × (List (Int × Int))) => ([.sh (eI s.1), .sh ((eL (eT2 eI eI)) s.2), .un, .un, .un] : Rho)) g_check_points t } := ⟨_,
 (s_ex (fun _ => rfl) (v_callE (T := T_check_places) v_check_places (fun _ => rfl) (va_oneE (v_nE (v_lc (E2 := (fun s : ((Int × (List (Int × Int))) × (Int × Int)) => ([.sh (eI s.1.1), .sh ((eL (eT2 eI eI)) s.1.2), .sh (eI s.2.1), .sh (eI s.2.2), .un] : Rho))) (VIP.e (w_list (v_var (enc := (eL (eT2 eI eI))) (i := 1) (v := (fun s : (Int × (List (Int × Int))) => s.2)) (fun _ => rfl)))) (fun _ _ => rfl) vq_noIf (VP.e (v_var (enc := eI) (i := 2) (v := (fun s : ((Int × (List (Int × Int))) × (Int × Int)) => s.2.1)) (fun _ => rfl)))))))
 (s_if (fun _ => rfl) (v_notE (v_truE tru_B (v_gex (E2 := (fun s : ((Int × (List (Int × Int))) × (Int × Int)) => ([.sh (eI s.1.1), .sh ((eL (eT2 eI eI)) s.1.2), .un, .sh (eI s.2.1), .sh (eI s.2.2)] : Rho))) (VIP.e (w_list (v_var (enc := (eL (eT2 eI eI))) (i := 1) (v := (fun s : (Int × (List (Int × Int))) => s.2)) (fun _ => rfl)))) (fun _ _ => rfl) (v_call (T := T_is_exponent) v_is_exponent (fun _ => rfl) (va_cons (v_var (enc := eI) (i := 0) (v := (fun s : ((Int × (List (Int × Int))) × (Int × Int)) => s.1.1)) (fun _ => rfl)) (va_one (v_var (enc := eI) (i := 4) (v := (fun s : ((Int × (List (Int × Int))) × (Int × Int)) => s.2.2)) (fun _ => rfl))))))))
 s_rai
 (s_endG (w := ()) (fun _ => rfl))))⟩
def T_check_points (x : (Int × (List (Int × Int)))) : Res Unit := tv_check_points.1 x
theorem v_check_points (x : (Int × (List (Int × Int)))) : Le eN (T_check_points x) (S_check_points [eI (x.1), (eL (eT2 eI eI)) (x.2)]) := fn_of (g := g_check_points) (tv_check_points.2 x)
def tv_raised : { t : (Int × Int × Int) → Res Int // VB (obF eI) (fun s : (Int × Int × Int) => ([.sh (eI s.1), .sh (eI s.2.1), .sh (eI s.2.2), .un, .un] : Rho)) g_raised t } := ⟨_,
 (s_setP (E1 := (fun s : ((Int × Int × Int) × Int) => ([.sh (eI s.1.1), .sh (eI s.1.2.1), .sh (eI s.1.2.2), .sh (eI s.2), .un] : Rho))) (ins := Prod.mk) (fun _ => rfl) (.inl rfl) (v_int (i := 1)) (fun _ _ => rfl)
 (s_set (E1 := (fun s : (((Int × Int × Int) × Int) × Int) => ([.sh (eI s.1.1.1), .sh (eI s.1.1.2.1), .sh (eI s.1.1.2.2), .sh (eI s.1.2), .sh (eI s.2)] : Rho))) (ins := Prod.mk) (fun _ => rfl) (.inl rfl) (v_do2p o_mod (v_var (enc := eI) (i := 1) (v := (fun s : ((Int × Int × Int) × Int) => s.1.2.1)) (fun _ => rfl)) (v_var (enc := eI) (i := 0) (v := (fun s : ((Int × Int × Int) × Int) => s.1.1)) (fun _ => rfl))) (fun _ _ => rfl)
 (s_wh (N := 40) (EL := (fun (s : (((Int × Int × Int) × Int) × Int)) (u : (Int × Int × Int)) => ([.sh (eI s.1.1.1), .sh (eI s.1.1.2.1), .sh (eI u.1), .sh (eI u.2.1), .sh (eI u.2.2)] : Rho))) (ES := (fun (s : (((Int × Int × Int) × Int) × Int)) (u : (Int × Int × Int)) => ([.sh (eI s.1.1.1), .sh (eI s.1.1.2.1), .sh (eI u.1), .sh (eI u.2.1), .sh (eI u.2.2)] : Rho))) (s0 := (fun s : (((Int × Int × Int) × Int) × Int) => (s.1.1.2.2, s.1.2, s.2))) (E1 := (fun s : ((((Int × Int × Int) × Int) × Int) × (Int × Int × Int)) => ([.sh (eI s.1.1.1.1), .sh (eI s.1.1.1.2.1), .sh (eI s.2.1), .sh (eI s.2.2.1), .sh (eI s.2.2.2)] : Rho))) (π := Prod.mk) (fun _ => rfl) (fun _ => rfl) (fun _ _ => rfl) (fun s3 => (VQ.e (v_tst (v_do2t o_gt (v_var (enc := eI) (i := 2) (v := (fun s : (Int × Int × Int) => s.1)) (fun _ => rfl)) (v_int (i := 0)))))) (fun s3 =>
 (s_join (E1 := (fun s : (Int × Int × Int) => ([.sh (eI s3.1.1.1), .sh (eI s3.1.1.2.1), .sh (eI s.1), .sh (eI s.2.1), .sh (eI s.2.2)] : Rho))) (s_ifP (fun _ => rfl) (v_tst (v_do2t (o_eq ceq_I (by decide)) (v_modc (c := 2) (by decide) (v_var (enc := eI) (i := 2) (v := (fun s : (Int × Int × Int) => s.1)) (fun _ => rfl))) (v_int (i := 1))))
 (VB.last (s_set (E1 := (fun s : ((Int × Int × Int) × Int) => ([.sh (eI s3.1.1.1), .sh (eI s3.1.1.2.1), .sh (eI s.1.1), .sh (eI s.2), .sh (eI s.1.2.2)] : Rho))) (ins := Prod.mk) (fun _ => rfl) (.inl rfl) (v_do2 o_mod (v_do2p o_mul (v_var (enc := eI) (i := 3) (v := (fun s : (Int × Int × Int) => s.2.1)) (fun _ => rfl)) (v_var (enc := eI) (i := 4) (v := (fun s : (Int × Int × Int) => s.2.2)) (fun _ => rfl))) (VP.e (v_var (enc := eI) (i := 0) (v := (fun s : (Int × Int × Int) => s3.1.1.1)) (fun _ => rfl)))) (fun _ _ => rfl)
 (s_endJ (π := (fun s : ((Int × Int × Int) × Int) => (s.1.1, s.2, s.1.2.2))) (fun _ => rfl))))
 (s_endJ (π := (fun s : (Int × Int × Int) => (s.1, s.2.1, s.2.2))) (fun _ => rfl)))
 (s_set (E1 := (fun s : ((Int × Int × Int) × Int) => ([.sh (eI s3.1.1.1), .sh (eI s3.1.1.2.1), .sh (eI s.1.1), .sh (eI s.1.2.1), .sh (eI s.2)] : Rho))) (ins := Prod.mk) (fun _ => rfl) (.inl rfl) (v_do2 o_mod (v_do2p o_mul (v_var (enc := eI) (i := 4) (v := (fun s : (Int × Int × Int) => s.2.2)) (fun _ => rfl)) (v_var (enc := eI) (i := 4) (v := (fun s : (Int × Int × Int) => s.2.2)) (fun _ => rfl))) (VP.e (v_var (enc := eI) (i := 0) (v := (fun s : (Int × Int × Int) => s3.1.1.1)) (fun _ => rfl)))) (fun _ _ => rfl)
 (VB.last (s_setP (E1 := (fun s : (((Int × Int × Int) × Int) × Int) => ([.sh (eI s3.1.1.1), .sh (eI s3.1.1.2.1), .sh (eI s.2), .sh (eI s.1.1.2.1), .sh (eI s.1.2)] : Rho))) (ins := Prod.mk) (fun _ => rfl) (.inl rfl) (v_fdivc (c := 2) (by decide) (v_var (enc := eI) (i := 2) (v := (fun s : ((Int × Int × Int) × Int) => s.1.1)) (fun _ => rfl))) (fun _ _ => rfl)
 (s_endL (π := (fun s : (((Int × Int × Int) × Int) × Int) => (s.2, s.1.1.2.1, s.1.2))) (fun _ => rfl))))))) (fun _ _ => rfl)
 (s_ret out_F (fun _ => rfl) (VP.e (v_var (enc := eI) (i := 3) (v := (fun s : ((((Int × Int × Int) × Int) × Int) × (Int × Int × Int)) => s.2.2.1)) (fun _ => rfl)))))))⟩
def T_raised (x : (Int × Int × Int)) : Res Int := tv_raised.1 x
theorem v_raised (x : (Int × Int × Int)) : Le eI (T_raised x) (S_raised [eI (x.1), eI (x.2.1), eI (x.2.2)]) := fn_of (g := g_raised) (tv_raised.2 x)
def tv_check_system : { t : (Int × (List (List Int)) × (List Int)) → Res Unit // VB (obF eN) (fun s : (Int × (List (List Int)) × (List Int)) => ([.sh (eI s.1), .sh ((eL (eL eI)) s.2.1), .sh ((eL eI) s.2.2), .un] : Rho)) g_check_system t } := ⟨_,
 (s_guardP nf_rai (fun _ => rfl) (v_or (v_tst (v_do2t o_lt (v_var (enc := eI) (i := 0) (v := (fun s : (Int × (List (List Int)) × (List Int)) => s.1)) (fun _ => rfl)) (v_int (i := 1)))) (v_tst (v_do2t o_gt (v_var (enc := eI) (i := 0) (v := (fun s : (Int × (List (List Int)) × (List Int)) => s.1)) (fun _ => rfl)) (v_int (i := 40)))))
 s_rai
 (s_guardP nf_rai (fun _ => rfl) (v_tst (v_do2t o_gt (v_bi (enc := eI) (T := fun x : List _ => (x.length : Int)) b_lenL (va_one (v_var (enc := (eL (eL eI))) (i := 1) (v := (fun s : (Int × (List (List Int)) × (List Int)) => s.2.1)) (fun _ => rfl)))) (v_int (i := 60))))
 s_rai
 (s_guard nf_rai (fun _ => rfl) (v_truE tru_B (v_gex (E2 := (fun s : ((Int × (List (List Int)) × (List Int)) × (List Int)) => ([.sh (eI s.1.1), .sh ((eL (eL eI)) s.1.2.1), .sh ((eL eI) s.1.2.2), .sh ((eL eI) s.2)] : Rho))) (VIP.e (w_list (v_var (enc := (eL (eL eI))) (i := 1) (v := (fun s : (Int × (List (List Int)) × (List Int)) => s.2.1)) (fun _ => rfl)))) (fun _ _ => rfl) (VP.e (v_do2t (o_ne ceq_I (by decide)) (v_bi (enc := eI) (T := fun x : List _ => (x.length : Int)) b_lenL (va_one (v_var (enc := (eL eI)) (i := 3) (v := (fun s : ((Int × (List (List Int)) × (List Int)) × (List Int)) => s.2)) (fun _ => rfl)))) (v_var (enc := eI) (i := 0) (v := (fun s : ((Int × (List (List Int)) × (List Int)) × (List Int)) => s.1.1)) (fun _ => rfl))))))
 s_rai
 (s_ifP (fun _ => rfl) (v_tst (v_do2t (o_ne ceq_I (by decide)) (v_bi (enc := eI) (T := fun x : List _ => (x.length : Int)) b_lenL (va_one (v_var (enc := (eL eI)) (i := 2) (v := (fun s : (Int × (List (List Int)) × (List Int)) => s.2.2)) (fun _ => rfl)))) (v_bi (enc := eI) (T := fun x : List _ => (x.length : Int)) b_lenL (va_one (v_var (enc := (eL (eL eI))) (i := 1) (v := (fun s : (Int × (List (List Int)) × (List Int)) => s.2.1)) (fun _ => rfl))))))
 s_rai
 (s_endG (w := ()) (fun _ => rfl))))))⟩
def T_check_system (x : (Int × (List (List Int)) × (List Int))) : Res Unit := tv_check_system.1 x
theorem v_check_system (x : (Int × (List (List Int)) × (List Int))) : Le eN (T_check_system x) (S_check_system [eI (x.1), (eL (eL eI)) (x.2.1), (eL eI) (x.2.2)]) := fn_of (g := g_check_system) (tv_check_system.2 x)
def tv_first_row_with : { t : ((List (List Int)) × Int × Int) → Res (Option Int) // VB (obF (eO eI)) (fun s : ((List (List Int)) × Int × Int) => ([.sh ((eL (eL eI)) s.1), .sh (eI s.2.1), .sh (eI s.2.2), .un] : Rho)) g_first_row_with t } := ⟨_,
 (s_for (EL := (fun (s : ((List (List Int)) × Int × Int)) (u : Unit) => ([.sh ((eL (eL eI)) s.1), .sh (eI s.2.1), .sh (eI s.2.2), .un] : Rho))) (EB := (fun (s4 : ((List (List Int)) × Int × Int)) (s : (Int × Unit)) => ([.sh ((eL (eL eI)) s4.1), .sh (eI s4.2.1), .sh (eI s4.2.2), .sh (eI s.1)] : Rho))) (s0 := (fun s : ((List (List Int)) × Int × Int) => ())) (E1 := (fun s : (((List (List Int)) × Int × Int) × Unit) => ([.sh ((eL (eL eI)) s.1.1), .sh (eI s.1.2.1), .sh (eI s.1.2.2), .un] : Rho))) (π := Prod.mk) (w_rng2 (VP.e (v_var (enc := eI) (i := 1) (v := (fun s : ((List (List Int)) × Int × Int) => s.2.1)) (fun _ => rfl))) (VP.e (v_bi (enc := eI) (T := fun x : List _ => (x.length : Int)) b_lenL (va_one (v_var (enc := (eL (eL eI))) (i := 0) (v := (fun s : ((List (List Int)) × Int × Int) => s.1)) (fun _ => rfl)))))) (fun _ => rfl) (fun _ _ _ => rfl) (fun s4 =>
 (s_if (fun _ => rfl) (v_tstE (v_do2e (o_ne ceq_I (by decide)) (v_do2 o_ixL (v_do2p o_ixL (v_var (enc := (eL (eL eI))) (i := 0) (v := (fun s : (Int × Unit) => s4.1)) (fun _ => rfl)) (v_var (enc := eI) (i := 3) (v := (fun s : (Int × Unit) => s.1)) (fun _ => rfl))) (VP.e (v_var (enc := eI) (i := 2) (v := (fun s : (Int × Unit) => s4.2.2)) (fun _ => rfl)))) (VP.e (v_int (i := 0)))))
 (s_ret (out_L out_F) (fun _ => rfl) (VP.e (v_as (e' := (eO eI)) (w := some) (v_var (enc := eI) (i := 3) (v := (fun s : (Int × Unit) => s.1)) (fun _ => rfl)) (fun _ => rfl))))
 (s_endL (π := (fun s : (Int × Unit) => ())) (fun _ => rfl)))) (fun _ _ => rfl)
 (s_ret out_F (fun _ => rfl) (VP.e (v_as (e' := (eO eI)) (w := (fun _ : Unit => (none : Option Int))) v_none (fun _ => rfl)))))⟩
def T_first_row_with (x : ((List (List Int)) × Int × Int)) : Res (Option Int) := tv_first_row_with.1 x
theorem v_first_row_with (x : ((List (List Int)) × Int × Int)) : Le (eO eI) (T_first_row_with x) (S_first_row_with [(eL (eL eI)) (x.1), eI (x.2.1), eI (x.2.2)]) := fn_of (g := g_first_row_with) (tv_first_row_with.2 x)
def tv_swapped : { t : ((List (List Int)) × Int × Int) → Res (List (List Int)) // VB (obF (eL (eL eI))) (fun s : ((List (List Int)) × Int × Int) => ([.sh ((eL (eL eI)) s.1), .sh (eI s.2.1), .sh (eI s.2.2), .un] : Rho)) g_swapped t } := ⟨_,
 (s_ownP (E1 := (fun s : (((List (List Int)) × Int × Int) × (List (List Int))) => ([.sh ((eL (eL eI)) s.1.1), .sh (eI s.1.2.1), .sh (eI s.1.2.2), .ow (s.2.map (eL eI))] : Rho))) (ins := Prod.mk) (fun _ => rfl) (.inl rfl) (v_listL (va_one (v_var (enc := (eL (eL eI))) (i := 0) (v := (fun s : ((List (List Int)) × Int × Int) => s.1)) (fun _ => rfl)))) (fun _ _ => rfl)
 (s_si (enc := (eL eI)) (π := (fun s : (((List (List Int)) × Int × Int) × (List (List Int))) => s.2)) (E1 := (fun s : ((((List (List Int)) × Int × Int) × (List (List Int))) × (List (List Int))) => ([.sh ((eL (eL eI)) s.1.1.1), .sh (eI s.1.1.2.1), .sh (eI s.1.1.2.2), .ow (s.2.map (eL eI))] : Rho))) (ins := Prod.mk) (fun _ => rfl) (fun _ => rfl) (.inl rfl) (v_do2p o_ixL (v_var (enc := (eL (eL eI))) (i := 0) (v := (fun s : (((List (List Int)) × Int × Int) × (List (List Int))) => s.1.1)) (fun _ => rfl)) (v_var (enc := eI) (i := 2) (v := (fun s : (((List (List Int)) × Int × Int) × (List (List Int))) => s.1.2.2)) (fun _ => rfl))) (VP.e (v_var (enc := eI) (i := 1) (v := (fun s : (((List (List Int)) × Int × Int) × (List (List Int))) => s.1.2.1)) (fun _ => rfl))) (fun _ _ => rfl)
 (s_si (enc := (eL eI)) (π := (fun s : ((((List (List Int)) × Int × Int) × (List (List Int))) × (List (List Int))) => s.2)) (E1 := (fun s : (((((List (List Int)) × Int × Int) × (List (List Int))) × (List (List Int))) × (List (List Int))) => ([.sh ((eL (eL eI)) s.1.1.1.1), .sh (eI s.1.1.1.2.1), .sh (eI s.1.1.1.2.2), .ow (s.2.map (eL eI))] : Rho))) (ins := Prod.mk) (fun _ => rfl) (fun _ => rfl) (.inl rfl) (v_do2p o_ixL (v_var (enc := (eL (eL eI))) (i := 0) (v := (fun s : ((((List (List Int)) × Int × Int) × (List (List Int))) × (List (List Int))) => s.1.1.1)) (fun _ => rfl)) (v_var (enc := eI) (i := 1) (v := (fun s : ((((List (List Int)) × Int × Int) × (List (List Int))) × (List (List Int))) => s.1.1.2.1)) (fun _ => rfl))) (VP.e (v_var (enc := eI) (i := 2) (v := (fun s : ((((List (List Int)) × Int × Int) × (List (List Int))) × (List (List Int))) => s.1.1.2.2)) (fun _ => rfl))) (fun _ _ => rfl)
 (s_retO (enc := (eL eI)) (i := 3) (π := (fun s : (((((List (List Int)) × Int × Int) × (List (List Int))) × (List (List Int))) × (List (List Int))) => s.2)) outO_F (fun _ => rfl)))))⟩
def T_swapped (x : ((List (List Int)) × Int × Int)) : Res (List (List Int)) := tv_swapped.1 x
theorem v_swapped (x : ((List (List Int)) × Int × Int)) : Le (eL (eL eI)) (T_swapped x) (S_swapped [(eL (eL eI)) (x.1), eI (x.2.1), eI (x.2.2)]) := fn_of (g := g_swapped) (tv_swapped.2 x)
def tv_quotient : { t : (Int × Int × Int) → Res Int // VB (obF eI) (fun s : (Int × Int × Int) => ([.sh (eI s.1), .sh (eI s.2.1), .sh (eI s.2.2)] : Rho)) g_quotient t } := ⟨_,
 (s_guard nf_rai (fun _ => rfl) (v_tstE (v_do2e (o_eq ceq_I (by decide)) (v_do2p o_mod (v_var (enc := eI) (i := 2) (v := (fun s : (Int × Int × Int) => s.2.2)) (fun _ => rfl)) (v_var (enc := eI) (i := 0) (v := (fun s : (Int × Int × Int) => s.1)) (fun _ => rfl))) (VP.e (v_int (i := 0)))))
 s_rai
 (s_ret out_F (fun _ => rfl) (v_do2 o_mod (v_do2 o_mul (VP.e (v_var (enc := eI) (i := 1) (v := (fun s : (Int × Int × Int) => s.2.1)) (fun _ => rfl))) (v_call (T := T_raised) v_raised (fun _ => rfl) (va_cons (v_var (enc := eI) (i := 0) (v := (fun s : (Int × Int × Int) => s.1)) (fun _ => rfl)) (va_cons (v_var (enc := eI) (i := 2) (v := (fun s : (Int × Int × Int) => s.2.2)) (fun _ => rfl)) (va_one (v_do2t o_sub (v_var (enc := eI) (i := 0) (v := (fun s : (Int × Int × Int) => s.1)) (fun _ => rfl)) (v_int (i := 2)))))))) (VP.e (v_var (enc := eI) (i := 0) (v := (fun s : (Int × Int × Int) => s.1)) (fun _ => rfl))))))⟩
def T_quotient (x : (Int × Int × Int)) : Res Int := tv_quotient.1 x
theorem v_quotient (x : (Int × Int × Int)) : Le eI (T_quotient x) (S_quotient [eI (x.1), eI (x.2.1), eI (x.2.2)]) := fn_of (g := g_quotient) (tv_quotient.2 x)
def tv_less_multiple : { t : (Int × (List Int) × Int × (List Int)) → Res (List Int) // VB (obF (eL eI)) (fun s : (Int × (List Int) × Int × (List Int)) => ([.sh (eI s.1), .sh ((eL eI) s.2.1), .sh (eI s.2.2.1), .sh ((eL eI) s.2.2.2), .un, .un] : Rho)) g_less_multiple t } := ⟨_,
 (s_ret out_F (fun _ => rfl) (v_nE (v_lc (E2 := (fun s : ((Int × (List Int) × Int × (List Int)) × (Int × Int)) => ([.sh (eI s.1.1), .sh ((eL eI) s.1.2.1), .sh (eI s.1.2.2.1), .sh ((eL eI) s.1.2.2.2), .sh (eI s.2.1), .sh (eI s.2.2)] : Rho))) (VIP.e (w_zipL (va_cons (v_var (enc := (eL eI)) (i := 1) (v := (fun s : (Int × (List Int) × Int × (List Int)) => s.2.1)) (fun _ => rfl)) (va_one (v_var (enc := (eL eI)) (i := 3) (v := (fun s : (Int × (List Int) × Int × (List Int)) => s.2.2.2)) (fun _ => rfl)))))) (fun _ _ => rfl) vq_noIf (v_do2 o_mod (v_do2e o_sub (VP.e (v_var (enc := eI) (i := 4) (v := (fun s : ((Int × (List Int) × Int × (List Int)) × (Int × Int)) => s.2.1)) (fun _ => rfl))) (v_do2p o_mul (v_var (enc := eI) (i := 2) (v := (fun s : ((Int × (List Int) × Int × (List Int)) × (Int × Int)) => s.1.2.2.1)) (fun _ => rfl)) (v_var (enc := eI) (i := 5) (v := (fun s : ((Int × (List Int) × Int × (List Int)) × (Int × Int)) => s.2.2)) (fun _ => rfl)))) (VP.e (v_var (enc := eI) (i := 0) (v := (fun s : ((Int × (List Int) × Int × (List Int)) × (Int × Int)) => s.1.1)) (fun _ => rfl)))))))⟩
def T_less_multiple (x : (Int × (List Int) × Int × (List Int))) : Res (List Int) := tv_less_multiple.1 x
theorem v_less_multiple (x : (Int × (List Int) × Int × (List Int))) : Le (eL eI) (T_less_multiple x) (S_less_multiple [eI (x.1), (eL eI) (x.2.1), eI (x.2.2.1), (eL eI) (x.2.2.2)]) := fn_of (g := g_less_multiple) (tv_less_multiple.2 x)
def tv_cleared : { t : (Int × (List (List Int)) × Int × Int) → Res (List (List Int)) // VB (obF (eL (eL eI))) (fun s : (Int × (List (List Int)) × Int × Int) => ([.sh (eI s.1), .sh ((eL (eL eI)) s.2.1), .sh (eI s.2.2.1), .sh (eI s.2.2.2), .un, .un, .un, .un, .un] : Rho)) g_cleared t } := ⟨_,
 (s_set (E1 := (fun s : ((Int × (List (List Int)) × Int × Int) × Int) => ([.sh (eI s.1.1), .sh ((eL (eL eI)) s.1.2.1), .sh (eI s.1.2.2.1), .sh (eI s.1.2.2.2), .sh (eI s.2), .un, .un, .un, .un] : Rho))) (ins := Prod.mk) (fun _ => rfl) (.inl rfl) (v_callE (T := T_quotient) v_quotient (fun _ => rfl) (va_consE (VP.e (v_var (enc := eI) (i := 0) (v := (fun s : (Int × (List (List Int)) × Int × Int) => s.1)) (fun _ => rfl))) (va_consE (VP.e (v_int (i := 1))) (va_oneE (v_do2 o_ixL (v_do2p o_ixL (v_var (enc := (eL (eL eI))) (i := 1) (v := (fun s : (Int × (List (List Int)) × Int × Int) => s.2.1)) (fun _ => rfl)) (v_var (enc := eI) (i := 2) (v := (fun s : (Int × (List (List Int)) × Int × Int) => s.2.2.1)) (fun _ => rfl))) (VP.e (v_var (enc := eI) (i := 3) (v := (fun s : (Int × (List (List Int)) × Int × Int) => s.2.2.2)) (fun _ => rfl)))))))) (fun _ _ => rfl)
 (s_set (E1 := (fun s : (((Int × (List (List Int)) × Int × Int) × Int) × (List Int)) => ([.sh (eI s.1.1.1), .sh ((eL (eL eI)) s.1.1.2.1), .sh (eI s.1.1.2.2.1), .sh (eI s.1.1.2.2.2), .sh (eI s.1.2), .sh ((eL eI) s.2), .un, .un, .un] : Rho))) (ins := Prod.mk) (fun _ => rfl) (.inl rfl) (v_nE (v_lc (E2 := (fun s : (((Int × (List (List Int)) × Int × Int) × Int) × Int) => ([.sh (eI s.1.1.1), .sh ((eL (eL eI)) s.1.1.2.1), .sh (eI s.1.1.2.2.1), .sh (eI s.1.1.2.2.2), .sh (eI s.1.2), .un, .sh (eI s.2), .un, .un] : Rho))) (w_listE (v_do2p o_ixL (v_var (enc := (eL (eL eI))) (i := 1) (v := (fun s : ((Int × (List (List Int)) × Int × Int) × Int) => s.1.2.1)) (fun _ => rfl)) (v_var (enc := eI) (i := 2) (v := (fun s : ((Int × (List (List Int)) × Int × Int) × Int) => s.1.2.2.1)) (fun _ => rfl)))) (fun _ _ => rfl) vq_noIf (v_do2 o_mod (v_do2p o_mul (v_var (enc := eI) (i := 4) (v := (fun s : (((Int × (List (List Int)) × Int × Int) × Int) × Int) => s.1.2)) (fun _ => rfl)) (v_var (enc := eI) (i := 6) (v := (fun s : (((Int × (List (List Int)) × Int × Int) × Int) × Int) => s.2)) (fun _ => rfl))) (VP.e (v_var (enc := eI) (i := 0) (v := (fun s : (((Int × (List (List Int)) × Int × Int) × Int) × Int) => s.1.1.1)) (fun _ => rfl)))))) (fun _ _ => rfl)
 (s_ret out_F (fun _ => rfl) (v_nE (v_lc (E2 := (fun s : ((((Int × (List (List Int)) × Int × Int) × Int) × (List Int)) × (Int × (List Int))) => ([.sh (eI s.1.1.1.1), .sh ((eL (eL eI)) s.1.1.1.2.1), .sh (eI s.1.1.1.2.2.1), .sh (eI s.1.1.1.2.2.2), .sh (eI s.1.1.2), .sh ((eL eI) s.1.2), .un, .sh (eI s.2.1), .sh ((eL eI) s.2.2)] : Rho))) (VIP.e (w_enum (v_var (enc := (eL (eL eI))) (i := 1) (v := (fun s : (((Int × (List (List Int)) × Int × Int) × Int) × (List Int)) => s.1.1.2.1)) (fun _ => rfl)))) (fun _ _ => rfl) vq_noIf (v_ifE (v_tst (v_do2t (o_eq ceq_I (by decide)) (v_var (enc := eI) (i := 7) (v := (fun s : ((((Int × (List (List Int)) × Int × Int) × Int) × (List Int)) × (Int × (List Int))) => s.2.1)) (fun _ => rfl)) (v_var (enc := eI) (i := 2) (v := (fun s : ((((Int × (List (List Int)) × Int × Int) × Int) × (List Int)) × (Int × (List Int))) => s.1.1.1.2.2.1)) (fun _ => rfl)))) (VP.e (v_var (enc := (eL eI)) (i := 5) (v := (fun s : ((((Int × (List (List Int)) × Int × Int) × Int) × (List Int)) × (Int × (List Int))) => s.1.2)) (fun _ => rfl))) (v_callE (T := T_less_multiple) v_less_multiple (fun _ => rfl) (va_consE (VP.e (v_var (enc := eI) (i := 0) (v := (fun s : ((((Int × (List (List Int)) × Int × Int) × Int) × (List Int)) × (Int × (List Int))) => s.1.1.1.1)) (fun _ => rfl))) (va_consE (VP.e (v_var (enc := (eL eI)) (i := 8) (v := (fun s : ((((Int × (List (List Int)) × Int × Int) × Int) × (List Int)) × (Int × (List Int))) => s.2.2)) (fun _ => rfl))) (va_consE (v_do2p o_ixL (v_var (enc := (eL eI)) (i := 8) (v := (fun s : ((((Int × (List (List Int)) × Int × Int) × Int) × (List Int)) × (Int × (List Int))) => s.2.2)) (fun _ => rfl)) (v_var (enc := eI) (i := 3) (v := (fun s : ((((Int × (List (List Int)) × Int × Int) × Int) × (List Int)) × (Int × (List Int))) => s.1.1.1.2.2.2)) (fun _ => rfl))) (va_oneE (VP.e (v_var (enc := (eL eI)) (i := 5) (v := (fun s : ((((Int × (List (List Int)) × Int × Int) × Int) × (List Int)) × (Int × (List Int))) => s.1.2)) (fun _ => rfl))))))))))))))⟩
def T_cleared (x : (Int × (List (List Int)) × Int × Int)) : Res (List (List Int)) := tv_cleared.1 x
theorem v_cleared (x : (Int × (List (List Int)) × Int × Int)) : Le (eL (eL eI)) (T_cleared x) (S_cleared [eI (x.1), (eL (eL eI)) (x.2.1), eI (x.2.2.1), eI (x.2.2.2)]) := fn_of (g := g_cleared) (tv_cleared.2 x)
def tv_reduced : { t : (Int × (List (List Int)) × Int) → Res ((List (List Int)) × (List Int)) // VB (obF (eT2 (eL (eL eI)) (eL eI))) (fun s : (Int × (List (List Int)) × Int) => ([.sh (eI s.1), .sh ((eL (eL eI)) s.2.1), .sh (eI s.2.2), .un, .un, .un, .un, .un, .un] : Rho)) g_reduced t } := ⟨_,
 (s_set (E1 := (fun s : ((Int × (List (List Int)) × Int) × (List (List Int))) => ([.sh (eI s.1.1), .sh ((eL (eL eI)) s.1.2.1), .sh (eI s.1.2.2), .sh ((eL (eL eI)) s.2), .un, .un, .un, .un, .un] : Rho))) (ins := Prod.mk) (fun _ => rfl) (.inl rfl) (v_nE (v_lc (E2 := (fun s : ((Int × (List (List Int)) × Int) × (List Int)) => ([.sh (eI s.1.1), .sh ((eL (eL eI)) s.1.2.1), .sh (eI s.1.2.2), .un, .un, .un, .un, .sh ((eL eI) s.2), .un] : Rho))) (VIP.e (w_list (v_var (enc := (eL (eL eI))) (i := 1) (v := (fun s : (Int × (List (List Int)) × Int) => s.2.1)) (fun _ => rfl)))) (fun _ _ => rfl) vq_noIf (v_nE (v_lc (E2 := (fun s : (((Int × (List (List Int)) × Int) × (List Int)) × Int) => ([.sh (eI s.1.1.1), .sh ((eL (eL eI)) s.1.1.2.1), .sh (eI s.1.1.2.2), .un, .un, .un, .un, .sh ((eL eI) s.1.2), .sh (eI s.2)] : Rho))) (VIP.e (w_list (v_var (enc := (eL eI)) (i := 7) (v := (fun s : ((Int × (List (List Int)) × Int) × (List Int)) => s.2)) (fun _ => rfl)))) (fun _ _ => rfl) vq_noIf (v_do2p o_mod (v_var (enc := eI) (i := 8) (v := (fun s : (((Int × (List (List Int)) × Int) × (List Int)) × Int) => s.2)) (fun _ => rfl)) (v_var (enc := eI) (i := 0) (v := (fun s : (((Int × (List (List Int)) × Int) × (List Int)) × Int) => s.1.1.1)) (fun _ => rfl))))))) (fun _ _ => rfl)
 (s_ownP (E1 := (fun s : (((Int × (List (List Int)) × Int) × (List (List Int))) × (List Int)) => ([.sh (eI s.1.1.1), .sh ((eL (eL eI)) s.1.1.2.1), .sh (eI s.1.1.2.2), .sh ((eL (eL eI)) s.1.2), .ow (s.2.map eI), .un, .un, .un, .un] : Rho))) (ins := Prod.mk) (fun _ => rfl) (.inl rfl) (v_nlP (vi_nil (enc := eI)) (fun _ => Nat.le_of_ble_eq_true rfl)) (fun _ _ => rfl)
 (s_for (EL := (fun (s : (((Int × (List (List Int)) × Int) × (List (List Int))) × (List Int))) (u : ((List (List Int)) × (List Int))) => ([.sh (eI s.1.1.1), .sh ((eL (eL eI)) s.1.1.2.1), .sh (eI s.1.1.2.2), .sh ((eL (eL eI)) u.1), .ow (u.2.map eI), .un, .un, .un, .un] : Rho))) (EB := (fun (s5 : (((Int × (List (List Int)) × Int) × (List (List Int))) × (List Int))) (s : (Int × ((List (List Int)) × (List Int)))) => ([.sh (eI s5.1.1.1), .sh ((eL (eL eI)) s5.1.1.2.1), .sh (eI s5.1.1.2.2), .sh ((eL (eL eI)) s.2.1), .ow (s.2.2.map eI), .sh (eI s.1), .un, .un, .un] : Rho))) (s0 := (fun s : (((Int × (List (List Int)) × Int) × (List (List Int))) × (List Int)) => (s.1.2, s.2))) (E1 := (fun s : ((((Int × (List (List Int)) × Int) × (List (List Int))) × (List Int)) × ((List (List Int)) × (List Int))) => ([.sh (eI s.1.1.1.1), .sh ((eL (eL eI)) s.1.1.1.2.1), .sh (eI s.1.1.1.2.2), .sh ((eL (eL eI)) s.2.1), .ow (s.2.2.map eI), .un, .un, .un, .un] : Rho))) (π := Prod.mk) (w_rng1 (VP.e (v_var (enc := eI) (i := 2) (v := (fun s : (((Int × (List (List Int)) × Int) × (List (List Int))) × (List Int)) => s.1.1.2.2)) (fun _ => rfl)))) (fun _ => rfl) (fun _ _ _ => rfl) (fun s5 =>
 (s_set (E1 := (fun s : ((Int × ((List (List Int)) × (List Int))) × (Option Int)) => ([.sh (eI s5.1.1.1), .sh ((eL (eL eI)) s5.1.1.2.1), .sh (eI s5.1.1.2.2), .sh ((eL (eL eI)) s.1.2.1), .ow (s.1.2.2.map eI), .sh (eI s.1.1), .sh ((eO eI) s.2), .un, .un] : Rho))) (ins := Prod.mk) (fun _ => rfl) (.inr (fun x => by cases x <;> rfl)) (v_call (T := T_first_row_with) v_first_row_with (fun _ => rfl) (va_cons (v_var (enc := (eL (eL eI))) (i := 3) (v := (fun s : (Int × ((List (List Int)) × (List Int))) => s.2.1)) (fun _ => rfl)) (va_cons (v_bi (enc := eI) (T := fun x : List _ => (x.length : Int)) b_lenL (va_one (v_var (enc := (eL eI)) (i := 4) (v := (fun s : (Int × ((List (List Int)) × (List Int))) => s.2.2)) (fun _ => rfl)))) (va_one (v_var (enc := eI) (i := 5) (v := (fun s : (Int × ((List (List Int)) × (List Int))) => s.1)) (fun _ => rfl)))))) (fun _ _ => rfl)
 (s_ifP (fun _ => rfl) (v_tst (v_isntNO (fun _ => rfl) (v_var (enc := (eO eI)) (i := 6) (v := (fun s : ((Int × ((List (List Int)) × (List Int))) × (Option Int)) => s.2)) (fun _ => rfl))))
 (s_setLL (π := (fun s : ((Int × ((List (List Int)) × (List Int))) × (Option Int)) => s.1.2.2)) (E1 := (fun s : (((Int × ((List (List Int)) × (List Int))) × (Option Int)) × (List (List Int))) => ([.sh (eI s5.1.1.1), .sh ((eL (eL eI)) s5.1.1.2.1), .sh (eI s5.1.1.2.2), .sh ((eL (eL eI)) s.2), .ow (s.1.1.2.2.map eI), .sh (eI s.1.1.1), .sh ((eO eI) s.1.2), .un, .un] : Rho))) (ins := Prod.mk) (fun _ => rfl) (fun _ => rfl) (v_callE (T := T_cleared) v_cleared (fun _ => rfl) (va_consE (VP.e (v_var (enc := eI) (i := 0) (v := (fun s : ((Int × ((List (List Int)) × (List Int))) × (Option Int)) => s5.1.1.1)) (fun _ => rfl))) (va_consE (v_callE (T := T_swapped) v_swapped (fun _ => rfl) (va_consE (VP.e (v_var (enc := (eL (eL eI))) (i := 3) (v := (fun s : ((Int × ((List (List Int)) × (List Int))) × (Option Int)) => s.1.2.1)) (fun _ => rfl))) (va_consE (v_castE (VP.e (v_var (enc := (eO eI)) (i := 6) (v := (fun s : ((Int × ((List (List Int)) × (List Int))) × (Option Int)) => s.2)) (fun _ => rfl))) (frO_le eI)) (va_oneE (VP.e (v_bi (enc := eI) (T := fun x : List _ => (x.length : Int)) b_lenL (va_one (v_var (enc := (eL eI)) (i := 4) (v := (fun s : ((Int × ((List (List Int)) × (List Int))) × (Option Int)) => s.1.2.2)) (fun _ => rfl))))))))) (va_consE (VP.e (v_bi (enc := eI) (T := fun x : List _ => (x.length : Int)) b_lenL (va_one (v_var (enc := (eL eI)) (i := 4) (v := (fun s : ((Int × ((List (List Int)) × (List Int))) × (Option Int)) => s.1.2.2)) (fun _ => rfl))))) (va_oneE (VP.e (v_var (enc := eI) (i := 5) (v := (fun s : ((Int × ((List (List Int)) × (List Int))) × (Option Int)) => s.1.1)) (fun _ => rfl)))))))) (fun _ _ => rfl)
 (VB.last (s_app (enc := eI) (π := (fun s : (((Int × ((List (List Int)) × (List Int))) × (Option Int)) × (List (List Int))) => s.1.1.2.2)) (E1 := (fun s : ((((Int × ((List (List Int)) × (List Int))) × (Option Int)) × (List (List Int))) × (List Int)) => ([.sh (eI s5.1.1.1), .sh ((eL (eL eI)) s5.1.1.2.1), .sh (eI s5.1.1.2.2), .sh ((eL (eL eI)) s.1.2), .ow (s.2.map eI), .sh (eI s.1.1.1.1), .sh ((eO eI) s.1.1.2), .un, .un] : Rho))) (ins := Prod.mk) (fun _ => rfl) (fun _ => rfl) (.inl rfl) (VP.e (v_var (enc := eI) (i := 5) (v := (fun s : (((Int × ((List (List Int)) × (List Int))) × (Option Int)) × (List (List Int))) => s.1.1.1)) (fun _ => rfl))) (fun _ _ => rfl)
 (s_endL (π := (fun s : ((((Int × ((List (List Int)) × (List Int))) × (Option Int)) × (List (List Int))) × (List Int)) => (s.1.2, s.2))) (fun _ => rfl)))))
 (s_endL (π := (fun s : ((Int × ((List (List Int)) × (List Int))) × (Option Int)) => (s.1.2.1, s.1.2.2))) (fun _ => rfl))))) (fun _ _ => rfl)
 (s_fz (fun _ => rfl) (s_ret out_F (fun _ => rfl) (VP.e (v_tup (va_cons (v_var (enc := (eL (eL eI))) (i := 3) (v := (fun s : ((((Int × (List (List Int)) × Int) × (List (List Int))) × (List Int)) × ((List (List Int)) × (List Int))) => s.2.1)) (fun _ => rfl)) (va_one (v_var (enc := (eL eI)) (i := 4) (v := (fun s : ((((Int × (List (List Int)) × Int) × (List (List Int))) × (List Int)) × ((List (List Int)) × (List Int))) => s.2.2)) (fun _ => rfl)))) (fun _ => Nat.le_of_ble_eq_true rfl))))))))⟩
def T_reduced (x : (Int × (List (List Int)) × Int)) : Res ((List (List Int)) × (List Int)) := tv_reduced.1 x
theorem v_reduced (x : (Int × (List (List Int)) × Int)) : Le (eT2 (eL (eL eI)) (eL eI)) (T_reduced x) (S_reduced [eI (x.1), (eL (eL eI)) (x.2.1), eI (x.2.2)]) := fn_of (g := g_reduced) (tv_reduced.2 x)
def tv_step_of : { t : (Int × Int × (List (List Int)) × (List Int) × Int) → Res (List Int) // VB (obF (eL eI)) (fun s : (Int × Int × (List (List Int)) × (List Int) × Int) => ([.sh (eI s.1), .sh (eI s.2.1), .sh ((eL (eL eI)) s.2.2.1), .sh ((eL eI) s.2.2.2.1), .sh (eI s.2.2.2.2), .un, .un, .un] : Rho)) g_step_of t } := ⟨_,
 (s_own (E1 := (fun s : ((Int × Int × (List (List Int)) × (List Int) × Int) × (List Int)) => ([.sh (eI s.1.1), .sh (eI s.1.2.1), .sh ((eL (eL eI)) s.1.2.2.1), .sh ((eL eI) s.1.2.2.2.1), .sh (eI s.1.2.2.2.2), .ow (s.2.map eI), .un, .un] : Rho))) (ins := Prod.mk) (fun _ => rfl) (.inl rfl) (v_rep (VIP.e (v_nlP (vi_cons (v_int (i := 0)) (vi_nil (enc := eI))) (fun _ => Nat.le_of_ble_eq_true rfl))) (VP.e (v_var (enc := eI) (i := 1) (v := (fun s : (Int × Int × (List (List Int)) × (List Int) × Int) => s.2.1)) (fun _ => rfl)))) (fun _ _ => rfl)
 (s_si (enc := eI) (π := (fun s : ((Int × Int × (List (List Int)) × (List Int) × Int) × (List Int)) => s.2)) (E1 := (fun s : (((Int × Int × (List (List Int)) × (List Int) × Int) × (List Int)) × (List Int)) => ([.sh (eI s.1.1.1), .sh (eI s.1.1.2.1), .sh ((eL (eL eI)) s.1.1.2.2.1), .sh ((eL eI) s.1.1.2.2.2.1), .sh (eI s.1.1.2.2.2.2), .ow (s.2.map eI), .un, .un] : Rho))) (ins := Prod.mk) (fun _ => rfl) (fun _ => rfl) (.inl rfl) (VP.e (v_int (i := 1))) (VP.e (v_var (enc := eI) (i := 4) (v := (fun s : ((Int × Int × (List (List Int)) × (List Int) × Int) × (List Int)) => s.1.2.2.2.2)) (fun _ => rfl))) (fun _ _ => rfl)
 (s_for (EL := (fun (s : (((Int × Int × (List (List Int)) × (List Int) × Int) × (List Int)) × (List Int))) (u : (List Int)) => ([.sh (eI s.1.1.1), .sh (eI s.1.1.2.1), .sh ((eL (eL eI)) s.1.1.2.2.1), .sh ((eL eI) s.1.1.2.2.2.1), .sh (eI s.1.1.2.2.2.2), .ow (u.map eI), .un, .un] : Rho))) (EB := (fun (s6 : (((Int × Int × (List (List Int)) × (List Int) × Int) × (List Int)) × (List Int))) (s : ((Int × (List Int)) × (List Int))) => ([.sh (eI s6.1.1.1), .sh (eI s6.1.1.2.1), .sh ((eL (eL eI)) s6.1.1.2.2.1), .sh ((eL eI) s6.1.1.2.2.2.1), .sh (eI s6.1.1.2.2.2.2), .ow (s.2.map eI), .sh (eI s.1.1), .sh ((eL eI) s.1.2)] : Rho))) (s0 := (fun s : (((Int × Int × (List (List Int)) × (List Int) × Int) × (List Int)) × (List Int)) => s.2)) (E1 := (fun s : ((((Int × Int × (List (List Int)) × (List Int) × Int) × (List Int)) × (List Int)) × (List Int)) => ([.sh (eI s.1.1.1.1), .sh (eI s.1.1.1.2.1), .sh ((eL (eL eI)) s.1.1.1.2.2.1), .sh ((eL eI) s.1.1.1.2.2.2.1), .sh (eI s.1.1.1.2.2.2.2), .ow (s.2.map eI), .un, .un] : Rho))) (π := Prod.mk) (VIP.e (w_zipL (va_cons (v_var (enc := (eL eI)) (i := 3) (v := (fun s : (((Int × Int × (List (List Int)) × (List Int) × Int) × (List Int)) × (List Int)) => s.1.1.2.2.2.1)) (fun _ => rfl)) (va_one (v_var (enc := (eL (eL eI))) (i := 2) (v := (fun s : (((Int × Int × (List (List Int)) × (List Int) × Int) × (List Int)) × (List Int)) => s.1.1.2.2.1)) (fun _ => rfl)))))) (fun _ => rfl) (fun _ _ _ => rfl) (fun s6 =>
 (VB.last (s_si (enc := eI) (π := (fun s : ((Int × (List Int)) × (List Int)) => s.2)) (E1 := (fun s : (((Int × (List Int)) × (List Int)) × (List Int)) => ([.sh (eI s6.1.1.1), .sh (eI s6.1.1.2.1), .sh ((eL (eL eI)) s6.1.1.2.2.1), .sh ((eL eI) s6.1.1.2.2.2.1), .sh (eI s6.1.1.2.2.2.2), .ow (s.2.map eI), .sh (eI s.1.1.1), .sh ((eL eI) s.1.1.2)] : Rho))) (ins := Prod.mk) (fun _ => rfl) (fun _ => rfl) (.inl rfl) (v_do2 o_mod (v_do1e o_neg (v_do2p o_ixL (v_var (enc := (eL eI)) (i := 7) (v := (fun s : ((Int × (List Int)) × (List Int)) => s.1.2)) (fun _ => rfl)) (v_var (enc := eI) (i := 4) (v := (fun s : ((Int × (List Int)) × (List Int)) => s6.1.1.2.2.2.2)) (fun _ => rfl)))) (VP.e (v_var (enc := eI) (i := 0) (v := (fun s : ((Int × (List Int)) × (List Int)) => s6.1.1.1)) (fun _ => rfl)))) (VP.e (v_var (enc := eI) (i := 6) (v := (fun s : ((Int × (List Int)) × (List Int)) => s.1.1)) (fun _ => rfl))) (fun _ _ => rfl)
 (s_endL (π := (fun s : (((Int × (List Int)) × (List Int)) × (List Int)) => s.2)) (fun _ => rfl))))) (fun _ _ => rfl)
 (s_retO (enc := eI) (i := 5) (π := (fun s : ((((Int × Int × (List (List Int)) × (List Int) × Int) × (List Int)) × (List Int)) × (List Int)) => s.2)) outO_F (fun _ => rfl)))))⟩
def T_step_of (x : (Int × Int × (List (List Int)) × (List Int) × Int)) : Res (List Int) := tv_step_of.1 x
theorem v_step_of (x : (Int × Int × (List (List Int)) × (List Int) × Int)) : Le (eL eI) (T_step_of x) (S_step_of [eI (x.1), eI (x.2.1), (eL (eL eI)) (x.2.2.1), (eL eI) (x.2.2.2.1), eI (x.2.2.2.2)]) := fn_of (g := g_step_of) (tv_step_of.2 x)
def tv_solutions : { t : (Int × Int × (List (List Int)) × (List Int)) → Res ((List Int) × (List (List Int))) // VB (obF (eT2 (eL eI) (eL (eL eI)))) (fun s : (Int × Int × (List (List Int)) × (List Int)) => ([.sh (eI s.1), .sh (eI s.2.1), .sh ((eL (eL eI)) s.2.2.1), .sh ((eL eI) s.2.2.2), .un, .un, .un, .un, .un, .un, .un, .un, .un] : Rho)) g_solutions t } := ⟨_,
 (s_ex (fun _ => rfl) (v_call (T := T_check_system) v_check_system (fun _ => rfl) (va_cons (v_var (enc := eI) (i := 1) (v := (fun s : (Int × Int × (List (List Int)) × (List Int)) => s.2.1)) (fun _ => rfl)) (va_cons (v_var (enc := (eL (eL eI))) (i := 2) (v := (fun s : (Int × Int × (List (List Int)) × (List Int)) => s.2.2.1)) (fun _ => rfl)) (va_one (v_var (enc := (eL eI)) (i := 3) (v := (fun s : (Int × Int × (List (List Int)) × (List Int)) => s.2.2.2)) (fun _ => rfl))))))
 (s_set (E1 := (fun s : ((Int × Int × (List (List Int)) × (List Int)) × (List (List Int))) => ([.sh (eI s.1.1), .sh (eI s.1.2.1), .sh ((eL (eL eI)) s.1.2.2.1), .sh ((eL eI) s.1.2.2.2), .sh ((eL (eL eI)) s.2), .un, .un, .un, .un, .un, .un, .un, .un] : Rho))) (ins := Prod.mk) (fun _ => rfl) (.inl rfl) (v_nE (v_lc (E2 := (fun s : ((Int × Int × (List (List Int)) × (List Int)) × ((List Int) × Int)) => ([.sh (eI s.1.1), .sh (eI s.1.2.1), .sh ((eL (eL eI)) s.1.2.2.1), .sh ((eL eI) s.1.2.2.2), .un, .un, .un, .un, .un, .sh ((eL eI) s.2.1), .un, .sh (eI s.2.2), .un] : Rho))) (VIP.e (w_zipL (va_cons (v_var (enc := (eL (eL eI))) (i := 2) (v := (fun s : (Int × Int × (List (List Int)) × (List Int)) => s.2.2.1)) (fun _ => rfl)) (va_one (v_var (enc := (eL eI)) (i := 3) (v := (fun s : (Int × Int × (List (List Int)) × (List Int)) => s.2.2.2)) (fun _ => rfl)))))) (fun _ _ => rfl) vq_noIf (v_nE (v_nlE (VIP.e (vi_starL (v_var (enc := (eL eI)) (i := 9) (v := (fun s : ((Int × Int × (List (List Int)) × (List Int)) × ((List Int) × Int)) => s.2.1)) (fun _ => rfl)) (vi_cons (v_var (enc := eI) (i := 11) (v := (fun s : ((Int × Int × (List (List Int)) × (List Int)) × ((List Int) × Int)) => s.2.2)) (fun _ => rfl)) (vi_nil (enc := eI))))))))) (fun _ _ => rfl)
 (s_asg (E1 := (fun s : (((Int × Int × (List (List Int)) × (List Int)) × (List (List Int))) × ((List (List Int)) × (List Int))) => ([.sh (eI s.1.1.1), .sh (eI s.1.1.2.1), .sh ((eL (eL eI)) s.1.1.2.2.1), .sh ((eL eI) s.1.1.2.2.2), .sh ((eL (eL eI)) s.1.2), .sh ((eL (eL eI)) s.2.1), .sh ((eL eI) s.2.2), .un, .un, .un, .un, .un, .un] : Rho))) (ins := Prod.mk) (v_call (T := T_reduced) v_reduced (fun _ => rfl) (va_cons (v_var (enc := eI) (i := 0) (v := (fun s : ((Int × Int × (List (List Int)) × (List Int)) × (List (List Int))) => s.1.1)) (fun _ => rfl)) (va_cons (v_var (enc := (eL (eL eI))) (i := 4) (v := (fun s : ((Int × Int × (List (List Int)) × (List Int)) × (List (List Int))) => s.2)) (fun _ => rfl)) (va_one (v_var (enc := eI) (i := 1) (v := (fun s : ((Int × Int × (List (List Int)) × (List Int)) × (List (List Int))) => s.1.2.1)) (fun _ => rfl)))))) (fun _ _ => rfl)
 (s_guard nf_rai (fun _ => rfl) (v_truE tru_B (v_gex (E2 := (fun s : ((((Int × Int × (List (List Int)) × (List Int)) × (List (List Int))) × ((List (List Int)) × (List Int))) × (List Int)) => ([.sh (eI s.1.1.1.1), .sh (eI s.1.1.1.2.1), .sh ((eL (eL eI)) s.1.1.1.2.2.1), .sh ((eL eI) s.1.1.1.2.2.2), .sh ((eL (eL eI)) s.1.1.2), .sh ((eL (eL eI)) s.1.2.1), .sh ((eL eI) s.1.2.2), .un, .un, .sh ((eL eI) s.2), .un, .un, .un] : Rho))) (VIP.e (w_list (v_cutL (v_var (enc := (eL (eL eI))) (i := 5) (v := (fun s : (((Int × Int × (List (List Int)) × (List Int)) × (List (List Int))) × ((List (List Int)) × (List Int))) => s.2.1)) (fun _ => rfl)) (vo_some (v_bi (enc := eI) (T := fun x : List _ => (x.length : Int)) b_lenL (va_one (v_var (enc := (eL eI)) (i := 6) (v := (fun s : (((Int × Int × (List (List Int)) × (List Int)) × (List (List Int))) × ((List (List Int)) × (List Int))) => s.2.2)) (fun _ => rfl))))) vo_none))) (fun _ _ => rfl) (v_do2e (o_ne ceq_I (by decide)) (v_do2p o_ixL (v_var (enc := (eL eI)) (i := 9) (v := (fun s : ((((Int × Int × (List (List Int)) × (List Int)) × (List (List Int))) × ((List (List Int)) × (List Int))) × (List Int)) => s.2)) (fun _ => rfl)) (v_var (enc := eI) (i := 1) (v := (fun s : ((((Int × Int × (List (List Int)) × (List Int)) × (List (List Int))) × ((List (List Int)) × (List Int))) × (List Int)) => s.1.1.1.2.1)) (fun _ => rfl))) (VP.e (v_int (i := 0))))))
 s_rai
 (s_own (E1 := (fun s : ((((Int × Int × (List (List Int)) × (List Int)) × (List (List Int))) × ((List (List Int)) × (List Int))) × (List Int)) => ([.sh (eI s.1.1.1.1), .sh (eI s.1.1.1.2.1), .sh ((eL (eL eI)) s.1.1.1.2.2.1), .sh ((eL eI) s.1.1.1.2.2.2), .sh ((eL (eL eI)) s.1.1.2), .sh ((eL (eL eI)) s.1.2.1), .sh ((eL eI) s.1.2.2), .ow (s.2.map eI), .un, .un, .un, .un, .un] : Rho))) (ins := Prod.mk) (fun _ => rfl) (.inl rfl) (v_rep (VIP.e (v_nlP (vi_cons (v_int (i := 0)) (vi_nil (enc := eI))) (fun _ => Nat.le_of_ble_eq_true rfl))) (VP.e (v_var (enc := eI) (i := 1) (v := (fun s : (((Int × Int × (List (List Int)) × (List Int)) × (List (List Int))) × ((List (List Int)) × (List Int))) => s.1.1.2.1)) (fun _ => rfl)))) (fun _ _ => rfl)
 (s_for (EL := (fun (s : ((((Int × Int × (List (List Int)) × (List Int)) × (List (List Int))) × ((List (List Int)) × (List Int))) × (List Int))) (u : (List Int)) => ([.sh (eI s.1.1.1.1), .sh (eI s.1.1.1.2.1), .sh ((eL (eL eI)) s.1.1.1.2.2.1), .sh ((eL eI) s.1.1.1.2.2.2), .sh ((eL (eL eI)) s.1.1.2), .sh ((eL (eL eI)) s.1.2.1), .sh ((eL eI) s.1.2.2), .ow (u.map eI), .un, .un, .un, .un, .un] : Rho))) (EB := (fun (s7 : ((((Int × Int × (List (List Int)) × (List Int)) × (List (List Int))) × ((List (List Int)) × (List Int))) × (List Int))) (s : ((Int × (List Int)) × (List Int))) => ([.sh (eI s7.1.1.1.1), .sh (eI s7.1.1.1.2.1), .sh ((eL (eL eI)) s7.1.1.1.2.2.1), .sh ((eL eI) s7.1.1.1.2.2.2), .sh ((eL (eL eI)) s7.1.1.2), .sh ((eL (eL eI)) s7.1.2.1), .sh ((eL eI) s7.1.2.2), .ow (s.2.map eI), .sh (eI s.1.1), .sh ((eL eI) s.1.2), .un, .un, .un] : Rho))) (s0 := (fun s : ((((Int × Int × (List (List Int)) × (List Int)) × (List (List Int))) × ((List (List Int)) × (List Int))) × (List Int)) => s.2)) (E1 := (fun s : (((((Int × Int × (List (List Int)) × (List Int)) × (List (List Int))) × ((List (List Int)) × (List Int))) × (List Int)) × (List Int)) => ([.sh (eI s.1.1.1.1.1), .sh (eI s.1.1.1.1.2.1), .sh ((eL (eL eI)) s.1.1.1.1.2.2.1), .sh ((eL eI) s.1.1.1.1.2.2.2), .sh ((eL (eL eI)) s.1.1.1.2), .sh ((eL (eL eI)) s.1.1.2.1), .sh ((eL eI) s.1.1.2.2), .ow (s.2.map eI), .un, .un, .un, .un, .un] : Rho))) (π := Prod.mk) (VIP.e (w_zipL (va_cons (v_var (enc := (eL eI)) (i := 6) (v := (fun s : ((((Int × Int × (List (List Int)) × (List Int)) × (List (List Int))) × ((List (List Int)) × (List Int))) × (List Int)) => s.1.2.2)) (fun _ => rfl)) (va_one (v_var (enc := (eL (eL eI))) (i := 5) (v := (fun s : ((((Int × Int × (List (List Int)) × (List Int)) × (List (List Int))) × ((List (List Int)) × (List Int))) × (List Int)) => s.1.2.1)) (fun _ => rfl)))))) (fun _ => rfl) (fun _ _ _ => rfl) (fun s7 =>
 (VB.last (s_si (enc := eI) (π := (fun s : ((Int × (List Int)) × (List Int)) => s.2)) (E1 := (fun s : (((Int × (List Int)) × (List Int)) × (List Int)) => ([.sh (eI s7.1.1.1.1), .sh (eI s7.1.1.1.2.1), .sh ((eL (eL eI)) s7.1.1.1.2.2.1), .sh ((eL eI) s7.1.1.1.2.2.2), .sh ((eL (eL eI)) s7.1.1.2), .sh ((eL (eL eI)) s7.1.2.1), .sh ((eL eI) s7.1.2.2), .ow (s.2.map eI), .sh (eI s.1.1.1), .sh ((eL eI) s.1.1.2), .un, .un, .un] : Rho))) (ins := Prod.mk) (fun _ => rfl) (fun _ => rfl) (.inl rfl) (v_do2p o_ixL (v_var (enc := (eL eI)) (i := 9) (v := (fun s : ((Int × (List Int)) × (List Int)) => s.1.2)) (fun _ => rfl)) (v_var (enc := eI) (i := 1) (v := (fun s : ((Int × (List Int)) × (List Int)) => s7.1.1.1.2.1)) (fun _ => rfl))) (VP.e (v_var (enc := eI) (i := 8) (v := (fun s : ((Int × (List Int)) × (List Int)) => s.1.1)) (fun _ => rfl))) (fun _ _ => rfl)
 (s_endL (π := (fun s : (((Int × (List Int)) × (List Int)) × (List Int)) => s.2)) (fun _ => rfl))))) (fun _ _ => rfl)
 (s_set (E1 := (fun s : ((((((Int × Int × (List (List Int)) × (List Int)) × (List (List Int))) × ((List (List Int)) × (List Int))) × (List Int)) × (List Int)) × (List (List Int))) => ([.sh (eI s.1.1.1.1.1.1), .sh (eI s.1.1.1.1.1.2.1), .sh ((eL (eL eI)) s.1.1.1.1.1.2.2.1), .sh ((eL eI) s.1.1.1.1.1.2.2.2), .sh ((eL (eL eI)) s.1.1.1.1.2), .sh ((eL (eL eI)) s.1.1.1.2.1), .sh ((eL eI) s.1.1.1.2.2), .ow (s.1.2.map eI), .un, .un, .sh ((eL (eL eI)) s.2), .un, .un] : Rho))) (ins := Prod.mk) (fun _ => rfl) (.inl rfl) (v_nE (v_lc (E2 := (fun s : ((((((Int × Int × (List (List Int)) × (List Int)) × (List (List Int))) × ((List (List Int)) × (List Int))) × (List Int)) × (List Int)) × Int) => ([.sh (eI s.1.1.1.1.1.1), .sh (eI s.1.1.1.1.1.2.1), .sh ((eL (eL eI)) s.1.1.1.1.1.2.2.1), .sh ((eL eI) s.1.1.1.1.1.2.2.2), .sh ((eL (eL eI)) s.1.1.1.1.2), .sh ((eL (eL eI)) s.1.1.1.2.1), .sh ((eL eI) s.1.1.1.2.2), .ow (s.1.2.map eI), .un, .un, .un, .un, .sh (eI s.2)] : Rho))) (w_rng1 (VP.e (v_var (enc := eI) (i := 1) (v := (fun s : (((((Int × Int × (List (List Int)) × (List Int)) × (List (List Int))) × ((List (List Int)) × (List Int))) × (List Int)) × (List Int)) => s.1.1.1.1.2.1)) (fun _ => rfl)))) (fun _ _ => rfl) (VQ.e (v_tst (v_do2t (o_nin ceq_I (by decide)) (v_var (enc := eI) (i := 12) (v := (fun s : ((((((Int × Int × (List (List Int)) × (List Int)) × (List (List Int))) × ((List (List Int)) × (List Int))) × (List Int)) × (List Int)) × Int) => s.2)) (fun _ => rfl)) (v_var (enc := (eL eI)) (i := 6) (v := (fun s : ((((((Int × Int × (List (List Int)) × (List Int)) × (List (List Int))) × ((List (List Int)) × (List Int))) × (List Int)) × (List Int)) × Int) => s.1.1.1.2.2)) (fun _ => rfl))))) (v_call (T := T_step_of) v_step_of (fun _ => rfl) (va_cons (v_var (enc := eI) (i := 0) (v := (fun s : ((((((Int × Int × (List (List Int)) × (List Int)) × (List (List Int))) × ((List (List Int)) × (List Int))) × (List Int)) × (List Int)) × Int) => s.1.1.1.1.1.1)) (fun _ => rfl)) (va_cons (v_var (enc := eI) (i := 1) (v := (fun s : ((((((Int × Int × (List (List Int)) × (List Int)) × (List (List Int))) × ((List (List Int)) × (List Int))) × (List Int)) × (List Int)) × Int) => s.1.1.1.1.1.2.1)) (fun _ => rfl)) (va_cons (v_var (enc := (eL (eL eI))) (i := 5) (v := (fun s : ((((((Int × Int × (List (List Int)) × (List Int)) × (List (List Int))) × ((List (List Int)) × (List Int))) × (List Int)) × (List Int)) × Int) => s.1.1.1.2.1)) (fun _ => rfl)) (va_cons (v_var (enc := (eL eI)) (i := 6) (v := (fun s : ((((((Int × Int × (List (List Int)) × (List Int)) × (List (List Int))) × ((List (List Int)) × (List Int))) × (List Int)) × (List Int)) × Int) => s.1.1.1.2.2)) (fun _ => rfl)) (va_one (v_var (enc := eI) (i := 12) (v := (fun s : ((((((Int × Int × (List (List Int)) × (List Int)) × (List (List Int))) × ((List (List Int)) × (List Int))) × (List Int)) × (List Int)) × Int) => s.2)) (fun _ => rfl)))))))))) (fun _ _ => rfl)
 (s_fz (fun _ => rfl) (s_ret out_F (fun _ => rfl) (VP.e (v_tup (va_cons (v_var (enc := (eL eI)) (i := 7) (v := (fun s : ((((((Int × Int × (List (List Int)) × (List Int)) × (List (List Int))) × ((List (List Int)) × (List Int))) × (List Int)) × (List Int)) × (List (List Int))) => s.1.2)) (fun _ => rfl)) (va_one (v_var (enc := (eL (eL eI))) (i := 10) (v := (fun s : ((((((Int × Int × (List (List Int)) × (List Int)) × (List (List Int))) × ((List (List Int)) × (List Int))) × (List Int)) × (List Int)) × (List (List Int))) => s.2)) (fun _ => rfl)))) (fun _ => Nat.le_of_ble_eq_true rfl))))))))))))⟩
def T_solutions (x : (Int × Int × (List (List Int)) × (List Int))) : Res ((List Int) × (List (List Int))) := tv_solutions.1 x
theorem v_solutions (x : (Int × Int × (List (List Int)) × (List Int))) : Le (eT2 (eL eI) (eL (eL eI))) (T_solutions x) (S_solutions [eI (x.1), eI (x.2.1), (eL (eL eI)) (x.2.2.1), (eL eI) (x.2.2.2)]) := fn_of (g := g_solutions) (tv_solutions.2 x)
def tv_leading_through : { t : (Int × (List (Int × Int))) → Res (List Int) // VB (obF (eL eI)) (fun s : (Int × (List (Int × Int))) => ([.sh (eI s.1), .sh ((eL (eT2 eI eI)) s.2), .un, .un, .un, .un, .un, .un] : Rho)) g_leading_through t } := ⟨_,
 (s_set (E1 := (fun s : ((Int × (List (Int × Int))) × (List (List Int))) => ([.sh (eI s.1.1), .sh ((eL (eT2 eI eI)) s.1.2), .sh ((eL (eL eI)) s.2), .un, .un, .un, .un, .un] : Rho))) (ins := Prod.mk) (fun _ => rfl) (.inl rfl) (v_nE (v_lc (E2 := (fun s : ((Int × (List (Int × Int))) × (Int × Int)) => ([.sh (eI s.1.1), .sh ((eL (eT2 eI eI)) s.1.2), .un, .un, .sh (eI s.2.2), .sh (eI s.2.1), .un, .un] : Rho))) (VIP.e (w_list (v_var (enc := (eL (eT2 eI eI))) (i := 1) (v := (fun s : (Int × (List (Int × Int))) => s.2)) (fun _ => rfl)))) (fun _ _ => rfl) vq_noIf (v_nE (v_lc (E2 := (fun s : (((Int × (List (Int × Int))) × (Int × Int)) × Int) => ([.sh (eI s.1.1.1), .sh ((eL (eT2 eI eI)) s.1.1.2), .un, .un, .sh (eI s.1.2.2), .sh (eI s.1.2.1), .sh (eI s.2), .un] : Rho))) (w_rng1 (VP.e (v_bi (enc := eI) (T := fun x : List _ => (x.length : Int)) b_lenL (va_one (v_var (enc := (eL (eT2 eI eI))) (i := 1) (v := (fun s : ((Int × (List (Int × Int))) × (Int × Int)) => s.1.2)) (fun _ => rfl)))))) (fun _ _ => rfl) vq_noIf (v_call (T := T_raised) v_raised (fun _ => rfl) (va_cons (v_var (enc := eI) (i := 0) (v := (fun s : (((Int × (List (Int × Int))) × (Int × Int)) × Int) => s.1.1.1)) (fun _ => rfl)) (va_cons (v_var (enc := eI) (i := 5) (v := (fun s : (((Int × (List (Int × Int))) × (Int × Int)) × Int) => s.1.2.1)) (fun _ => rfl)) (va_one (v_var (enc := eI) (i := 6) (v := (fun s : (((Int × (List (Int × Int))) × (Int × Int)) × Int) => s.2)) (fun _ => rfl)))))))))) (fun _ _ => rfl)
 (s_asg (E1 := (fun s : (((Int × (List (Int × Int))) × (List (List Int))) × ((List Int) × (List (List Int)))) => ([.sh (eI s.1.1.1), .sh ((eL (eT2 eI eI)) s.1.1.2), .sh ((eL (eL eI)) s.1.2), .sh ((eL eI) s.2.1), .sh ((eL (eL eI)) s.2.2), .un, .un, .un] : Rho))) (ins := Prod.mk) (v_callE (T := T_solutions) v_solutions (fun _ => rfl) (va_consE (VP.e (v_var (enc := eI) (i := 0) (v := (fun s : ((Int × (List (Int × Int))) × (List (List Int))) => s.1.1)) (fun _ => rfl))) (va_consE (VP.e (v_bi (enc := eI) (T := fun x : List _ => (x.length : Int)) b_lenL (va_one (v_var (enc := (eL (eT2 eI eI))) (i := 1) (v := (fun s : ((Int × (List (Int × Int))) × (List (List Int))) => s.1.2)) (fun _ => rfl))))) (va_consE (VP.e (v_var (enc := (eL (eL eI))) (i := 2) (v := (fun s : ((Int × (List (Int × Int))) × (List (List Int))) => s.2)) (fun _ => rfl))) (va_oneE (v_nE (v_lc (E2 := (fun s : (((Int × (List (Int × Int))) × (List (List Int))) × (Int × Int)) => ([.sh (eI s.1.1.1), .sh ((eL (eT2 eI eI)) s.1.1.2), .sh ((eL (eL eI)) s.1.2), .un, .sh (eI s.2.1), .un, .un, .sh (eI s.2.2)] : Rho))) (VIP.e (w_list (v_var (enc := (eL (eT2 eI eI))) (i := 1) (v := (fun s : ((Int × (List (Int × Int))) × (List (List Int))) => s.1.2)) (fun _ => rfl)))) (fun _ _ => rfl) vq_noIf (VP.e (v_var (enc := eI) (i := 7) (v := (fun s : (((Int × (List (Int × Int))) × (List (List Int))) × (Int × Int)) => s.2.2)) (fun _ => rfl)))))))))) (fun _ _ => rfl)
 (s_ret out_F (fun _ => rfl) (VP.e (v_var (enc := (eL eI)) (i := 3) (v := (fun s : (((Int × (List (Int × Int))) × (List (List Int))) × ((List Int) × (List (List Int)))) => s.2.1)) (fun _ => rfl))))))⟩
def T_leading_through (x : (Int × (List (Int × Int)))) : Res (List Int) := tv_leading_through.1 x
theorem v_leading_through (x : (Int × (List (Int × Int)))) : Le (eL eI) (T_leading_through x) (S_leading_through [eI (x.1), (eL (eT2 eI eI)) (x.2)]) := fn_of (g := g_leading_through) (tv_leading_through.2 x)
def tv_polynomial_of : { t : (Int × (List (Int × Int))) → Res (List Int) // VB (obF (eL eI)) (fun s : (Int × (List (Int × Int))) => ([.sh (eI s.1), .sh ((eL (eT2 eI eI)) s.2)] : Rho)) g_polynomial_of t } := ⟨_,
 (s_guardP nf_rai (fun _ => rfl) (v_or (v_tst (v_do2t o_lt (v_bi (enc := eI) (T := fun x : List _ => (x.length : Int)) b_lenL (va_one (v_var (enc := (eL (eT2 eI eI))) (i := 1) (v := (fun s : (Int × (List (Int × Int))) => s.2)) (fun _ => rfl)))) (v_int (i := 1)))) (v_tst (v_do2t o_gt (v_bi (enc := eI) (T := fun x : List _ => (x.length : Int)) b_lenL (va_one (v_var (enc := (eL (eT2 eI eI))) (i := 1) (v := (fun s : (Int × (List (Int × Int))) => s.2)) (fun _ => rfl)))) (v_int (i := 10)))))
 s_rai
 (s_ex (fun _ => rfl) (v_call (T := T_check_points) v_check_points (fun _ => rfl) (va_cons (v_var (enc := eI) (i := 0) (v := (fun s : (Int × (List (Int × Int))) => s.1)) (fun _ => rfl)) (va_one (v_var (enc := (eL (eT2 eI eI))) (i := 1) (v := (fun s : (Int × (List (Int × Int))) => s.2)) (fun _ => rfl)))))
 (s_ret out_F (fun _ => rfl) (v_call (T := T_leading_through) v_leading_through (fun _ => rfl) (va_cons (v_var (enc := eI) (i := 0) (v := (fun s : (Int × (List (Int × Int))) => s.1)) (fun _ => rfl)) (va_one (v_var (enc := (eL (eT2 eI eI))) (i := 1) (v := (fun s : (Int × (List (Int × Int))) => s.2)) (fun _ => rfl))))))))⟩
def T_polynomial_of (x : (Int × (List (Int × Int)))) : Res (List Int) := tv_polynomial_of.1 x
theorem v_polynomial_of (x : (Int × (List (Int × Int)))) : Le (eL eI) (T_polynomial_of x) (S_polynomial_of [eI (x.1), (eL (eT2 eI eI)) (x.2)]) := fn_of (g := g_polynomial_of) (tv_polynomial_of.2 x)
def tv_secret_of : { t : (Int × (List (Int × Int))) → Res Int // VB (obF eI) (fun s : (Int × (List (Int × Int))) => ([.sh (eI s.1), .sh ((eL (eT2 eI eI)) s.2)] : Rho)) g_secret_of t } := ⟨_,
 (s_ret out_F (fun _ => rfl) (v_do2 o_ixL (v_call (T := T_polynomial_of) v_polynomial_of (fun _ => rfl) (va_cons (v_var (enc := eI) (i := 0) (v := (fun s : (Int × (List (Int × Int))) => s.1)) (fun _ => rfl)) (va_one (v_var (enc := (eL (eT2 eI eI))) (i := 1) (v := (fun s : (Int × (List (Int × Int))) => s.2)) (fun _ => rfl))))) (VP.e (v_int (i := 0)))))⟩
def T_secret_of (x : (Int × (List (Int × Int)))) : Res Int := tv_secret_of.1 x
theorem v_secret_of (x : (Int × (List (Int × Int)))) : Le eI (T_secret_of x) (S_secret_of [eI (x.1), (eL (eT2 eI eI)) (x.2)]) := fn_of (g := g_secret_of) (tv_secret_of.2 x)
def tv__law_numbers : { t : ((List Int) × Int) → Res (List Int) // VB (obF (eL eI)) (fun s : ((List Int) × Int) => ([.sh ((eL eI) s.1), .sh (eI s.2), .un, .un, .un, .un, .un, .un, .un] : Rho)) g__law_numbers t } := ⟨_,
 (s_ownP (E1 := (fun s : (((List Int) × Int) × (List Int)) => ([.sh ((eL eI) s.1.1), .sh (eI s.1.2), .ow (s.2.map eI), .un, .un, .un, .un, .un, .un] : Rho))) (ins := Prod.mk) (fun _ => rfl) (.inl rfl) (v_nlP (vi_nil (enc := eI)) (fun _ => Nat.le_of_ble_eq_true rfl)) (fun _ _ => rfl)
 (s_for (EL := (fun (s : (((List Int) × Int) × (List Int))) (u : (List Int)) => ([.sh ((eL eI) s.1.1), .sh (eI s.1.2), .ow (u.map eI), .un, .un, .un, .un, .un, .un] : Rho))) (EB := (fun (s8 : (((List Int) × Int) × (List Int))) (s : (Int × (List Int))) => ([.sh ((eL eI) s8.1.1), .sh (eI s8.1.2), .ow (s.2.map eI), .sh (eI s.1), .un, .un, .un, .un, .un] : Rho))) (s0 := (fun s : (((List Int) × Int) × (List Int)) => s.2)) (E1 := (fun s : ((((List Int) × Int) × (List Int)) × (List Int)) => ([.sh ((eL eI) s.1.1.1), .sh (eI s.1.1.2), .ow (s.2.map eI), .un, .un, .un, .un, .un, .un] : Rho))) (π := Prod.mk) (w_rng1 (VP.e (v_bi (enc := eI) (T := fun x : List _ => (x.length : Int)) b_lenL (va_one (v_var (enc := (eL eI)) (i := 0) (v := (fun s : (((List Int) × Int) × (List Int)) => s.1.1)) (fun _ => rfl)))))) (fun _ => rfl) (fun _ _ _ => rfl) (fun s8 =>
 (s_set (E1 := (fun s : ((Int × (List Int)) × Int) => ([.sh ((eL eI) s8.1.1), .sh (eI s8.1.2), .ow (s.1.2.map eI), .sh (eI s.1.1), .un, .un, .sh (eI s.2), .un, .un] : Rho))) (ins := Prod.mk) (fun _ => rfl) (.inl rfl) (v_biEt b_abs (va_oneE (v_biEt b_int (va_oneE (v_do2p o_ixL (v_var (enc := (eL eI)) (i := 0) (v := (fun s : (Int × (List Int)) => s8.1.1)) (fun _ => rfl)) (v_var (enc := eI) (i := 3) (v := (fun s : (Int × (List Int)) => s.1)) (fun _ => rfl))))))) (fun _ _ => rfl)
 (s_ifP (fun _ => rfl) (v_tst (v_do2t o_ge (v_var (enc := eI) (i := 6) (v := (fun s : ((Int × (List Int)) × Int) => s.2)) (fun _ => rfl)) (v_powc (r := 1000000000000000000) rfl)))
 (VB.last (s_for (EL := (fun (s : ((Int × (List Int)) × Int)) (u : ((List Int) × Int)) => ([.sh ((eL eI) s8.1.1), .sh (eI s8.1.2), .ow (u.1.map eI), .sh (eI s.1.1), .un, .un, .sh (eI u.2), .un, .un] : Rho))) (EB := (fun (s9 : ((Int × (List Int)) × Int)) (s : (Int × ((List Int) × Int))) => ([.sh ((eL eI) s8.1.1), .sh (eI s8.1.2), .ow (s.2.1.map eI), .sh (eI s9.1.1), .un, .un, .sh (eI s.2.2), .sh (eI s.1), .un] : Rho))) (s0 := (fun s : ((Int × (List Int)) × Int) => (s.1.2, s.2))) (E1 := (fun s : (((Int × (List Int)) × Int) × ((List Int) × Int)) => ([.sh ((eL eI) s8.1.1), .sh (eI s8.1.2), .ow (s.2.1.map eI), .sh (eI s.1.1.1), .un, .un, .sh (eI s.2.2), .un, .un] : Rho))) (π := Prod.mk) (VIP.e (w_rngc (by decide))) (fun _ => rfl) (fun _ _ _ => rfl) (fun s9 =>
 (s_ifP (fun _ => rfl) (v_and (v_tst (v_do2t o_gt (v_var (enc := eI) (i := 6) (v := (fun s : (Int × ((List Int) × Int)) => s.2.2)) (fun _ => rfl)) (v_int (i := 0)))) (v_tst (v_do2t o_lt (v_bi (enc := eI) (T := fun x : List _ => (x.length : Int)) b_lenL (va_one (v_var (enc := (eL eI)) (i := 2) (v := (fun s : (Int × ((List Int) × Int)) => s.2.1)) (fun _ => rfl)))) (v_var (enc := eI) (i := 1) (v := (fun s : (Int × ((List Int) × Int)) => s8.1.2)) (fun _ => rfl)))))
 (s_app (enc := eI) (π := (fun s : (Int × ((List Int) × Int)) => s.2.1)) (E1 := (fun s : ((Int × ((List Int) × Int)) × (List Int)) => ([.sh ((eL eI) s8.1.1), .sh (eI s8.1.2), .ow (s.2.map eI), .sh (eI s9.1.1), .un, .un, .sh (eI s.1.2.2), .sh (eI s.1.1), .un] : Rho))) (ins := Prod.mk) (fun _ => rfl) (fun _ => rfl) (.inl rfl) (VP.e (v_modc (c := 10007) (by decide) (v_var (enc := eI) (i := 6) (v := (fun s : (Int × ((List Int) × Int)) => s.2.2)) (fun _ => rfl)))) (fun _ _ => rfl)
 (VB.last (s_setP (E1 := (fun s : (((Int × ((List Int) × Int)) × (List Int)) × Int) => ([.sh ((eL eI) s8.1.1), .sh (eI s8.1.2), .ow (s.1.2.map eI), .sh (eI s9.1.1), .un, .un, .sh (eI s.2), .sh (eI s.1.1.1), .un] : Rho))) (ins := Prod.mk) (fun _ => rfl) (.inl rfl) (v_fdivc (c := 10007) (by decide) (v_var (enc := eI) (i := 6) (v := (fun s : ((Int × ((List Int) × Int)) × (List Int)) => s.1.2.2)) (fun _ => rfl))) (fun _ _ => rfl)
 (s_endL (π := (fun s : (((Int × ((List Int) × Int)) × (List Int)) × Int) => (s.1.2, s.2))) (fun _ => rfl)))))
 (s_endL (π := (fun s : (Int × ((List Int) × Int)) => (s.2.1, s.2.2))) (fun _ => rfl)))) (fun _ _ => rfl)
 (s_endL (π := (fun s : (((Int × (List Int)) × Int) × ((List Int) × Int)) => s.2.1)) (fun _ => rfl))))
 (s_ifP (fun _ => rfl) (v_tst (v_do2t o_lt (v_bi (enc := eI) (T := fun x : List _ => (x.length : Int)) b_lenL (va_one (v_var (enc := (eL eI)) (i := 2) (v := (fun s : ((Int × (List Int)) × Int) => s.1.2)) (fun _ => rfl)))) (v_var (enc := eI) (i := 1) (v := (fun s : ((Int × (List Int)) × Int) => s8.1.2)) (fun _ => rfl))))
 (s_setP (E1 := (fun s : (((Int × (List Int)) × Int) × Int) => ([.sh ((eL eI) s8.1.1), .sh (eI s8.1.2), .ow (s.1.1.2.map eI), .sh (eI s.1.1.1), .un, .un, .sh (eI s.1.2), .un, .sh (eI s.2)] : Rho))) (ins := Prod.mk) (fun _ => rfl) (.inl rfl) (v_modc (c := 2147483647) (by decide) (v_bi (T := fun x : Int => x) b_int (va_one (v_do2t o_add (v_do2t o_add (v_mulcr (c := 48271) (by decide) (v_var (enc := eI) (i := 6) (v := (fun s : ((Int × (List Int)) × Int) => s.2)) (fun _ => rfl))) (v_mulcr (c := 69621) (by decide) (v_var (enc := eI) (i := 3) (v := (fun s : ((Int × (List Int)) × Int) => s.1.1)) (fun _ => rfl)))) (v_int (i := 11)))))) (fun _ _ => rfl)
 (VB.last (s_app (enc := eI) (π := (fun s : (((Int × (List Int)) × Int) × Int) => s.1.1.2)) (E1 := (fun s : ((((Int × (List Int)) × Int) × Int) × (List Int)) => ([.sh ((eL eI) s8.1.1), .sh (eI s8.1.2), .ow (s.2.map eI), .sh (eI s.1.1.1.1), .un, .un, .sh (eI s.1.1.2), .un, .sh (eI s.1.2)] : Rho))) (ins := Prod.mk) (fun _ => rfl) (fun _ => rfl) (.inl rfl) (VP.e (v_fdivc (c := 3) (by decide) (v_modc (c := 2147483647) (by decide) (v_bi (T := fun x : Int => x) b_int (va_one (v_do2t o_add (v_do2t o_add (v_mulcr (c := 16807) (by decide) (v_var (enc := eI) (i := 8) (v := (fun s : (((Int × (List Int)) × Int) × Int) => s.2)) (fun _ => rfl))) (v_mulc (c := 7) (by decide) (v_var (enc := eI) (i := 3) (v := (fun s : (((Int × (List Int)) × Int) × Int) => s.1.1.1)) (fun _ => rfl)))) (v_int (i := 3)))))))) (fun _ _ => rfl)
 (s_endL (π := (fun s : ((((Int × (List Int)) × Int) × Int) × (List Int)) => s.2)) (fun _ => rfl)))))
 (s_endL (π := (fun s : ((Int × (List Int)) × Int) => s.1.2)) (fun _ => rfl)))))) (fun _ _ => rfl)
 (s_setP (E1 := (fun s : (((((List Int) × Int) × (List Int)) × (List Int)) × Int) => ([.sh ((eL eI) s.1.1.1.1), .sh (eI s.1.1.1.2), .ow (s.1.2.map eI), .un, .sh (eI s.2), .un, .un, .un, .un] : Rho))) (ins := Prod.mk) (fun _ => rfl) (.inr (fun _ => rfl)) (v_bi (enc := eI) (T := fun x : List _ => (x.length : Int)) b_lenL (va_one (v_var (enc := (eL eI)) (i := 2) (v := (fun s : ((((List Int) × Int) × (List Int)) × (List Int)) => s.2)) (fun _ => rfl)))) (fun _ _ => rfl)
 (s_setP (E1 := (fun s : ((((((List Int) × Int) × (List Int)) × (List Int)) × Int) × Int) => ([.sh ((eL eI) s.1.1.1.1.1), .sh (eI s.1.1.1.1.2), .ow (s.1.1.2.map eI), .un, .sh (eI s.1.2), .sh (eI s.2), .un, .un, .un] : Rho))) (ins := Prod.mk) (fun _ => rfl) (.inl rfl) (v_do2t o_add (v_int (i := 5381)) (v_bi (enc := eI) (T := fun x : List _ => (x.length : Int)) b_lenL (va_one (v_var (enc := (eL eI)) (i := 0) (v := (fun s : (((((List Int) × Int) × (List Int)) × (List Int)) × Int) => s.1.1.1.1)) (fun _ => rfl))))) (fun _ _ => rfl)
 (s_for (EL := (fun (s : ((((((List Int) × Int) × (List Int)) × (List Int)) × Int) × Int)) (u : ((List Int) × Int)) => ([.sh ((eL eI) s.1.1.1.1.1), .sh (eI s.1.1.1.1.2), .ow (u.1.map eI), .un, .sh (eI s.1.2), .sh (eI u.2), .un, .un, .un] : Rho))) (EB := (fun (s10 : ((((((List Int) × Int) × (List Int)) × (List Int)) × Int) × Int)) (s : (Int × ((List Int) × Int))) => ([.sh ((eL eI) s10.1.1.1.1.1), .sh (eI s10.1.1.1.1.2), .ow (s.2.1.map eI), .sh (eI s.1), .sh (eI s10.1.2), .sh (eI s.2.2), .un, .un, .un] : Rho))) (s0 := (fun s : ((((((List Int) × Int) × (List Int)) × (List Int)) × Int) × Int) => (s.1.1.2, s.2))) (E1 := (fun s : (((((((List Int) × Int) × (List Int)) × (List Int)) × Int) × Int) × ((List Int) × Int)) => ([.sh ((eL eI) s.1.1.1.1.1.1), .sh (eI s.1.1.1.1.1.2), .ow (s.2.1.map eI), .un, .sh (eI s.1.1.2), .sh (eI s.2.2), .un, .un, .un] : Rho))) (π := Prod.mk) (w_rng1 (VP.e (v_bi (enc := eI) (T := fun x : Int × Int => if x.2 > x.1 then x.2 else x.1) b_max (va_cons (v_int (i := 0)) (va_one (v_do2t o_sub (v_var (enc := eI) (i := 1) (v := (fun s : ((((((List Int) × Int) × (List Int)) × (List Int)) × Int) × Int) => s.1.1.1.1.2)) (fun _ => rfl)) (v_var (enc := eI) (i := 4) (v := (fun s : ((((((List Int) × Int) × (List Int)) × (List Int)) × Int) × Int) => s.1.2)) (fun _ => rfl)))))))) (fun _ => rfl) (fun _ _ _ => rfl) (fun s10 =>
 (s_join (E1 := (fun s : ((List Int) × Int × Int) => ([.sh ((eL eI) s10.1.1.1.1.1), .sh (eI s10.1.1.1.1.2), .ow (s.1.map eI), .sh (eI s.2.1), .sh (eI s10.1.2), .sh (eI s.2.2), .un, .un, .un] : Rho))) (s_ifP (fun _ => rfl) (v_tst (v_do2t o_gt (v_var (enc := eI) (i := 4) (v := (fun s : (Int × ((List Int) × Int)) => s10.1.2)) (fun _ => rfl)) (v_int (i := 0))))
 (VB.last (s_set (E1 := (fun s : ((Int × ((List Int) × Int)) × Int) => ([.sh ((eL eI) s10.1.1.1.1.1), .sh (eI s10.1.1.1.1.2), .ow (s.1.2.1.map eI), .sh (eI s.1.1), .sh (eI s10.1.2), .sh (eI s.2), .un, .un, .un] : Rho))) (ins := Prod.mk) (fun _ => rfl) (.inr (fun _ => rfl)) (v_do2e o_add (VP.e (v_var (enc := eI) (i := 5) (v := (fun s : (Int × ((List Int) × Int)) => s.2.2)) (fun _ => rfl))) (v_do2 o_ixL (VP.e (v_var (enc := (eL eI)) (i := 2) (v := (fun s : (Int × ((List Int) × Int)) => s.2.1)) (fun _ => rfl))) (v_do2p o_mod (v_var (enc := eI) (i := 3) (v := (fun s : (Int × ((List Int) × Int)) => s.1)) (fun _ => rfl)) (v_var (enc := eI) (i := 4) (v := (fun s : (Int × ((List Int) × Int)) => s10.1.2)) (fun _ => rfl))))) (fun _ _ => rfl)
 (s_endJ (π := (fun s : ((Int × ((List Int) × Int)) × Int) => (s.1.2.1, s.1.1, s.2))) (fun _ => rfl))))
 (s_endJ (π := (fun s : (Int × ((List Int) × Int)) => (s.2.1, s.1, s.2.2))) (fun _ => rfl)))
 (s_setP (E1 := (fun s : (((List Int) × Int × Int) × Int) => ([.sh ((eL eI) s10.1.1.1.1.1), .sh (eI s10.1.1.1.1.2), .ow (s.1.1.map eI), .sh (eI s.1.2.1), .sh (eI s10.1.2), .sh (eI s.2), .un, .un, .un] : Rho))) (ins := Prod.mk) (fun _ => rfl) (.inl rfl) (v_modc (c := 2147483647) (by decide) (v_bi (T := fun x : Int => x) b_int (va_one (v_do2t o_add (v_mulcr (c := 48271) (by decide) (v_var (enc := eI) (i := 5) (v := (fun s : ((List Int) × Int × Int) => s.2.2)) (fun _ => rfl))) (v_var (enc := eI) (i := 3) (v := (fun s : ((List Int) × Int × Int) => s.2.1)) (fun _ => rfl)))))) (fun _ _ => rfl)
 (VB.last (s_app (enc := eI) (π := (fun s : (((List Int) × Int × Int) × Int) => s.1.1)) (E1 := (fun s : ((((List Int) × Int × Int) × Int) × (List Int)) => ([.sh ((eL eI) s10.1.1.1.1.1), .sh (eI s10.1.1.1.1.2), .ow (s.2.map eI), .sh (eI s.1.1.2.1), .sh (eI s10.1.2), .sh (eI s.1.2), .un, .un, .un] : Rho))) (ins := Prod.mk) (fun _ => rfl) (fun _ => rfl) (.inl rfl) (VP.e (v_fdivc (c := 7) (by decide) (v_var (enc := eI) (i := 5) (v := (fun s : (((List Int) × Int × Int) × Int) => s.2)) (fun _ => rfl)))) (fun _ _ => rfl)
 (s_endL (π := (fun s : ((((List Int) × Int × Int) × Int) × (List Int)) => (s.2, s.1.2))) (fun _ => rfl))))))) (fun _ _ => rfl)
 (s_fz (fun _ => rfl) (s_ret out_F (fun _ => rfl) (VP.e (v_cutL (v_var (enc := (eL eI)) (i := 2) (v := (fun s : (((((((List Int) × Int) × (List Int)) × (List Int)) × Int) × Int) × ((List Int) × Int)) => s.2.1)) (fun _ => rfl)) vo_none (vo_some (v_var (enc := eI) (i := 1) (v := (fun s : (((((((List Int) × Int) × (List Int)) × (List Int)) × Int) × Int) × ((List Int) × Int)) => s.1.1.1.1.1.2)) (fun _ => rfl))))))))))))⟩
def T__law_numbers (x : ((List Int) × Int)) : Res (List Int) := tv__law_numbers.1 x
theorem v__law_numbers (x : ((List Int) × Int)) : Le (eL eI) (T__law_numbers x) (S__law_numbers [(eL eI) (x.1), eI (x.2)]) := fn_of (g := g__law_numbers) (tv__law_numbers.2 x)
def tv__law_is_prime : { t : Int → Res Bool // VB (obF eB) (fun s : Int => ([.sh (eI s), .un] : Rho)) g__law_is_prime t } := ⟨_,
 (s_for (EL := (fun (s : Int) (u : Unit) => ([.sh (eI s), .un] : Rho))) (EB := (fun (s11 : Int) (s : (Int × Unit)) => ([.sh (eI s11), .sh (eI s.1)] : Rho))) (s0 := (fun s : Int => ())) (E1 := (fun s : (Int × Unit) => ([.sh (eI s.1), .un] : Rho))) (π := Prod.mk) (VIP.e (w_rngcc (by decide))) (fun _ => rfl) (fun _ _ _ => rfl) (fun s11 =>
 (s_if (fun _ => rfl) (v_andE (VQ.e (v_tst (v_do2t o_lt (v_var (enc := eI) (i := 1) (v := (fun s : (Int × Unit) => s.1)) (fun _ => rfl)) (v_var (enc := eI) (i := 0) (v := (fun s : (Int × Unit) => s11)) (fun _ => rfl))))) (v_tstE (v_do2e (o_eq ceq_I (by decide)) (v_do2p o_mod (v_var (enc := eI) (i := 0) (v := (fun s : (Int × Unit) => s11)) (fun _ => rfl)) (v_var (enc := eI) (i := 1) (v := (fun s : (Int × Unit) => s.1)) (fun _ => rfl))) (VP.e (v_int (i := 0))))))
 (s_ret (out_L out_F) (fun _ => rfl) (VP.e v_bool))
 (s_endL (π := (fun s : (Int × Unit) => ())) (fun _ => rfl)))) (fun _ _ => rfl)
 (s_ret out_F (fun _ => rfl) (VP.e (v_do2t o_gt (v_var (enc := eI) (i := 0) (v := (fun s : (Int × Unit) => s.1)) (fun _ => rfl)) (v_int (i := 1))))))⟩
def T__law_is_prime (x : Int) : Res Bool := tv__law_is_prime.1 x
theorem v__law_is_prime (x : Int) : Le eB (T__law_is_prime x) (S__law_is_prime [eI (x)]) := fn_of (g := g__law_is_prime) (tv__law_is_prime.2 x)
def tv__law_order : { t : Int → Res Int // VB (obF eI) (fun s : Int => ([.sh (eI s), .un] : Rho)) g__law_order t } := ⟨_,
 (s_for (EL := (fun (s : Int) (u : Unit) => ([.sh (eI s), .un] : Rho))) (EB := (fun (s12 : Int) (s : (Int × Unit)) => ([.sh (eI s12), .sh (eI s.1)] : Rho))) (s0 := (fun s : Int => ())) (E1 := (fun s : (Int × Unit) => ([.sh (eI s.1), .un] : Rho))) (π := Prod.mk) (w_rng2 (VP.e (v_do2t o_add (v_int (i := 11)) (v_modc (c := 1003) (by decide) (v_var (enc := eI) (i := 0) (v := (fun s : Int => s)) (fun _ => rfl))))) (VP.e (v_int (i := 1014)))) (fun _ => rfl) (fun _ _ _ => rfl) (fun s12 =>
 (s_if (fun _ => rfl) (v_andE (v_truE tru_B (v_call (T := T__law_is_prime) v__law_is_prime (fun _ => rfl) (va_one (v_var (enc := eI) (i := 1) (v := (fun s : (Int × Unit) => s.1)) (fun _ => rfl))))) (v_truE tru_B (v_call (T := T__law_is_prime) v__law_is_prime (fun _ => rfl) (va_one (v_do2t o_add (v_mulc (c := 2) (by decide) (v_var (enc := eI) (i := 1) (v := (fun s : (Int × Unit) => s.1)) (fun _ => rfl))) (v_int (i := 1)))))))
 (s_ret (out_L out_F) (fun _ => rfl) (VP.e (v_var (enc := eI) (i := 1) (v := (fun s : (Int × Unit) => s.1)) (fun _ => rfl))))
 (s_endL (π := (fun s : (Int × Unit) => ())) (fun _ => rfl)))) (fun _ _ => rfl)
 (s_ret out_F (fun _ => rfl) (VP.e (v_int (i := 11)))))⟩
def T__law_order (x : Int) : Res Int := tv__law_order.1 x
theorem v__law_order (x : Int) : Le eI (T__law_order x) (S__law_order [eI (x)]) := fn_of (g := g__law_order) (tv__law_order.2 x)
def tv__law_value : { t : (Int × (List Int) × Int) → Res Int // VB (obF eI) (fun s : (Int × (List Int) × Int) => ([.sh (eI s.1), .sh ((eL eI) s.2.1), .sh (eI s.2.2), .un, .un, .un] : Rho)) g__law_value t } := ⟨_,
 (s_setP (E1 := (fun s : ((Int × (List Int) × Int) × Int) => ([.sh (eI s.1.1), .sh ((eL eI) s.1.2.1), .sh (eI s.1.2.2), .sh (eI s.2), .un, .un] : Rho))) (ins := Prod.mk) (fun _ => rfl) (.inl rfl) (v_int (i := 0)) (fun _ _ => rfl)
 (s_setP (E1 := (fun s : (((Int × (List Int) × Int) × Int) × Int) => ([.sh (eI s.1.1.1), .sh ((eL eI) s.1.1.2.1), .sh (eI s.1.1.2.2), .sh (eI s.1.2), .sh (eI s.2), .un] : Rho))) (ins := Prod.mk) (fun _ => rfl) (.inl rfl) (v_int (i := 1)) (fun _ _ => rfl)
 (s_for (EL := (fun (s : (((Int × (List Int) × Int) × Int) × Int)) (u : (Int × Int)) => ([.sh (eI s.1.1.1), .sh ((eL eI) s.1.1.2.1), .sh (eI s.1.1.2.2), .sh (eI u.1), .sh (eI u.2), .un] : Rho))) (EB := (fun (s13 : (((Int × (List Int) × Int) × Int) × Int)) (s : (Int × (Int × Int))) => ([.sh (eI s13.1.1.1), .sh ((eL eI) s13.1.1.2.1), .sh (eI s13.1.1.2.2), .sh (eI s.2.1), .sh (eI s.2.2), .sh (eI s.1)] : Rho))) (s0 := (fun s : (((Int × (List Int) × Int) × Int) × Int) => (s.1.2, s.2))) (E1 := (fun s : ((((Int × (List Int) × Int) × Int) × Int) × (Int × Int)) => ([.sh (eI s.1.1.1.1), .sh ((eL eI) s.1.1.1.2.1), .sh (eI s.1.1.1.2.2), .sh (eI s.2.1), .sh (eI s.2.2), .un] : Rho))) (π := Prod.mk) (VIP.e (w_list (v_var (enc := (eL eI)) (i := 1) (v := (fun s : (((Int × (List Int) × Int) × Int) × Int) => s.1.1.2.1)) (fun _ => rfl)))) (fun _ => rfl) (fun _ _ _ => rfl) (fun s13 =>
 (s_set (E1 := (fun s : ((Int × (Int × Int)) × Int) => ([.sh (eI s13.1.1.1), .sh ((eL eI) s13.1.1.2.1), .sh (eI s13.1.1.2.2), .sh (eI s.2), .sh (eI s.1.2.2), .sh (eI s.1.1)] : Rho))) (ins := Prod.mk) (fun _ => rfl) (.inl rfl) (v_do2e o_add (VP.e (v_var (enc := eI) (i := 3) (v := (fun s : (Int × (Int × Int)) => s.2.1)) (fun _ => rfl))) (v_do2p o_mul (v_var (enc := eI) (i := 5) (v := (fun s : (Int × (Int × Int)) => s.1)) (fun _ => rfl)) (v_var (enc := eI) (i := 4) (v := (fun s : (Int × (Int × Int)) => s.2.2)) (fun _ => rfl)))) (fun _ _ => rfl)
 (VB.last (s_set (E1 := (fun s : (((Int × (Int × Int)) × Int) × Int) => ([.sh (eI s13.1.1.1), .sh ((eL eI) s13.1.1.2.1), .sh (eI s13.1.1.2.2), .sh (eI s.1.2), .sh (eI s.2), .sh (eI s.1.1.1)] : Rho))) (ins := Prod.mk) (fun _ => rfl) (.inl rfl) (v_do2 o_mod (v_biEt b_int (va_oneE (v_do2p o_mul (v_var (enc := eI) (i := 4) (v := (fun s : ((Int × (Int × Int)) × Int) => s.1.2.2)) (fun _ => rfl)) (v_var (enc := eI) (i := 2) (v := (fun s : ((Int × (Int × Int)) × Int) => s13.1.1.2.2)) (fun _ => rfl))))) (VP.e (v_var (enc := eI) (i := 0) (v := (fun s : ((Int × (Int × Int)) × Int) => s13.1.1.1)) (fun _ => rfl)))) (fun _ _ => rfl)
 (s_endL (π := (fun s : (((Int × (Int × Int)) × Int) × Int) => (s.1.2, s.2))) (fun _ => rfl)))))) (fun _ _ => rfl)
 (s_ret out_F (fun _ => rfl) (v_do2p o_mod (v_bi (T := fun x : Int => x) b_int (va_one (v_var (enc := eI) (i := 3) (v := (fun s : ((((Int × (List Int) × Int) × Int) × Int) × (Int × Int)) => s.2.1)) (fun _ => rfl)))) (v_var (enc := eI) (i := 0) (v := (fun s : ((((Int × (List Int) × Int) × Int) × Int) × (Int × Int)) => s.1.1.1.1)) (fun _ => rfl)))))))⟩
def T__law_value (x : (Int × (List Int) × Int)) : Res Int := tv__law_value.1 x
theorem v__law_value (x : (Int × (List Int) × Int)) : Le eI (T__law_value x) (S__law_value [eI (x.1), (eL eI) (x.2.1), eI (x.2.2)]) := fn_of (g := g__law_value) (tv__law_value.2 x)
def tv__law_places : { t : ((List Int) × Int) → Res (List Int) // VB (obF (eL eI)) (fun s : ((List Int) × Int) => ([.sh ((eL eI) s.1), .sh (eI s.2), .un, .un, .un] : Rho)) g__law_places t } := ⟨_,
 (s_ownP (E1 := (fun s : (((List Int) × Int) × (List Int)) => ([.sh ((eL eI) s.1.1), .sh (eI s.1.2), .ow (s.2.map eI), .un, .un] : Rho))) (ins := Prod.mk) (fun _ => rfl) (.inl rfl) (v_nlP (vi_cons (v_int (i := 1)) (vi_cons (v_int (i := 2)) (vi_cons (v_int (i := 3)) (vi_cons (v_int (i := 4)) (vi_cons (v_int (i := 5)) (vi_cons (v_int (i := 6)) (vi_cons (v_int (i := 7)) (vi_cons (v_int (i := 8)) (vi_cons (v_int (i := 9)) (vi_cons (v_int (i := 10)) (vi_nil (enc := eI)))))))))))) (fun _ => Nat.le_of_ble_eq_true rfl)) (fun _ _ => rfl)
 (s_ownP (E1 := (fun s : ((((List Int) × Int) × (List Int)) × (List Int)) => ([.sh ((eL eI) s.1.1.1), .sh (eI s.1.1.2), .ow (s.1.2.map eI), .ow (s.2.map eI), .un] : Rho))) (ins := Prod.mk) (fun _ => rfl) (.inl rfl) (v_nlP (vi_nil (enc := eI)) (fun _ => Nat.le_of_ble_eq_true rfl)) (fun _ _ => rfl)
 (s_for (EL := (fun (s : ((((List Int) × Int) × (List Int)) × (List Int))) (u : ((List Int) × (List Int))) => ([.sh ((eL eI) s.1.1.1), .sh (eI s.1.1.2), .ow (u.1.map eI), .ow (u.2.map eI), .un] : Rho))) (EB := (fun (s14 : ((((List Int) × Int) × (List Int)) × (List Int))) (s : (Int × ((List Int) × (List Int)))) => ([.sh ((eL eI) s14.1.1.1), .sh (eI s14.1.1.2), .ow (s.2.1.map eI), .ow (s.2.2.map eI), .sh (eI s.1)] : Rho))) (s0 := (fun s : ((((List Int) × Int) × (List Int)) × (List Int)) => (s.1.2, s.2))) (E1 := (fun s : (((((List Int) × Int) × (List Int)) × (List Int)) × ((List Int) × (List Int))) => ([.sh ((eL eI) s.1.1.1.1), .sh (eI s.1.1.1.2), .ow (s.2.1.map eI), .ow (s.2.2.map eI), .un] : Rho))) (π := Prod.mk) (w_rng1 (VP.e (v_var (enc := eI) (i := 1) (v := (fun s : ((((List Int) × Int) × (List Int)) × (List Int)) => s.1.1.2)) (fun _ => rfl)))) (fun _ => rfl) (fun _ _ _ => rfl) (fun s14 =>
 (VB.last (s_popApp (enc := eI) (π := (fun s : (Int × ((List Int) × (List Int))) => s.2.2)) (π2 := (fun s : (Int × ((List Int) × (List Int))) => s.2.1)) (E1 := (fun s : ((Int × ((List Int) × (List Int))) × (List Int × List Int)) => ([.sh ((eL eI) s14.1.1.1), .sh (eI s14.1.1.2), .ow (s.2.2.map eI), .ow (s.2.1.map eI), .sh (eI s.1.1)] : Rho))) (ins := Prod.mk) (by decide) (fun _ => rfl) (fun _ => rfl) (fun _ => rfl) (v_do2 o_mod (v_do2p o_ixL (v_var (enc := (eL eI)) (i := 0) (v := (fun s : (Int × ((List Int) × (List Int))) => s14.1.1.1)) (fun _ => rfl)) (v_var (enc := eI) (i := 4) (v := (fun s : (Int × ((List Int) × (List Int))) => s.1)) (fun _ => rfl))) (VP.e (v_bi (enc := eI) (T := fun x : List _ => (x.length : Int)) b_lenL (va_one (v_var (enc := (eL eI)) (i := 2) (v := (fun s : (Int × ((List Int) × (List Int))) => s.2.1)) (fun _ => rfl)))))) (fun _ _ => rfl)
 (s_endL (π := (fun s : ((Int × ((List Int) × (List Int))) × (List Int × List Int)) => (s.2.2, s.2.1))) (fun _ => rfl))))) (fun _ _ => rfl)
 (s_retO (enc := eI) (i := 3) (π := (fun s : (((((List Int) × Int) × (List Int)) × (List Int)) × ((List Int) × (List Int))) => s.2.2)) outO_F (fun _ => rfl)))))⟩
def T__law_places (x : ((List Int) × Int)) : Res (List Int) := tv__law_places.1 x
theorem v__law_places (x : ((List Int) × Int)) : Le (eL eI) (T__law_places x) (S__law_places [(eL eI) (x.1), eI (x.2)]) := fn_of (g := g__law_places) (tv__law_places.2 x)
def boT : Res D → Res Bool
  | .ok (.bool b) => .ok b
  | .ex c => .ex c
  | _ => .bad
theorem bo_le (r : Res D) : Le eB (boT r) r := by
  match r with
  | .ok (.bool b) => rfl
  | .ex c => rfl
  | .bad => trivial
  | .ok (.int _) => trivial
  | .ok .none => trivial
  | .ok (.str _) => trivial
  | .ok (.list _) => trivial
  | .ok (.tuple _) => trivial
  | .ok (.dict _) => trivial
def T__law_word (x : Int × Int × D × List Int) : Res Bool := boT (S__law_word [eI x.1, eI x.2.1, x.2.2.1, eL eI x.2.2.2])
theorem v__law_word (x : Int × Int × D × List Int) : Le eB (T__law_word x) (S__law_word [eI x.1, eI x.2.1, eD x.2.2.1, eL eI x.2.2.2]) := bo_le _
def tv__law_doors : { t : (Int × (List Int) × (List (Int × Int))) → Res Bool // VB (obF eB) (fun s : (Int × (List Int) × (List (Int × Int))) => ([.sh (eI s.1), .sh ((eL eI) s.2.1), .sh ((eL (eT2 eI eI)) s.2.2), .un, .un, .un] : Rho)) g__law_doors t } := ⟨_,
 (s_set (E1 := (fun s : ((Int × (List Int) × (List (Int × Int))) × (List (Int × D × (List Int)))) => ([.sh (eI s.1.1), .sh ((eL eI) s.1.2.1), .sh ((eL (eT2 eI eI)) s.1.2.2), .sh ((eL (eT3 eI eD (eL eI))) s.2), .un, .un] : Rho))) (ins := Prod.mk) (fun _ => rfl) (.inl rfl) (v_nE (v_nlE (vi_consE (VP.e (v_tup (va_cons (v_int (i := 0)) (va_cons (v_as (e' := eD) (w := (eL eD)) (v_nEP (v_nlP (vi_nil (enc := eD)) (fun _ => Nat.le_of_ble_eq_true rfl))) (fun _ => rfl)) (va_one (v_nEP (v_nlP (vi_nil (enc := eI)) (fun _ => Nat.le_of_ble_eq_true rfl)))))) (fun _ => Nat.le_of_ble_eq_true rfl))) (vi_consE (v_tupE (va_consE (VP.e (v_int (i := 0))) (va_consE (v_asE (e' := eD) (w := (eL eI)) (v_nE (v_rep (VIP.e (v_nlP (vi_cons (v_int (i := 0)) (vi_nil (enc := eI))) (fun _ => Nat.le_of_ble_eq_true rfl))) (VP.e (v_int (i := 11))))) (fun _ => rfl)) (va_oneE (VP.e (v_nEP (v_nlP (vi_nil (enc := eI)) (fun _ => Nat.le_of_ble_eq_true rfl))))))) (fun _ => Nat.le_of_ble_eq_true rfl)) (vi_consE (VP.e (v_tup (va_cons (v_int (i := 0)) (va_cons (v_as (e' := eD) (w := (eL eD)) (v_nEP (v_nlP (vi_cons (v_as (e' := eD) (w := eI) (v_var (enc := eI) (i := 0) (v := (fun s : (Int × (List Int) × (List (Int × Int))) => s.1)) (fun _ => rfl)) (fun _ => rfl)) (vi_nil (enc := eD))) (fun _ => Nat.le_of_ble_eq_true rfl))) (fun _ => rfl)) (va_one (v_nEP (v_nlP (vi_nil (enc := eI)) (fun _ => Nat.le_of_ble_eq_true rfl)))))) (fun _ => Nat.le_of_ble_eq_true rfl))) (vi_consE (v_tupE (va_consE (VP.e (v_int (i := 0))) (va_consE (v_asE (e' := eD) (w := (eL eI)) (v_do2 o_catL (VP.e (v_var (enc := (eL eI)) (i := 1) (v := (fun s : (Int × (List Int) × (List (Int × Int))) => s.2.1)) (fun _ => rfl))) (VP.e (v_nEP (v_nlP (vi_cons (v_do1t o_neg (v_int (i := 1))) (vi_nil (enc := eI))) (fun _ => Nat.le_of_ble_eq_true rfl))))) (fun _ => rfl)) (va_oneE (VP.e (v_nEP (v_nlP (vi_nil (enc := eI)) (fun _ => Nat.le_of_ble_eq_true rfl))))))) (fun _ => Nat.le_of_ble_eq_true rfl)) (vi_consE (VP.e (v_tup (va_cons (v_int (i := 1)) (va_cons (v_as (e' := eD) (w := (eL eD)) (v_nEP (v_nlP (vi_nil (enc := eD)) (fun _ => Nat.le_of_ble_eq_true rfl))) (fun _ => rfl)) (va_one (v_nEP (v_nlP (vi_cons (v_int (i := 1)) (vi_nil (enc := eI))) (fun _ => Nat.le_of_ble_eq_true rfl)))))) (fun _ => Nat.le_of_ble_eq_true rfl))) (vi_consE (VP.e (v_tup (va_cons (v_int (i := 1)) (va_cons (v_as (e' := eD) (w := (eL eI)) (v_var (enc := (eL eI)) (i := 1) (v := (fun s : (Int × (List Int) × (List (Int × Int))) => s.2.1)) (fun _ => rfl)) (fun _ => rfl)) (va_one (v_nEP (v_nlP (vi_cons (v_int (i := 0)) (vi_nil (enc := eI))) (fun _ => Nat.le_of_ble_eq_true rfl)))))) (fun _ => Nat.le_of_ble_eq_true rfl))) (VIP.e (vi_nil (enc := (eT3 eI eD (eL eI))))))))))))) (fun _ _ => rfl)
 (s_set (E1 := (fun s : (((Int × (List Int) × (List (Int × Int))) × (List (Int × D × (List Int)))) × (List (Int × D × (List Int)))) => ([.sh (eI s.1.1.1), .sh ((eL eI) s.1.1.2.1), .sh ((eL (eT2 eI eI)) s.1.1.2.2), .sh ((eL (eT3 eI eD (eL eI))) s.2), .un, .un] : Rho))) (ins := Prod.mk) (fun _ => rfl) (.inl rfl) (v_do2 o_catL (VP.e (v_var (enc := (eL (eT3 eI eD (eL eI)))) (i := 3) (v := (fun s : ((Int × (List Int) × (List (Int × Int))) × (List (Int × D × (List Int)))) => s.2)) (fun _ => rfl))) (VP.e (v_nEP (v_nlP (vi_cons (v_tup (va_cons (v_int (i := 1)) (va_cons (v_as (e' := eD) (w := (eL eI)) (v_var (enc := (eL eI)) (i := 1) (v := (fun s : ((Int × (List Int) × (List (Int × Int))) × (List (Int × D × (List Int)))) => s.1.2.1)) (fun _ => rfl)) (fun _ => rfl)) (va_one (v_nEP (v_nlP (vi_cons (v_int (i := 1)) (vi_cons (v_int (i := 11)) (vi_nil (enc := eI)))) (fun _ => Nat.le_of_ble_eq_true rfl)))))) (fun _ => Nat.le_of_ble_eq_true rfl)) (vi_cons (v_tup (va_cons (v_int (i := 1)) (va_cons (v_as (e' := eD) (w := (eL eI)) (v_var (enc := (eL eI)) (i := 1) (v := (fun s : ((Int × (List Int) × (List (Int × Int))) × (List (Int × D × (List Int)))) => s.1.2.1)) (fun _ => rfl)) (fun _ => rfl)) (va_one (v_nEP (v_nlP (vi_cons (v_int (i := 2)) (vi_cons (v_int (i := 3)) (vi_cons (v_int (i := 2)) (vi_nil (enc := eI))))) (fun _ => Nat.le_of_ble_eq_true rfl)))))) (fun _ => Nat.le_of_ble_eq_true rfl)) (vi_cons (v_tup (va_cons (v_int (i := 1)) (va_cons (v_as (e' := eD) (w := (eL eI)) (v_var (enc := (eL eI)) (i := 1) (v := (fun s : ((Int × (List Int) × (List (Int × Int))) × (List (Int × D × (List Int)))) => s.1.2.1)) (fun _ => rfl)) (fun _ => rfl)) (va_one (v_nEP (v_nlP (vi_cons (v_do1t o_neg (v_int (i := 1))) (vi_nil (enc := eI))) (fun _ => Nat.le_of_ble_eq_true rfl)))))) (fun _ => Nat.le_of_ble_eq_true rfl)) (vi_nil (enc := (eT3 eI eD (eL eI))))))) (fun _ => Nat.le_of_ble_eq_true rfl))))) (fun _ _ => rfl)
 (s_for (EL := (fun (s : (((Int × (List Int) × (List (Int × Int))) × (List (Int × D × (List Int)))) × (List (Int × D × (List Int))))) (u : (List (Int × D × (List Int)))) => ([.sh (eI s.1.1.1), .sh ((eL eI) s.1.1.2.1), .sh ((eL (eT2 eI eI)) s.1.1.2.2), .sh ((eL (eT3 eI eD (eL eI))) u), .un, .un] : Rho))) (EB := (fun (s15 : (((Int × (List Int) × (List (Int × Int))) × (List (Int × D × (List Int)))) × (List (Int × D × (List Int))))) (s : ((List (Int × Int)) × (List (Int × D × (List Int))))) => ([.sh (eI s15.1.1.1), .sh ((eL eI) s15.1.1.2.1), .sh ((eL (eT2 eI eI)) s15.1.1.2.2), .sh ((eL (eT3 eI eD (eL eI))) s.2), .sh ((eL (eT2 eI eI)) s.1), .un] : Rho))) (s0 := (fun s : (((Int × (List Int) × (List (Int × Int))) × (List (Int × D × (List Int)))) × (List (Int × D × (List Int)))) => s.2)) (E1 := (fun s : ((((Int × (List Int) × (List (Int × Int))) × (List (Int × D × (List Int)))) × (List (Int × D × (List Int)))) × (List (Int × D × (List Int)))) => ([.sh (eI s.1.1.1.1), .sh ((eL eI) s.1.1.1.2.1), .sh ((eL (eT2 eI eI)) s.1.1.1.2.2), .sh ((eL (eT3 eI eD (eL eI))) s.2), .un, .un] : Rho))) (π := Prod.mk) (w_listE (v_nE (v_nlE (vi_consE (VP.e (v_nEP (v_nlP (vi_nil (enc := (eT2 eI eI))) (fun _ => Nat.le_of_ble_eq_true rfl)))) (vi_consE (v_do2 o_catL (VP.e (v_var (enc := (eL (eT2 eI eI))) (i := 2) (v := (fun s : (((Int × (List Int) × (List (Int × Int))) × (List (Int × D × (List Int)))) × (List (Int × D × (List Int)))) => s.1.1.2.2)) (fun _ => rfl))) (VP.e (v_cutL (v_var (enc := (eL (eT2 eI eI))) (i := 2) (v := (fun s : (((Int × (List Int) × (List (Int × Int))) × (List (Int × D × (List Int)))) × (List (Int × D × (List Int)))) => s.1.1.2.2)) (fun _ => rfl)) vo_none (vo_some (v_int (i := 1)))))) (vi_consE (VP.e (v_nEP (v_nlP (vi_cons (v_tup (va_cons (v_int (i := 0)) (va_one (v_int (i := 1)))) (fun _ => Nat.le_of_ble_eq_true rfl)) (vi_nil (enc := (eT2 eI eI)))) (fun _ => Nat.le_of_ble_eq_true rfl)))) (vi_consE (VP.e (v_nEP (v_nlP (vi_cons (v_tup (va_cons (v_int (i := 11)) (va_one (v_int (i := 1)))) (fun _ => Nat.le_of_ble_eq_true rfl)) (vi_nil (enc := (eT2 eI eI)))) (fun _ => Nat.le_of_ble_eq_true rfl)))) (vi_consE (VP.e (v_nEP (v_nlP (vi_cons (v_tup (va_cons (v_int (i := 1)) (va_one (v_var (enc := eI) (i := 0) (v := (fun s : (((Int × (List Int) × (List (Int × Int))) × (List (Int × D × (List Int)))) × (List (Int × D × (List Int)))) => s.1.1.1)) (fun _ => rfl)))) (fun _ => Nat.le_of_ble_eq_true rfl)) (vi_nil (enc := (eT2 eI eI)))) (fun _ => Nat.le_of_ble_eq_true rfl)))) (vi_consE (VP.e (v_nEP (v_nlP (vi_cons (v_tup (va_cons (v_int (i := 1)) (va_one (v_do1t o_neg (v_int (i := 1))))) (fun _ => Nat.le_of_ble_eq_true rfl)) (vi_nil (enc := (eT2 eI eI)))) (fun _ => Nat.le_of_ble_eq_true rfl)))) (vi_consE (VP.e (v_nEP (v_nlP (vi_cons (v_tup (va_cons (v_int (i := 5)) (va_one (v_int (i := 1)))) (fun _ => Nat.le_of_ble_eq_true rfl)) (vi_cons (v_tup (va_cons (v_int (i := 5)) (va_one (v_int (i := 1)))) (fun _ => Nat.le_of_ble_eq_true rfl)) (vi_nil (enc := (eT2 eI eI))))) (fun _ => Nat.le_of_ble_eq_true rfl)))) (VIP.e (vi_nil (enc := (eL (eT2 eI eI))))))))))))))) (fun _ => rfl) (fun _ _ _ => rfl) (fun s15 =>
 (VB.last (s_set (E1 := (fun s : (((List (Int × Int)) × (List (Int × D × (List Int)))) × (List (Int × D × (List Int)))) => ([.sh (eI s15.1.1.1), .sh ((eL eI) s15.1.1.2.1), .sh ((eL (eT2 eI eI)) s15.1.1.2.2), .sh ((eL (eT3 eI eD (eL eI))) s.2), .sh ((eL (eT2 eI eI)) s.1.1), .un] : Rho))) (ins := Prod.mk) (fun _ => rfl) (.inl rfl) (v_do2 o_catL (VP.e (v_var (enc := (eL (eT3 eI eD (eL eI)))) (i := 3) (v := (fun s : ((List (Int × Int)) × (List (Int × D × (List Int)))) => s.2)) (fun _ => rfl))) (VP.e (v_nEP (v_nlP (vi_cons (v_tup (va_cons (v_int (i := 2)) (va_cons (v_as (e' := eD) (w := (eL (eT2 eI eI))) (v_var (enc := (eL (eT2 eI eI))) (i := 4) (v := (fun s : ((List (Int × Int)) × (List (Int × D × (List Int)))) => s.1)) (fun _ => rfl)) (fun _ => rfl)) (va_one (v_nEP (v_nlP (vi_nil (enc := eI)) (fun _ => Nat.le_of_ble_eq_true rfl)))))) (fun _ => Nat.le_of_ble_eq_true rfl)) (vi_cons (v_tup (va_cons (v_int (i := 3)) (va_cons (v_as (e' := eD) (w := (eL (eT2 eI eI))) (v_var (enc := (eL (eT2 eI eI))) (i := 4) (v := (fun s : ((List (Int × Int)) × (List (Int × D × (List Int)))) => s.1)) (fun _ => rfl)) (fun _ => rfl)) (va_one (v_nEP (v_nlP (vi_nil (enc := eI)) (fun _ => Nat.le_of_ble_eq_true rfl)))))) (fun _ => Nat.le_of_ble_eq_true rfl)) (vi_nil (enc := (eT3 eI eD (eL eI)))))) (fun _ => Nat.le_of_ble_eq_true rfl))))) (fun _ _ => rfl)
 (s_endL (π := (fun s : (((List (Int × Int)) × (List (Int × D × (List Int)))) × (List (Int × D × (List Int)))) => s.2)) (fun _ => rfl))))) (fun _ _ => rfl)
 (s_for (EL := (fun (s : ((((Int × (List Int) × (List (Int × Int))) × (List (Int × D × (List Int)))) × (List (Int × D × (List Int)))) × (List (Int × D × (List Int))))) (u : Unit) => ([.sh (eI s.1.1.1.1), .sh ((eL eI) s.1.1.1.2.1), .sh ((eL (eT2 eI eI)) s.1.1.1.2.2), .sh ((eL (eT3 eI eD (eL eI))) s.2), .un, .un] : Rho))) (EB := (fun (s16 : ((((Int × (List Int) × (List (Int × Int))) × (List (Int × D × (List Int)))) × (List (Int × D × (List Int)))) × (List (Int × D × (List Int))))) (s : ((Int × D × (List Int)) × Unit)) => ([.sh (eI s16.1.1.1.1), .sh ((eL eI) s16.1.1.1.2.1), .sh ((eL (eT2 eI eI)) s16.1.1.1.2.2), .sh ((eL (eT3 eI eD (eL eI))) s16.2), .un, .sh ((eT3 eI eD (eL eI)) s.1)] : Rho))) (s0 := (fun s : ((((Int × (List Int) × (List (Int × Int))) × (List (Int × D × (List Int)))) × (List (Int × D × (List Int)))) × (List (Int × D × (List Int)))) => ())) (E1 := (fun s : (((((Int × (List Int) × (List (Int × Int))) × (List (Int × D × (List Int)))) × (List (Int × D × (List Int)))) × (List (Int × D × (List Int)))) × Unit) => ([.sh (eI s.1.1.1.1.1), .sh ((eL eI) s.1.1.1.1.2.1), .sh ((eL (eT2 eI eI)) s.1.1.1.1.2.2), .sh ((eL (eT3 eI eD (eL eI))) s.1.2), .un, .un] : Rho))) (π := Prod.mk) (VIP.e (w_list (v_var (enc := (eL (eT3 eI eD (eL eI)))) (i := 3) (v := (fun s : ((((Int × (List Int) × (List (Int × Int))) × (List (Int × D × (List Int)))) × (List (Int × D × (List Int)))) × (List (Int × D × (List Int)))) => s.2)) (fun _ => rfl)))) (fun _ => rfl) (fun _ _ _ => rfl) (fun s16 =>
 (s_if (fun _ => rfl) (v_notE (v_truE tru_B (v_call (T := T__law_word) v__law_word (fun _ => rfl) (va_cons (v_prj (e1 := (eT3 eI eD (eL eI))) (e2 := eI) (π := fun p => p.1) (fun _ => rfl) (v_var (enc := (eT3 eI eD (eL eI))) (i := 5) (v := (fun s : ((Int × D × (List Int)) × Unit) => s.1)) (fun _ => rfl))) (va_cons (v_var (enc := eI) (i := 0) (v := (fun s : ((Int × D × (List Int)) × Unit) => s16.1.1.1.1)) (fun _ => rfl)) (va_cons (v_prj (e1 := (eT3 eI eD (eL eI))) (e2 := eD) (π := fun p => p.2.1) (fun _ => rfl) (v_var (enc := (eT3 eI eD (eL eI))) (i := 5) (v := (fun s : ((Int × D × (List Int)) × Unit) => s.1)) (fun _ => rfl))) (va_one (v_prj (e1 := (eT3 eI eD (eL eI))) (e2 := (eL eI)) (π := fun p => p.2.2) (fun _ => rfl) (v_var (enc := (eT3 eI eD (eL eI))) (i := 5) (v := (fun s : ((Int × D × (List Int)) × Unit) => s.1)) (fun _ => rfl))))))))))
 (s_ret (out_L out_F) (fun _ => rfl) (VP.e v_bool))
 (s_endL (π := (fun s : ((Int × D × (List Int)) × Unit) => ())) (fun _ => rfl)))) (fun _ _ => rfl)
 (s_ret out_F (fun _ => rfl) (v_andVE (v_do2e (o_eq (ceq_L (ceq_T2 ceq_I ceq_I)) (by decide)) (v_call (T := T_shares_of) v_shares_of (fun _ => rfl) (va_cons (v_var (enc := eI) (i := 0) (v := (fun s : (((((Int × (List Int) × (List (Int × Int))) × (List (Int × D × (List Int)))) × (List (Int × D × (List Int)))) × (List (Int × D × (List Int)))) × Unit) => s.1.1.1.1.1)) (fun _ => rfl)) (va_cons (v_var (enc := (eL eI)) (i := 1) (v := (fun s : (((((Int × (List Int) × (List (Int × Int))) × (List (Int × D × (List Int)))) × (List (Int × D × (List Int)))) × (List (Int × D × (List Int)))) × Unit) => s.1.1.1.1.2.1)) (fun _ => rfl)) (va_one (v_nEP (v_nlP (vi_nil (enc := eI)) (fun _ => Nat.le_of_ble_eq_true rfl))))))) (VP.e (v_nEP (v_nlP (vi_nil (enc := (eT2 eI eI))) (fun _ => Nat.le_of_ble_eq_true rfl))))) (VP.e (v_do2t (o_eq ceq_I (by decide)) (v_int (i := 10)) (v_int (i := 10))))))))))⟩
def T__law_doors (x : (Int × (List Int) × (List (Int × Int)))) : Res Bool := tv__law_doors.1 x
theorem v__law_doors (x : (Int × (List Int) × (List (Int × Int)))) : Le eB (T__law_doors x) (S__law_doors [eI (x.1), (eL eI) (x.2.1), (eL (eT2 eI eI)) (x.2.2)]) := fn_of (g := g__law_doors) (tv__law_doors.2 x)
def tv_law : { t : (List Int) → Res Bool // VB (obF eB) (fun s : (List Int) => ([.sh ((eL eI) s), .un, .un, .un, .un, .un, .un, .un, .un, .un, .un, .un, .un, .un] : Rho)) g_law t } := ⟨_,
 (s_set (E1 := (fun s : ((List Int) × (List Int)) => ([.sh ((eL eI) s.1), .sh ((eL eI) s.2), .un, .un, .un, .un, .un, .un, .un, .un, .un, .un, .un, .un] : Rho))) (ins := Prod.mk) (fun _ => rfl) (.inl rfl) (v_call (T := T__law_numbers) v__law_numbers (fun _ => rfl) (va_cons (v_var (enc := (eL eI)) (i := 0) (v := (fun s : (List Int) => s)) (fun _ => rfl)) (va_one (v_int (i := 60))))) (fun _ _ => rfl)
 (s_set (E1 := (fun s : (((List Int) × (List Int)) × Int) => ([.sh ((eL eI) s.1.1), .sh ((eL eI) s.1.2), .sh (eI s.2), .un, .un, .un, .un, .un, .un, .un, .un, .un, .un, .un] : Rho))) (ins := Prod.mk) (fun _ => rfl) (.inl rfl) (v_callE (T := T__law_order) v__law_order (fun _ => rfl) (va_oneE (v_do2p o_ixL (v_var (enc := (eL eI)) (i := 1) (v := (fun s : ((List Int) × (List Int)) => s.2)) (fun _ => rfl)) (v_int (i := 0))))) (fun _ _ => rfl)
 (s_set (E1 := (fun s : ((((List Int) × (List Int)) × Int) × (List Int)) => ([.sh ((eL eI) s.1.1.1), .sh ((eL eI) s.1.1.2), .sh (eI s.1.2), .sh ((eL eI) s.2), .un, .un, .un, .un, .un, .un, .un, .un, .un, .un] : Rho))) (ins := Prod.mk) (fun _ => rfl) (.inl rfl) (v_nE (v_lc (E2 := (fun s : ((((List Int) × (List Int)) × Int) × Int) => ([.sh ((eL eI) s.1.1.1), .sh ((eL eI) s.1.1.2), .sh (eI s.1.2), .un, .un, .un, .un, .un, .un, .un, .un, .un, .un, .sh (eI s.2)] : Rho))) (w_rng1 (v_do2e o_add (VP.e (v_int (i := 1))) (v_do2 o_mod (v_do2p o_ixL (v_var (enc := (eL eI)) (i := 1) (v := (fun s : (((List Int) × (List Int)) × Int) => s.1.2)) (fun _ => rfl)) (v_int (i := 11))) (VP.e (v_int (i := 10)))))) (fun _ _ => rfl) vq_noIf (v_do2 o_mod (v_do2p o_ixL (v_var (enc := (eL eI)) (i := 1) (v := (fun s : ((((List Int) × (List Int)) × Int) × Int) => s.1.1.2)) (fun _ => rfl)) (v_do2t o_add (v_int (i := 1)) (v_var (enc := eI) (i := 13) (v := (fun s : ((((List Int) × (List Int)) × Int) × Int) => s.2)) (fun _ => rfl)))) (VP.e (v_var (enc := eI) (i := 2) (v := (fun s : ((((List Int) × (List Int)) × Int) × Int) => s.1.2)) (fun _ => rfl)))))) (fun _ _ => rfl)
 (s_set (E1 := (fun s : (((((List Int) × (List Int)) × Int) × (List Int)) × (List Int)) => ([.sh ((eL eI) s.1.1.1.1), .sh ((eL eI) s.1.1.1.2), .sh (eI s.1.1.2), .sh ((eL eI) s.1.2), .sh ((eL eI) s.2), .un, .un, .un, .un, .un, .un, .un, .un, .un] : Rho))) (ins := Prod.mk) (fun _ => rfl) (.inl rfl) (v_call (T := T__law_places) v__law_places (fun _ => rfl) (va_cons (v_cutL (v_var (enc := (eL eI)) (i := 1) (v := (fun s : ((((List Int) × (List Int)) × Int) × (List Int)) => s.1.1.2)) (fun _ => rfl)) (vo_some (v_int (i := 12))) vo_none) (va_one (v_bi (enc := eI) (T := fun x : List _ => (x.length : Int)) b_lenL (va_one (v_var (enc := (eL eI)) (i := 3) (v := (fun s : ((((List Int) × (List Int)) × Int) × (List Int)) => s.2)) (fun _ => rfl))))))) (fun _ _ => rfl)
 (s_setP (E1 := (fun s : ((((((List Int) × (List Int)) × Int) × (List Int)) × (List Int)) × (List Int)) => ([.sh ((eL eI) s.1.1.1.1.1), .sh ((eL eI) s.1.1.1.1.2), .sh (eI s.1.1.1.2), .sh ((eL eI) s.1.1.2), .sh ((eL eI) s.1.2), .sh ((eL eI) s.2), .un, .un, .un, .un, .un, .un, .un, .un] : Rho))) (ins := Prod.mk) (fun _ => rfl) (.inl rfl) (v_nEP (v_listL (va_one (v_var (enc := (eL eI)) (i := 3) (v := (fun s : (((((List Int) × (List Int)) × Int) × (List Int)) × (List Int)) => s.1.2)) (fun _ => rfl))))) (fun _ _ => rfl)
 (s_set (E1 := (fun s : (((((((List Int) × (List Int)) × Int) × (List Int)) × (List Int)) × (List Int)) × (List (Int × Int))) => ([.sh ((eL eI) s.1.1.1.1.1.1), .sh ((eL eI) s.1.1.1.1.1.2), .sh (eI s.1.1.1.1.2), .sh ((eL eI) s.1.1.1.2), .sh ((eL eI) s.1.1.2), .sh ((eL eI) s.1.2), .sh ((eL (eT2 eI eI)) s.2), .un, .un, .un, .un, .un, .un, .un] : Rho))) (ins := Prod.mk) (fun _ => rfl) (.inl rfl) (v_nE (v_lc (E2 := (fun s : (((((((List Int) × (List Int)) × Int) × (List Int)) × (List Int)) × (List Int)) × Int) => ([.sh ((eL eI) s.1.1.1.1.1.1), .sh ((eL eI) s.1.1.1.1.1.2), .sh (eI s.1.1.1.1.2), .sh ((eL eI) s.1.1.1.2), .sh ((eL eI) s.1.1.2), .sh ((eL eI) s.1.2), .un, .un, .sh (eI s.2), .un, .un, .un, .un, .un] : Rho))) (VIP.e (w_list (v_var (enc := (eL eI)) (i := 4) (v := (fun s : ((((((List Int) × (List Int)) × Int) × (List Int)) × (List Int)) × (List Int)) => s.1.2)) (fun _ => rfl)))) (fun _ _ => rfl) vq_noIf (v_tupE (va_consE (VP.e (v_var (enc := eI) (i := 8) (v := (fun s : (((((((List Int) × (List Int)) × Int) × (List Int)) × (List Int)) × (List Int)) × Int) => s.2)) (fun _ => rfl))) (va_oneE (v_call (T := T__law_value) v__law_value (fun _ => rfl) (va_cons (v_var (enc := eI) (i := 2) (v := (fun s : (((((((List Int) × (List Int)) × Int) × (List Int)) × (List Int)) × (List Int)) × Int) => s.1.1.1.1.2)) (fun _ => rfl)) (va_cons (v_var (enc := (eL eI)) (i := 3) (v := (fun s : (((((((List Int) × (List Int)) × Int) × (List Int)) × (List Int)) × (List Int)) × Int) => s.1.1.1.2)) (fun _ => rfl)) (va_one (v_var (enc := eI) (i := 8) (v := (fun s : (((((((List Int) × (List Int)) × Int) × (List Int)) × (List Int)) × (List Int)) × Int) => s.2)) (fun _ => rfl)))))))) (fun _ => Nat.le_of_ble_eq_true rfl)))) (fun _ _ => rfl)
 (s_set (E1 := (fun s : ((((((((List Int) × (List Int)) × Int) × (List Int)) × (List Int)) × (List Int)) × (List (Int × Int))) × (List (Int × Int))) => ([.sh ((eL eI) s.1.1.1.1.1.1.1), .sh ((eL eI) s.1.1.1.1.1.1.2), .sh (eI s.1.1.1.1.1.2), .sh ((eL eI) s.1.1.1.1.2), .sh ((eL eI) s.1.1.1.2), .sh ((eL eI) s.1.1.2), .sh ((eL (eT2 eI eI)) s.1.2), .sh ((eL (eT2 eI eI)) s.2), .un, .un, .un, .un, .un, .un] : Rho))) (ins := Prod.mk) (fun _ => rfl) (.inl rfl) (v_call (T := T_shares_of) v_shares_of (fun _ => rfl) (va_cons (v_var (enc := eI) (i := 2) (v := (fun s : (((((((List Int) × (List Int)) × Int) × (List Int)) × (List Int)) × (List Int)) × (List (Int × Int))) => s.1.1.1.1.2)) (fun _ => rfl)) (va_cons (v_var (enc := (eL eI)) (i := 3) (v := (fun s : (((((((List Int) × (List Int)) × Int) × (List Int)) × (List Int)) × (List Int)) × (List (Int × Int))) => s.1.1.1.2)) (fun _ => rfl)) (va_one (v_nEP (v_listL (va_one (v_var (enc := (eL eI)) (i := 4) (v := (fun s : (((((((List Int) × (List Int)) × Int) × (List Int)) × (List Int)) × (List Int)) × (List (Int × Int))) => s.1.1.2)) (fun _ => rfl))))))))) (fun _ _ => rfl)
 (s_guardP nf_ret (fun _ => rfl) (v_or (v_not (v_tru tru_B (v_do1t (k := fun _ => true) (isi_of (n := "list") (b := true) (eL (eT2 eI eI)) (fun _ => rfl) (by decide +kernel)) (v_var (enc := (eL (eT2 eI eI))) (i := 7) (v := (fun s : ((((((((List Int) × (List Int)) × Int) × (List Int)) × (List Int)) × (List Int)) × (List (Int × Int))) × (List (Int × Int))) => s.2)) (fun _ => rfl))))) (v_or (v_tst (v_do2t (o_ne (ceq_L (ceq_T2 ceq_I ceq_I)) (by decide)) (v_var (enc := (eL (eT2 eI eI))) (i := 7) (v := (fun s : ((((((((List Int) × (List Int)) × Int) × (List Int)) × (List Int)) × (List Int)) × (List (Int × Int))) × (List (Int × Int))) => s.2)) (fun _ => rfl)) (v_var (enc := (eL (eT2 eI eI))) (i := 6) (v := (fun s : ((((((((List Int) × (List Int)) × Int) × (List Int)) × (List Int)) × (List Int)) × (List (Int × Int))) × (List (Int × Int))) => s.1.2)) (fun _ => rfl)))) (v_tst (v_do2t (o_ne (ceq_L ceq_I) (by decide)) (v_var (enc := (eL eI)) (i := 3) (v := (fun s : ((((((((List Int) × (List Int)) × Int) × (List Int)) × (List Int)) × (List Int)) × (List (Int × Int))) × (List (Int × Int))) => s.1.1.1.1.2)) (fun _ => rfl)) (v_var (enc := (eL eI)) (i := 5) (v := (fun s : ((((((((List Int) × (List Int)) × Int) × (List Int)) × (List Int)) × (List Int)) × (List (Int × Int))) × (List (Int × Int))) => s.1.1.2)) (fun _ => rfl))))))
 (s_ret out_F (fun _ => rfl) (VP.e v_bool))
 (s_for (EL := (fun (s : ((((((((List Int) × (List Int)) × Int) × (List Int)) × (List Int)) × (List Int)) × (List (Int × Int))) × (List (Int × Int)))) (u : Unit) => ([.sh ((eL eI) s.1.1.1.1.1.1.1), .sh ((eL eI) s.1.1.1.1.1.1.2), .sh (eI s.1.1.1.1.1.2), .sh ((eL eI) s.1.1.1.1.2), .sh ((eL eI) s.1.1.1.2), .sh ((eL eI) s.1.1.2), .sh ((eL (eT2 eI eI)) s.1.2), .sh ((eL (eT2 eI eI)) s.2), .un, .un, .un, .un, .un, .un] : Rho))) (EB := (fun (s17 : ((((((((List Int) × (List Int)) × Int) × (List Int)) × (List Int)) × (List Int)) × (List (Int × Int))) × (List (Int × Int)))) (s : (Int × Unit)) => ([.sh ((eL eI) s17.1.1.1.1.1.1.1), .sh ((eL eI) s17.1.1.1.1.1.1.2), .sh (eI s17.1.1.1.1.1.2), .sh ((eL eI) s17.1.1.1.1.2), .sh ((eL eI) s17.1.1.1.2), .sh ((eL eI) s17.1.1.2), .sh ((eL (eT2 eI eI)) s17.1.2), .sh ((eL (eT2 eI eI)) s17.2), .sh (eI s.1), .un, .un, .un, .un, .un] : Rho))) (s0 := (fun s : ((((((((List Int) × (List Int)) × Int) × (List Int)) × (List Int)) × (List Int)) × (List (Int × Int))) × (List (Int × Int))) => ())) (E1 := (fun s : (((((((((List Int) × (List Int)) × Int) × (List Int)) × (List Int)) × (List Int)) × (List (Int × Int))) × (List (Int × Int))) × Unit) => ([.sh ((eL eI) s.1.1.1.1.1.1.1.1), .sh ((eL eI) s.1.1.1.1.1.1.1.2), .sh (eI s.1.1.1.1.1.1.2), .sh ((eL eI) s.1.1.1.1.1.2), .sh ((eL eI) s.1.1.1.1.2), .sh ((eL eI) s.1.1.1.2), .sh ((eL (eT2 eI eI)) s.1.1.2), .sh ((eL (eT2 eI eI)) s.1.2), .un, .un, .un, .un, .un, .un] : Rho))) (π := Prod.mk) (w_listE (v_nE (v_nlE (vi_consE (VP.e (v_int (i := 0))) (vi_consE (v_do2p o_ixL (v_var (enc := (eL eI)) (i := 1) (v := (fun s : ((((((((List Int) × (List Int)) × Int) × (List Int)) × (List Int)) × (List Int)) × (List (Int × Int))) × (List (Int × Int))) => s.1.1.1.1.1.1.2)) (fun _ => rfl)) (v_int (i := 23))) (vi_consE (v_do2e o_sub (VP.e (v_int (i := 0))) (v_do2p o_ixL (v_var (enc := (eL eI)) (i := 1) (v := (fun s : ((((((((List Int) × (List Int)) × Int) × (List Int)) × (List Int)) × (List Int)) × (List (Int × Int))) × (List (Int × Int))) => s.1.1.1.1.1.1.2)) (fun _ => rfl)) (v_int (i := 24)))) (vi_consE (VP.e (v_var (enc := eI) (i := 2) (v := (fun s : ((((((((List Int) × (List Int)) × Int) × (List Int)) × (List Int)) × (List Int)) × (List (Int × Int))) × (List (Int × Int))) => s.1.1.1.1.1.2)) (fun _ => rfl))) (vi_consE (VP.e (v_int (i := 5))) (VIP.e (vi_nil (enc := eI))))))))))) (fun _ => rfl) (fun _ _ _ => rfl) (fun s17 =>
 (s_if (fun _ => rfl) (v_tstE (v_do2e (o_ne ceq_I (by decide)) (v_call (T := T_value_at) v_value_at (fun _ => rfl) (va_cons (v_var (enc := eI) (i := 2) (v := (fun s : (Int × Unit) => s17.1.1.1.1.1.2)) (fun _ => rfl)) (va_cons (v_var (enc := (eL eI)) (i := 3) (v := (fun s : (Int × Unit) => s17.1.1.1.1.2)) (fun _ => rfl)) (va_one (v_var (enc := eI) (i := 8) (v := (fun s : (Int × Unit) => s.1)) (fun _ => rfl)))))) (v_call (T := T__law_value) v__law_value (fun _ => rfl) (va_cons (v_var (enc := eI) (i := 2) (v := (fun s : (Int × Unit) => s17.1.1.1.1.1.2)) (fun _ => rfl)) (va_cons (v_var (enc := (eL eI)) (i := 3) (v := (fun s : (Int × Unit) => s17.1.1.1.1.2)) (fun _ => rfl)) (va_one (v_var (enc := eI) (i := 8) (v := (fun s : (Int × Unit) => s.1)) (fun _ => rfl))))))))
 (s_ret (out_L out_F) (fun _ => rfl) (VP.e v_bool))
 (s_endL (π := (fun s : (Int × Unit) => ())) (fun _ => rfl)))) (fun _ _ => rfl)
 (s_guard nf_ret (fun _ => rfl) (v_orE (v_tstE (v_do2e (o_ne (ceq_L ceq_I) (by decide)) (v_call (T := T_polynomial_of) v_polynomial_of (fun _ => rfl) (va_cons (v_var (enc := eI) (i := 2) (v := (fun s : (((((((((List Int) × (List Int)) × Int) × (List Int)) × (List Int)) × (List Int)) × (List (Int × Int))) × (List (Int × Int))) × Unit) => s.1.1.1.1.1.1.2)) (fun _ => rfl)) (va_one (v_var (enc := (eL (eT2 eI eI))) (i := 7) (v := (fun s : (((((((((List Int) × (List Int)) × Int) × (List Int)) × (List Int)) × (List Int)) × (List (Int × Int))) × (List (Int × Int))) × Unit) => s.1.2)) (fun _ => rfl))))) (VP.e (v_var (enc := (eL eI)) (i := 3) (v := (fun s : (((((((((List Int) × (List Int)) × Int) × (List Int)) × (List Int)) × (List Int)) × (List (Int × Int))) × (List (Int × Int))) × Unit) => s.1.1.1.1.1.2)) (fun _ => rfl))))) (v_orE (v_tstE (v_do2e (o_ne ceq_I (by decide)) (v_call (T := T_secret_of) v_secret_of (fun _ => rfl) (va_cons (v_var (enc := eI) (i := 2) (v := (fun s : (((((((((List Int) × (List Int)) × Int) × (List Int)) × (List Int)) × (List Int)) × (List (Int × Int))) × (List (Int × Int))) × Unit) => s.1.1.1.1.1.1.2)) (fun _ => rfl)) (va_one (v_var (enc := (eL (eT2 eI eI))) (i := 7) (v := (fun s : (((((((((List Int) × (List Int)) × Int) × (List Int)) × (List Int)) × (List Int)) × (List (Int × Int))) × (List (Int × Int))) × Unit) => s.1.2)) (fun _ => rfl))))) (v_do2p o_ixL (v_var (enc := (eL eI)) (i := 3) (v := (fun s : (((((((((List Int) × (List Int)) × Int) × (List Int)) × (List Int)) × (List Int)) × (List (Int × Int))) × (List (Int × Int))) × Unit) => s.1.1.1.1.1.2)) (fun _ => rfl)) (v_int (i := 0))))) (VQ.e (v_tst (v_do2t (o_ne (ceq_L (ceq_T2 ceq_I ceq_I)) (by decide)) (v_var (enc := (eL (eT2 eI eI))) (i := 7) (v := (fun s : (((((((((List Int) × (List Int)) × Int) × (List Int)) × (List Int)) × (List Int)) × (List (Int × Int))) × (List (Int × Int))) × Unit) => s.1.2)) (fun _ => rfl)) (v_var (enc := (eL (eT2 eI eI))) (i := 6) (v := (fun s : (((((((((List Int) × (List Int)) × Int) × (List Int)) × (List Int)) × (List Int)) × (List (Int × Int))) × (List (Int × Int))) × Unit) => s.1.1.2)) (fun _ => rfl)))))))
 (s_ret out_F (fun _ => rfl) (VP.e v_bool))
 (s_set (E1 := (fun s : ((((((((((List Int) × (List Int)) × Int) × (List Int)) × (List Int)) × (List Int)) × (List (Int × Int))) × (List (Int × Int))) × Unit) × (List (Int × Int))) => ([.sh ((eL eI) s.1.1.1.1.1.1.1.1.1), .sh ((eL eI) s.1.1.1.1.1.1.1.1.2), .sh (eI s.1.1.1.1.1.1.1.2), .sh ((eL eI) s.1.1.1.1.1.1.2), .sh ((eL eI) s.1.1.1.1.1.2), .sh ((eL eI) s.1.1.1.1.2), .sh ((eL (eT2 eI eI)) s.1.1.1.2), .sh ((eL (eT2 eI eI)) s.1.1.2), .un, .sh ((eL (eT2 eI eI)) s.2), .un, .un, .un, .un] : Rho))) (ins := Prod.mk) (fun _ => rfl) (.inl rfl) (v_nE (v_lc (E2 := (fun s : ((((((((((List Int) × (List Int)) × Int) × (List Int)) × (List Int)) × (List Int)) × (List (Int × Int))) × (List (Int × Int))) × Unit) × Int) => ([.sh ((eL eI) s.1.1.1.1.1.1.1.1.1), .sh ((eL eI) s.1.1.1.1.1.1.1.1.2), .sh (eI s.1.1.1.1.1.1.1.2), .sh ((eL eI) s.1.1.1.1.1.1.2), .sh ((eL eI) s.1.1.1.1.1.2), .sh ((eL eI) s.1.1.1.1.2), .sh ((eL (eT2 eI eI)) s.1.1.1.2), .sh ((eL (eT2 eI eI)) s.1.1.2), .sh (eI s.2), .un, .un, .un, .un, .un] : Rho))) (w_listE (v_call (T := T__law_places) v__law_places (fun _ => rfl) (va_cons (v_cutL (v_var (enc := (eL eI)) (i := 1) (v := (fun s : (((((((((List Int) × (List Int)) × Int) × (List Int)) × (List Int)) × (List Int)) × (List (Int × Int))) × (List (Int × Int))) × Unit) => s.1.1.1.1.1.1.1.2)) (fun _ => rfl)) (vo_some (v_int (i := 25))) vo_none) (va_one (v_do2t o_add (v_bi (enc := eI) (T := fun x : List _ => (x.length : Int)) b_lenL (va_one (v_var (enc := (eL eI)) (i := 3) (v := (fun s : (((((((((List Int) × (List Int)) × Int) × (List Int)) × (List Int)) × (List Int)) × (List (Int × Int))) × (List (Int × Int))) × Unit) => s.1.1.1.1.1.2)) (fun _ => rfl)))) (v_fdivc (c := 2) (by decide) (v_do2t o_sub (v_int (i := 10)) (v_bi (enc := eI) (T := fun x : List _ => (x.length : Int)) b_lenL (va_one (v_var (enc := (eL eI)) (i := 3) (v := (fun s : (((((((((List Int) × (List Int)) × Int) × (List Int)) × (List Int)) × (List Int)) × (List (Int × Int))) × (List (Int × Int))) × Unit) => s.1.1.1.1.1.2)) (fun _ => rfl))))))))))) (fun _ _ => rfl) vq_noIf (v_tupE (va_consE (VP.e (v_var (enc := eI) (i := 8) (v := (fun s : ((((((((((List Int) × (List Int)) × Int) × (List Int)) × (List Int)) × (List Int)) × (List (Int × Int))) × (List (Int × Int))) × Unit) × Int) => s.2)) (fun _ => rfl))) (va_oneE (v_call (T := T__law_value) v__law_value (fun _ => rfl) (va_cons (v_var (enc := eI) (i := 2) (v := (fun s : ((((((((((List Int) × (List Int)) × Int) × (List Int)) × (List Int)) × (List Int)) × (List (Int × Int))) × (List (Int × Int))) × Unit) × Int) => s.1.1.1.1.1.1.1.2)) (fun _ => rfl)) (va_cons (v_var (enc := (eL eI)) (i := 3) (v := (fun s : ((((((((((List Int) × (List Int)) × Int) × (List Int)) × (List Int)) × (List Int)) × (List (Int × Int))) × (List (Int × Int))) × Unit) × Int) => s.1.1.1.1.1.1.2)) (fun _ => rfl)) (va_one (v_var (enc := eI) (i := 8) (v := (fun s : ((((((((((List Int) × (List Int)) × Int) × (List Int)) × (List Int)) × (List Int)) × (List (Int × Int))) × (List (Int × Int))) × Unit) × Int) => s.2)) (fun _ => rfl)))))))) (fun _ => Nat.le_of_ble_eq_true rfl)))) (fun _ _ => rfl)
 (s_guard nf_ret (fun _ => rfl) (v_tstE (v_do2e (o_ne (ceq_L ceq_I) (by decide)) (v_call (T := T_polynomial_of) v_polynomial_of (fun _ => rfl) (va_cons (v_var (enc := eI) (i := 2) (v := (fun s : ((((((((((List Int) × (List Int)) × Int) × (List Int)) × (List Int)) × (List Int)) × (List (Int × Int))) × (List (Int × Int))) × Unit) × (List (Int × Int))) => s.1.1.1.1.1.1.1.2)) (fun _ => rfl)) (va_one (v_var (enc := (eL (eT2 eI eI))) (i := 9) (v := (fun s : ((((((((((List Int) × (List Int)) × Int) × (List Int)) × (List Int)) × (List Int)) × (List (Int × Int))) × (List (Int × Int))) × Unit) × (List (Int × Int))) => s.2)) (fun _ => rfl))))) (v_do2 o_catL (VP.e (v_var (enc := (eL eI)) (i := 3) (v := (fun s : ((((((((((List Int) × (List Int)) × Int) × (List Int)) × (List Int)) × (List Int)) × (List (Int × Int))) × (List (Int × Int))) × Unit) × (List (Int × Int))) => s.1.1.1.1.1.1.2)) (fun _ => rfl))) (v_nE (v_rep (VIP.e (v_nlP (vi_cons (v_int (i := 0)) (vi_nil (enc := eI))) (fun _ => Nat.le_of_ble_eq_true rfl))) (VP.e (v_do2t o_sub (v_bi (enc := eI) (T := fun x : List _ => (x.length : Int)) b_lenL (va_one (v_var (enc := (eL (eT2 eI eI))) (i := 9) (v := (fun s : ((((((((((List Int) × (List Int)) × Int) × (List Int)) × (List Int)) × (List Int)) × (List (Int × Int))) × (List (Int × Int))) × Unit) × (List (Int × Int))) => s.2)) (fun _ => rfl)))) (v_bi (enc := eI) (T := fun x : List _ => (x.length : Int)) b_lenL (va_one (v_var (enc := (eL eI)) (i := 3) (v := (fun s : ((((((((((List Int) × (List Int)) × Int) × (List Int)) × (List Int)) × (List Int)) × (List (Int × Int))) × (List (Int × Int))) × Unit) × (List (Int × Int))) => s.1.1.1.1.1.1.2)) (fun _ => rfl)))))))))))
 (s_ret out_F (fun _ => rfl) (VP.e v_bool))
 (s_set (E1 := (fun s : (((((((((((List Int) × (List Int)) × Int) × (List Int)) × (List Int)) × (List Int)) × (List (Int × Int))) × (List (Int × Int))) × Unit) × (List (Int × Int))) × (List (Int × Int))) => ([.sh ((eL eI) s.1.1.1.1.1.1.1.1.1.1), .sh ((eL eI) s.1.1.1.1.1.1.1.1.1.2), .sh (eI s.1.1.1.1.1.1.1.1.2), .sh ((eL eI) s.1.1.1.1.1.1.1.2), .sh ((eL eI) s.1.1.1.1.1.1.2), .sh ((eL eI) s.1.1.1.1.1.2), .sh ((eL (eT2 eI eI)) s.1.1.1.1.2), .sh ((eL (eT2 eI eI)) s.1.1.1.2), .un, .sh ((eL (eT2 eI eI)) s.1.2), .sh ((eL (eT2 eI eI)) s.2), .un, .un, .un] : Rho))) (ins := Prod.mk) (fun _ => rfl) (.inl rfl) (v_nE (v_lc (E2 := (fun s : (((((((((((List Int) × (List Int)) × Int) × (List Int)) × (List Int)) × (List Int)) × (List (Int × Int))) × (List (Int × Int))) × Unit) × (List (Int × Int))) × Int) => ([.sh ((eL eI) s.1.1.1.1.1.1.1.1.1.1), .sh ((eL eI) s.1.1.1.1.1.1.1.1.1.2), .sh (eI s.1.1.1.1.1.1.1.1.2), .sh ((eL eI) s.1.1.1.1.1.1.1.2), .sh ((eL eI) s.1.1.1.1.1.1.2), .sh ((eL eI) s.1.1.1.1.1.2), .sh ((eL (eT2 eI eI)) s.1.1.1.1.2), .sh ((eL (eT2 eI eI)) s.1.1.1.2), .sh (eI s.2), .sh ((eL (eT2 eI eI)) s.1.2), .un, .un, .un, .un] : Rho))) (VIP.e (w_list (v_var (enc := (eL eI)) (i := 4) (v := (fun s : ((((((((((List Int) × (List Int)) × Int) × (List Int)) × (List Int)) × (List Int)) × (List (Int × Int))) × (List (Int × Int))) × Unit) × (List (Int × Int))) => s.1.1.1.1.1.2)) (fun _ => rfl)))) (fun _ _ => rfl) vq_noIf (v_tupE (va_consE (VP.e (v_var (enc := eI) (i := 8) (v := (fun s : (((((((((((List Int) × (List Int)) × Int) × (List Int)) × (List Int)) × (List Int)) × (List (Int × Int))) × (List (Int × Int))) × Unit) × (List (Int × Int))) × Int) => s.2)) (fun _ => rfl))) (va_oneE (v_do2 o_mod (v_do2p o_ixL (v_var (enc := (eL eI)) (i := 1) (v := (fun s : (((((((((((List Int) × (List Int)) × Int) × (List Int)) × (List Int)) × (List Int)) × (List (Int × Int))) × (List (Int × Int))) × Unit) × (List (Int × Int))) × Int) => s.1.1.1.1.1.1.1.1.1.2)) (fun _ => rfl)) (v_do2t o_add (v_int (i := 36)) (v_var (enc := eI) (i := 8) (v := (fun s : (((((((((((List Int) × (List Int)) × Int) × (List Int)) × (List Int)) × (List Int)) × (List (Int × Int))) × (List (Int × Int))) × Unit) × (List (Int × Int))) × Int) => s.2)) (fun _ => rfl)))) (VP.e (v_var (enc := eI) (i := 2) (v := (fun s : (((((((((((List Int) × (List Int)) × Int) × (List Int)) × (List Int)) × (List Int)) × (List (Int × Int))) × (List (Int × Int))) × Unit) × (List (Int × Int))) × Int) => s.1.1.1.1.1.1.1.1.2)) (fun _ => rfl)))))) (fun _ => Nat.le_of_ble_eq_true rfl)))) (fun _ _ => rfl)
 (s_set (E1 := (fun s : ((((((((((((List Int) × (List Int)) × Int) × (List Int)) × (List Int)) × (List Int)) × (List (Int × Int))) × (List (Int × Int))) × Unit) × (List (Int × Int))) × (List (Int × Int))) × (List Int)) => ([.sh ((eL eI) s.1.1.1.1.1.1.1.1.1.1.1), .sh ((eL eI) s.1.1.1.1.1.1.1.1.1.1.2), .sh (eI s.1.1.1.1.1.1.1.1.1.2), .sh ((eL eI) s.1.1.1.1.1.1.1.1.2), .sh ((eL eI) s.1.1.1.1.1.1.1.2), .sh ((eL eI) s.1.1.1.1.1.1.2), .sh ((eL (eT2 eI eI)) s.1.1.1.1.1.2), .sh ((eL (eT2 eI eI)) s.1.1.1.1.2), .un, .sh ((eL (eT2 eI eI)) s.1.1.2), .sh ((eL (eT2 eI eI)) s.1.2), .sh ((eL eI) s.2), .un, .un] : Rho))) (ins := Prod.mk) (fun _ => rfl) (.inl rfl) (v_call (T := T_polynomial_of) v_polynomial_of (fun _ => rfl) (va_cons (v_var (enc := eI) (i := 2) (v := (fun s : (((((((((((List Int) × (List Int)) × Int) × (List Int)) × (List Int)) × (List Int)) × (List (Int × Int))) × (List (Int × Int))) × Unit) × (List (Int × Int))) × (List (Int × Int))) => s.1.1.1.1.1.1.1.1.2)) (fun _ => rfl)) (va_one (v_var (enc := (eL (eT2 eI eI))) (i := 10) (v := (fun s : (((((((((((List Int) × (List Int)) × Int) × (List Int)) × (List Int)) × (List Int)) × (List (Int × Int))) × (List (Int × Int))) × Unit) × (List (Int × Int))) × (List (Int × Int))) => s.2)) (fun _ => rfl))))) (fun _ _ => rfl)
 (s_guard nf_ret (fun _ => rfl) (v_orE (VQ.e (v_tst (v_do2t (o_ne ceq_I (by decide)) (v_bi (enc := eI) (T := fun x : List _ => (x.length : Int)) b_lenL (va_one (v_var (enc := (eL eI)) (i := 11) (v := (fun s : ((((((((((((List Int) × (List Int)) × Int) × (List Int)) × (List Int)) × (List Int)) × (List (Int × Int))) × (List (Int × Int))) × Unit) × (List (Int × Int))) × (List (Int × Int))) × (List Int)) => s.2)) (fun _ => rfl)))) (v_bi (enc := eI) (T := fun x : List _ => (x.length : Int)) b_lenL (va_one (v_var (enc := (eL (eT2 eI eI))) (i := 10) (v := (fun s : ((((((((((((List Int) × (List Int)) × Int) × (List Int)) × (List Int)) × (List Int)) × (List (Int × Int))) × (List (Int × Int))) × Unit) × (List (Int × Int))) × (List (Int × Int))) × (List Int)) => s.1.2)) (fun _ => rfl))))))) (v_tstE (v_do2e (o_ne ceq_I (by decide)) (v_call (T := T_secret_of) v_secret_of (fun _ => rfl) (va_cons (v_var (enc := eI) (i := 2) (v := (fun s : ((((((((((((List Int) × (List Int)) × Int) × (List Int)) × (List Int)) × (List Int)) × (List (Int × Int))) × (List (Int × Int))) × Unit) × (List (Int × Int))) × (List (Int × Int))) × (List Int)) => s.1.1.1.1.1.1.1.1.1.2)) (fun _ => rfl)) (va_one (v_var (enc := (eL (eT2 eI eI))) (i := 10) (v := (fun s : ((((((((((((List Int) × (List Int)) × Int) × (List Int)) × (List Int)) × (List Int)) × (List (Int × Int))) × (List (Int × Int))) × Unit) × (List (Int × Int))) × (List (Int × Int))) × (List Int)) => s.1.2)) (fun _ => rfl))))) (v_do2p o_ixL (v_var (enc := (eL eI)) (i := 11) (v := (fun s : ((((((((((((List Int) × (List Int)) × Int) × (List Int)) × (List Int)) × (List Int)) × (List (Int × Int))) × (List (Int × Int))) × Unit) × (List (Int × Int))) × (List (Int × Int))) × (List Int)) => s.2)) (fun _ => rfl)) (v_int (i := 0))))))
 (s_ret out_F (fun _ => rfl) (VP.e v_bool))
 (s_for (EL := (fun (s : ((((((((((((List Int) × (List Int)) × Int) × (List Int)) × (List Int)) × (List Int)) × (List (Int × Int))) × (List (Int × Int))) × Unit) × (List (Int × Int))) × (List (Int × Int))) × (List Int))) (u : Unit) => ([.sh ((eL eI) s.1.1.1.1.1.1.1.1.1.1.1), .sh ((eL eI) s.1.1.1.1.1.1.1.1.1.1.2), .sh (eI s.1.1.1.1.1.1.1.1.1.2), .sh ((eL eI) s.1.1.1.1.1.1.1.1.2), .sh ((eL eI) s.1.1.1.1.1.1.1.2), .sh ((eL eI) s.1.1.1.1.1.1.2), .sh ((eL (eT2 eI eI)) s.1.1.1.1.1.2), .sh ((eL (eT2 eI eI)) s.1.1.1.1.2), .un, .sh ((eL (eT2 eI eI)) s.1.1.2), .sh ((eL (eT2 eI eI)) s.1.2), .sh ((eL eI) s.2), .un, .un] : Rho))) (EB := (fun (s18 : ((((((((((((List Int) × (List Int)) × Int) × (List Int)) × (List Int)) × (List Int)) × (List (Int × Int))) × (List (Int × Int))) × Unit) × (List (Int × Int))) × (List (Int × Int))) × (List Int))) (s : ((Int × Int) × Unit)) => ([.sh ((eL eI) s18.1.1.1.1.1.1.1.1.1.1.1), .sh ((eL eI) s18.1.1.1.1.1.1.1.1.1.1.2), .sh (eI s18.1.1.1.1.1.1.1.1.1.2), .sh ((eL eI) s18.1.1.1.1.1.1.1.1.2), .sh ((eL eI) s18.1.1.1.1.1.1.1.2), .sh ((eL eI) s18.1.1.1.1.1.1.2), .sh ((eL (eT2 eI eI)) s18.1.1.1.1.1.2), .sh ((eL (eT2 eI eI)) s18.1.1.1.1.2), .sh (eI s.1.1), .sh ((eL (eT2 eI eI)) s18.1.1.2), .sh ((eL (eT2 eI eI)) s18.1.2), .sh ((eL eI) s18.2), .sh (eI s.1.2), .un] : Rho))) (s0 := (fun s : ((((((((((((List Int) × (List Int)) × Int) × (List Int)) × (List Int)) × (List Int)) × (List (Int × Int))) × (List (Int × Int))) × Unit) × (List (Int × Int))) × (List (Int × Int))) × (List Int)) => ())) (E1 := (fun s : (((((((((((((List Int) × (List Int)) × Int) × (List Int)) × (List Int)) × (List Int)) × (List (Int × Int))) × (List (Int × Int))) × Unit) × (List (Int × Int))) × (List (Int × Int))) × (List Int)) × Unit) => ([.sh ((eL eI) s.1.1.1.1.1.1.1.1.1.1.1.1), .sh ((eL eI) s.1.1.1.1.1.1.1.1.1.1.1.2), .sh (eI s.1.1.1.1.1.1.1.1.1.1.2), .sh ((eL eI) s.1.1.1.1.1.1.1.1.1.2), .sh ((eL eI) s.1.1.1.1.1.1.1.1.2), .sh ((eL eI) s.1.1.1.1.1.1.1.2), .sh ((eL (eT2 eI eI)) s.1.1.1.1.1.1.2), .sh ((eL (eT2 eI eI)) s.1.1.1.1.1.2), .un, .sh ((eL (eT2 eI eI)) s.1.1.1.2), .sh ((eL (eT2 eI eI)) s.1.1.2), .sh ((eL eI) s.1.2), .un, .un] : Rho))) (π := Prod.mk) (VIP.e (w_list (v_var (enc := (eL (eT2 eI eI))) (i := 10) (v := (fun s : ((((((((((((List Int) × (List Int)) × Int) × (List Int)) × (List Int)) × (List Int)) × (List (Int × Int))) × (List (Int × Int))) × Unit) × (List (Int × Int))) × (List (Int × Int))) × (List Int)) => s.1.2)) (fun _ => rfl)))) (fun _ => rfl) (fun _ _ _ => rfl) (fun s18 =>
 (s_if (fun _ => rfl) (v_tstE (v_do2e (o_ne ceq_I (by decide)) (v_call (T := T__law_value) v__law_value (fun _ => rfl) (va_cons (v_var (enc := eI) (i := 2) (v := (fun s : ((Int × Int) × Unit) => s18.1.1.1.1.1.1.1.1.1.2)) (fun _ => rfl)) (va_cons (v_var (enc := (eL eI)) (i := 11) (v := (fun s : ((Int × Int) × Unit) => s18.2)) (fun _ => rfl)) (va_one (v_var (enc := eI) (i := 8) (v := (fun s : ((Int × Int) × Unit) => s.1.1)) (fun _ => rfl)))))) (VP.e (v_var (enc := eI) (i := 12) (v := (fun s : ((Int × Int) × Unit) => s.1.2)) (fun _ => rfl)))))
 (s_ret (out_L out_F) (fun _ => rfl) (VP.e v_bool))
 (s_endL (π := (fun s : ((Int × Int) × Unit) => ())) (fun _ => rfl)))) (fun _ _ => rfl)
 (s_ret out_F (fun _ => rfl) (v_call (T := T__law_doors) v__law_doors (fun _ => rfl) (va_cons (v_var (enc := eI) (i := 2) (v := (fun s : (((((((((((((List Int) × (List Int)) × Int) × (List Int)) × (List Int)) × (List Int)) × (List (Int × Int))) × (List (Int × Int))) × Unit) × (List (Int × Int))) × (List (Int × Int))) × (List Int)) × Unit) => s.1.1.1.1.1.1.1.1.1.1.2)) (fun _ => rfl)) (va_cons (v_var (enc := (eL eI)) (i := 3) (v := (fun s : (((((((((((((List Int) × (List Int)) × Int) × (List Int)) × (List Int)) × (List Int)) × (List (Int × Int))) × (List (Int × Int))) × Unit) × (List (Int × Int))) × (List (Int × Int))) × (List Int)) × Unit) => s.1.1.1.1.1.1.1.1.1.2)) (fun _ => rfl)) (va_one (v_var (enc := (eL (eT2 eI eI))) (i := 6) (v := (fun s : (((((((((((((List Int) × (List Int)) × Int) × (List Int)) × (List Int)) × (List Int)) × (List (Int × Int))) × (List (Int × Int))) × Unit) × (List (Int × Int))) × (List (Int × Int))) × (List Int)) × Unit) => s.1.1.1.1.1.1.2)) (fun _ => rfl)))))))))))))))))))))))⟩
def T_law (x : (List Int)) : Res Bool := tv_law.1 x
theorem v_law (x : (List Int)) : Le eB (T_law x) (S_law [(eL eI) (x)]) := fn_of (g := g_law) (tv_law.2 x)
end LK

set_option linter.all false
set_option maxRecDepth 100000
set_option maxHeartbeats 4000000
namespace LK
open PySem PySem.Spec PyProof.Rows L2 RZ J V
theorem t_raised {m b e : Int} (hm : 1 < m) (hm2 : m < 18446744073709551616) (h0 : 0 ≤ e) (h1 : e < 549755813888) : T_raised (m, b, e) = .ok (b ^ e.toNat % m) := by
  delta T_raised tv_raised
  simp only [bOk, id2]
  rw [modT_e (by omega), bOk]
  refine run_pow (n := 39) (fun v s r => (r, v, s)) (v := 1) (s := b % m) (r := e) (m := m) (by omega) (fun s' => ?_) (fun v s r => rfl) (fun v s r v0 v1 s0 s1 hr => ?_) (by omega) (by omega) (Int.emod_nonneg _ (by omega)) (Int.emod_lt_of_pos _ (by omega)) h0 (by omega)
  · show Res.ok _ = _
    rw [Int.one_mul, pow_emod]
  · dsimp only
    by_cases h : r % 2 = 1
    · simp only [h, decide_true, if_true]
      rw [mulT_l (by omega) (by omega), bOk, modT_e (by omega), bOk, bOk]
      dsimp only
      rw [mulT_l (by omega) (by omega), bOk, modT_e (by omega), bOk]
    · simp only [h, decide_false, if_false, Bool.false_eq_true]
      rw [bOk]
      dsimp only
      rw [mulT_l (by omega) (by omega), bOk, modT_e (by omega), bOk]
theorem t_check_exponent {q e : Int} : T_check_exponent (q, e) = if 0 ≤ e ∧ e < q then .ok () else .ex .notAllowed := by
  delta T_check_exponent tv_check_exponent T_is_exponent tv_is_exponent
  simp only [bOk, id2]
  by_cases h1 : 0 ≤ e <;> by_cases h2 : e < q <;> simp [h1, h2]
def isV (q : Int) (v : Int) : Bool := decide (0 ≤ v) && decide (v < q)
theorem isV_iff {q v : Int} : isV q v = true ↔ 0 ≤ v ∧ v < q := by simp [isV]
theorem cg_mod (q s : Int) : ∃ k, s % q = s + q * k := ⟨-(s / q), by rw [Int.emod_def]; grind⟩
theorem cg_of {q s t : Int} (h : s % q = t % q) : ∃ k, s = t + q * k := ⟨s / q - t / q, by
  have a := Int.emod_def s q
  have b := Int.emod_def t q
  grind⟩
theorem inv_q {q s : Int} (hq : IsOrd q) (h : s % q ≠ 0) : ∃ k, s * (s ^ (q - 2).toNat % q) = 1 + q * k := by
  have := ord_D hq
  have b1 := Int.emod_nonneg s (b := q) (by omega)
  have b3 := Int.emod_lt_of_pos s (b := q) (by omega)
  refine cg_of ?_
  rw [emod_mul_r, Int.mul_comm, ← Int.pow_succ, show (q - 2).toNat.succ = q.toNat - 1 by omega, ← pow_emod, ord_B hq (by omega) b3, Int.emod_eq_of_lt (by omega) (by omega)]
theorem t_quotient {q a b : Int} (hq : IsOrd q) (h : b % q ≠ 0) : T_quotient (q, a, b) = .ok (a * (b ^ (q - 2).toNat % q) % q) := by
  have := ord_D hq
  have b1 := Int.emod_nonneg (b ^ (q - 2).toNat) (b := q) (by omega)
  have b3 := Int.emod_lt_of_pos (b ^ (q - 2).toNat) (b := q) (by omega)
  delta T_quotient tv_quotient
  simp only [bOk, id2]
  rw [modT_e (by omega), bOk, bOk, if_neg (by simpa using h), t_raised (by omega) (by omega) (by omega) (by omega), bOk, mulT_r (by omega) (by omega), bOk, modT_e (by omega), bOk]
theorem sub_ne {q c d : Int} (hc : isV q c = true) (hd : isV q d = true) (h : c ≠ d) : (c - d) % q ≠ 0 := by
  have h1 := isV_iff.mp hc
  have h2 := isV_iff.mp hd
  intro z
  rcases Int.lt_or_gt_of_ne h with g | g
  · have := Int.emod_eq_of_lt (a := c - d + q) (b := q) (by omega) (by omega)
    rw [Int.add_emod_right] at this; omega
  · rw [Int.emod_eq_of_lt (by omega) (by omega)] at z; omega
theorem mul_no {q c d : Int} (hq : IsOrd q) (hc : 0 < c ∧ c < q) (hd : -q < d ∧ d < q) (h0 : d ≠ 0) : ¬ ∃ n, c * d = q * n := by
  rintro ⟨n, hn⟩
  have hqd := ord_D hq
  obtain ⟨i, hi⟩ := inv_q hq (s := c) (by rw [Int.emod_eq_of_lt (by omega) hc.2]; omega)
  generalize c ^ (q - 2).toNat % q = y at hi
  have e : d = q * (n * y - i * d) := by
    have e1 : (c * y) * d = (c * d) * y := by grind
    rw [hi, hn] at e1
    grind
  generalize n * y - i * d = m at e
  rcases Int.lt_trichotomy m 0 with h | h | h
  · have : q * m ≤ q * (-1) := Int.mul_le_mul_of_nonneg_left (by omega) (by omega)
    omega
  · rw [h, Int.mul_zero] at e; exact h0 e
  · have : q * 1 ≤ q * m := Int.mul_le_mul_of_nonneg_left (by omega) (by omega)
    omega

/-- a loop that may end the def -/
theorem run_io {α τ Ω γ : Type} {f : α → τ → Res (Fl τ Ω)} (I : Nat → τ → Prop) (Q : Ω → Prop) {xs : List α} {s : τ} {k : Fl τ Ω → Res γ} {P : Res γ → Prop} (h0 : I 0 s) (st : ∀ j x s, xs[j]? = some x → I j s → (∃ w, f x s = .ok (.out w) ∧ Q w) ∨ Ok (f x s) fun w => ∃ s', w = .nx s' ∧ I (j + 1) s') (hk : ∀ s', I xs.length s' → P (k (.nx s'))) (ho : ∀ w, Q w → P (k (.out w))) : P ((forT f xs s).bind k) := by
  have : ∀ (xs : List α) (n : Nat) (s : τ), I n s → (∀ j x s, xs[j]? = some x → I (n + j) s → (∃ w, f x s = .ok (.out w) ∧ Q w) ∨ Ok (f x s) fun w => ∃ s', w = .nx s' ∧ I (n + j + 1) s') → (∃ w, forT f xs s = .ok (.out w) ∧ Q w) ∨ ∃ s', forT f xs s = .ok (.nx s') ∧ I (n + xs.length) s' := by
    intro xs
    induction xs with
    | nil => intro n s h _; exact .inr ⟨s, rfl, h⟩
    | cons x xs ih =>
      intro n s h st
      rcases st 0 x s rfl h with ⟨w, e, q⟩ | ⟨_, e, s1, rfl, i1⟩
      · refine .inl ⟨w, ?_, q⟩
        show Res.bind (f x s) _ = _
        rw [e, bOk]
      · rcases ih (n + 1) s1 i1 fun j y s hy hi => by
          have := st (j + 1) y s hy (by rw [show n + (j + 1) = n + 1 + j by omega]; exact hi)
          rw [show n + (j + 1) + 1 = n + 1 + j + 1 by omega] at this
          exact this with ⟨w, e2, q⟩ | ⟨s2, e2, i2⟩
        · refine .inl ⟨w, ?_, q⟩
          show Res.bind (f x s) _ = _
          rw [e, bOk]; exact e2
        · refine .inr ⟨s2, ?_, by rw [List.length_cons, show n + (xs.length + 1) = n + 1 + xs.length by omega]; exact i2⟩
          show Res.bind (f x s) _ = _
          rw [e, bOk]; exact e2
  rcases this xs 0 s h0 (fun j x s h i => by rw [Nat.zero_add] at i ⊢; exact st j x s h i) with ⟨w, e, q⟩ | ⟨s', e, i⟩
  · rw [e, bOk]; exact ho w q
  · rw [e, bOk]; exact hk s' (by rw [Nat.zero_add] at i; exact i)

/-! lists that are gathered -/
theorem rngI_nil {lo hi : Int} (h : hi ≤ lo) : rngI lo hi = [] := by
  unfold rngI
  rw [show (hi - lo).toNat = 0 by omega]; rfl
theorem rngI_cons {lo hi : Int} (h : lo < hi) : rngI lo hi = lo :: rngI (lo + 1) hi := by
  unfold rngI
  rw [show (hi - lo).toNat = (hi - (lo + 1)).toNat + 1 by omega, List.range_succ_eq_map, List.map_cons, List.map_map]
  congr 1
  · show lo + ((0 : Nat) : Int) = lo; omega
  · refine List.map_congr_left fun k _ => ?_
    show lo + ((k + 1 : Nat) : Int) = lo + 1 + (k : Int)
    omega
theorem flat_none {β : Type} {hi : Int} {G : Int → List β} : ∀ (n : Nat) (lo : Int), (hi - lo).toNat = n → (∀ x, lo ≤ x → x < hi → G x = []) → (rngI lo hi).flatMap G = []
  | 0, lo, e, _ => by rw [rngI_nil (by omega)]; rfl
  | n + 1, lo, e, h => by
    rw [rngI_cons (by omega), List.flatMap_cons, h lo (by omega) (by omega), flat_none n (lo + 1) (by omega) fun x h1 h2 => h x (by omega) h2]; rfl
theorem flat_one {β : Type} {hi a : Int} {G : Int → List β} : ∀ (n : Nat) (lo : Int), (hi - lo).toNat = n → lo ≤ a → a < hi → (∀ x, lo ≤ x → x < hi → x ≠ a → G x = []) → (rngI lo hi).flatMap G = G a
  | 0, lo, e, h1, h2, _ => by omega
  | n + 1, lo, e, h1, h2, h => by
    rw [rngI_cons (by omega), List.flatMap_cons]
    by_cases q : lo = a
    · subst q
      rw [flat_none n (lo + 1) (by omega) fun x h1 h2 => h x (by omega) h2 (by omega), List.append_nil]
    · rw [h lo (by omega) (by omega) q, List.nil_append, flat_one n (lo + 1) (by omega) (by omega) h2 fun x h1 h2 h3 => h x (by omega) h2 h3]
theorem filter_flat {α : Type} {P : α → Bool} : ∀ xs : List α, xs.filter P = xs.flatMap fun x => if P x = true then [x] else []
  | [] => rfl
  | x :: xs => by
    rw [List.filter_cons, List.flatMap_cons, filter_flat xs]
    by_cases q : P x = true
    · rw [if_pos q, if_pos q]; rfl
    · rw [if_neg q, if_neg q]; rfl
theorem filter_one {lo hi a : Int} {P : Int → Bool} (h1 : lo ≤ a) (h2 : a < hi) (hP : ∀ x, lo ≤ x → x < hi → (P x = true ↔ x = a)) : (rngI lo hi).filter P = [a] := by
  rw [filter_flat, flat_one (a := a) _ lo rfl h1 h2 fun x g1 g2 g3 => if_neg fun z => g3 ((hP x g1 g2).mp z), if_pos ((hP a h1 h2).mpr rfl)]
theorem flat_map {α β : Type} {g : α → β} : ∀ xs : List α, (xs.flatMap fun x => [g x]) = xs.map g
  | [] => rfl
  | x :: xs => by rw [List.flatMap_cons, flat_map xs]; rfl
theorem forT_cat {α β Ω : Type} {f : α → List β → Res (Fl (List β) Ω)} (G : α → List β) (m e : Nat) : ∀ (xs : List α) (u : List β), u.length + xs.length * m + e ≤ 16777216 → (∀ x ∈ xs, (G x).length ≤ m) → (∀ x ∈ xs, ∀ u, u.length + m + e ≤ 16777216 → f x u = .ok (.nx (u ++ G x))) → forT f xs u = .ok (.nx (u ++ xs.flatMap G))
  | [], u, _, _, _ => by rw [List.flatMap_nil, List.append_nil]; rfl
  | x :: xs, u, hl, hm, h => by
    rw [List.length_cons, Nat.add_mul] at hl
    have g := hm x (by simp)
    show Res.bind (f x u) _ = _
    rw [h x (by simp) u (by omega), bOk]
    show forT f xs (u ++ G x) = _
    rw [forT_cat G m e xs (u ++ G x) (by rw [List.length_append]; omega) (fun y hy => hm y (by simp [hy])) (fun y hy => h y (by simp [hy])), List.flatMap_cons, List.append_assoc]
theorem compT_f {α β : Type} {t : α → Res Bool} {f : α → Res β} (P : α → Bool) (g : α → β) (xs : List α) (h : xs.length ≤ 16777216) (ht : ∀ x ∈ xs, t x = .ok (P x)) (hf : ∀ x ∈ xs, f x = .ok (g x)) : compT t f xs = .ok ((xs.filter P).map g) := by
  unfold compT
  rw [if_pos h]
  have : ∀ ys : List α, (∀ x ∈ ys, x ∈ xs) → mapT t f ys = .ok ((ys.filter P).map g) := by
    intro ys
    induction ys with
    | nil => intro _; rfl
    | cons y ys ih =>
      intro hy
      show Res.bind (noEx (t y)) _ = _
      rw [ht y (hy y (by simp))]
      show (if P y = true then _ else mapT t f ys : Res (List β)) = _
      rw [List.filter_cons, ih fun x hx => hy x (by simp [hx])]
      by_cases q : P y = true
      · rw [if_pos q, if_pos q, hf y (hy y (by simp))]; rfl
      · rw [if_neg q, if_neg q]
  rw [this xs fun x h => h]; rfl

/-! sums, rows and what solves them -/
def sm : Nat → (Nat → Int) → Int
  | 0, _ => 0
  | n + 1, f => sm n f + f n
theorem sm_cg {q : Int} {f g : Nat → Int} : ∀ n, (∀ c, c < n → ∃ k, f c = g c + q * k) → ∃ k, sm n f = sm n g + q * k
  | 0, _ => ⟨0, by simp [sm]⟩
  | n + 1, h => by
    obtain ⟨k1, e1⟩ := sm_cg n fun c hc => h c (by omega)
    obtain ⟨k2, e2⟩ := h n (by omega)
    exact ⟨k1 + k2, by simp only [sm]; rw [e1, e2]; grind⟩
theorem sm_lin {α β : Int} {f g : Nat → Int} : ∀ n, sm n (fun c => α * f c + β * g c) = α * sm n f + β * sm n g
  | 0 => by simp [sm]
  | n + 1 => by simp only [sm]; rw [sm_lin n]; grind
theorem sm_congr {f g : Nat → Int} : ∀ n, (∀ c, c < n → f c = g c) → sm n f = sm n g
  | 0, _ => rfl
  | n + 1, h => by simp only [sm]; rw [sm_congr n fun c hc => h c (by omega), h n (by omega)]
theorem sm_0 : ∀ n, sm n (fun _ => 0) = 0
  | 0 => rfl
  | n + 1 => by simp only [sm]; rw [sm_0 n]; rfl
/-- one place only -/
theorem sm_one {a : Nat} {f : Nat → Int} : ∀ n, a < n → (∀ c, c < n → c ≠ a → f c = 0) → sm n f = f a
  | n + 1, h, z => by
    simp only [sm]
    by_cases e : a = n
    · subst e
      rw [sm_congr (g := fun _ => 0) a fun c hc => z c (by omega) (by omega), sm_0]; omega
    · rw [sm_one n (by omega) fun c hc ne => z c (by omega) ne, z n (by omega) (fun q => e q.symm)]; omega
def en (r : List Int) (c : Nat) : Int := r.getD c 0
/-- the row's left side at s, less t times its right side -/
def rs (n : Nat) (s : Nat → Int) (t : Int) (r : List Int) : Int := sm n (fun c => en r c * s c) - t * en r n
theorem rs_lin {q α β : Int} {n : Nat} {s : Nat → Int} {t : Int} {r r1 r2 : List Int} (h : ∀ c, c ≤ n → ∃ k, en r c = α * en r1 c + β * en r2 c + q * k) : ∃ k, rs n s t r = α * rs n s t r1 + β * rs n s t r2 + q * k := by
  obtain ⟨k1, e1⟩ := sm_cg (q := q) (f := fun c => en r c * s c) (g := fun c => α * (en r1 c * s c) + β * (en r2 c * s c)) n fun c hc => by
    obtain ⟨k, hk⟩ := h c (by omega)
    exact ⟨k * s c, by rw [hk]; grind⟩
  obtain ⟨k2, e2⟩ := h n (Nat.le_refl _)
  rw [sm_lin (f := fun c => en r1 c * s c) (g := fun c => en r2 c * s c)] at e1
  unfold rs
  exact ⟨k1 - t * k2, by rw [e1, e2]; grind⟩
/-- s solves the rows -/
def slv (q : Int) (n : Nat) (s : Nat → Int) (t : Int) (rows : List (List Int)) : Prop := ∀ r ∈ rows, ∃ k, rs n s t r = q * k
def rw_ (rows : List (List Int)) (k : Nat) : List Int := rows.getD k []
theorem rw_mem {rows : List (List Int)} {k : Nat} (h : k < rows.length) : rw_ rows k ∈ rows := by
  unfold rw_
  rw [List.getD_eq_getElem?_getD, List.getElem?_eq_getElem h]
  exact List.getElem_mem h
theorem mem_rw {rows : List (List Int)} {r : List Int} (h : r ∈ rows) : ∃ k, k < rows.length ∧ r = rw_ rows k := by
  obtain ⟨k, hk, e⟩ := List.mem_iff_getElem.mp h
  refine ⟨k, hk, ?_⟩
  unfold rw_
  rw [List.getD_eq_getElem?_getD, List.getElem?_eq_getElem hk, ← e]
  rfl
/-- a row of the right shape -/
def okR (q : Int) (n : Nat) (r : List Int) : Prop := r.length = n + 1 ∧ ∀ x ∈ r, 0 ≤ x ∧ x < q
theorem okR_en {q : Int} {n : Nat} {r : List Int} (hq : 0 < q) (h : okR q n r) (c : Nat) : 0 ≤ en r c ∧ en r c < q := by
  unfold en
  rw [List.getD_eq_getElem?_getD]
  by_cases hc : c < r.length
  · rw [List.getElem?_eq_getElem hc]; exact h.2 _ (List.getElem_mem hc)
  · rw [List.getElem?_eq_none (by omega)]; exact ⟨Int.le_refl _, hq⟩
theorem ix_en {r : List Int} {c : Nat} (h : c < r.length) : ixT r (c : Int) = .ok (en r c) := by
  unfold ixT atI ixN en
  rw [List.getD_eq_getElem?_getD, List.getElem?_eq_getElem h]
  have : (c : Int) < (r.length : Int) := by omega
  simp [h]
theorem ix_rw {rows : List (List Int)} {c : Nat} (h : c < rows.length) : ixT rows (c : Int) = .ok (rw_ rows c) := by
  unfold ixT atI ixN rw_
  rw [List.getD_eq_getElem?_getD, List.getElem?_eq_getElem h]
  have : (c : Int) < (rows.length : Int) := by omega
  simp [h]
/-! the reading of the program's parts -/
theorem t_first {rows : List (List Int)} {a b : Nat} {n : Nat} (hr : ∀ r ∈ rows, r.length = n + 1) (hb : b ≤ n) (hl : rows.length < 1000) (ha : a ≤ rows.length) :
    (T_first_row_with (rows, a, b) = .ok none ∧ ∀ k, a ≤ k → k < rows.length → en (rw_ rows k) b = 0) ∨ ∃ k : Nat, a ≤ k ∧ k < rows.length ∧ T_first_row_with (rows, a, b) = .ok (some (k : Int)) ∧ en (rw_ rows k) b ≠ 0 := by
  delta T_first_row_with tv_first_row_with
  simp only [bOk, id2]
  rw [rngT_e (by omega) (by omega) (by omega) (by omega), bOk]
  have hll : (rngI (a : Int) (rows.length : Int)).length = rows.length - a := by rw [rngI_len]; omega
  refine run_io (P := fun t : Res (Option Int) => (t = .ok none ∧ ∀ k, a ≤ k → k < rows.length → en (rw_ rows k) b = 0) ∨ ∃ k : Nat, a ≤ k ∧ k < rows.length ∧ t = .ok (some (k : Int)) ∧ en (rw_ rows k) b ≠ 0)
    (fun (j : Nat) (_ : Unit) => ∀ k, a ≤ k → k < a + j → en (rw_ rows k) b = 0) (fun w => ∃ k : Nat, a ≤ k ∧ k < rows.length ∧ w = some (k : Int) ∧ en (rw_ rows k) b ≠ 0) (fun k h1 h2 => by omega) (fun j x u hx hI => ?_) (fun u hI => .inl ⟨rfl, fun k h1 h2 => hI k h1 (by rw [hll]; omega)⟩) (fun w hw => ?_)
  · have hx := rngI_get hx
    have hj : a + j < rows.length := by have := hx.2; omega
    have ex : x = ((a + j : Nat) : Int) := by omega
    subst ex
    rw [ix_rw hj, bOk, ix_en (by rw [hr _ (rw_mem hj)]; omega), bOk, bOk]
    by_cases z : en (rw_ rows (a + j)) b = 0
    · refine .inr ⟨_, by rw [if_neg (by simpa using z)], (), rfl, fun k h1 h2 => ?_⟩
      by_cases e : k = a + j
      · rw [e]; exact z
      · exact hI k h1 (by omega)
    · exact .inl ⟨_, by rw [if_pos (by simpa using z)], a + j, by omega, hj, rfl, z⟩
  · obtain ⟨k, h1, h2, rfl, h4⟩ := hw
    exact .inr ⟨k, h1, h2, rfl, h4⟩
theorem t_swapped {rows : List (List Int)} {a b : Nat} (ha : a < rows.length) (hb : b < rows.length) : T_swapped (rows, a, b) = .ok ((rows.set a (rw_ rows b)).set b (rw_ rows a)) := by
  delta T_swapped tv_swapped
  simp only [bOk, id2]
  rw [ix_rw hb, bOk, stT_e (by omega) (by omega), bOk, ix_rw ha, bOk, stT_e (by omega) (by rw [List.length_set]; omega), bOk]
  rfl
def lessR (q f : Int) (r l : List Int) : List Int := (r.zip l).map fun z => (z.1 - f * z.2) % q
theorem t_less {q f : Int} {r l : List Int} (hq : 0 < q) (hf : 0 ≤ f ∧ f < q) (hq2 : q < 2000) (hl : r.length ≤ 1000) : T_less_multiple (q, r, f, l) = .ok (lessR q f r l) := by
  delta T_less_multiple tv_less_multiple
  simp only [bOk, id2]
  rw [compT_e (fun z : Int × Int => (z.1 - f * z.2) % q) _ (by rw [List.length_zip]; omega) (fun _ _ => rfl) fun p _ => by rw [mulT_l (by omega) (by omega), bOk, bOk, modT_e hq], bOk]
  rfl
def leadR (q f : Int) (r : List Int) : List Int := r.map fun x => f * x % q
def clearF (q : Int) (rows : List (List Int)) (a b : Nat) : List (List Int) :=
  let f := 1 * (en (rw_ rows a) b ^ (q - 2).toNat % q) % q
  (enumT rows).map fun p => if p.1 = (a : Int) then leadR q f (rw_ rows a) else lessR q (en p.2 b) p.2 (leadR q f (rw_ rows a))

theorem enum_get {rows : List (List Int)} {k : Nat} (h : k < rows.length) : (enumT rows)[k]? = some ((k : Int), rw_ rows k) := by
  unfold enumT rw_
  rw [List.getElem?_zipWith, List.getElem?_range h, List.getD_eq_getElem?_getD, List.getElem?_eq_getElem h]
  rfl
theorem enum_len {rows : List (List Int)} : (enumT rows).length = rows.length := by
  unfold enumT
  rw [List.length_zipWith, List.length_range, Nat.min_self]
theorem enum_mem {rows : List (List Int)} {p : Int × List Int} (h : p ∈ enumT rows) : ∃ k : Nat, k < rows.length ∧ p = ((k : Int), rw_ rows k) := by
  obtain ⟨k, hk, e⟩ := List.mem_iff_getElem.mp h
  rw [enum_len] at hk
  refine ⟨k, hk, ?_⟩
  have := enum_get hk
  rw [List.getElem?_eq_getElem (by rw [enum_len]; exact hk), e] at this
  injection this
theorem okR_less {q f : Int} {n : Nat} {r l : List Int} (hq : 0 < q) (hr : r.length = n + 1) (hl : l.length = n + 1) : okR q n (lessR q f r l) := by
  refine ⟨by unfold lessR; rw [List.length_map, List.length_zip]; omega, fun x hx => ?_⟩
  obtain ⟨z, _, rfl⟩ := List.mem_map.mp hx
  exact ⟨Int.emod_nonneg _ (by omega), Int.emod_lt_of_pos _ hq⟩
theorem okR_lead {q f : Int} {n : Nat} {r : List Int} (hq : 0 < q) (hr : r.length = n + 1) : okR q n (leadR q f r) := by
  refine ⟨by unfold leadR; rw [List.length_map]; exact hr, fun x hx => ?_⟩
  obtain ⟨z, _, rfl⟩ := List.mem_map.mp hx
  exact ⟨Int.emod_nonneg _ (by omega), Int.emod_lt_of_pos _ hq⟩
theorem en_lead {q f : Int} {r : List Int} {c : Nat} (h : c < r.length) : en (leadR q f r) c = f * en r c % q := by
  unfold en leadR
  rw [List.getD_eq_getElem?_getD, List.getD_eq_getElem?_getD, List.getElem?_map, List.getElem?_eq_getElem h]
  rfl
theorem en_less {q f : Int} {r l : List Int} {c : Nat} (h : c < r.length) (h2 : c < l.length) : en (lessR q f r l) c = (en r c - f * en l c) % q := by
  unfold en lessR
  rw [List.getD_eq_getElem?_getD, List.getD_eq_getElem?_getD, List.getD_eq_getElem?_getD, List.getElem?_map, (List.getElem?_zip_eq_some (z := (r[c], l[c]))).mpr ⟨List.getElem?_eq_getElem h, List.getElem?_eq_getElem h2⟩, List.getElem?_eq_getElem h, List.getElem?_eq_getElem h2]
  rfl
def facF (q e : Int) : Int := 1 * (e ^ (q - 2).toNat % q) % q
def clrR (q : Int) (rows : List (List Int)) (a b k : Nat) : List Int :=
  if k = a then leadR q (facF q (en (rw_ rows a) b)) (rw_ rows a) else lessR q (en (rw_ rows k) b) (rw_ rows k) (leadR q (facF q (en (rw_ rows a) b)) (rw_ rows a))
theorem t_cleared {q : Int} {rows : List (List Int)} {a b n : Nat} (hq : IsOrd q) (hr : ∀ r ∈ rows, okR q n r) (hb : b ≤ n) (hn : n ≤ 900) (ha : a < rows.length) (hl : rows.length < 1000) (he : en (rw_ rows a) b ≠ 0) :
    ∃ out, T_cleared (q, rows, a, b) = .ok out ∧ out.length = rows.length ∧ ∀ k, k < rows.length → rw_ out k = clrR q rows a b k := by
  have hqd := ord_D hq
  have ok := hr _ (rw_mem ha)
  have eb := okR_en (by omega) ok b
  have nz : en (rw_ rows a) b % q ≠ 0 := by rw [Int.emod_eq_of_lt eb.1 eb.2]; exact he
  have f1 : 0 ≤ facF q (en (rw_ rows a) b) ∧ facF q (en (rw_ rows a) b) < q := ⟨Int.emod_nonneg _ (by omega), Int.emod_lt_of_pos _ (by omega)⟩
  have lk := okR_lead (q := q) (f := facF q (en (rw_ rows a) b)) (by omega) ok.1
  refine ⟨(enumT rows).map fun p => if p.1 = (a : Int) then leadR q (facF q (en (rw_ rows a) b)) (rw_ rows a) else lessR q (en p.2 b) p.2 (leadR q (facF q (en (rw_ rows a) b)) (rw_ rows a)), ?_, by rw [List.length_map, enum_len], fun k hk => ?_⟩
  · delta T_cleared tv_cleared
    simp only [bOk, id2]
    rw [ix_rw ha, bOk, ix_en (by rw [ok.1]; omega), bOk, bOk, bOk, t_quotient hq nz, bOk]
    rw [show 1 * (en (rw_ rows a) b ^ (q - 2).toNat % q) % q = facF q (en (rw_ rows a) b) from rfl]
    rw [bOk, compT_e (fun x => facF q (en (rw_ rows a) b) * x % q) _ (by rw [ok.1]; omega) (fun _ _ => rfl) fun x hx => by rw [mulT_l (by omega) (by omega), bOk, modT_e (by omega)], bOk]
    rw [compT_e (fun p : Int × List Int => if p.1 = (a : Int) then leadR q (facF q (en (rw_ rows a) b)) (rw_ rows a) else lessR q (en p.2 b) p.2 (leadR q (facF q (en (rw_ rows a) b)) (rw_ rows a))) _ (by rw [enum_len]; omega) (fun _ _ => rfl) fun p hp => ?_, bOk]
    obtain ⟨k, hk, rfl⟩ := enum_mem hp
    have okk := hr _ (rw_mem hk)
    dsimp only
    by_cases e : (k : Int) = (a : Int)
    · rw [if_pos (decide_eq_true e), if_pos e]; rfl
    · rw [if_neg (by simpa using e), if_neg e, ix_en (by rw [okk.1]; omega), bOk, bOk, bOk, bOk]
      exact t_less (by omega) (okR_en (by omega) okk b) (by omega) (by rw [okk.1]; omega)
  · unfold rw_
    rw [List.getD_eq_getElem?_getD, List.getElem?_map, enum_get hk]
    show (if (k : Int) = (a : Int) then _ else _) = clrR q rows a b k
    unfold clrR
    by_cases e : k = a
    · rw [if_pos e, if_pos (by omega)]; rfl
    · rw [if_neg e, if_neg (by omega)]; rfl
/-! one step: swapped, then cleared -/
theorem fac_inv {q e : Int} (hq : IsOrd q) (h : e % q ≠ 0) : ∃ k, e * facF q e = 1 + q * k := by
  obtain ⟨i, hi⟩ := inv_q hq h
  obtain ⟨j, hj⟩ := cg_mod q (1 * (e ^ (q - 2).toNat % q))
  unfold facF
  rw [hj]
  generalize e ^ (q - 2).toNat % q = w at hi
  exact ⟨i + e * j, by grind⟩
theorem slv_clr {q : Int} {n a b : Nat} {s : Nat → Int} {t : Int} {rows out : List (List Int)} (hq : IsOrd q) (hr : ∀ r ∈ rows, okR q n r) (hb : b ≤ n) (ha : a < rows.length) (he : en (rw_ rows a) b ≠ 0) (ho : out.length = rows.length) (hk : ∀ k, k < rows.length → rw_ out k = clrR q rows a b k) (h : slv q n s t out) : slv q n s t rows := by
  have hqd := ord_D hq
  have ok := hr _ (rw_mem ha)
  have eb := okR_en (by omega) ok b
  have nz : en (rw_ rows a) b % q ≠ 0 := by rw [Int.emod_eq_of_lt eb.1 eb.2]; exact he
  obtain ⟨i, hi⟩ := fac_inv hq nz
  generalize hf : facF q (en (rw_ rows a) b) = f at hi
  -- the leading row
  obtain ⟨k1, e1⟩ := rs_lin (q := q) (α := f) (β := 0) (n := n) (s := s) (t := t) (r := leadR q f (rw_ rows a)) (r1 := rw_ rows a) (r2 := []) fun c hc => by
    rw [en_lead (by rw [ok.1]; omega)]
    obtain ⟨k, hk⟩ := cg_mod q (f * en (rw_ rows a) c)
    exact ⟨k, by rw [hk]; grind⟩
  have ea : rw_ out a = leadR q f (rw_ rows a) := by rw [hk a ha]; unfold clrR; rw [if_pos rfl, hf]
  obtain ⟨k2, e2⟩ := h _ (rw_mem (by rw [ho]; exact ha))
  rw [ea] at e2
  have la : ∃ k, rs n s t (rw_ rows a) = q * k := by
    have : f * rs n s t (rw_ rows a) = q * (k2 - k1) := by rw [e2] at e1; grind
    refine ⟨en (rw_ rows a) b * (k2 - k1) - i * rs n s t (rw_ rows a), ?_⟩
    have e3 : en (rw_ rows a) b * f * rs n s t (rw_ rows a) = q * (en (rw_ rows a) b * (k2 - k1)) := by rw [Int.mul_assoc, this]; grind
    rw [hi] at e3
    grind
  intro r hrm
  obtain ⟨k, hkl, rfl⟩ := mem_rw hrm
  by_cases e : k = a
  · subst e; exact la
  have okk := hr _ (rw_mem hkl)
  have ek : rw_ out k = lessR q (en (rw_ rows k) b) (rw_ rows k) (leadR q f (rw_ rows a)) := by rw [hk k hkl]; unfold clrR; rw [if_neg e, hf]
  obtain ⟨k3, e3⟩ := h _ (rw_mem (k := k) (by rw [ho]; exact hkl))
  rw [ek] at e3
  have lk := okR_lead (q := q) (f := f) (by omega) ok.1
  obtain ⟨k4, e4⟩ := rs_lin (q := q) (α := 1) (β := -en (rw_ rows k) b) (n := n) (s := s) (t := t) (r := lessR q (en (rw_ rows k) b) (rw_ rows k) (leadR q f (rw_ rows a))) (r1 := rw_ rows k) (r2 := leadR q f (rw_ rows a)) fun c hc => by
    rw [en_less (by rw [okk.1]; omega) (by rw [lk.1]; omega)]
    obtain ⟨k, hk⟩ := cg_mod q (en (rw_ rows k) c - en (rw_ rows k) b * en (leadR q f (rw_ rows a)) c)
    exact ⟨k, by rw [hk]; grind⟩
  exact ⟨k3 - k4 + en (rw_ rows k) b * k2, by rw [e2, e3] at e4; grind⟩

def swp (rows : List (List Int)) (a b : Nat) : List (List Int) := (rows.set a (rw_ rows b)).set b (rw_ rows a)
theorem rw_swp {rows : List (List Int)} {a b k : Nat} (ha : a < rows.length) (hb : b < rows.length) : rw_ (swp rows a b) k = if k = b then rw_ rows a else if k = a then rw_ rows b else rw_ rows k := by
  unfold swp
  show ((rows.set a (rw_ rows b)).set b (rw_ rows a)).getD k [] = _
  rw [List.getD_eq_getElem?_getD, List.getElem?_set]
  by_cases e : b = k
  · rw [if_pos e, if_pos (by rw [List.length_set]; omega), if_pos e.symm]; rfl
  · rw [if_neg e, if_neg (fun z => e z.symm), List.getElem?_set]
    by_cases e2 : a = k
    · rw [if_pos e2, if_pos (by omega), if_pos e2.symm]; rfl
    · rw [if_neg e2, if_neg (fun z => e2 z.symm)]
      unfold rw_
      rw [List.getD_eq_getElem?_getD]
theorem swp_len {rows : List (List Int)} {a b : Nat} : (swp rows a b).length = rows.length := by
  unfold swp
  rw [List.length_set, List.length_set]
theorem swp_mem {rows : List (List Int)} {a b : Nat} (ha : a < rows.length) (hb : b < rows.length) {r : List Int} (h : r ∈ swp rows a b) : r ∈ rows := by
  obtain ⟨k, hk, rfl⟩ := mem_rw h
  rw [swp_len] at hk
  rw [rw_swp ha hb]
  split
  · exact rw_mem ha
  · split
    · exact rw_mem hb
    · exact rw_mem hk
theorem swp_slv {q : Int} {n a b : Nat} {s : Nat → Int} {t : Int} {rows : List (List Int)} (ha : a < rows.length) (hb : b < rows.length) (h : slv q n s t (swp rows a b)) : slv q n s t rows := fun r hr => by
  obtain ⟨k, hk, rfl⟩ := mem_rw hr
  have key : ∀ i, i < rows.length → ∃ z, rs n s t (rw_ (swp rows a b) i) = q * z := fun i hi => h _ (rw_mem (by rw [swp_len]; exact hi))
  by_cases e : k = a
  · have := key b hb
    rw [rw_swp ha hb, if_pos rfl] at this
    rw [e]; exact this
  · by_cases e2 : k = b
    · have := key a ha
      rw [rw_swp ha hb] at this
      by_cases e3 : a = b
      · rw [if_pos e3] at this; rw [e2, ← e3]; exact this
      · rw [if_neg e3, if_pos rfl] at this; rw [e2]; exact this
    · have := key k hk
      rw [rw_swp ha hb, if_neg e2, if_neg e] at this
      exact this
/-- j columns are done -/
structure RI (q : Int) (n : Nat) (rows0 : List (List Int)) (j : Nat) (left : List (List Int)) (bound : List Int) : Prop where
  len : left.length = n
  ok : ∀ r ∈ left, okR q n r
  bd : bound = (List.range j).map fun (i : Nat) => (i : Int)
  un : ∀ i k, i < j → k < n → en (rw_ left k) i = if k = i then 1 else 0
  sl : ∀ s t, slv q n s t left → slv q n s t rows0
/-- only 0 solves the rows without their right sides -/
def NK (q : Int) (n : Nat) (rows : List (List Int)) : Prop := ∀ s, slv q n s 0 rows → ∀ c, c < n → ∃ k, s c = q * k
theorem RI.pivot {q : Int} {n j : Nat} {rows0 left : List (List Int)} {bound : List Int} (hq : IsOrd q) (I : RI q n rows0 j left bound) (hj : j < n) (nk : NK q n rows0) (h : ∀ k, j ≤ k → k < n → en (rw_ left k) j = 0) : False := by
  have hqd := ord_D hq
  let s : Nat → Int := fun c => if c < j then -(en (rw_ left c) j) else if c = j then 1 else 0
  have sj : s j = 1 := by show (if j < j then _ else if j = j then (1 : Int) else 0) = 1; rw [if_neg (by omega), if_pos rfl]
  have key : slv q n s 0 left := fun r hr => by
    obtain ⟨k, hk, rfl⟩ := mem_rw hr
    rw [I.len] at hk
    refine ⟨0, ?_⟩
    have e1 : sm n (fun c => en (rw_ left k) c * s c) = 1 * sm n (fun c => if c = k ∧ k < j then -(en (rw_ left k) j) else 0) + 1 * sm n (fun c => if c = j then en (rw_ left k) j else 0) := by
      rw [← sm_lin]
      refine sm_congr n fun c hc => ?_
      show en (rw_ left k) c * (if c < j then -(en (rw_ left c) j) else if c = j then 1 else 0) = _
      by_cases c1 : c < j
      · rw [if_pos c1, I.un c k c1 hk, if_neg (show ¬ c = j by omega)]
        by_cases e : k = c
        · subst e; rw [if_pos rfl, if_pos ⟨rfl, c1⟩]; omega
        · rw [if_neg e, if_neg (fun z => e z.1.symm)]; omega
      · rw [if_neg c1]
        by_cases e : c = j
        · subst e
          rw [if_pos rfl, if_pos rfl, if_neg (by omega)]; omega
        · rw [if_neg e, if_neg e, if_neg (by omega)]; omega
    have e2 : sm n (fun c => if c = j then en (rw_ left k) j else 0) = en (rw_ left k) j := by
      rw [sm_one (a := j) n hj fun c _ ne => if_neg ne, if_pos rfl]
    have e3 : sm n (fun c => if c = k ∧ k < j then -(en (rw_ left k) j) else 0) = if k < j then -(en (rw_ left k) j) else 0 := by
      rw [sm_one (a := k) n hk fun c _ ne => if_neg fun z => ne z.1]
      by_cases c1 : k < j
      · rw [if_pos ⟨rfl, c1⟩, if_pos c1]
      · rw [if_neg fun z => c1 z.2, if_neg c1]
    unfold rs
    rw [e1, e2, e3]
    by_cases c1 : k < j
    · rw [if_pos c1]; omega
    · rw [if_neg c1, h k (by omega) hk]; omega
  obtain ⟨k, hk⟩ := nk s (I.sl s 0 key) j hj
  rw [sj] at hk
  have : (1 : Int) % q = 0 := by rw [hk, Int.mul_emod_right]
  rw [Int.emod_eq_of_lt (by omega) (by omega)] at this
  omega
theorem RI.step {q : Int} {n j a : Nat} {rows0 left out : List (List Int)} {bound : List Int} (hq : IsOrd q) (I : RI q n rows0 j left bound) (hj : j < n) (ha : j ≤ a) (ha2 : a < n) (he : en (rw_ left a) j ≠ 0) (ho : out.length = n) (hk : ∀ k, k < n → rw_ out k = clrR q (swp left a j) j j k) :
    RI q n rows0 (j + 1) out (bound ++ [(j : Int)]) := by
  have hqd := ord_D hq
  have la : a < left.length := by rw [I.len]; exact ha2
  have lj : j < left.length := by rw [I.len]; exact hj
  have sw := @rw_swp left a j
  have okS : ∀ r ∈ swp left a j, okR q n r := fun r hr => I.ok r (swp_mem la lj hr)
  have ej : rw_ (swp left a j) j = rw_ left a := by rw [sw la lj, if_pos rfl]
  have lS : (swp left a j).length = n := by rw [swp_len, I.len]
  have unS : ∀ i k, i < j → k < n → en (rw_ (swp left a j) k) i = if k = i then 1 else 0 := fun i k hi hkn => by
    rw [sw la lj]
    by_cases e : k = j
    · rw [if_pos e, I.un i a hi ha2, if_neg (by omega), if_neg (by omega)]
    · rw [if_neg e]
      by_cases e2 : k = a
      · rw [if_pos e2, I.un i j hi hj, if_neg (by omega), if_neg (by omega)]
      · rw [if_neg e2, I.un i k hi hkn]
  have okj := okS _ (rw_mem (k := j) (by rw [lS]; exact hj))
  have pe : en (rw_ (swp left a j) j) j ≠ 0 := by rw [ej]; exact he
  have pb := okR_en (by omega) okj j
  have nz : en (rw_ (swp left a j) j) j % q ≠ 0 := by rw [Int.emod_eq_of_lt pb.1 pb.2]; exact pe
  obtain ⟨z, hz⟩ := fac_inv hq nz
  have lead : ∀ c, c ≤ n → en (leadR q (facF q (en (rw_ (swp left a j) j) j)) (rw_ (swp left a j) j)) c = facF q (en (rw_ (swp left a j) j) j) * en (rw_ (swp left a j) j) c % q := fun c hc => en_lead (by rw [okj.1]; omega)
  have lead1 : en (leadR q (facF q (en (rw_ (swp left a j) j) j)) (rw_ (swp left a j) j)) j = 1 := by
    rw [lead j (by omega), Int.mul_comm, hz, Int.add_mul_emod_self_left, Int.emod_eq_of_lt (by omega) (by omega)]
  have lead0 : ∀ i, i < j → en (leadR q (facF q (en (rw_ (swp left a j) j) j)) (rw_ (swp left a j) j)) i = 0 := fun i hi => by
    rw [lead i (by omega), unS i j hi hj, if_neg (by omega), Int.mul_zero, Int.zero_emod]
  have lk := okR_lead (q := q) (f := facF q (en (rw_ (swp left a j) j) j)) (by omega) okj.1
  refine ⟨ho, fun r hr => ?_, by rw [I.bd, List.range_succ, List.map_append]; rfl, fun i k hi hkn => ?_, fun s t hs => I.sl s t (swp_slv la lj (slv_clr hq okS (by omega) (by rw [lS]; exact hj) pe (by rw [ho, lS]) (fun k hkl => hk k (by rw [← lS]; exact hkl)) hs))⟩
  · obtain ⟨k, hkl, rfl⟩ := mem_rw hr
    rw [ho] at hkl
    rw [hk k hkl]
    unfold clrR
    split
    · exact lk
    · exact okR_less (by omega) (okS _ (rw_mem (by rw [lS]; exact hkl))).1 lk.1
  · have okk := okS _ (rw_mem (k := k) (by rw [lS]; exact hkn))
    rw [hk k hkn]
    unfold clrR
    by_cases e : k = j
    · rw [if_pos e]
      by_cases e2 : i = j
      · rw [e2, lead1, if_pos e]
      · rw [lead0 i (by omega), if_neg (by omega)]
    · rw [if_neg e, en_less (by rw [okk.1]; omega) (by rw [lk.1]; omega)]
      by_cases e2 : i = j
      · rw [e2, lead1, if_neg e, Int.mul_one, Int.sub_self, Int.zero_emod]
      · rw [lead0 i (by omega), unS i k (by omega) hkn, Int.mul_zero, Int.sub_zero]
        split <;> exact Int.emod_eq_of_lt (by omega) (by omega)

theorem t_reduced {q : Int} {n : Nat} {rows0 : List (List Int)} (hq : IsOrd q) (hn : n ≤ 60) (hl : rows0.length = n) (hr : ∀ r ∈ rows0, r.length = n + 1) (nk : NK q n rows0) :
    ∃ left, T_reduced (q, rows0, (n : Int)) = .ok (left, (List.range n).map fun (i : Nat) => (i : Int)) ∧ RI q n rows0 n left ((List.range n).map fun (i : Nat) => (i : Int)) := by
  have hqd := ord_D hq
  delta T_reduced tv_reduced
  simp only [bOk, id2]
  rw [compT_e (fun r : List Int => r.map (· % q)) rows0 (by omega) (fun _ _ => rfl) fun r h => by rw [compT_e (· % q) r (by rw [hr r h]; omega) (fun _ _ => rfl) fun x _ => modT_e (by omega)], bOk, rngT_e (by decide) (by decide) (by omega) (by omega), bOk]
  have hll : (rngI 0 (n : Int)).length = n := by rw [rngI_len]; omega
  refine run_for (τ := List (List Int) × List Int) (P := fun t : Res (List (List Int) × List Int) => ∃ left, t = .ok (left, (List.range n).map fun (i : Nat) => (i : Int)) ∧ RI q n rows0 n left ((List.range n).map fun (i : Nat) => (i : Int)))
    (fun j u => RI q n rows0 j u.1 u.2) ?_ (fun j x u hx I => ?_) fun u I => ?_
  · refine ⟨by rw [List.length_map]; exact hl, fun r h => ?_, rfl, fun i k hi => absurd hi (Nat.not_lt_zero i), fun s t h r hrm => ?_⟩
    · obtain ⟨r0, h0, rfl⟩ := List.mem_map.mp h
      refine ⟨by rw [List.length_map]; exact hr _ h0, fun x hx => ?_⟩
      obtain ⟨y, _, rfl⟩ := List.mem_map.mp hx
      exact ⟨Int.emod_nonneg _ (by omega), Int.emod_lt_of_pos _ (by omega)⟩
    · obtain ⟨z, hz⟩ := h _ (List.mem_map.mpr ⟨r, hrm, rfl⟩)
      obtain ⟨k, hk⟩ := rs_lin (q := q) (α := 1) (β := 0) (n := n) (s := s) (t := t) (r := r.map (· % q)) (r1 := r) (r2 := []) fun c hc => by
        have e : en (r.map (· % q)) c = en r c % q := by
          unfold en
          rw [List.getD_eq_getElem?_getD, List.getD_eq_getElem?_getD, List.getElem?_map, List.getElem?_eq_getElem (by rw [hr r hrm]; omega)]
          rfl
        obtain ⟨k, hk⟩ := cg_mod q (en r c)
        exact ⟨k, by rw [e, hk]; grind⟩
      exact ⟨z - k, by rw [hz] at hk; grind⟩
  · have hx := rngI_get hx
    obtain ⟨left, bound⟩ := u
    have hj : j < n := by have := hx.2; omega
    have ex : x = (j : Int) := by omega
    subst ex
    dsimp only at I ⊢
    have bl : bound.length = j := by rw [I.bd, List.length_map, List.length_range]
    have rl : ∀ r ∈ left, r.length = n + 1 := fun r h => (I.ok r h).1
    rw [bl]
    rcases t_first (rows := left) (a := j) (b := j) (n := n) rl (by omega) (by rw [I.len]; omega) (by rw [I.len]; omega) with ⟨_, h⟩ | ⟨k, h1, h2, h3, h4⟩
    · exact (I.pivot hq hj nk fun k hk1 hk2 => h k hk1 (by rw [I.len]; exact hk2)).elim
    · rw [h3, bOk]
      have hkn : k < n := by rw [I.len] at h2; exact h2
      have la : k < left.length := h2
      have lj : j < left.length := by rw [I.len]; exact hj
      have fr : frO (some (k : Int)) = .ok (k : Int) := rfl
      rw [if_pos (by rfl), fr]
      simp only [bOk]
      rw [t_swapped la lj, bOk, bOk, bOk]
      have okS : ∀ r ∈ swp left k j, okR q n r := fun r hr => I.ok r (swp_mem la lj hr)
      have lS : (swp left k j).length = n := by rw [swp_len, I.len]
      obtain ⟨out, o1, o2, o3⟩ := t_cleared (rows := swp left k j) (a := j) (b := j) hq okS (by omega) (by omega) (by rw [lS]; exact hj) (by rw [lS]; omega) (by rw [rw_swp la lj, if_pos rfl]; exact h4)
      rw [show ((left.set k (rw_ left j)).set j (rw_ left k)) = swp left k j from rfl, o1, bOk]
      have R := I.step hq hj h1 hkn h4 (out := out) (by rw [o2, lS]) (fun i hi => o3 i (by rw [lS]; exact hi))
      have ap : apLL bound out = true := by
        unfold apLL
        have : out.length = n := R.len
        rw [Bool.and_eq_true_iff]
        refine ⟨?_, List.all_eq_true.mpr fun r hr => decide_eq_true fun z => ?_⟩
        · cases out with
          | nil => simp at this; omega
          | cons _ _ => rfl
        · have := (R.ok r hr).1
          rw [z, bl] at this; omega
      rw [if_pos ap, appT_e (by omega), bOk]
      exact ⟨_, rfl, _, rfl, R⟩
  · rw [hll] at I
    obtain ⟨left, bound⟩ := u
    dsimp only at I ⊢
    have := I.bd
    subst this
    exact ⟨left, rfl, I⟩

--@sets of pairs
theorem gex_any {α : Type} {f : α → Res Bool} {g : α → Bool} : ∀ xs : List α, (∀ x ∈ xs, f x = .ok (g x)) → gexT true f xs = .ok (xs.any g)
  | [], _ => rfl
  | x :: xs, h => by
    show (noEx (f x)).bind _ = _
    rw [h x (by simp)]
    show (if g x = true then Res.ok true else gexT true f xs) = _
    rw [gex_any xs fun y hy => h y (by simp [hy]), List.any_cons]
    cases g x <;> rfl
def isP (p : Int × Int) : Bool := decide (0 ≤ p.1) && decide (p.1 < 5) && (decide (0 ≤ p.2) && decide (p.2 < 5))
theorem isP_iff {p : Int × Int} : isP p = true ↔ (0 ≤ p.1 ∧ p.1 < 5) ∧ 0 ≤ p.2 ∧ p.2 < 5 := by simp [isP]
def plF (p : Int × Int) : Int := 5 * p.1 + p.2
def riF : List Int → Bool
  | x :: y :: r => decide (x < y) && riF (y :: r)
  | _ => true
theorem ri_zip : ∀ xs : List Int, (xs.zip (xs.drop 1)).all (fun p => decide (p.1 < p.2)) = riF xs
  | [] => rfl
  | [_] => rfl
  | x :: y :: r => by
    have := ri_zip (y :: r)
    simp only [List.drop_succ_cons, List.drop_zero] at this ⊢
    rw [List.zip_cons_cons, List.all_cons, this]; rfl
theorem ri_app : ∀ (xs : List Int) (y : Int), riF xs = true → (∀ x ∈ xs, x < y) → riF (xs ++ [y]) = true
  | [], _, _, _ => rfl
  | [x], y, _, h => by
    have := h x (by simp)
    show (decide (x < y) && true) = true
    simp [this]
  | x :: z :: r, y, h, k => by
    have h : (decide (x < z) && riF (z :: r)) = true := h
    rw [Bool.and_eq_true] at h
    show (decide (x < z) && riF ((z :: r) ++ [y])) = true
    rw [h.1, ri_app (z :: r) y h.2 fun w hw => k w (by simp [hw])]; rfl
def setB (ps : List (Int × Int)) : Bool := ps.all isP && riF (ps.map plF)
theorem mapT_none {α β : Type} {t : α → Res Bool} {f : α → Res β} : ∀ xs : List α, (∀ x ∈ xs, t x = .ok false) → mapT t f xs = .ok []
  | [], _ => rfl
  | x :: xs, h => by
    unfold mapT
    rw [h x (by simp), show noEx (Res.ok false) = Res.ok false from rfl, bOk, if_neg (by decide)]
    exact mapT_none xs fun y hy => h y (by simp [hy])
theorem compT_none {α β : Type} {t : α → Res Bool} {f : α → Res β} (xs : List α) (hl : xs.length ≤ 16777216) (h : ∀ x ∈ xs, t x = .ok false) : compT t f xs = .ok [] := by
  unfold compT
  rw [if_pos hl, mapT_none xs h]
  rfl
theorem cut_all {α : Type} {xs : List α} {n : Nat} (h : xs.length = n) : cutL xs (some (n : Int)) none = [] := by
  rw [← List.length_eq_zero_iff]
  unfold cutL HT.sIx
  rw [List.length_take, List.length_drop]
  simp [h, show ¬ ((n : Int) < 0) by omega]
theorem en_set {u : List Int} {j k : Nat} {v : Int} (h : j < u.length) : en (u.set j v) k = if k = j then v else en u k := by
  unfold en
  rw [List.getD_eq_getElem?_getD, List.getElem?_set]
  by_cases e : j = k
  · rw [if_pos e, if_pos (by omega), if_pos e.symm]; rfl
  · rw [if_neg e, if_neg (fun z => e z.symm), List.getD_eq_getElem?_getD]
def tbl (rows : List (List Int)) (right : List Int) : List (List Int) := (rows.zip right).map fun p => p.1 ++ [p.2]
theorem t_check_sys {n : Nat} {rows : List (List Int)} {right : List Int} (h1 : 1 ≤ n) (h2 : n ≤ 40) (hl : rows.length = n) (hr : ∀ r ∈ rows, r.length = n) (hb : right.length = n) : T_check_system ((n : Int), rows, right) = .ok () := by
  delta T_check_system tv_check_system
  simp only [bOk, id2]
  rw [if_neg (by simp; omega), if_neg (by simp; omega), gex_any (g := fun r : List Int => decide ((r.length : Int) ≠ n)) rows fun r _ => rfl]
  have : (rows.any fun r : List Int => decide ((r.length : Int) ≠ n)) = false := by
    rw [List.any_eq_false]
    intro r h
    simp [hr r h]
  rw [this]
  dsimp only [noEx]
  rw [bOk, bOk, if_neg (by decide), if_neg (by simp; omega)]
theorem t_solutions {q : Int} {n : Nat} {rows : List (List Int)} {right : List Int} (hq : IsOrd q) (h1 : 1 ≤ n) (h2 : n ≤ 40) (hl : rows.length = n) (hr : ∀ r ∈ rows, r.length = n) (hb : right.length = n) (nk : NK q n (tbl rows right)) :
    ∃ first, T_solutions (q, (n : Int), rows, right) = .ok (first, []) ∧ first.length = n ∧ (∀ x ∈ first, 0 ≤ x ∧ x < q) ∧ slv q n (en first) 1 (tbl rows right) := by
  have hqd := ord_D hq
  have tl : (tbl rows right).length = n := by unfold tbl; rw [List.length_map, List.length_zip]; omega
  have tr : ∀ r ∈ tbl rows right, r.length = n + 1 := fun r h => by
    obtain ⟨p, hp, rfl⟩ := List.mem_map.mp h
    rw [List.length_append, hr p.1 (List.of_mem_zip (a := p.1) (b := p.2) hp).1]; rfl
  delta T_solutions tv_solutions
  simp only [bOk, id2]
  rw [t_check_sys h1 h2 hl hr hb, bOk, compT_e (fun p : List Int × Int => p.1 ++ [p.2]) _ (by rw [List.length_zip]; omega) (fun _ _ => rfl) fun p hp => limT_e (by
    rw [List.length_append, hr p.1 (List.of_mem_zip (a := p.1) (b := p.2) hp).1]; simp; omega), bOk]
  obtain ⟨left, e1, I⟩ := t_reduced hq (by omega) tl tr nk
  rw [show (rows.zip right).map (fun p => p.1 ++ [p.2]) = tbl rows right from rfl, e1, bOk]
  have bl : ((List.range n).map fun (i : Nat) => (i : Int)).length = n := by rw [List.length_map, List.length_range]
  dsimp only
  rw [bl, cut_all I.len]
  have g0 : noEx (gexT true (fun x : List Int => (ixT x (n : Int)).bind fun x => Res.ok (decide (x ≠ 0))) []) = .ok false := rfl
  rw [g0, bOk, bOk, if_neg (by decide)]
  have rp : repLT [(0 : Int)] (n : Int) = .ok (List.replicate n 0) := by
    unfold repLT
    rw [if_pos (by refine ⟨by omega, by omega, ?_⟩; simp; omega)]
    simp
  rw [rp, bOk]
  have zl : (((List.range n).map fun (i : Nat) => (i : Int)).zip left).length = n := by rw [List.length_zip, bl, I.len]; omega
  refine run_for (τ := List Int) (P := fun t : Res (List Int × List (List Int)) => ∃ first, t = .ok (first, []) ∧ first.length = n ∧ (∀ x ∈ first, 0 ≤ x ∧ x < q) ∧ slv q n (en first) 1 (tbl rows right))
    (fun j u => u.length = n ∧ (∀ x ∈ u, 0 ≤ x ∧ x < q) ∧ ∀ k, k < j → en u k = en (rw_ left k) n) ⟨List.length_replicate, fun x hx => ?_, fun k hk => absurd hk (Nat.not_lt_zero k)⟩ (fun j x u hx hI => ?_) fun u hI => ?_
  · rw [List.eq_of_mem_replicate hx]; omega
  · have hj : j < n := by have := (List.getElem?_eq_some_iff.mp hx).1; rw [zl] at this; exact this
    have hjl : j < left.length := by rw [I.len]; exact hj
    have ex : x = ((j : Int), rw_ left j) := by
      have : (((List.range n).map fun (i : Nat) => (i : Int)).zip left)[j]? = some ((j : Int), rw_ left j) := by
        refine (List.getElem?_zip_eq_some (z := ((j : Int), rw_ left j))).mpr ⟨?_, ?_⟩
        · rw [List.getElem?_map, List.getElem?_range hj]; rfl
        · unfold rw_
          rw [List.getD_eq_getElem?_getD, List.getElem?_eq_getElem hjl]; rfl
      rw [hx] at this
      injection this
    subst ex
    obtain ⟨u1, u2, u3⟩ := hI
    have okj := I.ok _ (rw_mem hjl)
    dsimp only
    rw [ix_en (by rw [okj.1]; omega), bOk, stT_e (by omega) (by omega), bOk]
    refine ⟨_, rfl, _, rfl, by rw [List.length_set]; exact u1, fun x hx => ?_, fun k hk => ?_⟩
    · rcases List.mem_or_eq_of_mem_set hx with h | rfl
      · exact u2 x h
      · exact okR_en (by omega) okj n
    · rw [show (j : Int).toNat = j from rfl, en_set (by omega)]
      by_cases e : k = j
      · rw [if_pos e, e]
      · rw [if_neg e]; exact u3 k (by omega)
  · obtain ⟨u1, u2, u3⟩ := hI
    rw [zl] at u3
    dsimp only
    rw [rngT_e (by decide) (by decide) (by omega) (by omega), bOk, compT_none _ (by rw [rngI_len]; omega) fun x hx => by
      have := rngI_mem hx
      have m : x ∈ (List.range n).map fun (i : Nat) => (i : Int) := List.mem_map.mpr ⟨x.toNat, List.mem_range.mpr (by omega), by omega⟩
      rw [decide_eq_false (fun z => z m)], bOk]
    refine ⟨u, rfl, u1, u2, I.sl _ 1 fun r hrm => ?_⟩
    obtain ⟨k, hk, rfl⟩ := mem_rw hrm
    rw [I.len] at hk
    refine ⟨0, ?_⟩
    unfold rs
    rw [sm_one (a := k) n hk fun c hc ne => by rw [I.un c k hc hk, if_neg (fun z => ne z.symm)]; omega, I.un k k hk hk, if_pos rfl, u3 k hk]
    omega

/-! polynomials -/
def hv : List Int → Int → Int
  | [], _ => 0
  | c :: l, x => c + x * hv l x
def qt (a : Int) : List Int → List Int
  | [] => []
  | [_] => []
  | _ :: b :: l => hv (b :: l) a :: qt a (b :: l)
theorem qt_len (a : Int) : ∀ (l : List Int), (qt a l).length = l.length - 1
  | [] => rfl
  | [_] => rfl
  | _ :: b :: l => by
    show (qt a (b :: l)).length + 1 = _
    rw [qt_len a (b :: l)]; rfl
theorem hv_qt (a x : Int) : ∀ l : List Int, hv l x = (x - a) * hv (qt a l) x + hv l a
  | [] => by simp [hv, qt]
  | [c] => by simp [hv, qt]
  | c :: b :: l => by
    have ih := hv_qt a x (b :: l)
    show c + x * hv (b :: l) x = (x - a) * (hv (b :: l) a + x * hv (qt a (b :: l)) x) + (c + a * hv (b :: l) a)
    generalize hv (b :: l) x = A at ih ⊢
    generalize hv (b :: l) a = B at ih ⊢
    generalize hv (qt a (b :: l)) x = C at ih ⊢
    subst ih
    grind
def z0 (q v : Int) : Prop := ∃ k, v = q * k
theorem qt_back {q a : Int} : ∀ l : List Int, (∀ c ∈ qt a l, z0 q c) → z0 q (hv l a) → ∀ c ∈ l, z0 q c
  | [], _, _, c, hc => by simp at hc
  | [c], _, h, d, hd => by
    simp only [List.mem_cons, List.not_mem_nil, or_false] at hd
    subst hd
    have : hv [d] a = d := by simp [hv]
    rwa [this] at h
  | c :: b :: l, hq, h, d, hd => by
    have h1 : z0 q (hv (b :: l) a) := hq _ (by simp [qt])
    have ih := qt_back (b :: l) (fun c hc => hq c (by simp only [qt, List.mem_cons]; exact .inr hc)) h1
    rcases List.mem_cons.mp hd with rfl | hd
    · obtain ⟨k1, e1⟩ := h1
      obtain ⟨k2, e2⟩ := h
      have e2 : d + a * hv (b :: l) a = q * k2 := e2
      rw [e1] at e2
      exact ⟨k2 - a * k1, by grind⟩
    · exact ih d hd
theorem z0_mul {q a b : Int} (hq : IsOrd q) (hb : b % q ≠ 0) (h : z0 q (b * a)) : z0 q a := by
  obtain ⟨i, hi⟩ := inv_q hq hb
  generalize b ^ (q - 2).toNat % q = w at hi
  obtain ⟨k, hk⟩ := h
  refine ⟨k * w - i * a, ?_⟩
  have : b * w * a = q * (k * w) := by
    have : b * a * w = q * k * w := by rw [hk]
    grind
  rw [hi] at this
  grind
/-- as many roots as coefficients: all coefficients are 0 -/
theorem roots {q : Int} (hq : IsOrd q) : ∀ (xs : List Int) (l : List Int), l.length = xs.length → xs.Pairwise (fun a b => (b - a) % q ≠ 0) → (∀ x ∈ xs, z0 q (hv l x)) → ∀ c ∈ l, z0 q c
  | [], l, hl, _, _ => by
    have : l = [] := List.length_eq_zero_iff.mp hl
    subst this
    intro c hc
    simp at hc
  | a :: xs, l, hl, hp, h => by
    rw [List.pairwise_cons] at hp
    refine qt_back l (roots hq xs (qt a l) (by rw [qt_len, hl]; rfl) hp.2 fun x hx => ?_) (h a (by simp))
    have e := hv_qt a x l
    obtain ⟨k1, e1⟩ := h x (by simp [hx])
    obtain ⟨k2, e2⟩ := h a (by simp)
    exact z0_mul hq (hp.1 x hx) ⟨k1 - k2, by rw [e1, e2] at e; grind⟩
theorem hv_snoc (c x : Int) : ∀ l : List Int, hv (l ++ [c]) x = hv l x + x ^ l.length * c
  | [] => by simp [hv]
  | d :: l => by
    show d + x * hv (l ++ [c]) x = d + x * hv l x + x ^ (l.length + 1) * c
    rw [hv_snoc c x l, Int.pow_succ]
    grind
theorem hv_sm (s : Nat → Int) (x : Int) : ∀ n, hv ((List.range n).map s) x = sm n (fun c => x ^ c * s c)
  | 0 => rfl
  | n + 1 => by
    rw [List.range_succ, List.map_append]
    show hv ((List.range n).map s ++ [s n]) x = _
    rw [hv_snoc, hv_sm s x n, List.length_map, List.length_range]
    rfl
def vrow (q : Int) (n : Nat) (x : Int) : List Int := (List.range n).map fun d => x ^ d % q
theorem en_vrow {q x b : Int} {n c : Nat} (h : c < n) : en (vrow q n x ++ [b]) c = x ^ c % q := by
  unfold en vrow
  rw [List.getD_eq_getElem?_getD, List.getElem?_append_left (by rw [List.length_map, List.length_range]; exact h), List.getElem?_map, List.getElem?_range h]
  rfl
theorem en_vlast {q x b : Int} {n : Nat} : en (vrow q n x ++ [b]) n = b := by
  unfold en vrow
  rw [List.getD_eq_getElem?_getD, List.getElem?_append_right (by rw [List.length_map, List.length_range]; exact Nat.le_refl _), List.length_map, List.length_range, Nat.sub_self]
  rfl
theorem rs_vrow {q x b t : Int} {n : Nat} {s : Nat → Int} : ∃ k, rs n s t (vrow q n x ++ [b]) = hv ((List.range n).map s) x - t * b + q * k := by
  obtain ⟨k, hk⟩ := sm_cg (q := q) (f := fun c => en (vrow q n x ++ [b]) c * s c) (g := fun c => x ^ c * s c) n fun c hc => by
    obtain ⟨k, hk⟩ := cg_mod q (x ^ c)
    exact ⟨k * s c, by rw [en_vrow hc, hk]; grind⟩
  unfold rs
  rw [en_vlast, hk, ← hv_sm]
  exact ⟨k, by omega⟩
/-- points with places that differ -/
def okP (q : Int) (pts : List (Int × Int)) : Prop := (pts.map Prod.fst).Pairwise (fun a b => (b - a) % q ≠ 0)
theorem tbl_v {q : Int} {n : Nat} {pts : List (Int × Int)} : tbl (pts.map fun p => vrow q n p.1) (pts.map Prod.snd) = pts.map fun p => vrow q n p.1 ++ [p.2] := by
  unfold tbl
  rw [List.zip_map', List.map_map]
  rfl
theorem nk_v {q : Int} {pts : List (Int × Int)} (hq : IsOrd q) (hp : okP q pts) : NK q pts.length (pts.map fun p => vrow q pts.length p.1 ++ [p.2]) := fun s hs c hc => by
  refine roots hq (pts.map Prod.fst) ((List.range pts.length).map s) (by rw [List.length_map, List.length_map, List.length_range]) hp (fun x hx => ?_) (s c) (List.mem_map.mpr ⟨c, List.mem_range.mpr hc, rfl⟩)
  obtain ⟨p, hpm, rfl⟩ := List.mem_map.mp hx
  obtain ⟨k, hk⟩ := hs _ (List.mem_map.mpr ⟨p, hpm, rfl⟩)
  obtain ⟨j, hj⟩ := rs_vrow (q := q) (x := p.1) (b := p.2) (t := 0) (n := pts.length) (s := s)
  exact ⟨k - j, by rw [hk] at hj; grind⟩
theorem map_en {l : List Int} : (List.range l.length).map (en l) = l := by
  refine List.ext_getElem? fun i => ?_
  rw [List.getElem?_map]
  by_cases h : i < l.length
  · rw [List.getElem?_range h, List.getElem?_eq_getElem h]
    show some (en l i) = _
    unfold en
    rw [List.getD_eq_getElem?_getD, List.getElem?_eq_getElem h]; rfl
  · rw [List.getElem?_eq_none (by rw [List.length_range]; omega), List.getElem?_eq_none (by omega)]; rfl
/-- the polynomial through points -/
theorem t_leading {q : Int} {pts : List (Int × Int)} (hq : IsOrd q) (h1 : 1 ≤ pts.length) (h2 : pts.length ≤ 40) (hp : okP q pts) :
    ∃ l, T_leading_through (q, pts) = .ok l ∧ l.length = pts.length ∧ (∀ x ∈ l, 0 ≤ x ∧ x < q) ∧ ∀ p ∈ pts, z0 q (hv l p.1 - p.2) := by
  have hqd := ord_D hq
  delta T_leading_through tv_leading_through
  simp only [bOk, id2]
  rw [compT_e (fun p : Int × Int => vrow q pts.length p.1) pts (by omega) (fun _ _ => rfl) fun p _ => by
    rw [rngT_e (by decide) (by decide) (by omega) (by omega), bOk, compT_e (fun d : Int => p.1 ^ d.toNat % q) _ (by rw [rngI_len]; omega) (fun _ _ => rfl) fun d hd => by
      have := rngI_mem hd
      exact t_raised (by omega) (by omega) (by omega) (by omega)]
    unfold vrow rngI
    rw [List.map_map]
    refine congrArg Res.ok ?_
    rw [show ((pts.length : Int) - 0).toNat = pts.length by omega]
    refine List.map_congr_left fun d _ => ?_
    show p.1 ^ (0 + (d : Int)).toNat % q = p.1 ^ d % q
    rw [show (0 + (d : Int)).toNat = d by omega], bOk, compT_e Prod.snd pts (by omega) (fun _ _ => rfl) (fun _ _ => rfl), bOk, bOk, bOk, bOk]
  obtain ⟨l, e, l1, l2, l3⟩ := t_solutions (q := q) (n := pts.length) (rows := pts.map fun p => vrow q pts.length p.1) (right := pts.map Prod.snd) hq h1 h2 (by rw [List.length_map]) (fun r hr => by
    obtain ⟨p, _, rfl⟩ := List.mem_map.mp hr
    unfold vrow; rw [List.length_map, List.length_range]) (by rw [List.length_map]) (by rw [tbl_v]; exact nk_v hq hp)
  rw [e, bOk]
  refine ⟨l, rfl, l1, l2, fun p hpm => ?_⟩
  rw [tbl_v] at l3
  obtain ⟨k, hk⟩ := l3 _ (List.mem_map.mpr ⟨p, hpm, rfl⟩)
  obtain ⟨j, hj⟩ := rs_vrow (q := q) (x := p.1) (b := p.2) (t := 1) (n := pts.length) (s := en l)
  rw [← l1, map_en, l1] at hj
  exact ⟨k - j, by rw [hk] at hj; grind⟩
theorem hv_sub (x : Int) : ∀ (l m : List Int), l.length = m.length → hv (List.zipWith (· - ·) l m) x = hv l x - hv m x
  | [], [], _ => rfl
  | a :: l, b :: m, h => by
    show (a - b) + x * hv (List.zipWith (· - ·) l m) x = a + x * hv l x - (b + x * hv m x)
    rw [hv_sub x l m (by simpa using h)]
    grind
  | [], _ :: _, h => by simp at h
  | _ :: _, [], h => by simp at h
theorem zip_same {q : Int} (hq : 0 < q) : ∀ (l m : List Int), l.length = m.length → (∀ x ∈ l, 0 ≤ x ∧ x < q) → (∀ x ∈ m, 0 ≤ x ∧ x < q) → (∀ c ∈ List.zipWith (· - ·) l m, z0 q c) → l = m
  | [], [], _, _, _, _ => rfl
  | a :: l, b :: m, h, hl, hm, hz => by
    obtain ⟨k, hk⟩ := hz (a - b) (by simp)
    have e : a % q = b % q := by rw [show a = b + q * k by omega, Int.add_mul_emod_self_left]
    have ha := hl a (by simp)
    have hb := hm b (by simp)
    rw [Int.emod_eq_of_lt ha.1 ha.2, Int.emod_eq_of_lt hb.1 hb.2] at e
    rw [e, zip_same hq l m (by simpa using h) (fun x hx => hl x (by simp [hx])) (fun x hx => hm x (by simp [hx])) fun c hc => hz c (by simp [hc])]
  | [], _ :: _, h, _, _, _ => by simp at h
  | _ :: _, [], h, _, _, _ => by simp at h
/-- there is only one -/
theorem poly_one {q : Int} {pts : List (Int × Int)} {l m : List Int} (hq : IsOrd q) (hp : okP q pts) (hl : l.length = pts.length) (hm : m.length = pts.length) (bl : ∀ x ∈ l, 0 ≤ x ∧ x < q) (bm : ∀ x ∈ m, 0 ≤ x ∧ x < q) (vl : ∀ p ∈ pts, z0 q (hv l p.1 - p.2)) (vm : ∀ p ∈ pts, z0 q (hv m p.1 - p.2)) : l = m := by
  have hqd := ord_D hq
  refine zip_same (by omega) l m (by omega) bl bm (roots hq (pts.map Prod.fst) _ (by rw [List.length_zipWith, List.length_map]; omega) hp fun x hx => ?_)
  obtain ⟨p, hpm, rfl⟩ := List.mem_map.mp hx
  obtain ⟨k1, e1⟩ := vl p hpm
  obtain ⟨k2, e2⟩ := vm p hpm
  rw [hv_sub _ _ _ (by omega)]
  exact ⟨k1 - k2, by grind⟩

--@numbers
theorem t_numbers {xs : List Int} (m : Nat) (hm : 1 ≤ m ∧ m ≤ 1000) (hl : xs.length ≤ 63) : Ok (T__law_numbers (xs, (m : Int))) fun ns => ns.length = m := by
  delta T__law_numbers tv__law_numbers
  simp only [bOk, id2]
  rw [rngT_e (by decide) (by decide) (by omega) (by omega), bOk]
  refine run_for (τ := List Int) (fun j u => u.length ≤ m) (P := fun t : Res (List Int) => Ok t fun ns => ns.length = m) (by simp) (fun j x u hx hu => ?_) fun u hu => ?_
  · obtain ⟨hx1, hx2⟩ := rngI_get hx
    obtain ⟨v, ev, _⟩ := iT_lt (xs := xs) (i := x) (by omega) (by omega)
    rw [ev, bOk, bOk, bOk]
    generalize (if v < 0 then -v else v) = cell
    split
    · refine run_for (τ := List Int × Int) (fun _ w => w.1.length ≤ m) (P := fun t : Res (Fl (List Int) (List Int)) => Ok t fun w => ∃ s', w = .nx s' ∧ s'.length ≤ m) hu (fun j' x' w hx' hw => ?_) fun w hw => ⟨_, rfl, _, rfl, hw⟩
      split
      · rename_i c
        simp only [Bool.and_eq_true, decide_eq_true_eq] at c
        rw [appT_e (by omega), bOk]
        exact ⟨_, rfl, _, rfl, by simp; omega⟩
      · exact ⟨_, rfl, _, rfl, hw⟩
    · split
      · rename_i c
        simp only [decide_eq_true_eq] at c
        rw [appT_e (by omega), bOk]
        exact ⟨_, rfl, _, rfl, by simp; omega⟩
      · exact ⟨_, rfl, _, rfl, hu⟩
  · dsimp only
    rw [rngT_e (by decide) (by decide) (by split <;> omega) (by split <;> omega), bOk]
    refine run_for (τ := List Int × Int) (fun j w => w.1.length = u.length + j) (P := fun t : Res (List Int) => Ok t fun ns => ns.length = m) rfl (fun j x w hx hw => ?_) fun w hw => ?_
    · obtain ⟨hx1, hx2⟩ := rngI_get hx
      by_cases c : (u.length : Int) > 0
      · have b1 := Int.emod_nonneg x (b := (u.length : Int)) (by omega)
        have b2 := Int.emod_lt_of_pos x (b := (u.length : Int)) (by omega)
        obtain ⟨v, ev, _⟩ := iT_lt (xs := w.1) (i := x % (u.length : Int)) b1 (by omega)
        rw [if_pos (decide_eq_true c), modT_e (by omega), bOk, ev, bOk, bOk, bOk]
        dsimp only
        rw [appT_e (by split at hx2 <;> omega), bOk]
        exact ⟨_, rfl, _, rfl, by simp; omega⟩
      · rw [if_neg (by simpa using c), bOk]
        dsimp only
        rw [appT_e (by split at hx2 <;> omega), bOk]
        exact ⟨_, rfl, _, rfl, by simp; omega⟩
    · rw [rngI_len] at hw
      have e : w.1.length = m := by split at hw <;> omega
      refine ⟨_, rfl, ?_⟩
      rw [cut_to (by omega)]
      show (List.take m w.1).length = m
      rw [List.length_take]; omega

def ordT (n : Nat) : Bool := match T__law_is_prime (n : Int) with
  | .ok false => true
  | .ok true => (match T__law_is_prime (2 * n + 1 : Int) with
    | .ok false => true
    | .ok true => ords.contains n
    | _ => false)
  | _ => false
theorem ord_tab : ((List.range 1014).all fun n => n < 11 || ordT n) = true := by decide +kernel
theorem t_law_order {n : Int} : Ok (T__law_order n) IsOrd := by
  have h1 := Int.emod_nonneg n (b := 1003) (by omega)
  have h2 := Int.emod_lt_of_pos n (b := 1003) (by omega)
  delta T__law_order tv__law_order
  simp only [bOk, id2]
  rw [rngT_e (by omega) (by omega) (by omega) (by omega), bOk]
  refine run_find (P := fun t : Res Int => Ok t IsOrd) (fun w : Int => IsOrd w) (fun q hq => ?_) ⟨11, rfl, 11, by decide, rfl⟩ fun w hw => ⟨w, rfl, hw⟩
  have hq := rngI_mem hq
  have t := List.all_eq_true.mp ord_tab q.toNat (List.mem_range.mpr (by omega))
  unfold ordT at t
  rw [show ((q.toNat : Nat) : Int) = q by omega] at t
  cases e1 : T__law_is_prime q with
  | ok c =>
    cases c with
    | false => exact .inl rfl
    | true =>
      cases e2 : T__law_is_prime (2 * q + 1) with
      | ok c2 =>
        cases c2 with
        | false => exact .inl (by simp only [bOk, if_true, e2]; rfl)
        | true =>
          rw [e1, e2] at t
          refine .inr ⟨q, by simp only [bOk, if_true, e2], q.toNat, ?_, by omega⟩
          simpa [show ¬ q.toNat < 11 by omega] using t
      | ex c => rw [e1, e2] at t; simp [show ¬ q.toNat < 11 by omega] at t
      | bad => rw [e1, e2] at t; simp [show ¬ q.toNat < 11 by omega] at t
  | ex c => rw [e1] at t; simp [show ¬ q.toNat < 11 by omega] at t
  | bad => rw [e1] at t; simp [show ¬ q.toNat < 11 by omega] at t


def okX (l : List Int) : Prop := (∀ x ∈ l, 1 ≤ x ∧ x ≤ 10) ∧ l.Nodup
theorem cnt_nodup {l : List Int} (h : l.Nodup) : LU.cntI l = l.length := by
  unfold LU.cntI
  rw [firstMet_nodup h l.length (Nat.le_refl _), List.take_length]
theorem t_places {l : List Int} (h : okX l) (hl : l.length ≤ 4000) : T_check_places l = .ok () := by
  delta T_check_places tv_check_places
  simp only [bOk, id2]
  rw [gex_any (g := fun x : Int => decide (x < 1) || decide (x > 10)) l fun x _ => rfl]
  have : (l.any fun x : Int => decide (x < 1) || decide (x > 10)) = false := by
    rw [List.any_eq_false]
    intro x hx
    have := h.1 x hx
    simp; omega
  rw [this]
  dsimp only [noEx]
  rw [bOk, bOk, if_neg (by decide)]
  unfold lenSetT
  rw [if_pos hl, bOk, bOk, cnt_nodup h.2, if_neg (by simp)]
theorem t_isexp {q v : Int} : T_is_exponent (q, v) = .ok (isV q v) := by
  delta T_is_exponent tv_is_exponent
  simp only [bOk, id2]
  rfl
theorem t_points {q : Int} {pts : List (Int × Int)} (h : okX (pts.map Prod.fst)) (hl : pts.length ≤ 4000) (hv : ∀ p ∈ pts, isV q p.2 = true) : T_check_points (q, pts) = .ok () := by
  delta T_check_points tv_check_points
  simp only [bOk, id2]
  rw [compT_e Prod.fst pts (by omega) (fun _ _ => rfl) (fun _ _ => rfl), bOk, t_places h (by rw [List.length_map]; exact hl), bOk, gex_all (g := fun p : Int × Int => isV q p.2) pts fun p _ => t_isexp]
  rw [List.all_eq_true.mpr hv]
  rfl
theorem t_poly {q : Int} {l : List Int} (h1 : 1 ≤ l.length) (h2 : l.length ≤ 10) (hv : ∀ x ∈ l, 0 ≤ x ∧ x < q) : T_check_polynomial (q, l) = .ok () := by
  delta T_check_polynomial tv_check_polynomial
  simp only [bOk, id2]
  rw [if_neg (by simp; omega)]
  exact run_pass (fun x hx => by rw [t_check_exponent, if_pos (hv x hx), bOk]) rfl
theorem drop_get {l : List Int} {j : Nat} {x : Int} (h : l[j]? = some x) : l.drop j = x :: l.drop (j + 1) := by
  obtain ⟨hj, rfl⟩ := List.getElem?_eq_some_iff.mp h
  exact List.drop_eq_getElem_cons hj
theorem t_law_value {q x : Int} {l : List Int} (hq : IsOrd q) : T__law_value (q, l, x) = .ok (hv l x % q) := by
  have hqd := ord_D hq
  delta T__law_value tv__law_value
  simp only [bOk, id2]
  refine run_for (τ := Int × Int) (P := fun t : Res Int => t = .ok (hv l x % q)) (fun j u => (0 ≤ u.2 ∧ u.2 < q) ∧ ∃ k, u.1 + u.2 * hv (l.drop j) x = hv l x + q * k) ⟨⟨by decide, by show (1 : Int) < q; omega⟩, 0, by simp⟩ (fun j c u hc hI => ?_) fun u hI => ?_
  · obtain ⟨⟨b1, b2⟩, k, hk⟩ := hI
    obtain ⟨t, w⟩ := u
    dsimp only at b1 b2 hk ⊢
    rw [mulT_r (by omega) (by omega), bOk, bOk, mulT_l (by omega) (by omega), bOk, bOk, modT_e (by omega), bOk]
    obtain ⟨i, hi⟩ := cg_mod q (w * x)
    refine ⟨_, rfl, _, rfl, ⟨Int.emod_nonneg _ (by omega), Int.emod_lt_of_pos _ (by omega)⟩, k + i * hv (l.drop (j + 1)) x, ?_⟩
    rw [drop_get hc] at hk
    have hk : t + w * (c + x * hv (l.drop (j + 1)) x) = hv l x + q * k := hk
    dsimp only
    rw [hi]
    grind
  · obtain ⟨_, k, hk⟩ := hI
    rw [List.drop_length] at hk
    have hk : u.1 + u.2 * 0 = hv l x + q * k := hk
    dsimp only
    rw [modT_e (by omega), bOk, show u.1 = hv l x + q * k by omega, Int.add_mul_emod_self_left]
theorem t_value {q x : Int} {l : List Int} (hq : IsOrd q) (h1 : 1 ≤ l.length) (h2 : l.length ≤ 10) (hb : ∀ x ∈ l, 0 ≤ x ∧ x < q) : T_value_at (q, l, x) = .ok (hv l x % q) := by
  have hqd := ord_D hq
  delta T_value_at tv_value_at
  simp only [bOk, id2]
  rw [t_poly h1 h2 hb, bOk]
  refine run_for (τ := Int) (P := fun t : Res Int => t = .ok (hv l x % q)) (fun j u => (0 ≤ u ∧ u < q) ∧ ∃ k, u = hv (l.drop (l.length - j)) x + q * k) ⟨⟨by decide, by show (0 : Int) < q; omega⟩, 0, by rw [Nat.sub_zero, List.drop_length]; simp [hv]⟩ (fun j c u hc hI => ?_) fun u hI => ?_
  · obtain ⟨⟨b1, b2⟩, k, hk⟩ := hI
    have hj : j < l.length := by have := (List.getElem?_eq_some_iff.mp hc).1; rwa [List.length_reverse] at this
    rw [List.getElem?_reverse hj] at hc
    rw [mulT_l (by omega) (by omega), bOk, bOk, modT_e (by omega), bOk]
    obtain ⟨i, hi⟩ := cg_mod q (u * x + c)
    refine ⟨_, rfl, _, rfl, ⟨Int.emod_nonneg _ (by omega), Int.emod_lt_of_pos _ (by omega)⟩, i + k * x, ?_⟩
    have e : l.length - 1 - j = l.length - (j + 1) := by omega
    rw [e] at hc
    rw [drop_get hc, show l.length - (j + 1) + 1 = l.length - j by omega]
    show (u * x + c) % q = c + x * hv (l.drop (l.length - j)) x + q * (i + k * x)
    rw [hi, hk]
    generalize hv (l.drop (l.length - j)) x = A
    grind
  · obtain ⟨⟨b1, b2⟩, k, hk⟩ := hI
    rw [List.length_reverse, Nat.sub_self, List.drop_zero] at hk
    dsimp only
    refine congrArg Res.ok ?_
    have : u % q = hv l x % q := by rw [hk, Int.add_mul_emod_self_left]
    rwa [Int.emod_eq_of_lt b1 b2] at this
theorem t_shares {q : Int} {l m : List Int} (hq : IsOrd q) (h1 : 1 ≤ l.length) (h2 : l.length ≤ 10) (hb : ∀ x ∈ l, 0 ≤ x ∧ x < q) (hm : okX m) (hl : m.length ≤ 10) : T_shares_of (q, l, m) = .ok (m.map fun x => (x, hv l x % q)) := by
  delta T_shares_of tv_shares_of
  simp only [bOk, id2]
  rw [t_poly h1 h2 hb, bOk, t_places hm (by omega), bOk, compT_e (fun x => (x, hv l x % q)) m (by omega) (fun _ _ => rfl) fun x _ => by rw [t_value hq h1 h2 hb, bOk], bOk]
theorem erase_perm : ∀ {u : List Int} {n : Nat} (h : n < u.length), (u[n] :: u.eraseIdx n).Perm u
  | a :: l, 0, _ => .refl _
  | a :: l, n + 1, h => by
    have h' : n < l.length := by rw [List.length_cons] at h; omega
    show (l[n] :: a :: l.eraseIdx n).Perm (a :: l)
    exact (List.Perm.swap _ _ _).trans ((erase_perm h').cons a)
theorem places_step {u v : List Int} {n : Nat} (h : n < u.length) : (u.eraseIdx n ++ (v ++ [u[n]])).Perm (u ++ v) := by
  have p := erase_perm h
  refine List.Perm.trans ?_ (p.append_right v)
  refine List.Perm.trans (l₂ := u.eraseIdx n ++ ([u[n]] ++ v)) ((List.perm_append_comm).append_left _) ?_
  rw [← List.append_assoc]
  exact (List.perm_append_comm (l₁ := u.eraseIdx n) (l₂ := [u[n]])).append_right v
theorem t_lplaces {ns : List Int} {m : Nat} (hm : m ≤ 10) (hl : m ≤ ns.length) : Ok (T__law_places (ns, (m : Int))) fun ps => ps.length = m ∧ okX ps := by
  delta T__law_places tv__law_places
  simp only [bOk, id2]
  rw [rngT_e (by decide) (by decide) (by omega) (by omega), bOk]
  have hll : (rngI 0 (m : Int)).length = m := by rw [rngI_len]; omega
  refine run_for (τ := List Int × List Int) (P := fun t : Res (List Int) => Ok t fun ps => ps.length = m ∧ okX ps) (fun j u => u.2.length = j ∧ (u.1 ++ u.2).Perm [1, 2, 3, 4, 5, 6, 7, 8, 9, 10]) ⟨rfl, .refl _⟩ (fun j x u hx hI => ?_) fun u hI => ?_
  · have hx := rngI_get hx
    obtain ⟨a, b⟩ := u
    obtain ⟨h1, h2⟩ := hI
    dsimp only at h1 h2 ⊢
    have hs := h2.length_eq
    rw [List.length_append] at hs
    have hs : a.length + b.length = 10 := hs
    have hj : j < m := by have := hx.2; omega
    obtain ⟨v, iv, _⟩ := iT_lt (xs := ns) (i := x) (by omega) (by omega)
    have b1 := Int.emod_nonneg v (b := (a.length : Int)) (by omega)
    have b2 := Int.emod_lt_of_pos v (b := (a.length : Int)) (by omega)
    rw [iv, bOk, modT_e (by omega), bOk]
    generalize v % (a.length : Int) = n at b1 b2
    have hn : n.toNat < a.length := by omega
    have ep : popT a n = .ok (a[n.toNat], a.eraseIdx n.toNat) := by
      unfold popT
      rw [if_pos ⟨b1, b2, by omega⟩, List.getElem?_eq_getElem hn]
    rw [ep, bOk, appT_e (by omega), bOk]
    exact ⟨_, rfl, _, rfl, by rw [List.length_append, h1]; rfl, (places_step hn).trans h2⟩
  · rw [hll] at hI
    obtain ⟨h1, h2⟩ := hI
    refine ⟨_, rfl, h1, fun x hx => ?_, ?_⟩
    · have : x ∈ [1, 2, 3, 4, 5, 6, 7, 8, 9, 10] := h2.subset (List.mem_append_right _ hx)
      simp only [List.mem_cons, List.not_mem_nil, or_false] at this
      omega
    · have : (u.1 ++ u.2).Nodup := h2.nodup_iff.mpr (by decide)
      exact (List.nodup_append.mp this).2.1
theorem len_1 {l : List Int} {n : Nat} (h : l.length = n + 1) : ∃ c l', l = c :: l' := by
  match l, h with
  | c :: l', _ => exact ⟨c, l', rfl⟩
theorem z0_eq {q v w : Int} (h : z0 q (v - w)) (hw : 0 ≤ w ∧ w < q) : v % q = w := by
  obtain ⟨k, hk⟩ := h
  rw [show v = w + q * k by omega, Int.add_mul_emod_self_left, Int.emod_eq_of_lt hw.1 hw.2]
theorem okP_of {q : Int} {pts : List (Int × Int)} (hq : IsOrd q) (h : okX (pts.map Prod.fst)) : okP q pts := by
  have hqd := ord_D hq
  have ne : ∀ d : Int, d ≠ 0 → -11 < d → d < 11 → d % q ≠ 0 := fun d h0 h1 h2 z => by
    obtain ⟨k, hk⟩ := Int.dvd_of_emod_eq_zero z
    rcases Int.lt_or_le 0 k with c | c
    · have : q * 1 ≤ q * k := Int.mul_le_mul_of_nonneg_left (by omega) (by omega)
      omega
    · rcases Int.lt_or_le k 0 with c2 | c2
      · have : q * k ≤ q * (-1) := Int.mul_le_mul_of_nonneg_left (by omega) (by omega)
        omega
      · have : k = 0 := by omega
        subst this
        omega
  unfold okP
  refine List.Pairwise.imp_of_mem (R := (· ≠ ·)) (fun {a b} ha hb hab => ?_) h.2
  have h1 := h.1 a ha
  have h2 := h.1 b hb
  exact ne _ (fun z => hab (by omega)) (by omega) (by omega)
theorem t_polyof {q : Int} {pts : List (Int × Int)} (hq : IsOrd q) (h1 : 1 ≤ pts.length) (h2 : pts.length ≤ 10) (h : okX (pts.map Prod.fst)) (hb : ∀ p ∈ pts, isV q p.2 = true) :
    ∃ l, T_polynomial_of (q, pts) = .ok l ∧ l.length = pts.length ∧ (∀ x ∈ l, 0 ≤ x ∧ x < q) ∧ ∀ p ∈ pts, z0 q (hv l p.1 - p.2) := by
  obtain ⟨l, e, l1, l2, l3⟩ := t_leading hq h1 (by omega) (okP_of hq h)
  refine ⟨l, ?_, l1, l2, l3⟩
  delta T_polynomial_of tv_polynomial_of
  simp only [bOk, id2]
  rw [if_neg (by simp; omega), t_points h (by omega) hb, bOk, e, bOk]
theorem t_secretof {q : Int} {pts : List (Int × Int)} {c : Int} {l : List Int} (h : T_polynomial_of (q, pts) = .ok (c :: l)) : T_secret_of (q, pts) = .ok c := by
  delta T_secret_of tv_secret_of
  simp only [bOk, id2]
  rw [h, bOk, show ixT (c :: l) 0 = .ok c from ix_en (r := c :: l) (c := 0) (by simp), bOk]
theorem s_no {q : Int} {pts : List (Int × Int)} (h : T_polynomial_of (q, pts) = .ex .notAllowed) : T_secret_of (q, pts) = .ex .notAllowed := by
  delta T_secret_of tv_secret_of
  simp only [bOk, id2]
  rw [h, bEx, bEx]
theorem x_len {q : Int} {pts : List (Int × Int)} (h : pts.length < 1 ∨ 10 < pts.length) : T_polynomial_of (q, pts) = .ex .notAllowed := by
  delta T_polynomial_of tv_polynomial_of
  simp only [bOk, id2]
  rw [if_pos (by simp; omega)]
theorem x_pts {q : Int} {pts : List (Int × Int)} (h1 : 1 ≤ pts.length) (h2 : pts.length ≤ 10) (h : T_check_points (q, pts) = .ex .notAllowed) : T_polynomial_of (q, pts) = .ex .notAllowed := by
  delta T_polynomial_of tv_polynomial_of
  simp only [bOk, id2]
  rw [if_neg (by simp; omega), h, bEx]
theorem c_places {q : Int} {pts : List (Int × Int)} (hl : pts.length ≤ 20) (h : T_check_places (pts.map Prod.fst) = .ex .notAllowed) : T_check_points (q, pts) = .ex .notAllowed := by
  delta T_check_points tv_check_points
  simp only [bOk, id2]
  rw [compT_e Prod.fst pts (by omega) (fun _ _ => rfl) (fun _ _ => rfl), bOk, h, bEx]
theorem c_value {q x v : Int} (hx : 1 ≤ x ∧ x ≤ 10) (hv : ¬ (0 ≤ v ∧ v < q)) : T_check_points (q, [(x, v)]) = .ex .notAllowed := by
  delta T_check_points tv_check_points
  simp only [bOk, id2]
  rw [compT_e Prod.fst _ (by simp) (fun _ _ => rfl) (fun _ _ => rfl), bOk, t_places ⟨fun y hy => by simp at hy; omega, by simp⟩ (by simp), bOk, gex_all (g := fun p : Int × Int => isV q p.2) _ fun p _ => t_isexp]
  have : isV q v = false := Bool.eq_false_iff.mpr fun z => hv (isV_iff.mp z)
  simp only [List.all_cons, List.all_nil, this, Bool.false_and, noEx, bOk]
  rfl
theorem p_out {x : Int} {l : List Int} (hm : x ∈ l) (h : x < 1 ∨ x > 10) : T_check_places l = .ex .notAllowed := by
  delta T_check_places tv_check_places
  simp only [bOk, id2]
  rw [gex_any (g := fun x : Int => decide (x < 1) || decide (x > 10)) _ fun x _ => rfl]
  have : (l.any fun x : Int => decide (x < 1) || decide (x > 10)) = true := List.any_eq_true.mpr ⟨x, hm, by simp; exact h⟩
  rw [this]
  rfl
theorem cnt_dup {l : List Int} {x : Int} (h : l.Nodup) (hx : x ∈ l) : LU.cntI (l ++ [x]) = l.length := by
  unfold LU.cntI
  rw [List.length_append, List.length_singleton, PyProof.Rows.firstMet_succ]
  have e : PyProof.Rows.firstMet (fun i => (l ++ [x]).getD i 0) l.length = PyProof.Rows.firstMet (fun i => l.getD i 0) l.length := by
    unfold PyProof.Rows.firstMet
    refine congrArg (fun z => List.foldl _ [] z) (List.map_congr_left fun i hi => ?_)
    have hi := List.mem_range.mp hi
    rw [List.getD_eq_getElem?_getD, List.getD_eq_getElem?_getD, List.getElem?_append_left hi]
  rw [e, firstMet_nodup h l.length (Nat.le_refl _), List.take_length]
  have ex : (l ++ [x]).getD l.length 0 = x := by
    rw [List.getD_eq_getElem?_getD, List.getElem?_append_right (Nat.le_refl _), Nat.sub_self]; rfl
  rw [ex]
  show (if l.any (· == x) then l else l ++ [x]).length = l.length
  rw [if_pos (List.any_eq_true.mpr ⟨x, hx, by simp⟩)]
theorem p_dup {l : List Int} {x : Int} (h : okX l) (hx : x ∈ l) (hl : l.length ≤ 100) : T_check_places (l ++ [x]) = .ex .notAllowed := by
  delta T_check_places tv_check_places
  simp only [bOk, id2]
  rw [gex_any (g := fun x : Int => decide (x < 1) || decide (x > 10)) _ fun x _ => rfl]
  have : ((l ++ [x]).any fun x : Int => decide (x < 1) || decide (x > 10)) = false := by
    rw [List.any_eq_false]
    intro y hy
    have hy : y ∈ l := by
      rcases List.mem_append.mp hy with z | z
      · exact z
      · simp only [List.mem_cons, List.not_mem_nil, or_false] at z; rw [z]; exact hx
    have := h.1 y hy
    simp; omega
  rw [this]
  dsimp only [noEx]
  rw [bOk, bOk, if_neg (by decide)]
  unfold lenSetT
  rw [if_pos (by simp; omega), bOk, bOk, cnt_dup h.2 hx, if_pos (by simp; omega)]
theorem hv_zero (l : List Int) (x : Int) : ∀ n, hv (l ++ List.replicate n 0) x = hv l x
  | 0 => by simp
  | n + 1 => by
    rw [List.replicate_succ', ← List.append_assoc, hv_snoc, hv_zero l x n]; omega
/-! the doors -/
theorem door0 {q : Int} {l m : List Int} (h : T_value_at (q, l, 3) = .ex .notAllowed) : T__law_word (0, q, eL eI l, m) = .ok true := by
  have e : S_value_at [.int q, eL eI l, .int 3] = .ex .notAllowed := (v_value_at (q, l, 3)).ex h
  delta T__law_word
  show boT (toFn (g__law_word [.sh (.int 0), .sh (.int q), .sh (eL eI l), .sh (eL eI m), .un])) = _
  unfold g__law_word
  simp [tryR, e, isSub, sufR, unex, isxR, boT]
theorem door1 {q : Int} {l m : List Int} (h : T_shares_of (q, l, m) = .ex .notAllowed) : T__law_word (1, q, eL eI l, m) = .ok true := by
  have e : S_shares_of [.int q, eL eI l, eL eI m] = .ex .notAllowed := (v_shares_of (q, l, m)).ex h
  delta T__law_word
  show boT (toFn (g__law_word [.sh (.int 1), .sh (.int q), .sh (eL eI l), .sh (eL eI m), .un])) = _
  unfold g__law_word
  simp [tryR, e, isSub, sufR, unex, isxR, boT]
theorem door2 {q : Int} {p : List (Int × Int)} {m : List Int} (h : T_polynomial_of (q, p) = .ex .notAllowed) : T__law_word (2, q, eL (eT2 eI eI) p, m) = .ok true := by
  have e : S_polynomial_of [.int q, eL (eT2 eI eI) p] = .ex .notAllowed := (v_polynomial_of (q, p)).ex h
  delta T__law_word
  show boT (toFn (g__law_word [.sh (.int 2), .sh (.int q), .sh (eL (eT2 eI eI) p), .sh (eL eI m), .un])) = _
  unfold g__law_word
  simp [tryR, e, isSub, sufR, unex, isxR, boT]
theorem door3 {q : Int} {p : List (Int × Int)} {m : List Int} (h : T_polynomial_of (q, p) = .ex .notAllowed) : T__law_word (3, q, eL (eT2 eI eI) p, m) = .ok true := by
  have e : S_secret_of [.int q, eL (eT2 eI eI) p] = .ex .notAllowed := (v_secret_of (q, p)).ex (s_no h)
  delta T__law_word
  show boT (toFn (g__law_word [.sh (.int 3), .sh (.int q), .sh (eL (eT2 eI eI) p), .sh (eL eI m), .un])) = _
  unfold g__law_word
  simp [tryR, e, isSub, sufR, unex, isxR, boT]

theorem b_poly {q : Int} {l : List Int} (h : (l.length < 1 ∨ 10 < l.length) ∨ ∃ x ∈ l, ¬ (0 ≤ x ∧ x < q)) : T_check_polynomial (q, l) = .ex .notAllowed := by
  delta T_check_polynomial tv_check_polynomial
  simp only [bOk, id2]
  by_cases hl : l.length < 1 ∨ 10 < l.length
  · rw [if_pos (by simp; omega)]
  rw [if_neg (by simp; omega)]
  obtain ⟨x, hx, hn⟩ := h.resolve_left hl
  rw [forT_chk (isV q) l fun x _ => by
    rw [t_check_exponent]
    by_cases e : isV q x = true
    · rw [if_pos e, if_pos (isV_iff.mp e), bOk]
    · rw [if_neg e, if_neg fun z => e (isV_iff.mpr z), bEx]]
  rw [if_neg fun z => hn (isV_iff.mp (List.all_eq_true.mp z x hx)), bEx]
theorem b_value {q x : Int} {l : List Int} (h : T_check_polynomial (q, l) = .ex .notAllowed) : T_value_at (q, l, x) = .ex .notAllowed := by
  delta T_value_at tv_value_at
  simp only [bOk, id2]
  rw [h, bEx]
theorem b_shares {q : Int} {l m : List Int} (h : T_check_polynomial (q, l) = .ex .notAllowed) : T_shares_of (q, l, m) = .ex .notAllowed := by
  delta T_shares_of tv_shares_of
  simp only [bOk, id2]
  rw [h, bEx]
theorem b_shares2 {q : Int} {l m : List Int} (h : T_check_polynomial (q, l) = .ok ()) (h2 : T_check_places m = .ex .notAllowed) : T_shares_of (q, l, m) = .ex .notAllowed := by
  delta T_shares_of tv_shares_of
  simp only [bOk, id2]
  rw [h, bOk, h2, bEx]
theorem p_232 : T_check_places [2, 3, 2] = .ex .notAllowed := p_dup (l := [2, 3]) (x := 2) ⟨fun x hx => by simp at hx; omega, by decide⟩ (by simp) (by simp)
theorem p_55 : T_check_places [5, 5] = .ex .notAllowed := p_dup (l := [5]) (x := 5) ⟨fun x hx => by simp at hx; omega, by decide⟩ (by simp) (by simp)
theorem t_doors {q : Int} {P : List Int} {pts : List (Int × Int)} (hq : IsOrd q) (P1 : 1 ≤ P.length ∧ P.length ≤ 10) (P2 : ∀ x ∈ P, 0 ≤ x ∧ x < q) (h1 : 1 ≤ pts.length ∧ pts.length ≤ 10) (hX : okX (pts.map Prod.fst)) : T__law_doors (q, P, pts) = .ok true := by
  have hqd := ord_D hq
  have pok := t_poly P1.1 P1.2 P2
  delta T__law_doors tv__law_doors
  simp only [bOk, id2]
  have rp : repLT [(0 : Int)] 11 = .ok (List.replicate 11 0) := by rfl
  rw [rp]
  simp only [bOk]
  rw [catT_e (by simp; omega)]
  simp only [bOk]
  rw [limT_e (by simp), bOk, catT_e (by simp), bOk]
  obtain ⟨p0, pr, ep⟩ : ∃ p0 pr, pts = p0 :: pr := by
    match pts, h1.1 with
    | p0 :: pr, _ => exact ⟨p0, pr, rfl⟩
  have c1 : cutL pts none (some 1) = [p0] := by
    rw [ep]
    unfold cutL HT.sIx
    simp
    try omega
  rw [c1, catT_e (by simp; omega)]
  simp only [bOk]
  rw [limT_e (by simp), bOk]
  let okrow : Int × D × List Int → Prop := fun r => T__law_word (r.1, q, r.2.1, r.2.2) = .ok true
  have first : ∀ r ∈ [((0 : Int), eL eD [], ([] : List Int)), (0, eL eI (List.replicate 11 0), []), (0, eL eD [eI q], []), (0, eL eI (P ++ [-1]), []), (1, eL eD [], [1]), (1, eL eI P, [0])] ++ [(1, eL eI P, [1, 11]), (1, eL eI P, [2, 3, 2]), (1, eL eI P, [-1])], okrow r := fun r hr => by
    simp only [List.cons_append, List.nil_append, List.mem_cons, List.not_mem_nil, or_false] at hr
    rcases hr with rfl | rfl | rfl | rfl | rfl | rfl | rfl | rfl | rfl
    · exact door0 (l := []) (b_value (b_poly (.inl (.inl (by simp)))))
    · exact door0 (b_value (b_poly (.inl (.inr (by simp)))))
    · exact door0 (l := [q]) (b_value (b_poly (.inr ⟨q, by simp, by omega⟩)))
    · exact door0 (b_value (b_poly (.inr ⟨-1, by simp, by omega⟩)))
    · exact door1 (l := []) (b_shares (b_poly (.inl (.inl (by simp)))))
    · exact door1 (b_shares2 pok (p_out (x := 0) (by simp) (by omega)))
    · exact door1 (b_shares2 pok (p_out (x := 11) (by simp) (by omega)))
    · exact door1 (b_shares2 pok p_232)
    · exact door1 (b_shares2 pok (p_out (x := -1) (by simp) (by omega)))
  have bads : ∀ b ∈ [[], pts ++ [p0], [((0 : Int), (1 : Int))], [(11, 1)], [(1, q)], [(1, -1)], [(5, 1), (5, 1)]], T_polynomial_of (q, b) = .ex .notAllowed := fun b hb => by
    simp only [List.mem_cons, List.not_mem_nil, or_false] at hb
    rcases hb with rfl | rfl | rfl | rfl | rfl | rfl | rfl
    · exact x_len (.inl (by simp))
    · by_cases h10 : pts.length = 10
      · exact x_len (.inr (by simp; omega))
      · refine x_pts (by simp) (by simp; omega) (c_places (by simp; omega) ?_)
        rw [List.map_append]
        exact p_dup hX (by rw [ep]; simp) (by rw [List.length_map]; omega)
    · exact x_pts (by simp) (by simp) (c_places (by simp) (p_out (x := 0) (by simp) (by omega)))
    · exact x_pts (by simp) (by simp) (c_places (by simp) (p_out (x := 11) (by simp) (by omega)))
    · exact x_pts (by simp) (by simp) (c_value (by omega) (by omega))
    · exact x_pts (by simp) (by simp) (c_value (by omega) (by omega))
    · exact x_pts (by simp) (by simp) (c_places (by simp) p_55)
  refine run_for (τ := List (Int × D × List Int)) (P := fun t : Res Bool => t = .ok true) (fun j u => u.length ≤ 9 + 2 * j ∧ ∀ r ∈ u, okrow r) ⟨by simp, first⟩ (fun j b u hb hI => ?_) fun u hI => ?_
  · have hm : b ∈ [[], pts ++ [p0], [((0 : Int), (1 : Int))], [(11, 1)], [(1, q)], [(1, -1)], [(5, 1), (5, 1)]] := List.mem_of_getElem? hb
    have hj : j < 7 := by have := (List.getElem?_eq_some_iff.mp hb).1; simpa using this
    have hx := bads b hm
    have hl : u.length + 2 ≤ 16777216 := by have := hI.1; omega
    rw [catT_e (by exact hl), bOk]
    refine ⟨_, rfl, _, rfl, by have := hI.1; rw [List.length_append]; simp; omega, fun r hr => ?_⟩
    rcases List.mem_append.mp hr with hr | hr
    · exact hI.2 r hr
    · simp only [List.mem_cons, List.not_mem_nil, or_false] at hr
      rcases hr with rfl | rfl
      · exact door2 hx
      · exact door3 hx
  · dsimp only
    refine run_pass (fun r hr => by
      have h : T__law_word (r.1, q, r.2.1, r.2.2) = .ok true := hI.2 r hr
      rw [h]; rfl) ?_
    dsimp only
    rw [t_shares hq P1.1 P1.2 P2 (m := []) ⟨fun x hx => by simp at hx, List.nodup_nil⟩ (by simp)]
    rfl
theorem t_law (ns : List Int) (hl : ns.length ≤ 63) : T_law ns = .ok true := by
  delta T_law tv_law
  simp only [bOk, id2]
  refine ob (t_numbers 60 (by omega) hl) fun xs hx => ?_
  obtain ⟨n0, i0, _⟩ := iT_lt (xs := xs) (i := 0) (by omega) (by omega)
  obtain ⟨n11, i11, _⟩ := iT_lt (xs := xs) (i := 11) (by omega) (by omega)
  obtain ⟨n23, i23, _⟩ := iT_lt (xs := xs) (i := 23) (by omega) (by omega)
  obtain ⟨n24, i24, _⟩ := iT_lt (xs := xs) (i := 24) (by omega) (by omega)
  rw [i0, bOk]
  refine ob t_law_order fun q hq => ?_
  have hqd := ord_D hq
  have d1 := Int.emod_nonneg n11 (b := 10) (by omega)
  have d2 := Int.emod_lt_of_pos n11 (b := 10) (by omega)
  rw [i11, bOk, modT_e (by decide), bOk, bOk, rngT_e (by decide) (by decide) (by omega) (by omega), bOk]
  have hlen : (rngI 0 (1 + n11 % 10)).length = (1 + n11 % 10).toNat := by rw [rngI_len]; omega
  rw [compT_e (fun k : Int => (xs.getD (1 + k).toNat 0) % q) _ (by omega) (fun _ _ => rfl) fun k hk => by
    have hk := rngI_mem hk
    have : ixT xs (1 + k) = .ok (xs.getD (1 + k).toNat 0) := by
      have := ix_en (r := xs) (c := (1 + k).toNat) (by omega)
      rwa [show (((1 + k).toNat : Nat) : Int) = 1 + k by omega] at this
    rw [this, bOk, modT_e (by omega)], bOk]
  obtain ⟨P, hP⟩ : ∃ P, P = (rngI 0 (1 + n11 % 10)).map fun k : Int => (xs.getD (1 + k).toNat 0) % q := ⟨_, rfl⟩
  rw [← hP]
  have P1 : P.length = (1 + n11 % 10).toNat := by rw [hP, List.length_map, hlen]
  have P2 : ∀ x ∈ P, 0 ≤ x ∧ x < q := fun x hx => by
    rw [hP] at hx
    obtain ⟨k, _, rfl⟩ := List.mem_map.mp hx
    exact ⟨Int.emod_nonneg _ (by omega), Int.emod_lt_of_pos _ (by omega)⟩
  have cl12 : (cutL xs (some 12) none).length = 48 := by
    unfold cutL HT.sIx
    rw [List.length_take, List.length_drop, hx]; decide
  have cl25 : (cutL xs (some 25) none).length = 35 := by
    unfold cutL HT.sIx
    rw [List.length_take, List.length_drop, hx]; decide
  obtain ⟨ms, em, ml, mX⟩ := t_lplaces (ns := cutL xs (some 12) none) (m := P.length) (by omega) (by omega)
  have lv : ∀ ms : List Int, ms.length ≤ 10 → compT (fun x => Res.ok true) (fun x => (T__law_value (q, P, x)).bind fun y => Res.ok (x, y)) ms = .ok (ms.map fun x => (x, hv P x % q)) := fun ms h => compT_e (fun x => (x, hv P x % q)) ms (by omega) (fun _ _ => rfl) fun x _ => by rw [t_law_value hq, bOk]
  rw [em, bOk, lv ms (by omega), bOk, t_shares hq (by omega) (by omega) P2 mX (by omega), bOk]
  have good : ∀ ms : List Int, okX ms → ∀ p ∈ ms.map (fun x => (x, hv P x % q)), isV q p.2 = true := fun ms _ p hp => by
    obtain ⟨x, _, rfl⟩ := List.mem_map.mp hp
    exact isV_iff.mpr ⟨Int.emod_nonneg _ (by omega), Int.emod_lt_of_pos _ (by omega)⟩
  have fsts : ∀ (ms : List Int) (g : Int → Int), (ms.map fun x => (x, g x)).map Prod.fst = ms := fun ms g => by rw [List.map_map]; exact List.map_id' _
  have vals : ∀ (ms : List Int) (l : List Int), (∀ x, hv l x = hv P x) → ∀ p ∈ ms.map (fun x => (x, hv P x % q)), z0 q (hv l p.1 - p.2) := fun ms l he p hp => by
    obtain ⟨x, _, rfl⟩ := List.mem_map.mp hp
    obtain ⟨k, hk⟩ := cg_mod q (hv P x)
    exact ⟨-k, by show hv l x - hv P x % q = q * -k; rw [he, hk]; grind⟩
  rw [if_neg (by simp), i23, i24]
  simp only [bOk]
  rw [limT_e (by simp), bOk]
  refine run_pass (fun x _ => ?_) ?_
  · rw [t_value hq (by omega) (by omega) P2, t_law_value hq]
    simp only [bOk, ne_eq, not_true_eq_false, decide_false, Bool.false_eq_true, if_false]
  dsimp only
  obtain ⟨c, l', hc⟩ := len_1 (l := P) (n := P.length - 1) (by omega)
  have ic : ixT P 0 = .ok c := by rw [hc]; exact ix_en (r := c :: l') (c := 0) (by simp)
  obtain ⟨l, el, l1, l2, l3⟩ := t_polyof (pts := ms.map fun x => (x, hv P x % q)) hq (by rw [List.length_map]; omega) (by rw [List.length_map]; omega) (by rw [fsts]; exact mX) (good ms mX)
  have same : l = P := poly_one hq (okP_of hq (by rw [fsts]; exact mX)) l1 (by rw [List.length_map, ml]) l2 P2 l3 (vals ms P fun _ => rfl)
  rw [same] at el
  have es := t_secretof (c := c) (l := l') (by rw [el, hc])
  rw [el, es, ic]
  simp only [bOk, ne_eq, not_true_eq_false, decide_false, Bool.false_eq_true, if_false]
  -- more points
  rw [show ((P.length : Int) + (10 - (P.length : Int)) / 2) = ((P.length + (10 - P.length) / 2 : Nat) : Int) by omega]
  obtain ⟨mo, eo, ol, oX⟩ := t_lplaces (ns := cutL xs (some 25) none) (m := P.length + (10 - P.length) / 2) (by omega) (by omega)
  rw [eo, bOk, lv mo (by omega), bOk]
  obtain ⟨l4, e4, f1, f2, f3⟩ := t_polyof (pts := mo.map fun x => (x, hv P x % q)) hq (by rw [List.length_map]; omega) (by rw [List.length_map]; omega) (by rw [fsts]; exact oX) (good mo oX)
  have same2 : l4 = P ++ List.replicate (mo.length - P.length) 0 := poly_one hq (okP_of hq (by rw [fsts]; exact oX)) f1 (by rw [List.length_append, List.length_replicate, List.length_map]; omega) f2 (fun x hx => by
    rcases List.mem_append.mp hx with h | h
    · exact P2 x h
    · rw [List.eq_of_mem_replicate h]; omega) f3 (vals mo _ fun x => hv_zero P x _)
  have rp : repLT [(0 : Int)] (((mo.map fun x => (x, hv P x % q)).length : Int) - (P.length : Int)) = .ok (List.replicate (mo.length - P.length) 0) := by
    rw [List.length_map]
    unfold repLT
    rw [if_pos (by refine ⟨by omega, by omega, ?_⟩; simp; omega), show ((mo.length : Int) - (P.length : Int)).toNat = mo.length - P.length by omega]
    simp
  rw [e4, rp]
  simp only [bOk]
  rw [catT_e (by rw [List.length_replicate]; omega)]
  simp only [bOk]
  rw [same2]
  simp only [ne_eq, not_true_eq_false, decide_false, Bool.false_eq_true, if_false]
  -- values that are drawn
  rw [compT_e (fun x : Int => (x, (xs.getD (36 + x).toNat 0) % q)) ms (by omega) (fun _ _ => rfl) fun x hx' => by
    have := mX.1 x hx'
    have e : ixT xs (36 + x) = .ok (xs.getD (36 + x).toNat 0) := by
      have := ix_en (r := xs) (c := (36 + x).toNat) (by omega)
      rwa [show (((36 + x).toNat : Nat) : Int) = 36 + x by omega] at this
    rw [e, bOk, modT_e (by omega), bOk], bOk]
  have gd : ∀ p ∈ ms.map (fun x : Int => (x, (xs.getD (36 + x).toNat 0) % q)), isV q p.2 = true := fun p hp => by
    obtain ⟨x, _, rfl⟩ := List.mem_map.mp hp
    exact isV_iff.mpr ⟨Int.emod_nonneg _ (by omega), Int.emod_lt_of_pos _ (by omega)⟩
  obtain ⟨l5, e5, g1, g2, g3⟩ := t_polyof (pts := ms.map fun x : Int => (x, (xs.getD (36 + x).toNat 0) % q)) hq (by rw [List.length_map]; omega) (by rw [List.length_map]; omega) (by rw [fsts]; exact mX) gd
  obtain ⟨c5, l5', hc5⟩ := len_1 (l := l5) (n := l5.length - 1) (by rw [g1, List.length_map]; omega)
  have es5 := t_secretof (c := c5) (l := l5') (by rw [e5, hc5])
  have ic5 : ixT l5 0 = .ok c5 := by rw [hc5]; exact ix_en (r := c5 :: l5') (c := 0) (by simp)
  rw [e5, bOk, if_neg (by rw [g1]; simp), es5, ic5]
  simp only [bOk, ne_eq, not_true_eq_false, decide_false, Bool.false_eq_true, if_false]
  refine run_pass (fun p hp => ?_) ?_
  · rw [t_law_value hq, bOk, bOk, z0_eq (g3 p hp) (isV_iff.mp (gd p hp)), if_neg (by simp)]
  dsimp only
  rw [t_doors hq (by omega) P2 (by rw [List.length_map]; omega) (by rw [fsts]; exact mX), bOk]

end LK

namespace LK
open PySem PySem.Spec PyProof.Rows L2 RZ J
open L2H (RoomH HotC FnH PIH)
theorem law_true : ∀ ns : List Int, ns.length ≤ 63 → S_law [.list (ns.map PyData.int)] = .ok (.bool true) := fun ns h => by
  have e := v_law ns
  rw [t_law ns h] at e
  exact e
end LK
set_option maxHeartbeats 8000000
namespace LK
open PySem PySem.Spec PyProof.Rows L2 RZ J
open L2H (RoomH HotC FnH PIH)
def topS (i : Nat) : Stmt := PySem.Challenge.pw_cloak_k75_polynomials.main.body.getD i (.Pass ⟨0, 0, 0, 0⟩)
abbrev s_is_exponent : Stmt := topS 5
abbrev N_is_exponent : List Str := ["q", "value"]
theorem sc_is_exponent : FnScope N_is_exponent ["q", "value"] (defScope s_is_exponent) := ⟨rfl, rfl, rfl, by decide +kernel, rfl, by decide +kernel, by decide +kernel⟩
abbrev s_check_exponent : Stmt := topS 6
abbrev N_check_exponent : List Str := ["q", "value"]
theorem sc_check_exponent : FnScope N_check_exponent ["q", "value"] (defScope s_check_exponent) := ⟨rfl, rfl, rfl, by decide +kernel, rfl, by decide +kernel, by decide +kernel⟩
abbrev s_check_polynomial : Stmt := topS 22
abbrev N_check_polynomial : List Str := ["q", "polynomial", "coefficient"]
theorem sc_check_polynomial : FnScope N_check_polynomial ["q", "polynomial"] (defScope s_check_polynomial) := ⟨rfl, rfl, rfl, by decide +kernel, rfl, by decide +kernel, by decide +kernel⟩
abbrev s_value_at : Stmt := topS 25
abbrev N_value_at : List Str := ["q", "polynomial", "x", "value", "coefficient"]
theorem sc_value_at : FnScope N_value_at ["q", "polynomial", "x"] (defScope s_value_at) := ⟨rfl, rfl, rfl, by decide +kernel, rfl, by decide +kernel, by decide +kernel⟩
abbrev s_check_places : Stmt := topS 23
abbrev N_check_places : List Str := ["places", "x"]
theorem sc_check_places : FnScope N_check_places ["places"] (defScope s_check_places) := ⟨rfl, rfl, rfl, by decide +kernel, rfl, by decide +kernel, by decide +kernel⟩
abbrev s_shares_of : Stmt := topS 26
abbrev N_shares_of : List Str := ["q", "polynomial", "places", "x"]
theorem sc_shares_of : FnScope N_shares_of ["q", "polynomial", "places"] (defScope s_shares_of) := ⟨rfl, rfl, rfl, by decide +kernel, rfl, by decide +kernel, by decide +kernel⟩
abbrev s_check_points : Stmt := topS 24
abbrev N_check_points : List Str := ["q", "points", "x", "_", "value"]
theorem sc_check_points : FnScope N_check_points ["q", "points"] (defScope s_check_points) := ⟨rfl, rfl, rfl, by decide +kernel, rfl, by decide +kernel, by decide +kernel⟩
abbrev s_raised : Stmt := topS 7
abbrev N_raised : List Str := ["modulus", "base", "exponent", "result", "square"]
theorem sc_raised : FnScope N_raised ["modulus", "base", "exponent"] (defScope s_raised) := ⟨rfl, rfl, rfl, by decide +kernel, rfl, by decide +kernel, by decide +kernel⟩
abbrev s_check_system : Stmt := topS 12
abbrev N_check_system : List Str := ["unknowns", "rows", "right", "row"]
theorem sc_check_system : FnScope N_check_system ["unknowns", "rows", "right"] (defScope s_check_system) := ⟨rfl, rfl, rfl, by decide +kernel, rfl, by decide +kernel, by decide +kernel⟩
abbrev s_first_row_with : Stmt := topS 14
abbrev N_first_row_with : List Str := ["rows", "start", "column", "at"]
theorem sc_first_row_with : FnScope N_first_row_with ["rows", "start", "column"] (defScope s_first_row_with) := ⟨rfl, rfl, rfl, by decide +kernel, rfl, by decide +kernel, by decide +kernel⟩
abbrev s_swapped : Stmt := topS 15
abbrev N_swapped : List Str := ["rows", "first", "second", "moved"]
theorem sc_swapped : FnScope N_swapped ["rows", "first", "second"] (defScope s_swapped) := ⟨rfl, rfl, rfl, by decide +kernel, rfl, by decide +kernel, by decide +kernel⟩
abbrev s_quotient : Stmt := topS 8
abbrev N_quotient : List Str := ["q", "first", "second"]
theorem sc_quotient : FnScope N_quotient ["q", "first", "second"] (defScope s_quotient) := ⟨rfl, rfl, rfl, by decide +kernel, rfl, by decide +kernel, by decide +kernel⟩
abbrev s_less_multiple : Stmt := topS 17
abbrev N_less_multiple : List Str := ["q", "row", "factor", "other", "entry", "taken"]
theorem sc_less_multiple : FnScope N_less_multiple ["q", "row", "factor", "other"] (defScope s_less_multiple) := ⟨rfl, rfl, rfl, by decide +kernel, rfl, by decide +kernel, by decide +kernel⟩
abbrev s_cleared : Stmt := topS 16
abbrev N_cleared : List Str := ["q", "rows", "lead", "column", "factor", "leader", "entry", "at", "row"]
theorem sc_cleared : FnScope N_cleared ["q", "rows", "lead", "column"] (defScope s_cleared) := ⟨rfl, rfl, rfl, by decide +kernel, rfl, by decide +kernel, by decide +kernel⟩
abbrev s_reduced : Stmt := topS 13
abbrev N_reduced : List Str := ["q", "rows", "unknowns", "left", "bound", "unknown", "source", "row", "entry"]
theorem sc_reduced : FnScope N_reduced ["q", "rows", "unknowns"] (defScope s_reduced) := ⟨rfl, rfl, rfl, by decide +kernel, rfl, by decide +kernel, by decide +kernel⟩
abbrev s_step_of : Stmt := topS 19
abbrev N_step_of : List Str := ["q", "unknowns", "left", "bound", "free", "step", "unknown", "row"]
theorem sc_step_of : FnScope N_step_of ["q", "unknowns", "left", "bound", "free"] (defScope s_step_of) := ⟨rfl, rfl, rfl, by decide +kernel, rfl, by decide +kernel, by decide +kernel⟩
abbrev s_solutions : Stmt := topS 18
abbrev N_solutions : List Str := ["q", "unknowns", "rows", "right", "table", "left", "bound", "first", "unknown", "row", "steps", "side", "free"]
theorem sc_solutions : FnScope N_solutions ["q", "unknowns", "rows", "right"] (defScope s_solutions) := ⟨rfl, rfl, rfl, by decide +kernel, rfl, by decide +kernel, by decide +kernel⟩
abbrev s_leading_through : Stmt := topS 28
abbrev N_leading_through : List Str := ["q", "points", "rows", "polynomial", "_", "x", "degree", "value"]
theorem sc_leading_through : FnScope N_leading_through ["q", "points"] (defScope s_leading_through) := ⟨rfl, rfl, rfl, by decide +kernel, rfl, by decide +kernel, by decide +kernel⟩
abbrev s_polynomial_of : Stmt := topS 27
abbrev N_polynomial_of : List Str := ["q", "points"]
theorem sc_polynomial_of : FnScope N_polynomial_of ["q", "points"] (defScope s_polynomial_of) := ⟨rfl, rfl, rfl, by decide +kernel, rfl, by decide +kernel, by decide +kernel⟩
abbrev s_secret_of : Stmt := topS 29
abbrev N_secret_of : List Str := ["q", "points"]
theorem sc_secret_of : FnScope N_secret_of ["q", "points"] (defScope s_secret_of) := ⟨rfl, rfl, rfl, by decide +kernel, rfl, by decide +kernel, by decide +kernel⟩
abbrev s__law_numbers : Stmt := topS 31
abbrev N__law_numbers : List Str := ["script", "many", "numbers", "k", "base", "last", "cell", "j", "mixed"]
theorem sc__law_numbers : FnScope N__law_numbers ["script", "many"] (defScope s__law_numbers) := ⟨rfl, rfl, rfl, by decide +kernel, rfl, by decide +kernel, by decide +kernel⟩
abbrev s__law_is_prime : Stmt := topS 32
abbrev N__law_is_prime : List Str := ["number", "k"]
theorem sc__law_is_prime : FnScope N__law_is_prime ["number"] (defScope s__law_is_prime) := ⟨rfl, rfl, rfl, by decide +kernel, rfl, by decide +kernel, by decide +kernel⟩
abbrev s__law_order : Stmt := topS 33
abbrev N__law_order : List Str := ["number", "q"]
theorem sc__law_order : FnScope N__law_order ["number"] (defScope s__law_order) := ⟨rfl, rfl, rfl, by decide +kernel, rfl, by decide +kernel, by decide +kernel⟩
abbrev s__law_value : Stmt := topS 37
abbrev N__law_value : List Str := ["q", "polynomial", "x", "total", "power", "number"]
theorem sc__law_value : FnScope N__law_value ["q", "polynomial", "x"] (defScope s__law_value) := ⟨rfl, rfl, rfl, by decide +kernel, rfl, by decide +kernel, by decide +kernel⟩
abbrev s__law_places : Stmt := topS 38
abbrev N__law_places : List Str := ["numbers", "count", "left", "places", "k"]
theorem sc__law_places : FnScope N__law_places ["numbers", "count"] (defScope s__law_places) := ⟨rfl, rfl, rfl, by decide +kernel, rfl, by decide +kernel, by decide +kernel⟩
abbrev s__law_word : Stmt := topS 39
abbrev N__law_word : List Str := ["kind", "q", "first", "second", "e"]
theorem sc__law_word : FnScope N__law_word ["kind", "q", "first", "second"] (defScope s__law_word) := ⟨rfl, rfl, rfl, by decide +kernel, rfl, by decide +kernel, by decide +kernel⟩
abbrev s__law_doors : Stmt := topS 40
abbrev N__law_doors : List Str := ["q", "polynomial", "points", "rows", "bad", "row"]
theorem sc__law_doors : FnScope N__law_doors ["q", "polynomial", "points"] (defScope s__law_doors) := ⟨rfl, rfl, rfl, by decide +kernel, rfl, by decide +kernel, by decide +kernel⟩
abbrev s_law : Stmt := topS 41
abbrev N_law : List Str := ["script", "numbers", "q", "polynomial", "places", "kept", "due", "told", "x", "more", "drawn", "through", "value", "k"]
theorem sc_law : FnScope N_law ["script"] (defScope s_law) := ⟨rfl, rfl, rfl, by decide +kernel, rfl, by decide +kernel, by decide +kernel⟩
/-- what the top has written -/
structure Tx (K : PySem.W.Frag) (mg : Str → Option Value) where
  a_is_exponent : Addr
  d_is_exponent : FuncData
  F_is_exponent : Fun K "is_exponent" "is_exponent" s_is_exponent a_is_exponent d_is_exponent
  g_is_exponent : mg "is_exponent" = some (.ref a_is_exponent)
  b_is_exponent : Binds K d_is_exponent ["q", "value"] []
  a_check_exponent : Addr
  d_check_exponent : FuncData
  F_check_exponent : Fun K "check_exponent" "check_exponent" s_check_exponent a_check_exponent d_check_exponent
  g_check_exponent : mg "check_exponent" = some (.ref a_check_exponent)
  b_check_exponent : Binds K d_check_exponent ["q", "value"] []
  a_check_polynomial : Addr
  d_check_polynomial : FuncData
  F_check_polynomial : Fun K "check_polynomial" "check_polynomial" s_check_polynomial a_check_polynomial d_check_polynomial
  g_check_polynomial : mg "check_polynomial" = some (.ref a_check_polynomial)
  b_check_polynomial : Binds K d_check_polynomial ["q", "polynomial"] []
  a_value_at : Addr
  d_value_at : FuncData
  F_value_at : Fun K "value_at" "value_at" s_value_at a_value_at d_value_at
  g_value_at : mg "value_at" = some (.ref a_value_at)
  b_value_at : Binds K d_value_at ["q", "polynomial", "x"] []
  a_check_places : Addr
  d_check_places : FuncData
  F_check_places : Fun K "check_places" "check_places" s_check_places a_check_places d_check_places
  g_check_places : mg "check_places" = some (.ref a_check_places)
  b_check_places : Binds K d_check_places ["places"] []
  c_check_places : Addr
  P_check_places : Addr
  FC_check_places : FunC K "check_places" "check_places" s_check_places a_check_places d_check_places c_check_places
  a_shares_of : Addr
  d_shares_of : FuncData
  F_shares_of : Fun K "shares_of" "shares_of" s_shares_of a_shares_of d_shares_of
  g_shares_of : mg "shares_of" = some (.ref a_shares_of)
  b_shares_of : Binds K d_shares_of ["q", "polynomial", "places"] []
  a_check_points : Addr
  d_check_points : FuncData
  F_check_points : Fun K "check_points" "check_points" s_check_points a_check_points d_check_points
  g_check_points : mg "check_points" = some (.ref a_check_points)
  b_check_points : Binds K d_check_points ["q", "points"] []
  c_check_points : Addr
  P_check_points : Addr
  FC_check_points : FunC K "check_points" "check_points" s_check_points a_check_points d_check_points c_check_points
  a_raised : Addr
  d_raised : FuncData
  F_raised : Fun K "raised" "raised" s_raised a_raised d_raised
  g_raised : mg "raised" = some (.ref a_raised)
  b_raised : Binds K d_raised ["modulus", "base", "exponent"] []
  a_check_system : Addr
  d_check_system : FuncData
  F_check_system : Fun K "check_system" "check_system" s_check_system a_check_system d_check_system
  g_check_system : mg "check_system" = some (.ref a_check_system)
  b_check_system : Binds K d_check_system ["unknowns", "rows", "right"] []
  c_check_system : Addr
  P_check_system : Addr
  FC_check_system : FunC K "check_system" "check_system" s_check_system a_check_system d_check_system c_check_system
  a_first_row_with : Addr
  d_first_row_with : FuncData
  F_first_row_with : Fun K "first_row_with" "first_row_with" s_first_row_with a_first_row_with d_first_row_with
  g_first_row_with : mg "first_row_with" = some (.ref a_first_row_with)
  b_first_row_with : Binds K d_first_row_with ["rows", "start", "column"] []
  a_swapped : Addr
  d_swapped : FuncData
  F_swapped : Fun K "swapped" "swapped" s_swapped a_swapped d_swapped
  g_swapped : mg "swapped" = some (.ref a_swapped)
  b_swapped : Binds K d_swapped ["rows", "first", "second"] []
  a_quotient : Addr
  d_quotient : FuncData
  F_quotient : Fun K "quotient" "quotient" s_quotient a_quotient d_quotient
  g_quotient : mg "quotient" = some (.ref a_quotient)
  b_quotient : Binds K d_quotient ["q", "first", "second"] []
  a_less_multiple : Addr
  d_less_multiple : FuncData
  F_less_multiple : Fun K "less_multiple" "less_multiple" s_less_multiple a_less_multiple d_less_multiple
  g_less_multiple : mg "less_multiple" = some (.ref a_less_multiple)
  b_less_multiple : Binds K d_less_multiple ["q", "row", "factor", "other"] []
  a_cleared : Addr
  d_cleared : FuncData
  F_cleared : Fun K "cleared" "cleared" s_cleared a_cleared d_cleared
  g_cleared : mg "cleared" = some (.ref a_cleared)
  b_cleared : Binds K d_cleared ["q", "rows", "lead", "column"] []
  a_reduced : Addr
  d_reduced : FuncData
  F_reduced : Fun K "reduced" "reduced" s_reduced a_reduced d_reduced
  g_reduced : mg "reduced" = some (.ref a_reduced)
  b_reduced : Binds K d_reduced ["q", "rows", "unknowns"] []
  a_step_of : Addr
  d_step_of : FuncData
  F_step_of : Fun K "step_of" "step_of" s_step_of a_step_of d_step_of
  g_step_of : mg "step_of" = some (.ref a_step_of)
  b_step_of : Binds K d_step_of ["q", "unknowns", "left", "bound", "free"] []
  a_solutions : Addr
  d_solutions : FuncData
  F_solutions : Fun K "solutions" "solutions" s_solutions a_solutions d_solutions
  g_solutions : mg "solutions" = some (.ref a_solutions)
  b_solutions : Binds K d_solutions ["q", "unknowns", "rows", "right"] []
  c_solutions : Addr
  P_solutions : Addr
  FC_solutions : FunC K "solutions" "solutions" s_solutions a_solutions d_solutions c_solutions
  a_leading_through : Addr
  d_leading_through : FuncData
  F_leading_through : Fun K "leading_through" "leading_through" s_leading_through a_leading_through d_leading_through
  g_leading_through : mg "leading_through" = some (.ref a_leading_through)
  b_leading_through : Binds K d_leading_through ["q", "points"] []
  a_polynomial_of : Addr
  d_polynomial_of : FuncData
  F_polynomial_of : Fun K "polynomial_of" "polynomial_of" s_polynomial_of a_polynomial_of d_polynomial_of
  g_polynomial_of : mg "polynomial_of" = some (.ref a_polynomial_of)
  b_polynomial_of : Binds K d_polynomial_of ["q", "points"] []
  a_secret_of : Addr
  d_secret_of : FuncData
  F_secret_of : Fun K "secret_of" "secret_of" s_secret_of a_secret_of d_secret_of
  g_secret_of : mg "secret_of" = some (.ref a_secret_of)
  b_secret_of : Binds K d_secret_of ["q", "points"] []
  a__law_numbers : Addr
  d__law_numbers : FuncData
  F__law_numbers : Fun K "_law_numbers" "_law_numbers" s__law_numbers a__law_numbers d__law_numbers
  g__law_numbers : mg "_law_numbers" = some (.ref a__law_numbers)
  b__law_numbers : Binds K d__law_numbers ["script", "many"] []
  a__law_is_prime : Addr
  d__law_is_prime : FuncData
  F__law_is_prime : Fun K "_law_is_prime" "_law_is_prime" s__law_is_prime a__law_is_prime d__law_is_prime
  g__law_is_prime : mg "_law_is_prime" = some (.ref a__law_is_prime)
  b__law_is_prime : Binds K d__law_is_prime ["number"] []
  a__law_order : Addr
  d__law_order : FuncData
  F__law_order : Fun K "_law_order" "_law_order" s__law_order a__law_order d__law_order
  g__law_order : mg "_law_order" = some (.ref a__law_order)
  b__law_order : Binds K d__law_order ["number"] []
  a__law_value : Addr
  d__law_value : FuncData
  F__law_value : Fun K "_law_value" "_law_value" s__law_value a__law_value d__law_value
  g__law_value : mg "_law_value" = some (.ref a__law_value)
  b__law_value : Binds K d__law_value ["q", "polynomial", "x"] []
  a__law_places : Addr
  d__law_places : FuncData
  F__law_places : Fun K "_law_places" "_law_places" s__law_places a__law_places d__law_places
  g__law_places : mg "_law_places" = some (.ref a__law_places)
  b__law_places : Binds K d__law_places ["numbers", "count"] []
  a__law_word : Addr
  d__law_word : FuncData
  F__law_word : Fun K "_law_word" "_law_word" s__law_word a__law_word d__law_word
  g__law_word : mg "_law_word" = some (.ref a__law_word)
  b__law_word : Binds K d__law_word ["kind", "q", "first", "second"] []
  a__law_doors : Addr
  d__law_doors : FuncData
  F__law_doors : Fun K "_law_doors" "_law_doors" s__law_doors a__law_doors d__law_doors
  g__law_doors : mg "_law_doors" = some (.ref a__law_doors)
  b__law_doors : Binds K d__law_doors ["q", "polynomial", "points"] []
  a_law : Addr
  d_law : FuncData
  F_law : Fun K "law" "law" s_law a_law d_law
  g_law : mg "law" = some (.ref a_law)
  b_law : Binds K d_law ["script"] []
  lb : ∀ (s : Shared) (v : Value), BindsTo s d_law ⟨[v], []⟩ [("script", v)]
  z_abs : mg "abs" = none
  z_all : mg "all" = none
  z_any : mg "any" = none
  z_enumerate : mg "enumerate" = none
  z_int : mg "int" = none
  z_isinstance : mg "isinstance" = none
  z_len : mg "len" = none
  z_list : mg "list" = none
  z_max : mg "max" = none
  z_range : mg "range" = none
  z_reversed : mg "reversed" = none
  z_set : mg "set" = none
  z_zip : mg "zip" = none
  c_MAX_POINTS : ∃ t, mg "MAX_POINTS" = some (.int (10) t)
  c__MOST_ROWS : ∃ t, mg "_MOST_ROWS" = some (.int (60) t)
  c__MOST_UNKNOWNS : ∃ t, mg "_MOST_UNKNOWNS" = some (.int (40) t)
  a_CloakError : Addr
  g_CloakError : mg "CloakError" = some (.ref a_CloakError)
  x_CloakError : PySem.W.excIn K a_CloakError [.type "ValueError", .type "Exception", .type "BaseException", .type "object"] "ValueError.__new__" = true
  k_CloakError : PySem.W.keepIn K (.ref a_CloakError) = true
  b_CloakError : PySem.W.subIn K (.ref a_CloakError) (.type "BaseException") = some true
  t_CloakError : PySem.W.typeIn K (.ref a_CloakError) = some (.type "type")
  h_CloakError : PySem.W.hasDictIn K a_CloakError = true
  a_NotAllowed : Addr
  g_NotAllowed : mg "NotAllowed" = some (.ref a_NotAllowed)
  x_NotAllowed : PySem.W.excIn K a_NotAllowed [.type "ValueError", .type "Exception", .type "BaseException", .type "object"] "ValueError.__new__" = true
  k_NotAllowed : PySem.W.keepIn K (.ref a_NotAllowed) = true
  b_NotAllowed : PySem.W.subIn K (.ref a_NotAllowed) (.type "BaseException") = some true
  t_NotAllowed : PySem.W.typeIn K (.ref a_NotAllowed) = some (.type "type")
  h_NotAllowed : PySem.W.hasDictIn K a_NotAllowed = true
  a_Missing : Addr
  g_Missing : mg "Missing" = some (.ref a_Missing)
  x_Missing : PySem.W.excIn K a_Missing [.type "ValueError", .type "Exception", .type "BaseException", .type "object"] "ValueError.__new__" = true
  k_Missing : PySem.W.keepIn K (.ref a_Missing) = true
  b_Missing : PySem.W.subIn K (.ref a_Missing) (.type "BaseException") = some true
  t_Missing : PySem.W.typeIn K (.ref a_Missing) = some (.type "type")
  h_Missing : PySem.W.hasDictIn K a_Missing = true
  e_CloakError : ExcC K a_CloakError
  e_NotAllowed : ExcC K a_NotAllowed
  e_Missing : ExcC K a_Missing
  s_CloakError_CloakError : PySem.W.subIn K (.ref a_CloakError) (.ref a_CloakError) = some true
  s_NotAllowed_CloakError : PySem.W.subIn K (.ref a_NotAllowed) (.ref a_CloakError) = some true
  s_Missing_CloakError : PySem.W.subIn K (.ref a_Missing) (.ref a_CloakError) = some true
  s_CloakError_NotAllowed : PySem.W.subIn K (.ref a_CloakError) (.ref a_NotAllowed) = some false
  s_NotAllowed_NotAllowed : PySem.W.subIn K (.ref a_NotAllowed) (.ref a_NotAllowed) = some true
  s_Missing_NotAllowed : PySem.W.subIn K (.ref a_Missing) (.ref a_NotAllowed) = some false
  q_CloakError_NotAllowed : PySem.W.kitOne K (.ref a_CloakError) (.ref a_NotAllowed) = some false
  q_NotAllowed_NotAllowed : PySem.W.kitOne K (.ref a_NotAllowed) (.ref a_NotAllowed) = some true
  q_Missing_NotAllowed : PySem.W.kitOne K (.ref a_Missing) (.ref a_NotAllowed) = some false
namespace Tx
variable {K : PySem.W.Frag} {mg : Str → Option Value}
def ec (T : Tx K mg) : Xc → Addr
  | .cloakError => T.a_CloakError
  | .notAllowed => T.a_NotAllowed
  | .missing => T.a_Missing
  | _ => 0
def cs (T : Tx K mg) : List (Addr × Addr) := [(T.c_check_places, T.P_check_places), (T.c_check_points, T.P_check_points), (T.c_check_system, T.P_check_system), (T.c_solutions, T.P_solutions)]
def tb (T : Tx K mg) : List Addr := T.cs.map (·.2)
theorem hx_CloakError (T : Tx K mg) : ∀ c ∈ ([Xc.cloakError, Xc.notAllowed, Xc.missing] : List Xc), PySem.W.exmOne K (.ref (T.ec c)) (.ref (T.ec .cloakError)) = some (isSub c .cloakError) := by
  intro c hc
  cases c with
  | cloakError => exact PySem.W.exm_ref T.b_CloakError T.h_CloakError T.t_CloakError T.s_CloakError_CloakError
  | notAllowed => exact PySem.W.exm_ref T.b_CloakError T.h_CloakError T.t_CloakError T.s_NotAllowed_CloakError
  | missing => exact PySem.W.exm_ref T.b_CloakError T.h_CloakError T.t_CloakError T.s_Missing_CloakError
  | _ => exact absurd hc (by decide)
theorem kit_NotAllowed (T : Tx K mg) : ∀ c ∈ ([Xc.cloakError, Xc.notAllowed, Xc.missing] : List Xc), PySem.W.kitOne K (.ref (T.ec c)) (.ref (T.ec .notAllowed)) = some (isSub c .notAllowed) := by
  intro c hc
  cases c with
  | cloakError => exact T.q_CloakError_NotAllowed
  | notAllowed => exact T.q_NotAllowed_NotAllowed
  | missing => exact T.q_Missing_NotAllowed
  | _ => exact absurd hc (by decide)
theorem eC (T : Tx K mg) : ∀ c ∈ ([Xc.cloakError, Xc.notAllowed, Xc.missing] : List Xc), ExcC K (T.ec c) := by
  intro c hc
  cases c with
  | cloakError => exact T.e_CloakError
  | notAllowed => exact T.e_NotAllowed
  | missing => exact T.e_Missing
  | _ => exact absurd hc (by decide)
end Tx
section
variable {P : Program} {w : World} {K : PySem.W.Frag} {mg : Str → Option Value} {base : Heap}
structure TBx (T : Tx K mg) (base : Heap) : Prop where
  b_check_places : LamX.TabB base mg T.c_check_places T.P_check_places
  b_check_points : LamX.TabB base mg T.c_check_points T.P_check_points
  b_check_system : LamX.TabB base mg T.c_check_system T.P_check_system
  b_solutions : LamX.TabB base mg T.c_solutions T.P_solutions
theorem mem_tb_check_places (T : Tx K mg) : T.P_check_places ∈ T.tb := by simp [Tx.tb, Tx.cs]
theorem mem_tb_check_points (T : Tx K mg) : T.P_check_points ∈ T.tb := by simp [Tx.tb, Tx.cs]
theorem mem_tb_check_system (T : Tx K mg) : T.P_check_system ∈ T.tb := by simp [Tx.tb, Tx.cs]
theorem mem_tb_solutions (T : Tx K mg) : T.P_solutions ∈ T.tb := by simp [Tx.tb, Tx.cs]
theorem ok_is_exponent (T : Tx K mg) (B : TBx T base) : FnOk P w K mg base (L2N.CX P w) 1 T.a_is_exponent T.d_is_exponent ["q", "value"] (spD K T.ec T.tb 2 S_is_exponent) :=
  fn_ok T.F_is_exponent sc_is_exponent fun cdv A outer s H E hr =>
    (b_one (s_ret [] (chain_ kLe kLt je_int (v_ 1) (v_ 0))))
theorem ok_check_exponent (T : Tx K mg) (B : TBx T base) : FnOk P w K mg base (L2N.CX P w) 2 T.a_check_exponent T.d_check_exponent ["q", "value"] (spD K T.ec T.tb 2 S_check_exponent) :=
  fn_ok T.F_check_exponent sc_check_exponent fun cdv A outer s H E hr =>
    (b_one (s_if [] (t_not (tr_ (call_ (j := 0) (ok_is_exponent T B) (hr.mono (by decide)) T.g_is_exponent T.F_is_exponent.kp T.b_is_exponent (L2N.takes_of rfl rfl rfl rfl) (ac_ (v_ 0) (ac_ (v_ 1) a_nil)))))
    (b_one (s_raise (x := "x") (m := "m") (j := 0) (p1 := ⟨0,0,0,0⟩) (p2 := ⟨0,0,0,0⟩) (pos2 := ⟨0,0,0,0⟩) rfl (L2N.takes_of rfl rfl rfl rfl) (L2N.pmk_own PySem.F.excBase_ValueError T.x_NotAllowed T.g_NotAllowed T.k_NotAllowed (raises_own T.b_NotAllowed T.t_NotAllowed) rfl)))
    b_nil))
theorem ok_check_polynomial (T : Tx K mg) (B : TBx T base) : FnOk P w K mg base (L2N.CX P w) 3 T.a_check_polynomial T.d_check_polynomial ["q", "polynomial"] (spD K T.ec T.tb 2 S_check_polynomial) :=
  fn_ok T.F_check_polynomial sc_check_polynomial fun cdv A outer s H E hr =>
    (b_cons (s_if [] (PW.pt (t_or (tlt_ (len_ T.z_len (ac_ (v_ 1) a_nil)) je_int) (pw_or1 (tgt_ (len_ T.z_len (ac_ (v_ 1) a_nil)) (gI_ T.c_MAX_POINTS.choose_spec)))))
    (b_one (s_raise (x := "x") (m := "m") (j := 0) (p1 := ⟨0,0,0,0⟩) (p2 := ⟨0,0,0,0⟩) (pos2 := ⟨0,0,0,0⟩) rfl (L2N.takes_of rfl rfl rfl rfl) (L2N.pmk_own PySem.F.excBase_ValueError T.x_NotAllowed T.g_NotAllowed T.k_NotAllowed (raises_own T.b_NotAllowed T.t_NotAllowed) rfl)))
    b_nil)
    (b_one (for_ [2] gd_nm (passes_of rfl) rfl (any_ (v_ 1)) (nm_ (i := 2) sc_check_polynomial.nd rfl)
    (b_one (ex_ [] (call_ (j := 0) (ok_check_exponent T B) (hr.mono (by decide)) T.g_check_exponent T.F_check_exponent.kp T.b_check_exponent (L2N.takes_of rfl rfl rfl rfl) (ac_ (v_ 0) (ac_ (v_ 2) a_nil))))))))
theorem ok_value_at (T : Tx K mg) (B : TBx T base) : FnOk P w K mg base (L2N.CX P w) 4 T.a_value_at T.d_value_at ["q", "polynomial", "x"] (spD K T.ec T.tb 3 S_value_at) :=
  fn_ok T.F_value_at sc_value_at fun cdv A outer s H E hr =>
    (b_cons (ex_ [] (call_ (j := 0) (ok_check_polynomial T B) (hr.mono (by decide)) T.g_check_polynomial T.F_check_polynomial.kp T.b_check_polynomial (L2N.takes_of rfl rfl rfl rfl) (ac_ (v_ 0) (ac_ (v_ 1) a_nil))))
    (b_cons (set_ [] (i := 3) sc_value_at.nd rfl je_int)
    (b_cons (for_ [4] gd_nm (passes_of rfl) rfl (rev_ T.z_reversed (ac_ (v_ 1) a_nil)) (nm_ (i := 4) sc_value_at.nd rfl)
    (b_one (set_ [] (i := 3) sc_value_at.nd rfl (mod_ (add_ rfl (mul_ rfl (v_ 3) (v_ 2)) (v_ 4)) (v_ 0)))))
    (b_one (s_ret [] (v_ 3))))))
theorem ok_check_places (T : Tx K mg) (B : TBx T base) : FnOk P w K mg base (L2N.CX P w) 2 T.a_check_places T.d_check_places ["places"] (spD K T.ec T.tb 1 S_check_places) :=
  fn_okC T.FC_check_places sc_check_places fun A outer s H E hr =>
    (b_cons (s_if [] (tr_ (anyG_ (j := 0) (c := T.c_check_places) (P := T.P_check_places) (own := [(("x" : Str), 1)]) (mem_tb_check_places T) gd_nm (hr.mono (by decide)) rfl T.z_any B.b_check_places rfl sc_check_places.nd (any_ (v_ 0)) (gexOk_by (N := N_check_places) (sc := defScope s_check_places) (by decide +kernel)) (fun _ _ _ _ _ _ _ _ hr => (nm_ (i := 1) sc_check_places.nd rfl)) (fun _ _ _ _ _ _ _ _ hr => (e_or (lt_ (v_ 1) je_int) (pe_one (gt_ (v_ 1) (gI_ T.c_MAX_POINTS.choose_spec)))))))
    (b_one (s_raise (x := "x") (m := "m") (j := 0) (p1 := ⟨0,0,0,0⟩) (p2 := ⟨0,0,0,0⟩) (pos2 := ⟨0,0,0,0⟩) rfl (L2N.takes_of rfl rfl rfl rfl) (L2N.pmk_own PySem.F.excBase_ValueError T.x_NotAllowed T.g_NotAllowed T.k_NotAllowed (raises_own T.b_NotAllowed T.t_NotAllowed) rfl)))
    b_nil)
    (b_one (s_if [] (tne_ hr.units rfl (lenSet_ T.z_len T.z_set (v_ 0)) (len_ T.z_len (ac_ (v_ 0) a_nil)))
    (b_one (s_raise (x := "x") (m := "m") (j := 0) (p1 := ⟨0,0,0,0⟩) (p2 := ⟨0,0,0,0⟩) (pos2 := ⟨0,0,0,0⟩) rfl (L2N.takes_of rfl rfl rfl rfl) (L2N.pmk_own PySem.F.excBase_ValueError T.x_NotAllowed T.g_NotAllowed T.k_NotAllowed (raises_own T.b_NotAllowed T.t_NotAllowed) rfl)))
    b_nil)))
theorem ok_shares_of (T : Tx K mg) (B : TBx T base) : FnOk P w K mg base (L2N.CX P w) 5 T.a_shares_of T.d_shares_of ["q", "polynomial", "places"] (spD K T.ec T.tb 3 S_shares_of) :=
  fn_ok T.F_shares_of sc_shares_of fun cdv A outer s H E hr =>
    (b_cons (ex_ [] (call_ (j := 0) (ok_check_polynomial T B) (hr.mono (by decide)) T.g_check_polynomial T.F_check_polynomial.kp T.b_check_polynomial (L2N.takes_of rfl rfl rfl rfl) (ac_ (v_ 0) (ac_ (v_ 1) a_nil))))
    (b_cons (ex_ [] (call_ (j := 0) (ok_check_places T B) (hr.mono (by decide)) T.g_check_places T.F_check_places.kp T.b_check_places (L2N.takes_of rfl rfl rfl rfl) (ac_ (v_ 2) a_nil)))
    (b_one (s_ret [] (e_of_n (n_lc (own := [(("x" : Str), 3)]) gd_nm rfl sc_shares_of.nd (any_ (v_ 2)) (blkOk_by (N := N_shares_of) (sc := defScope s_shares_of) (by decide +kernel)) (fun _ _ _ _ _ => (nm_ (i := 3) sc_shares_of.nd rfl)) (fun _ _ _ _ _ => ts_nil) (fun _ _ _ _ _ => (e_tup (ac_ (v_ 3) (ac_ (call_ (j := 0) (ok_value_at T B) (hr.mono (by decide)) T.g_value_at T.F_value_at.kp T.b_value_at takes0N (ac_ (v_ 0) (ac_ (v_ 1) (ac_ (v_ 3) a_nil)))) a_nil)))) (by intro _; rfl)))))))
theorem ok_check_points (T : Tx K mg) (B : TBx T base) : FnOk P w K mg base (L2N.CX P w) 3 T.a_check_points T.d_check_points ["q", "points"] (spD K T.ec T.tb 2 S_check_points) :=
  fn_okC T.FC_check_points sc_check_points fun A outer s H E hr =>
    (b_cons (ex_ [] (call_ (j := 0) (ok_check_places T B) (hr.mono (by decide)) T.g_check_places T.F_check_places.kp T.b_check_places (L2N.takes_of rfl rfl rfl rfl) (ac_ (e_of_n (n_lc (own := [(("x" : Str), 2), (("_" : Str), 3)]) (gd_tp (gd_cons gd_nm (gd_cons gd_nm gd_nil))) rfl sc_check_points.nd (any_ (v_ 1)) (blkOk_by (N := N_check_points) (sc := defScope s_check_points) (by decide +kernel)) (fun _ _ _ _ _ => (pg_tup rfl (pgs_cons (nm_ (i := 2) sc_check_points.nd rfl) (pgs_cons (nm_ (i := 3) sc_check_points.nd rfl) pgs_nil)))) (fun _ _ _ _ _ => ts_nil) (fun _ _ _ _ _ => (v_ 2)) (by intro _; rfl))) a_nil)))
    (b_one (s_if [] (t_not (tr_ (allG_ (j := 1) (c := T.c_check_points) (P := T.P_check_points) (own := [(("_" : Str), 3), (("value" : Str), 4)]) (mem_tb_check_points T) (gd_tp (gd_cons gd_nm (gd_cons gd_nm gd_nil))) (hr.mono (by decide)) rfl T.z_all B.b_check_points rfl sc_check_points.nd (any_ (v_ 1)) (gexOk_by (N := N_check_points) (sc := defScope s_check_points) (by decide +kernel)) (fun _ _ _ _ _ _ _ _ hr => (pg_tup rfl (pgs_cons (nm_ (i := 3) sc_check_points.nd rfl) (pgs_cons (nm_ (i := 4) sc_check_points.nd rfl) pgs_nil)))) (fun _ _ _ _ _ _ _ _ hr => (call_ (j := 0) (ok_is_exponent T B) (hr.mono (by decide)) T.g_is_exponent T.F_is_exponent.kp T.b_is_exponent takes0N (ac_ (v_ 0) (ac_ (v_ 4) a_nil)))))))
    (b_one (s_raise (x := "x") (m := "m") (j := 0) (p1 := ⟨0,0,0,0⟩) (p2 := ⟨0,0,0,0⟩) (pos2 := ⟨0,0,0,0⟩) rfl (L2N.takes_of rfl rfl rfl rfl) (L2N.pmk_own PySem.F.excBase_ValueError T.x_NotAllowed T.g_NotAllowed T.k_NotAllowed (raises_own T.b_NotAllowed T.t_NotAllowed) rfl)))
    b_nil)))
theorem ok_raised (T : Tx K mg) (B : TBx T base) : FnOk P w K mg base (L2N.CX P w) 1 T.a_raised T.d_raised ["modulus", "base", "exponent"] (spD K T.ec T.tb 3 S_raised) :=
  fn_ok T.F_raised sc_raised fun cdv A outer s H E hr =>
    (b_cons (set_ [] (i := 3) sc_raised.nd rfl je_int)
    (b_cons (set_ [] (i := 4) sc_raised.nd rfl (mod_ (v_ 1) (v_ 0)))
    (b_cons (s_while [] [] (fun _ => 40) (passes_of rfl) (tgt_ (v_ 2) je_int)
    (b_cons (s_if [] (teq_ hr.units rfl (mod_ (v_ 2) je_int) je_int)
    (b_one (set_ [] (i := 3) sc_raised.nd rfl (mod_ (mul_ rfl (v_ 3) (v_ 4)) (v_ 0))))
    b_nil)
    (b_cons (set_ [] (i := 4) sc_raised.nd rfl (mod_ (mul_ rfl (v_ 4) (v_ 4)) (v_ 0)))
    (b_one (set_ [] (i := 2) sc_raised.nd rfl (fdiv_ (v_ 2) je_int))))))
    (b_one (s_ret [] (v_ 3))))))
theorem ok_check_system (T : Tx K mg) (B : TBx T base) : FnOk P w K mg base (L2N.CX P w) 2 T.a_check_system T.d_check_system ["unknowns", "rows", "right"] (spD K T.ec T.tb 3 S_check_system) :=
  fn_okC T.FC_check_system sc_check_system fun A outer s H E hr =>
    (b_cons (s_if [] (PW.pt (t_or (tlt_ (v_ 0) je_int) (pw_or1 (tgt_ (v_ 0) (gI_ T.c__MOST_UNKNOWNS.choose_spec)))))
    (b_one (s_raise (x := "x") (m := "m") (j := 0) (p1 := ⟨0,0,0,0⟩) (p2 := ⟨0,0,0,0⟩) (pos2 := ⟨0,0,0,0⟩) rfl (L2N.takes_of rfl rfl rfl rfl) (L2N.pmk_own PySem.F.excBase_ValueError T.x_NotAllowed T.g_NotAllowed T.k_NotAllowed (raises_own T.b_NotAllowed T.t_NotAllowed) rfl)))
    b_nil)
    (b_cons (s_if [] (tgt_ (len_ T.z_len (ac_ (v_ 1) a_nil)) (gI_ T.c__MOST_ROWS.choose_spec))
    (b_one (s_raise (x := "x") (m := "m") (j := 0) (p1 := ⟨0,0,0,0⟩) (p2 := ⟨0,0,0,0⟩) (pos2 := ⟨0,0,0,0⟩) rfl (L2N.takes_of rfl rfl rfl rfl) (L2N.pmk_own PySem.F.excBase_ValueError T.x_NotAllowed T.g_NotAllowed T.k_NotAllowed (raises_own T.b_NotAllowed T.t_NotAllowed) rfl)))
    b_nil)
    (b_cons (s_if [] (tr_ (anyG_ (j := 0) (c := T.c_check_system) (P := T.P_check_system) (own := [(("row" : Str), 3)]) (mem_tb_check_system T) gd_nm (hr.mono (by decide)) rfl T.z_any B.b_check_system rfl sc_check_system.nd (any_ (v_ 1)) (gexOk_by (N := N_check_system) (sc := defScope s_check_system) (by decide +kernel)) (fun _ _ _ _ _ _ _ _ hr => (nm_ (i := 3) sc_check_system.nd rfl)) (fun _ _ _ _ _ _ _ _ hr => (ne_ hr.units rfl (len_ T.z_len (ac_ (v_ 3) a_nil)) (v_ 0)))))
    (b_one (s_raise (x := "x") (m := "m") (j := 0) (p1 := ⟨0,0,0,0⟩) (p2 := ⟨0,0,0,0⟩) (pos2 := ⟨0,0,0,0⟩) rfl (L2N.takes_of rfl rfl rfl rfl) (L2N.pmk_own PySem.F.excBase_ValueError T.x_NotAllowed T.g_NotAllowed T.k_NotAllowed (raises_own T.b_NotAllowed T.t_NotAllowed) rfl)))
    b_nil)
    (b_one (s_if [] (tne_ hr.units rfl (len_ T.z_len (ac_ (v_ 2) a_nil)) (len_ T.z_len (ac_ (v_ 1) a_nil)))
    (b_one (s_raise (x := "x") (m := "m") (j := 0) (p1 := ⟨0,0,0,0⟩) (p2 := ⟨0,0,0,0⟩) (pos2 := ⟨0,0,0,0⟩) rfl (L2N.takes_of rfl rfl rfl rfl) (L2N.pmk_own PySem.F.excBase_ValueError T.x_NotAllowed T.g_NotAllowed T.k_NotAllowed (raises_own T.b_NotAllowed T.t_NotAllowed) rfl)))
    b_nil)))))
theorem ok_first_row_with (T : Tx K mg) (B : TBx T base) : FnOk P w K mg base (L2N.CX P w) 1 T.a_first_row_with T.d_first_row_with ["rows", "start", "column"] (spD K T.ec T.tb 3 S_first_row_with) :=
  fn_ok T.F_first_row_with sc_first_row_with fun cdv A outer s H E hr =>
    (b_cons (for_ [3] gd_nm (passes_of rfl) rfl (i_of_r (ran2_ T.z_range (ac_ (v_ 1) (ac_ (len_ T.z_len (ac_ (v_ 0) a_nil)) a_nil)))) (nm_ (i := 3) sc_first_row_with.nd rfl)
    (b_one (s_if [] (tne_ hr.units rfl (ix_ (ix_ (v_ 0) (v_ 3)) (v_ 2)) je_int)
    (b_one (s_ret [] (v_ 3)))
    b_nil)))
    (b_one (s_ret [] je_non)))
theorem ok_swapped (T : Tx K mg) (B : TBx T base) : FnOk P w K mg base (L2N.CX P w) 1 T.a_swapped T.d_swapped ["rows", "first", "second"] (spD K T.ec T.tb 3 S_swapped) :=
  fn_ok T.F_swapped sc_swapped fun cdv A outer s H E hr =>
    (b_cons (own_ [] (i := 3) sc_swapped.nd rfl (list_ T.z_list (ac_ (v_ 0) a_nil)))
    (b_cons (seti_ [] (pv 3) (v_ 1) (ix_ (v_ 0) (v_ 2)) (pg_sub (pv 3) (v_ 1) set_list))
    (b_cons (seti_ [] (pv 3) (v_ 2) (ix_ (v_ 0) (v_ 1)) (pg_sub (pv 3) (v_ 2) set_list))
    (b_one (s_retO (pv 3))))))
theorem ok_quotient (T : Tx K mg) (B : TBx T base) : FnOk P w K mg base (L2N.CX P w) 2 T.a_quotient T.d_quotient ["q", "first", "second"] (spD K T.ec T.tb 3 S_quotient) :=
  fn_ok T.F_quotient sc_quotient fun cdv A outer s H E hr =>
    (b_cons (s_if [] (teq_ hr.units rfl (mod_ (v_ 2) (v_ 0)) je_int)
    (b_one (s_raise (x := "x") (m := "m") (j := 0) (p1 := ⟨0,0,0,0⟩) (p2 := ⟨0,0,0,0⟩) (pos2 := ⟨0,0,0,0⟩) rfl (L2N.takes_of rfl rfl rfl rfl) (L2N.pmk_own PySem.F.excBase_ValueError T.x_NotAllowed T.g_NotAllowed T.k_NotAllowed (raises_own T.b_NotAllowed T.t_NotAllowed) rfl)))
    b_nil)
    (b_one (s_ret [] (mod_ (mul_ rfl (v_ 1) (call_ (j := 0) (ok_raised T B) (hr.mono (by decide)) T.g_raised T.F_raised.kp T.b_raised (L2N.takes_of rfl rfl rfl rfl) (ac_ (v_ 0) (ac_ (v_ 2) (ac_ (sub_ (v_ 0) je_int) a_nil))))) (v_ 0)))))
theorem ok_less_multiple (T : Tx K mg) (B : TBx T base) : FnOk P w K mg base (L2N.CX P w) 1 T.a_less_multiple T.d_less_multiple ["q", "row", "factor", "other"] (spD K T.ec T.tb 4 S_less_multiple) :=
  fn_ok T.F_less_multiple sc_less_multiple fun cdv A outer s H E hr =>
    (b_one (s_ret [] (e_of_n (n_lc (own := [(("entry" : Str), 4), (("taken" : Str), 5)]) (gd_tp (gd_cons gd_nm (gd_cons gd_nm gd_nil))) rfl sc_less_multiple.nd (zip_ T.z_zip (ac_ (v_ 1) (ac_ (v_ 3) a_nil))) (blkOk_by (N := N_less_multiple) (sc := defScope s_less_multiple) (by decide +kernel)) (fun _ _ _ _ _ => (pg_tup rfl (pgs_cons (nm_ (i := 4) sc_less_multiple.nd rfl) (pgs_cons (nm_ (i := 5) sc_less_multiple.nd rfl) pgs_nil)))) (fun _ _ _ _ _ => ts_nil) (fun _ _ _ _ _ => (mod_ (sub_ (v_ 4) (mul_ rfl (v_ 2) (v_ 5))) (v_ 0))) (by intro _; rfl)))))
theorem ok_cleared (T : Tx K mg) (B : TBx T base) : FnOk P w K mg base (L2N.CX P w) 3 T.a_cleared T.d_cleared ["q", "rows", "lead", "column"] (spD K T.ec T.tb 4 S_cleared) :=
  fn_ok T.F_cleared sc_cleared fun cdv A outer s H E hr =>
    (b_cons (set_ [] (i := 4) sc_cleared.nd rfl (call_ (j := 0) (ok_quotient T B) (hr.mono (by decide)) T.g_quotient T.F_quotient.kp T.b_quotient (L2N.takes_of rfl rfl rfl rfl) (ac_ (v_ 0) (ac_ je_int (ac_ (ix_ (ix_ (v_ 1) (v_ 2)) (v_ 3)) a_nil)))))
    (b_cons (set_ [] (i := 5) sc_cleared.nd rfl (e_of_n (n_lc (own := [(("entry" : Str), 6)]) gd_nm rfl sc_cleared.nd (any_ (ix_ (v_ 1) (v_ 2))) (blkOk_by (N := N_cleared) (sc := defScope s_cleared) (by decide +kernel)) (fun _ _ _ _ _ => (nm_ (i := 6) sc_cleared.nd rfl)) (fun _ _ _ _ _ => ts_nil) (fun _ _ _ _ _ => (mod_ (mul_ rfl (v_ 4) (v_ 6)) (v_ 0))) (by intro _; rfl))))
    (b_one (s_ret [] (e_of_n (n_lc (own := [(("at" : Str), 7), (("row" : Str), 8)]) (gd_tp (gd_cons gd_nm (gd_cons gd_nm gd_nil))) rfl sc_cleared.nd (enum_ T.z_enumerate (ac_ (v_ 1) a_nil)) (blkOk_by (N := N_cleared) (sc := defScope s_cleared) (by decide +kernel)) (fun _ _ _ _ _ => (pg_tup rfl (pgs_cons (nm_ (i := 7) sc_cleared.nd rfl) (pgs_cons (nm_ (i := 8) sc_cleared.nd rfl) pgs_nil)))) (fun _ _ _ _ _ => ts_nil) (fun _ _ _ _ _ => (e_if (teq_ hr.units rfl (v_ 7) (v_ 2)) (v_ 5) (call_ (j := 0) (ok_less_multiple T B) (hr.mono (by decide)) T.g_less_multiple T.F_less_multiple.kp T.b_less_multiple takes0N (ac_ (v_ 0) (ac_ (v_ 8) (ac_ (ix_ (v_ 8) (v_ 3)) (ac_ (v_ 5) a_nil))))))) (by intro _; rfl)))))))
theorem ok_reduced (T : Tx K mg) (B : TBx T base) : FnOk P w K mg base (L2N.CX P w) 4 T.a_reduced T.d_reduced ["q", "rows", "unknowns"] (spD K T.ec T.tb 3 S_reduced) :=
  fn_ok T.F_reduced sc_reduced fun cdv A outer s H E hr =>
    (b_cons (s_setLc [] (n_setLc (i := 3) (own := [(("row" : Str), 7)]) gd_nm rfl sc_reduced.nd rfl rfl (sw_true rfl rfl rfl (by decide +kernel)) (any_ (v_ 1)) (blkOk_by (N := N_reduced) (sc := defScope s_reduced) (by decide +kernel)) (fun _ _ _ _ _ => (nm_ (i := 7) sc_reduced.nd rfl)) (fun _ _ _ _ _ => ts_nil) (fun _ _ _ _ _ => (e_of_n (n_lc (own := [(("entry" : Str), 8)]) gd_nm rfl sc_reduced.nd (any_ (v_ 7)) (by refine blkOk_by ?_; show blkC N_reduced (relS _ (defScope s_reduced)) _ _ = true; decide +kernel) (fun _ _ _ _ _ => (nm_ (i := 8) sc_reduced.nd rfl)) (fun _ _ _ _ _ => ts_nil) (fun _ _ _ _ _ => (mod_ (v_ 8) (v_ 0))) (by intro _; rfl)))) (by intro _; rfl)))
    (b_cons (own_ [] (i := 4) sc_reduced.nd rfl (n_lst a_nil))
    (b_cons (for_ [5, 6] gd_nm (passes_of rfl) rfl (i_of_r (ran1_ T.z_range (ac_ (v_ 2) a_nil))) (nm_ (i := 5) sc_reduced.nd rfl)
    (b_cons (set_ [4] (i := 6) sc_reduced.nd rfl (call_ (j := 0) (ok_first_row_with T B) (hr.mono (by decide)) T.g_first_row_with T.F_first_row_with.kp T.b_first_row_with (L2N.takes_of rfl rfl rfl rfl) (ac_ (v_ 3) (ac_ (len_ T.z_len (ac_ (v_ 4) a_nil)) (ac_ (v_ 5) a_nil)))))
    (b_one (s_if [] (tisnt_ (v_ 6) je_non)
    (b_cons (setW_ [4] (i := 3) sc_reduced.nd rfl (call_ (j := 0) (ok_cleared T B) (hr.mono (by decide)) T.g_cleared T.F_cleared.kp T.b_cleared (L2N.takes_of rfl rfl rfl rfl) (ac_ (v_ 0) (ac_ (call_ (j := 0) (ok_swapped T B) (hr.mono (by decide)) T.g_swapped T.F_swapped.kp T.b_swapped (L2N.takes_of rfl rfl rfl rfl) (ac_ (v_ 3) (ac_ (v_ 6) (ac_ (len_ T.z_len (ac_ (v_ 4) a_nil)) a_nil)))) (ac_ (len_ T.z_len (ac_ (v_ 4) a_nil)) (ac_ (v_ 5) a_nil))))))
    (b_one (app_ [] (pv 4) (v_ 5))))
    b_nil))))
    (b_fz [4] (b_one (s_ret [] (e_tup (ac_ (v_ 3) (ac_ (v_ 4) a_nil)))))))))
theorem ok_step_of (T : Tx K mg) (B : TBx T base) : FnOk P w K mg base (L2N.CX P w) 1 T.a_step_of T.d_step_of ["q", "unknowns", "left", "bound", "free"] (spD K T.ec T.tb 5 S_step_of) :=
  fn_ok T.F_step_of sc_step_of fun cdv A outer s H E hr =>
    (b_cons (own_ [] (i := 5) sc_step_of.nd rfl (n_rep (n_lst (ac_ je_int a_nil)) (v_ 1)))
    (b_cons (seti_ [] (pv 5) (v_ 4) je_int (pg_sub (pv 5) (v_ 4) set_list))
    (b_cons (for_ [6, 7] (gd_tp (gd_cons gd_nm (gd_cons gd_nm gd_nil))) (passes_of rfl) rfl (zip_ T.z_zip (ac_ (v_ 3) (ac_ (v_ 2) a_nil))) (pg_tup rfl (pgs_cons (nm_ (i := 6) sc_step_of.nd rfl) (pgs_cons (nm_ (i := 7) sc_step_of.nd rfl) pgs_nil)))
    (b_one (seti_ [] (pv 5) (v_ 6) (mod_ (neg_ (ix_ (v_ 7) (v_ 4))) (v_ 0)) (pg_sub (pv 5) (v_ 6) set_list))))
    (b_one (s_retO (pv 5))))))
theorem ok_solutions (T : Tx K mg) (B : TBx T base) : FnOk P w K mg base (L2N.CX P w) 5 T.a_solutions T.d_solutions ["q", "unknowns", "rows", "right"] (spD K T.ec T.tb 4 S_solutions) :=
  fn_okC T.FC_solutions sc_solutions fun A outer s H E hr =>
    (b_cons (ex_ [] (call_ (j := 0) (ok_check_system T B) (hr.mono (by decide)) T.g_check_system T.F_check_system.kp T.b_check_system (L2N.takes_of rfl rfl rfl rfl) (ac_ (v_ 1) (ac_ (v_ 2) (ac_ (v_ 3) a_nil)))))
    (b_cons (s_setLc [] (n_setLc (i := 4) (own := [(("row" : Str), 9), (("side" : Str), 11)]) (gd_tp (gd_cons gd_nm (gd_cons gd_nm gd_nil))) rfl sc_solutions.nd rfl rfl (sw_true rfl rfl rfl (by decide +kernel)) (zip_ T.z_zip (ac_ (v_ 2) (ac_ (v_ 3) a_nil))) (blkOk_by (N := N_solutions) (sc := defScope s_solutions) (by decide +kernel)) (fun _ _ _ _ _ => (pg_tup rfl (pgs_cons (nm_ (i := 9) sc_solutions.nd rfl) (pgs_cons (nm_ (i := 11) sc_solutions.nd rfl) pgs_nil)))) (fun _ _ _ _ _ => ts_nil) (fun _ _ _ _ _ => (e_of_n (n_lst (star_ (v_ 9) (ac_ (v_ 11) a_nil))))) (by intro _; rfl)))
    (b_cons (asg_ (gd_tp (gd_cons gd_nm (gd_cons gd_nm gd_nil))) (call_ (j := 0) (ok_reduced T B) (hr.mono (by decide)) T.g_reduced T.F_reduced.kp T.b_reduced (L2N.takes_of rfl rfl rfl rfl) (ac_ (v_ 0) (ac_ (v_ 4) (ac_ (v_ 1) a_nil)))) (pg_tup rfl (pgs_cons (nm_ (i := 5) sc_solutions.nd rfl) (pgs_cons (nm_ (i := 6) sc_solutions.nd rfl) pgs_nil))))
    (b_cons (s_if [] (tr_ (anyG_ (j := 0) (c := T.c_solutions) (P := T.P_solutions) (own := [(("row" : Str), 9)]) (mem_tb_solutions T) gd_nm (hr.mono (by decide)) rfl T.z_any B.b_solutions rfl sc_solutions.nd (any_ (sl_ (v_ 5) (op_some (len_ T.z_len (ac_ (v_ 6) a_nil))) op_none)) (gexOk_by (N := N_solutions) (sc := defScope s_solutions) (by decide +kernel)) (fun _ _ _ _ _ _ _ _ hr => (nm_ (i := 9) sc_solutions.nd rfl)) (fun _ _ _ _ _ _ _ _ hr => (ne_ hr.units rfl (ix_ (v_ 9) (v_ 1)) je_int))))
    (b_one (s_raise (x := "x") (m := "m") (j := 0) (p1 := ⟨0,0,0,0⟩) (p2 := ⟨0,0,0,0⟩) (pos2 := ⟨0,0,0,0⟩) rfl (L2N.takes_of rfl rfl rfl rfl) (L2N.pmk_own PySem.F.excBase_ValueError T.x_Missing T.g_Missing T.k_Missing (raises_own T.b_Missing T.t_Missing) rfl)))
    b_nil)
    (b_cons (own_ [] (i := 7) sc_solutions.nd rfl (n_rep (n_lst (ac_ je_int a_nil)) (v_ 1)))
    (b_cons (for_ [8, 9] (gd_tp (gd_cons gd_nm (gd_cons gd_nm gd_nil))) (passes_of rfl) rfl (zip_ T.z_zip (ac_ (v_ 6) (ac_ (v_ 5) a_nil))) (pg_tup rfl (pgs_cons (nm_ (i := 8) sc_solutions.nd rfl) (pgs_cons (nm_ (i := 9) sc_solutions.nd rfl) pgs_nil)))
    (b_one (seti_ [] (pv 7) (v_ 8) (ix_ (v_ 9) (v_ 1)) (pg_sub (pv 7) (v_ 8) set_list))))
    (b_cons (s_setLc [] (n_setLc (i := 10) (own := [(("free" : Str), 12)]) gd_nm rfl sc_solutions.nd rfl rfl (sw_true rfl rfl rfl (by decide +kernel)) (i_of_r (ran1_ T.z_range (ac_ (v_ 1) a_nil))) (blkOk_by (N := N_solutions) (sc := defScope s_solutions) (by decide +kernel)) (fun _ _ _ _ _ => (nm_ (i := 12) sc_solutions.nd rfl)) (fun _ _ _ _ _ => (pts_one (tnotIn_ (u65 hr) rfl (v_ 12) (v_ 6)))) (fun _ _ _ _ _ => (call_ (j := 0) (ok_step_of T B) (hr.mono (by decide)) T.g_step_of T.F_step_of.kp T.b_step_of takes0N (ac_ (v_ 0) (ac_ (v_ 1) (ac_ (v_ 5) (ac_ (v_ 6) (ac_ (v_ 12) a_nil))))))) (by intro _; rfl)))
    (b_fz [7] (b_one (s_ret [] (e_tup (ac_ (v_ 7) (ac_ (v_ 10) a_nil)))))))))))))
theorem ok_leading_through (T : Tx K mg) (B : TBx T base) : FnOk P w K mg base (L2N.CX P w) 6 T.a_leading_through T.d_leading_through ["q", "points"] (spD K T.ec T.tb 2 S_leading_through) :=
  fn_ok T.F_leading_through sc_leading_through fun cdv A outer s H E hr =>
    (b_cons (s_setLc [] (n_setLc (i := 2) (own := [(("x" : Str), 5), (("_" : Str), 4)]) (gd_tp (gd_cons gd_nm (gd_cons gd_nm gd_nil))) rfl sc_leading_through.nd rfl rfl (sw_true rfl rfl rfl (by decide +kernel)) (any_ (v_ 1)) (blkOk_by (N := N_leading_through) (sc := defScope s_leading_through) (by decide +kernel)) (fun _ _ _ _ _ => (pg_tup rfl (pgs_cons (nm_ (i := 5) sc_leading_through.nd rfl) (pgs_cons (nm_ (i := 4) sc_leading_through.nd rfl) pgs_nil)))) (fun _ _ _ _ _ => ts_nil) (fun _ _ _ _ _ => (e_of_n (n_lc (own := [(("degree" : Str), 6)]) gd_nm rfl sc_leading_through.nd (i_of_r (ran1_ T.z_range (ac_ (len_ T.z_len (ac_ (v_ 1) a_nil)) a_nil))) (by refine blkOk_by ?_; show blkC N_leading_through (relS _ (defScope s_leading_through)) _ _ = true; decide +kernel) (fun _ _ _ _ _ => (nm_ (i := 6) sc_leading_through.nd rfl)) (fun _ _ _ _ _ => ts_nil) (fun _ _ _ _ _ => (call_ (j := 0) (ok_raised T B) (hr.mono (by decide)) T.g_raised T.F_raised.kp T.b_raised takes0N (ac_ (v_ 0) (ac_ (v_ 5) (ac_ (v_ 6) a_nil))))) (by intro _; rfl)))) (by intro _; rfl)))
    (b_cons (asg_ (gd_tp (gd_cons gd_nm (gd_cons gd_nm gd_nil))) (call_ (j := 0) (ok_solutions T B) (hr.mono (by decide)) T.g_solutions T.F_solutions.kp T.b_solutions (L2N.takes_of rfl rfl rfl rfl) (ac_ (v_ 0) (ac_ (len_ T.z_len (ac_ (v_ 1) a_nil)) (ac_ (v_ 2) (ac_ (e_of_n (n_lc (own := [(("_" : Str), 4), (("value" : Str), 7)]) (gd_tp (gd_cons gd_nm (gd_cons gd_nm gd_nil))) rfl sc_leading_through.nd (any_ (v_ 1)) (blkOk_by (N := N_leading_through) (sc := defScope s_leading_through) (by decide +kernel)) (fun _ _ _ _ _ => (pg_tup rfl (pgs_cons (nm_ (i := 4) sc_leading_through.nd rfl) (pgs_cons (nm_ (i := 7) sc_leading_through.nd rfl) pgs_nil)))) (fun _ _ _ _ _ => ts_nil) (fun _ _ _ _ _ => (v_ 7)) (by intro _; rfl))) a_nil))))) (pg_tup rfl (pgs_cons (nm_ (i := 3) sc_leading_through.nd rfl) (pgs_cons (nm_ (i := 4) sc_leading_through.nd rfl) pgs_nil))))
    (b_one (s_ret [] (v_ 3)))))
theorem ok_polynomial_of (T : Tx K mg) (B : TBx T base) : FnOk P w K mg base (L2N.CX P w) 7 T.a_polynomial_of T.d_polynomial_of ["q", "points"] (spD K T.ec T.tb 2 S_polynomial_of) :=
  fn_ok T.F_polynomial_of sc_polynomial_of fun cdv A outer s H E hr =>
    (b_cons (s_if [] (PW.pt (t_or (tlt_ (len_ T.z_len (ac_ (v_ 1) a_nil)) je_int) (pw_or1 (tgt_ (len_ T.z_len (ac_ (v_ 1) a_nil)) (gI_ T.c_MAX_POINTS.choose_spec)))))
    (b_one (s_raise (x := "x") (m := "m") (j := 0) (p1 := ⟨0,0,0,0⟩) (p2 := ⟨0,0,0,0⟩) (pos2 := ⟨0,0,0,0⟩) rfl (L2N.takes_of rfl rfl rfl rfl) (L2N.pmk_own PySem.F.excBase_ValueError T.x_NotAllowed T.g_NotAllowed T.k_NotAllowed (raises_own T.b_NotAllowed T.t_NotAllowed) rfl)))
    b_nil)
    (b_cons (ex_ [] (call_ (j := 0) (ok_check_points T B) (hr.mono (by decide)) T.g_check_points T.F_check_points.kp T.b_check_points (L2N.takes_of rfl rfl rfl rfl) (ac_ (v_ 0) (ac_ (v_ 1) a_nil))))
    (b_one (s_ret [] (call_ (j := 0) (ok_leading_through T B) (hr.mono (by decide)) T.g_leading_through T.F_leading_through.kp T.b_leading_through (L2N.takes_of rfl rfl rfl rfl) (ac_ (v_ 0) (ac_ (v_ 1) a_nil)))))))
theorem ok_secret_of (T : Tx K mg) (B : TBx T base) : FnOk P w K mg base (L2N.CX P w) 8 T.a_secret_of T.d_secret_of ["q", "points"] (spD K T.ec T.tb 2 S_secret_of) :=
  fn_ok T.F_secret_of sc_secret_of fun cdv A outer s H E hr =>
    (b_one (s_ret [] (ix_ (call_ (j := 0) (ok_polynomial_of T B) (hr.mono (by decide)) T.g_polynomial_of T.F_polynomial_of.kp T.b_polynomial_of (L2N.takes_of rfl rfl rfl rfl) (ac_ (v_ 0) (ac_ (v_ 1) a_nil))) je_int)))
theorem ok__law_numbers (T : Tx K mg) (B : TBx T base) : FnOk P w K mg base (L2N.CX P w) 1 T.a__law_numbers T.d__law_numbers ["script", "many"] (spD K T.ec T.tb 2 S__law_numbers) :=
  fn_ok T.F__law_numbers sc__law_numbers fun cdv A outer s H E hr =>
    (b_cons (own_ [] (i := 2) sc__law_numbers.nd rfl (n_lst a_nil))
    (b_cons (for_ [3, 6, 7, 8] gd_nm (passes_of rfl) rfl (i_of_r (ran1_ T.z_range (ac_ (len_ T.z_len (ac_ (v_ 0) a_nil)) a_nil))) (nm_ (i := 3) sc__law_numbers.nd rfl)
    (b_cons (set_ [] (i := 6) sc__law_numbers.nd rfl (abs_ T.z_abs (ac_ (int_ T.z_int (ac_ (ix_ (v_ 0) (v_ 3)) a_nil)) a_nil)))
    (b_one (s_if [] (tge_ (v_ 6) (pow_ je_int je_int))
    (b_one (for_ [7] gd_nm (passes_of rfl) rfl (i_of_r (ran1_ T.z_range (ac_ je_int a_nil))) (nm_ (i := 7) sc__law_numbers.nd rfl)
    (b_one (s_if [2] (PW.pt (t_and' (tgt_ (v_ 6) je_int) (pw_and1 (tlt_ (len_ T.z_len (ac_ (v_ 2) a_nil)) (v_ 1)))))
    (b_cons (app_ [] (pv 2) (mod_ (v_ 6) je_int))
    (b_one (set_ [] (i := 6) sc__law_numbers.nd rfl (fdiv_ (v_ 6) je_int))))
    b_nil))))
    (b_one (s_if [2] (tlt_ (len_ T.z_len (ac_ (v_ 2) a_nil)) (v_ 1))
    (b_cons (set_ [] (i := 8) sc__law_numbers.nd rfl (mod_ (int_ T.z_int (ac_ (add_ rfl (add_ rfl (mul_ rfl (v_ 6) je_int) (mul_ rfl (v_ 3) je_int)) je_int) a_nil)) je_int))
    (b_one (app_ [] (pv 2) (fdiv_ (mod_ (int_ T.z_int (ac_ (add_ rfl (add_ rfl (mul_ rfl (v_ 8) je_int) (mul_ rfl je_int (v_ 3))) je_int) a_nil)) je_int) je_int))))
    b_nil))))))
    (b_cons (set_ [2] (i := 4) sc__law_numbers.nd rfl (len_ T.z_len (ac_ (v_ 2) a_nil)))
    (b_cons (set_ [] (i := 5) sc__law_numbers.nd rfl (add_ rfl je_int (len_ T.z_len (ac_ (v_ 0) a_nil))))
    (b_cons (for_ [3] gd_nm (passes_of rfl) rfl (i_of_r (ran1_ T.z_range (ac_ (max_ T.z_max rfl (ac_ je_int (ac_ (sub_ (v_ 1) (v_ 4)) a_nil))) a_nil))) (nm_ (i := 3) sc__law_numbers.nd rfl)
    (b_cons (s_if [] (tgt_ (v_ 4) je_int)
    (b_one (set_ [2] (i := 5) sc__law_numbers.nd rfl (add_ rfl (v_ 5) (ix_ (v_ 2) (mod_ (v_ 3) (v_ 4))))))
    b_nil)
    (b_cons (set_ [] (i := 5) sc__law_numbers.nd rfl (mod_ (int_ T.z_int (ac_ (add_ rfl (mul_ rfl (v_ 5) je_int) (v_ 3)) a_nil)) je_int))
    (b_one (app_ [] (pv 2) (fdiv_ (v_ 5) je_int))))))
    (b_fz [2] (b_one (s_ret [] (sl_ (v_ 2) op_none (op_some (v_ 1)))))))))))
theorem ok__law_is_prime (T : Tx K mg) (B : TBx T base) : FnOk P w K mg base (L2N.CX P w) 1 T.a__law_is_prime T.d__law_is_prime ["number"] (spD K T.ec T.tb 1 S__law_is_prime) :=
  fn_ok T.F__law_is_prime sc__law_is_prime fun cdv A outer s H E hr =>
    (b_cons (for_ [1] gd_nm (passes_of rfl) rfl (i_of_r (ran2_ T.z_range (ac_ je_int (ac_ je_int a_nil)))) (nm_ (i := 1) sc__law_is_prime.nd rfl)
    (b_one (s_if [] (PW.pt (t_and' (tlt_ (v_ 1) (v_ 0)) (pw_and1 (teq_ hr.units rfl (mod_ (v_ 0) (v_ 1)) je_int))))
    (b_one (s_ret [] je_bl))
    b_nil)))
    (b_one (s_ret [] (gt_ (v_ 0) je_int))))
theorem ok__law_order (T : Tx K mg) (B : TBx T base) : FnOk P w K mg base (L2N.CX P w) 2 T.a__law_order T.d__law_order ["number"] (spD K T.ec T.tb 1 S__law_order) :=
  fn_ok T.F__law_order sc__law_order fun cdv A outer s H E hr =>
    (b_cons (for_ [1] gd_nm (passes_of rfl) rfl (i_of_r (ran2_ T.z_range (ac_ (add_ rfl je_int (mod_ (v_ 0) je_int)) (ac_ je_int a_nil)))) (nm_ (i := 1) sc__law_order.nd rfl)
    (b_one (s_if [] (PW.pt (t_and' (tr_ (call_ (j := 0) (ok__law_is_prime T B) (hr.mono (by decide)) T.g__law_is_prime T.F__law_is_prime.kp T.b__law_is_prime (L2N.takes_of rfl rfl rfl rfl) (ac_ (v_ 1) a_nil))) (pw_and1 (tr_ (call_ (j := 0) (ok__law_is_prime T B) (hr.mono (by decide)) T.g__law_is_prime T.F__law_is_prime.kp T.b__law_is_prime (L2N.takes_of rfl rfl rfl rfl) (ac_ (add_ rfl (mul_ rfl je_int (v_ 1)) je_int) a_nil))))))
    (b_one (s_ret [] (v_ 1)))
    b_nil)))
    (b_one (s_ret [] je_int)))
theorem ok__law_value (T : Tx K mg) (B : TBx T base) : FnOk P w K mg base (L2N.CX P w) 1 T.a__law_value T.d__law_value ["q", "polynomial", "x"] (spD K T.ec T.tb 3 S__law_value) :=
  fn_ok T.F__law_value sc__law_value fun cdv A outer s H E hr =>
    (b_cons (set_ [] (i := 3) sc__law_value.nd rfl je_int)
    (b_cons (set_ [] (i := 4) sc__law_value.nd rfl je_int)
    (b_cons (for_ [5] gd_nm (passes_of rfl) rfl (any_ (v_ 1)) (nm_ (i := 5) sc__law_value.nd rfl)
    (b_cons (set_ [] (i := 3) sc__law_value.nd rfl (add_ rfl (v_ 3) (mul_ rfl (v_ 5) (v_ 4))))
    (b_one (set_ [] (i := 4) sc__law_value.nd rfl (mod_ (int_ T.z_int (ac_ (mul_ rfl (v_ 4) (v_ 2)) a_nil)) (v_ 0))))))
    (b_one (s_ret [] (mod_ (int_ T.z_int (ac_ (v_ 3) a_nil)) (v_ 0)))))))
theorem ok__law_places (T : Tx K mg) (B : TBx T base) : FnOk P w K mg base (L2N.CX P w) 1 T.a__law_places T.d__law_places ["numbers", "count"] (spD K T.ec T.tb 2 S__law_places) :=
  fn_ok T.F__law_places sc__law_places fun cdv A outer s H E hr =>
    (b_cons (own_ [] (i := 2) sc__law_places.nd rfl (n_lst (ac_ je_int (ac_ je_int (ac_ je_int (ac_ je_int (ac_ je_int (ac_ je_int (ac_ je_int (ac_ je_int (ac_ je_int (ac_ je_int a_nil))))))))))))
    (b_cons (own_ [] (i := 3) sc__law_places.nd rfl (n_lst a_nil))
    (b_cons (for_ [4] gd_nm (passes_of rfl) rfl (i_of_r (ran1_ T.z_range (ac_ (v_ 1) a_nil))) (nm_ (i := 4) sc__law_places.nd rfl)
    (b_one (popApp_ [2] (pv 3) (pv 2) (mod_ (ix_ (v_ 0) (v_ 4)) (len_ T.z_len (ac_ (v_ 2) a_nil))))))
    (b_one (s_retO (pv 3))))))
theorem ok__law_word (T : Tx K mg) (B : TBx T base) : FnOk P w K mg base (L2N.CX P w) 9 T.a__law_word T.d__law_word ["kind", "q", "first", "second"] (spD K T.ec T.tb 4 S__law_word) :=
  fn_ok T.F__law_word sc__law_word fun cdv A outer s H E hr =>
    (b_cons (s_try (i := 4) (h := Xc.cloakError) rfl rfl rfl sc__law_word.nd rfl rfl (by exact ⟨rfl, by decide, Or.inl T.g_CloakError⟩) (L2N.takes_of rfl rfl rfl rfl) [Xc.cloakError, Xc.notAllowed, Xc.missing] T.hx_CloakError
    (fun W pn xe tk po => (b_one (s_if [] (teq_ hr.units rfl (v_ 0) je_int)
    (b_one (ex_ [] (call_ (j := 0) (ok_value_at T B) (hr.mono (by decide)) T.g_value_at T.F_value_at.kp T.b_value_at tk (ac_ (v_ 1) (ac_ (v_ 2) (ac_ je_int a_nil))))))
    (b_one (s_if [] (teq_ hr.units rfl (v_ 0) je_int)
    (b_one (ex_ [] (call_ (j := 0) (ok_shares_of T B) (hr.mono (by decide)) T.g_shares_of T.F_shares_of.kp T.b_shares_of tk (ac_ (v_ 1) (ac_ (v_ 2) (ac_ (v_ 3) a_nil))))))
    (b_one (s_if [] (teq_ hr.units rfl (v_ 0) je_int)
    (b_one (ex_ [] (call_ (j := 0) (ok_polynomial_of T B) (hr.mono (by decide)) T.g_polynomial_of T.F_polynomial_of.kp T.b_polynomial_of tk (ac_ (v_ 1) (ac_ (v_ 2) a_nil)))))
    (b_one (ex_ [] (call_ (j := 0) (ok_secret_of T B) (hr.mono (by decide)) T.g_secret_of T.F_secret_of.kp T.b_secret_of tk (ac_ (v_ 1) (ac_ (v_ 2) a_nil))))))))))))
    (fun a oe cls d pn hz hf => (b_one (s_ret [] (e_isx (v := .ref T.a_NotAllowed) (cv := .ref T.a_NotAllowed) rfl hz hf [Xc.cloakError, Xc.notAllowed, Xc.missing] T.eC (fun _ h => h) (T.kit_NotAllowed) rfl T.z_isinstance (by decide +kernel) (pv 4) (pe_glob (v := .ref T.a_NotAllowed) rfl T.g_NotAllowed rfl) rfl rfl rfl)))))
    (b_one (s_ret [] je_bl)))
theorem ok__law_doors (T : Tx K mg) (B : TBx T base) : FnOk P w K mg base (L2N.CX P w) 10 T.a__law_doors T.d__law_doors ["q", "polynomial", "points"] (spD K T.ec T.tb 3 S__law_doors) :=
  fn_ok T.F__law_doors sc__law_doors fun cdv A outer s H E hr =>
    (b_cons (set_ [] (i := 3) sc__law_doors.nd rfl (e_of_n (n_lst (ac_ (e_tup (ac_ je_int (ac_ (e_of_n (n_lst a_nil)) (ac_ (e_of_n (n_lst a_nil)) a_nil)))) (ac_ (e_tup (ac_ je_int (ac_ (e_of_n (n_rep (n_lst (ac_ je_int a_nil)) je_int)) (ac_ (e_of_n (n_lst a_nil)) a_nil)))) (ac_ (e_tup (ac_ je_int (ac_ (e_of_n (n_lst (ac_ (v_ 0) a_nil))) (ac_ (e_of_n (n_lst a_nil)) a_nil)))) (ac_ (e_tup (ac_ je_int (ac_ (add_ rfl (v_ 1) (e_of_n (n_lst (ac_ (neg_ je_int) a_nil)))) (ac_ (e_of_n (n_lst a_nil)) a_nil)))) (ac_ (e_tup (ac_ je_int (ac_ (e_of_n (n_lst a_nil)) (ac_ (e_of_n (n_lst (ac_ je_int a_nil))) a_nil)))) (ac_ (e_tup (ac_ je_int (ac_ (v_ 1) (ac_ (e_of_n (n_lst (ac_ je_int a_nil))) a_nil)))) a_nil)))))))))
    (b_cons (set_ [] (i := 3) sc__law_doors.nd rfl (add_ rfl (v_ 3) (e_of_n (n_lst (ac_ (e_tup (ac_ je_int (ac_ (v_ 1) (ac_ (e_of_n (n_lst (ac_ je_int (ac_ je_int a_nil)))) a_nil)))) (ac_ (e_tup (ac_ je_int (ac_ (v_ 1) (ac_ (e_of_n (n_lst (ac_ je_int (ac_ je_int (ac_ je_int a_nil))))) a_nil)))) (ac_ (e_tup (ac_ je_int (ac_ (v_ 1) (ac_ (e_of_n (n_lst (ac_ (neg_ je_int) a_nil))) a_nil)))) a_nil)))))))
    (b_cons (for_ [4] gd_nm (passes_of rfl) rfl (any_ (e_of_n (n_lst (ac_ (e_of_n (n_lst a_nil)) (ac_ (add_ rfl (v_ 2) (sl_ (v_ 2) op_none (op_some je_int))) (ac_ (e_of_n (n_lst (ac_ (e_tup (ac_ je_int (ac_ je_int a_nil))) a_nil))) (ac_ (e_of_n (n_lst (ac_ (e_tup (ac_ je_int (ac_ je_int a_nil))) a_nil))) (ac_ (e_of_n (n_lst (ac_ (e_tup (ac_ je_int (ac_ (v_ 0) a_nil))) a_nil))) (ac_ (e_of_n (n_lst (ac_ (e_tup (ac_ je_int (ac_ (neg_ je_int) a_nil))) a_nil))) (ac_ (e_of_n (n_lst (ac_ (e_tup (ac_ je_int (ac_ je_int a_nil))) (ac_ (e_tup (ac_ je_int (ac_ je_int a_nil))) a_nil)))) a_nil)))))))))) (nm_ (i := 4) sc__law_doors.nd rfl)
    (b_one (set_ [] (i := 3) sc__law_doors.nd rfl (add_ rfl (v_ 3) (e_of_n (n_lst (ac_ (e_tup (ac_ je_int (ac_ (v_ 4) (ac_ (e_of_n (n_lst a_nil)) a_nil)))) (ac_ (e_tup (ac_ je_int (ac_ (v_ 4) (ac_ (e_of_n (n_lst a_nil)) a_nil)))) a_nil))))))))
    (b_cons (for_ [5] gd_nm (passes_of rfl) rfl (any_ (v_ 3)) (nm_ (i := 5) sc__law_doors.nd rfl)
    (b_one (s_if [] (t_not (tr_ (call_ (j := 0) (ok__law_word T B) (hr.mono (by decide)) T.g__law_word T.F__law_word.kp T.b__law_word (L2N.takes_of rfl rfl rfl rfl) (ac_ (ix_ (v_ 5) je_int) (ac_ (v_ 0) (ac_ (ix_ (v_ 5) je_int) (ac_ (ix_ (v_ 5) je_int) a_nil)))))))
    (b_one (s_ret [] je_bl))
    b_nil)))
    (b_one (s_ret [] (e_and (eq_ hr.units rfl (call_ (j := 0) (ok_shares_of T B) (hr.mono (by decide)) T.g_shares_of T.F_shares_of.kp T.b_shares_of (L2N.takes_of rfl rfl rfl rfl) (ac_ (v_ 0) (ac_ (v_ 1) (ac_ (e_of_n (n_lst a_nil)) a_nil)))) (e_of_n (n_lst a_nil))) (pe_one (eq_ hr.units rfl (gI_ T.c_MAX_POINTS.choose_spec) je_int)))))))))
theorem ok_law (T : Tx K mg) (B : TBx T base) : FnOk P w K mg base (L2N.CX P w) 11 T.a_law T.d_law ["script"] (spD K T.ec T.tb 1 S_law) :=
  fn_ok T.F_law sc_law fun cdv A outer s H E hr =>
    (b_cons (set_ [] (i := 1) sc_law.nd rfl (call_ (j := 0) (ok__law_numbers T B) (hr.mono (by decide)) T.g__law_numbers T.F__law_numbers.kp T.b__law_numbers (L2N.takes_of rfl rfl rfl rfl) (ac_ (v_ 0) (ac_ je_int a_nil))))
    (b_cons (set_ [] (i := 2) sc_law.nd rfl (call_ (j := 0) (ok__law_order T B) (hr.mono (by decide)) T.g__law_order T.F__law_order.kp T.b__law_order (L2N.takes_of rfl rfl rfl rfl) (ac_ (ix_ (v_ 1) je_int) a_nil)))
    (b_cons (set_ [] (i := 3) sc_law.nd rfl (e_of_n (n_lc (own := [(("k" : Str), 13)]) gd_nm rfl sc_law.nd (i_of_r (ran1_ T.z_range (ac_ (add_ rfl je_int (mod_ (ix_ (v_ 1) je_int) je_int)) a_nil))) (blkOk_by (N := N_law) (sc := defScope s_law) (by decide +kernel)) (fun _ _ _ _ _ => (nm_ (i := 13) sc_law.nd rfl)) (fun _ _ _ _ _ => ts_nil) (fun _ _ _ _ _ => (mod_ (ix_ (v_ 1) (add_ rfl je_int (v_ 13))) (v_ 2))) (by intro _; rfl))))
    (b_cons (set_ [] (i := 4) sc_law.nd rfl (call_ (j := 0) (ok__law_places T B) (hr.mono (by decide)) T.g__law_places T.F__law_places.kp T.b__law_places (L2N.takes_of rfl rfl rfl rfl) (ac_ (sl_ (v_ 1) (op_some je_int) op_none) (ac_ (len_ T.z_len (ac_ (v_ 3) a_nil)) a_nil))))
    (b_cons (set_ [] (i := 5) sc_law.nd rfl (e_of_n (list_ T.z_list (ac_ (v_ 3) a_nil))))
    (b_cons (s_setLc [] (n_setLc (i := 6) (own := [(("x" : Str), 8)]) gd_nm rfl sc_law.nd rfl rfl (sw_true rfl rfl rfl (by decide +kernel)) (any_ (v_ 4)) (blkOk_by (N := N_law) (sc := defScope s_law) (by decide +kernel)) (fun _ _ _ _ _ => (nm_ (i := 8) sc_law.nd rfl)) (fun _ _ _ _ _ => ts_nil) (fun _ _ _ _ _ => (e_tup (ac_ (v_ 8) (ac_ (call_ (j := 0) (ok__law_value T B) (hr.mono (by decide)) T.g__law_value T.F__law_value.kp T.b__law_value takes0N (ac_ (v_ 2) (ac_ (v_ 3) (ac_ (v_ 8) a_nil)))) a_nil)))) (by intro _; rfl)))
    (b_cons (set_ [] (i := 7) sc_law.nd rfl (call_ (j := 0) (ok_shares_of T B) (hr.mono (by decide)) T.g_shares_of T.F_shares_of.kp T.b_shares_of (L2N.takes_of rfl rfl rfl rfl) (ac_ (v_ 2) (ac_ (v_ 3) (ac_ (e_of_n (list_ T.z_list (ac_ (v_ 4) a_nil))) a_nil)))))
    (b_cons (s_if [] (PW.pt (t_or (t_not (tr_ (isi_ T.z_isinstance T.z_list (v_ 7) (by decide +kernel)))) (t_or (tne_ hr.units rfl (v_ 7) (v_ 6)) (pw_or1 (tne_ hr.units rfl (v_ 3) (v_ 5))))))
    (b_one (s_ret [] je_bl))
    b_nil)
    (b_cons (for_ [8] gd_nm (passes_of rfl) rfl (any_ (e_of_n (n_lst (ac_ je_int (ac_ (ix_ (v_ 1) je_int) (ac_ (sub_ je_int (ix_ (v_ 1) je_int)) (ac_ (v_ 2) (ac_ je_int a_nil)))))))) (nm_ (i := 8) sc_law.nd rfl)
    (b_one (s_if [] (tne_ hr.units rfl (call_ (j := 0) (ok_value_at T B) (hr.mono (by decide)) T.g_value_at T.F_value_at.kp T.b_value_at (L2N.takes_of rfl rfl rfl rfl) (ac_ (v_ 2) (ac_ (v_ 3) (ac_ (v_ 8) a_nil)))) (call_ (j := 0) (ok__law_value T B) (hr.mono (by decide)) T.g__law_value T.F__law_value.kp T.b__law_value (L2N.takes_of rfl rfl rfl rfl) (ac_ (v_ 2) (ac_ (v_ 3) (ac_ (v_ 8) a_nil)))))
    (b_one (s_ret [] je_bl))
    b_nil)))
    (b_cons (s_if [] (PW.pt (t_or (tne_ hr.units rfl (call_ (j := 0) (ok_polynomial_of T B) (hr.mono (by decide)) T.g_polynomial_of T.F_polynomial_of.kp T.b_polynomial_of (L2N.takes_of rfl rfl rfl rfl) (ac_ (v_ 2) (ac_ (v_ 7) a_nil))) (v_ 3)) (t_or (tne_ hr.units rfl (call_ (j := 0) (ok_secret_of T B) (hr.mono (by decide)) T.g_secret_of T.F_secret_of.kp T.b_secret_of (L2N.takes_of rfl rfl rfl rfl) (ac_ (v_ 2) (ac_ (v_ 7) a_nil))) (ix_ (v_ 3) je_int)) (pw_or1 (tne_ hr.units rfl (v_ 7) (v_ 6))))))
    (b_one (s_ret [] je_bl))
    b_nil)
    (b_cons (s_setLc [] (n_setLc (i := 9) (own := [(("x" : Str), 8)]) gd_nm rfl sc_law.nd rfl rfl (sw_true rfl rfl rfl (by decide +kernel)) (any_ (call_ (j := 0) (ok__law_places T B) (hr.mono (by decide)) T.g__law_places T.F__law_places.kp T.b__law_places (L2N.takes_of rfl rfl rfl rfl) (ac_ (sl_ (v_ 1) (op_some je_int) op_none) (ac_ (add_ rfl (len_ T.z_len (ac_ (v_ 3) a_nil)) (fdiv_ (sub_ je_int (len_ T.z_len (ac_ (v_ 3) a_nil))) je_int)) a_nil)))) (blkOk_by (N := N_law) (sc := defScope s_law) (by decide +kernel)) (fun _ _ _ _ _ => (nm_ (i := 8) sc_law.nd rfl)) (fun _ _ _ _ _ => ts_nil) (fun _ _ _ _ _ => (e_tup (ac_ (v_ 8) (ac_ (call_ (j := 0) (ok__law_value T B) (hr.mono (by decide)) T.g__law_value T.F__law_value.kp T.b__law_value takes0N (ac_ (v_ 2) (ac_ (v_ 3) (ac_ (v_ 8) a_nil)))) a_nil)))) (by intro _; rfl)))
    (b_cons (s_if [] (tne_ hr.units rfl (call_ (j := 0) (ok_polynomial_of T B) (hr.mono (by decide)) T.g_polynomial_of T.F_polynomial_of.kp T.b_polynomial_of (L2N.takes_of rfl rfl rfl rfl) (ac_ (v_ 2) (ac_ (v_ 9) a_nil))) (add_ rfl (v_ 3) (e_of_n (n_rep (n_lst (ac_ je_int a_nil)) (sub_ (len_ T.z_len (ac_ (v_ 9) a_nil)) (len_ T.z_len (ac_ (v_ 3) a_nil)))))))
    (b_one (s_ret [] je_bl))
    b_nil)
    (b_cons (s_setLc [] (n_setLc (i := 10) (own := [(("x" : Str), 8)]) gd_nm rfl sc_law.nd rfl rfl (sw_true rfl rfl rfl (by decide +kernel)) (any_ (v_ 4)) (blkOk_by (N := N_law) (sc := defScope s_law) (by decide +kernel)) (fun _ _ _ _ _ => (nm_ (i := 8) sc_law.nd rfl)) (fun _ _ _ _ _ => ts_nil) (fun _ _ _ _ _ => (e_tup (ac_ (v_ 8) (ac_ (mod_ (ix_ (v_ 1) (add_ rfl je_int (v_ 8))) (v_ 2)) a_nil)))) (by intro _; rfl)))
    (b_cons (set_ [] (i := 11) sc_law.nd rfl (call_ (j := 0) (ok_polynomial_of T B) (hr.mono (by decide)) T.g_polynomial_of T.F_polynomial_of.kp T.b_polynomial_of (L2N.takes_of rfl rfl rfl rfl) (ac_ (v_ 2) (ac_ (v_ 10) a_nil))))
    (b_cons (s_if [] (PW.pt (t_or (tne_ hr.units rfl (len_ T.z_len (ac_ (v_ 11) a_nil)) (len_ T.z_len (ac_ (v_ 10) a_nil))) (pw_or1 (tne_ hr.units rfl (call_ (j := 0) (ok_secret_of T B) (hr.mono (by decide)) T.g_secret_of T.F_secret_of.kp T.b_secret_of (L2N.takes_of rfl rfl rfl rfl) (ac_ (v_ 2) (ac_ (v_ 10) a_nil))) (ix_ (v_ 11) je_int)))))
    (b_one (s_ret [] je_bl))
    b_nil)
    (b_cons (for_ [8, 12] (gd_tp (gd_cons gd_nm (gd_cons gd_nm gd_nil))) (passes_of rfl) rfl (any_ (v_ 10)) (pg_tup rfl (pgs_cons (nm_ (i := 8) sc_law.nd rfl) (pgs_cons (nm_ (i := 12) sc_law.nd rfl) pgs_nil)))
    (b_one (s_if [] (tne_ hr.units rfl (call_ (j := 0) (ok__law_value T B) (hr.mono (by decide)) T.g__law_value T.F__law_value.kp T.b__law_value (L2N.takes_of rfl rfl rfl rfl) (ac_ (v_ 2) (ac_ (v_ 11) (ac_ (v_ 8) a_nil)))) (v_ 12))
    (b_one (s_ret [] je_bl))
    b_nil)))
    (b_one (s_ret [] (call_ (j := 0) (ok__law_doors T B) (hr.mono (by decide)) T.g__law_doors T.F__law_doors.kp T.b__law_doors (L2N.takes_of rfl rfl rfl rfl) (ac_ (v_ 2) (ac_ (v_ 3) (ac_ (v_ 6) a_nil))))))))))))))))))))))
end
end LK
namespace LK
open PySem PySem.Spec PyProof.Rows L2 RZ J
open L2H (RoomH HotC FnH PIH)
theorem all_mk {K : PySem.W.Frag} {h : Heap} {mg : Str → Option Value} {fa : Addr} (X : K.In h) (G : h.Ns mainGlobals mg) (hfa : mg "law" = some (.ref fa))
    {f0 : Addr} {od0 an0 : Option Addr} {sl0 : Array (Option Value)} {oc0 kV0 dc0 pm0 ct0 : Value}
    {cd0 : Value}
    {f1 : Addr} {od1 an1 : Option Addr} {sl1 : Array (Option Value)} {oc1 kV1 dc1 pm1 ct1 : Value}
    {cd1 : Value}
    {f2 : Addr} {od2 an2 : Option Addr} {sl2 : Array (Option Value)} {oc2 kV2 dc2 pm2 ct2 : Value}
    {cd2 : Value}
    {f3 : Addr} {od3 an3 : Option Addr} {sl3 : Array (Option Value)} {oc3 kV3 dc3 pm3 ct3 : Value}
    {cd3 : Value}
    {f4 : Addr} {od4 an4 : Option Addr} {sl4 : Array (Option Value)} {oc4 kV4 dc4 pm4 ct4 : Value}
    {C4 Q4 : Addr} {eC4 : Value} {dC4 : Option Addr} {vs4 : Array Value} {sC4 : Array (Option Value)}
    {f5 : Addr} {od5 an5 : Option Addr} {sl5 : Array (Option Value)} {oc5 kV5 dc5 pm5 ct5 : Value}
    {cd5 : Value}
    {f6 : Addr} {od6 an6 : Option Addr} {sl6 : Array (Option Value)} {oc6 kV6 dc6 pm6 ct6 : Value}
    {C6 Q6 : Addr} {eC6 : Value} {dC6 : Option Addr} {vs6 : Array Value} {sC6 : Array (Option Value)}
    {f7 : Addr} {od7 an7 : Option Addr} {sl7 : Array (Option Value)} {oc7 kV7 dc7 pm7 ct7 : Value}
    {cd7 : Value}
    {f8 : Addr} {od8 an8 : Option Addr} {sl8 : Array (Option Value)} {oc8 kV8 dc8 pm8 ct8 : Value}
    {C8 Q8 : Addr} {eC8 : Value} {dC8 : Option Addr} {vs8 : Array Value} {sC8 : Array (Option Value)}
    {f9 : Addr} {od9 an9 : Option Addr} {sl9 : Array (Option Value)} {oc9 kV9 dc9 pm9 ct9 : Value}
    {cd9 : Value}
    {f10 : Addr} {od10 an10 : Option Addr} {sl10 : Array (Option Value)} {oc10 kV10 dc10 pm10 ct10 : Value}
    {cd10 : Value}
    {f11 : Addr} {od11 an11 : Option Addr} {sl11 : Array (Option Value)} {oc11 kV11 dc11 pm11 ct11 : Value}
    {cd11 : Value}
    {f12 : Addr} {od12 an12 : Option Addr} {sl12 : Array (Option Value)} {oc12 kV12 dc12 pm12 ct12 : Value}
    {cd12 : Value}
    {f13 : Addr} {od13 an13 : Option Addr} {sl13 : Array (Option Value)} {oc13 kV13 dc13 pm13 ct13 : Value}
    {cd13 : Value}
    {f14 : Addr} {od14 an14 : Option Addr} {sl14 : Array (Option Value)} {oc14 kV14 dc14 pm14 ct14 : Value}
    {cd14 : Value}
    {f15 : Addr} {od15 an15 : Option Addr} {sl15 : Array (Option Value)} {oc15 kV15 dc15 pm15 ct15 : Value}
    {cd15 : Value}
    {f16 : Addr} {od16 an16 : Option Addr} {sl16 : Array (Option Value)} {oc16 kV16 dc16 pm16 ct16 : Value}
    {C16 Q16 : Addr} {eC16 : Value} {dC16 : Option Addr} {vs16 : Array Value} {sC16 : Array (Option Value)}
    {f17 : Addr} {od17 an17 : Option Addr} {sl17 : Array (Option Value)} {oc17 kV17 dc17 pm17 ct17 : Value}
    {cd17 : Value}
    {f18 : Addr} {od18 an18 : Option Addr} {sl18 : Array (Option Value)} {oc18 kV18 dc18 pm18 ct18 : Value}
    {cd18 : Value}
    {f19 : Addr} {od19 an19 : Option Addr} {sl19 : Array (Option Value)} {oc19 kV19 dc19 pm19 ct19 : Value}
    {cd19 : Value}
    {f20 : Addr} {od20 an20 : Option Addr} {sl20 : Array (Option Value)} {oc20 kV20 dc20 pm20 ct20 : Value}
    {cd20 : Value}
    {f21 : Addr} {od21 an21 : Option Addr} {sl21 : Array (Option Value)} {oc21 kV21 dc21 pm21 ct21 : Value}
    {cd21 : Value}
    {f22 : Addr} {od22 an22 : Option Addr} {sl22 : Array (Option Value)} {oc22 kV22 dc22 pm22 ct22 : Value}
    {cd22 : Value}
    {f23 : Addr} {od23 an23 : Option Addr} {sl23 : Array (Option Value)} {oc23 kV23 dc23 pm23 ct23 : Value}
    {cd23 : Value}
    {f24 : Addr} {od24 an24 : Option Addr} {sl24 : Array (Option Value)} {oc24 kV24 dc24 pm24 ct24 : Value}
    {cd24 : Value}
    {f25 : Addr} {od25 an25 : Option Addr} {sl25 : Array (Option Value)} {oc25 kV25 dc25 pm25 ct25 : Value}
    {cd25 : Value}
    {f26 : Addr} {od26 an26 : Option Addr} {sl26 : Array (Option Value)} {oc26 kV26 dc26 pm26 ct26 : Value}
    {cd26 : Value}
    {f27 : Addr} {od27 an27 : Option Addr} {sl27 : Array (Option Value)} {oc27 kV27 dc27 pm27 ct27 : Value}
    {cd27 : Value}
    {t_c_MAX_POINTS : Tok}
    {t_c__MOST_ROWS : Tok}
    {t_c__MOST_UNKNOWNS : Tok}
    {C_CloakError : Addr}
    {C_NotAllowed : Addr}
    {C_Missing : Addr}
    (a0 : PySem.W.nsIn K mainGlobals "is_exponent" = some (some (.ref f0)))
    (l0 : K.lookup f0 = some ⟨oc0, od0, .func (PySem.W.fnOf "is_exponent" "is_exponent" (defArgs s_is_exponent) (defBody s_is_exponent) (defScope s_is_exponent) .none kV0 dc0 pm0 an0 cd0 ct0), sl0⟩)
    (c0 : PySem.W.codeIn K cd0 "is_exponent" = true)
    (k0 : PySem.W.keepIn K (.ref f0) = true)
    (a1 : PySem.W.nsIn K mainGlobals "check_exponent" = some (some (.ref f1)))
    (l1 : K.lookup f1 = some ⟨oc1, od1, .func (PySem.W.fnOf "check_exponent" "check_exponent" (defArgs s_check_exponent) (defBody s_check_exponent) (defScope s_check_exponent) .none kV1 dc1 pm1 an1 cd1 ct1), sl1⟩)
    (c1 : PySem.W.codeIn K cd1 "check_exponent" = true)
    (k1 : PySem.W.keepIn K (.ref f1) = true)
    (a2 : PySem.W.nsIn K mainGlobals "check_polynomial" = some (some (.ref f2)))
    (l2 : K.lookup f2 = some ⟨oc2, od2, .func (PySem.W.fnOf "check_polynomial" "check_polynomial" (defArgs s_check_polynomial) (defBody s_check_polynomial) (defScope s_check_polynomial) .none kV2 dc2 pm2 an2 cd2 ct2), sl2⟩)
    (c2 : PySem.W.codeIn K cd2 "check_polynomial" = true)
    (k2 : PySem.W.keepIn K (.ref f2) = true)
    (a3 : PySem.W.nsIn K mainGlobals "value_at" = some (some (.ref f3)))
    (l3 : K.lookup f3 = some ⟨oc3, od3, .func (PySem.W.fnOf "value_at" "value_at" (defArgs s_value_at) (defBody s_value_at) (defScope s_value_at) .none kV3 dc3 pm3 an3 cd3 ct3), sl3⟩)
    (c3 : PySem.W.codeIn K cd3 "value_at" = true)
    (k3 : PySem.W.keepIn K (.ref f3) = true)
    (a4 : PySem.W.nsIn K mainGlobals "check_places" = some (some (.ref f4)))
    (l4 : K.lookup f4 = some ⟨oc4, od4, .func (PySem.W.fnOf "check_places" "check_places" (defArgs s_check_places) (defBody s_check_places) (defScope s_check_places) .none kV4 dc4 pm4 an4 (.ref C4) ct4), sl4⟩)
    (c4 : PySem.W.codeIn K (.ref C4) "check_places" = true)
    (lt4 : K.lookup C4 = some ⟨eC4, dC4, .fields vs4, sC4⟩)
    (vt4 : vs4[11]? = some (.ref Q4))
    (nt4 : K.lookup Q4 = none)
    (k4 : PySem.W.keepIn K (.ref f4) = true)
    (a5 : PySem.W.nsIn K mainGlobals "shares_of" = some (some (.ref f5)))
    (l5 : K.lookup f5 = some ⟨oc5, od5, .func (PySem.W.fnOf "shares_of" "shares_of" (defArgs s_shares_of) (defBody s_shares_of) (defScope s_shares_of) .none kV5 dc5 pm5 an5 cd5 ct5), sl5⟩)
    (c5 : PySem.W.codeIn K cd5 "shares_of" = true)
    (k5 : PySem.W.keepIn K (.ref f5) = true)
    (a6 : PySem.W.nsIn K mainGlobals "check_points" = some (some (.ref f6)))
    (l6 : K.lookup f6 = some ⟨oc6, od6, .func (PySem.W.fnOf "check_points" "check_points" (defArgs s_check_points) (defBody s_check_points) (defScope s_check_points) .none kV6 dc6 pm6 an6 (.ref C6) ct6), sl6⟩)
    (c6 : PySem.W.codeIn K (.ref C6) "check_points" = true)
    (lt6 : K.lookup C6 = some ⟨eC6, dC6, .fields vs6, sC6⟩)
    (vt6 : vs6[11]? = some (.ref Q6))
    (nt6 : K.lookup Q6 = none)
    (k6 : PySem.W.keepIn K (.ref f6) = true)
    (a7 : PySem.W.nsIn K mainGlobals "raised" = some (some (.ref f7)))
    (l7 : K.lookup f7 = some ⟨oc7, od7, .func (PySem.W.fnOf "raised" "raised" (defArgs s_raised) (defBody s_raised) (defScope s_raised) .none kV7 dc7 pm7 an7 cd7 ct7), sl7⟩)
    (c7 : PySem.W.codeIn K cd7 "raised" = true)
    (k7 : PySem.W.keepIn K (.ref f7) = true)
    (a8 : PySem.W.nsIn K mainGlobals "check_system" = some (some (.ref f8)))
    (l8 : K.lookup f8 = some ⟨oc8, od8, .func (PySem.W.fnOf "check_system" "check_system" (defArgs s_check_system) (defBody s_check_system) (defScope s_check_system) .none kV8 dc8 pm8 an8 (.ref C8) ct8), sl8⟩)
    (c8 : PySem.W.codeIn K (.ref C8) "check_system" = true)
    (lt8 : K.lookup C8 = some ⟨eC8, dC8, .fields vs8, sC8⟩)
    (vt8 : vs8[11]? = some (.ref Q8))
    (nt8 : K.lookup Q8 = none)
    (k8 : PySem.W.keepIn K (.ref f8) = true)
    (a9 : PySem.W.nsIn K mainGlobals "first_row_with" = some (some (.ref f9)))
    (l9 : K.lookup f9 = some ⟨oc9, od9, .func (PySem.W.fnOf "first_row_with" "first_row_with" (defArgs s_first_row_with) (defBody s_first_row_with) (defScope s_first_row_with) .none kV9 dc9 pm9 an9 cd9 ct9), sl9⟩)
    (c9 : PySem.W.codeIn K cd9 "first_row_with" = true)
    (k9 : PySem.W.keepIn K (.ref f9) = true)
    (a10 : PySem.W.nsIn K mainGlobals "swapped" = some (some (.ref f10)))
    (l10 : K.lookup f10 = some ⟨oc10, od10, .func (PySem.W.fnOf "swapped" "swapped" (defArgs s_swapped) (defBody s_swapped) (defScope s_swapped) .none kV10 dc10 pm10 an10 cd10 ct10), sl10⟩)
    (c10 : PySem.W.codeIn K cd10 "swapped" = true)
    (k10 : PySem.W.keepIn K (.ref f10) = true)
    (a11 : PySem.W.nsIn K mainGlobals "quotient" = some (some (.ref f11)))
    (l11 : K.lookup f11 = some ⟨oc11, od11, .func (PySem.W.fnOf "quotient" "quotient" (defArgs s_quotient) (defBody s_quotient) (defScope s_quotient) .none kV11 dc11 pm11 an11 cd11 ct11), sl11⟩)
    (c11 : PySem.W.codeIn K cd11 "quotient" = true)
    (k11 : PySem.W.keepIn K (.ref f11) = true)
    (a12 : PySem.W.nsIn K mainGlobals "less_multiple" = some (some (.ref f12)))
    (l12 : K.lookup f12 = some ⟨oc12, od12, .func (PySem.W.fnOf "less_multiple" "less_multiple" (defArgs s_less_multiple) (defBody s_less_multiple) (defScope s_less_multiple) .none kV12 dc12 pm12 an12 cd12 ct12), sl12⟩)
    (c12 : PySem.W.codeIn K cd12 "less_multiple" = true)
    (k12 : PySem.W.keepIn K (.ref f12) = true)
    (a13 : PySem.W.nsIn K mainGlobals "cleared" = some (some (.ref f13)))
    (l13 : K.lookup f13 = some ⟨oc13, od13, .func (PySem.W.fnOf "cleared" "cleared" (defArgs s_cleared) (defBody s_cleared) (defScope s_cleared) .none kV13 dc13 pm13 an13 cd13 ct13), sl13⟩)
    (c13 : PySem.W.codeIn K cd13 "cleared" = true)
    (k13 : PySem.W.keepIn K (.ref f13) = true)
    (a14 : PySem.W.nsIn K mainGlobals "reduced" = some (some (.ref f14)))
    (l14 : K.lookup f14 = some ⟨oc14, od14, .func (PySem.W.fnOf "reduced" "reduced" (defArgs s_reduced) (defBody s_reduced) (defScope s_reduced) .none kV14 dc14 pm14 an14 cd14 ct14), sl14⟩)
    (c14 : PySem.W.codeIn K cd14 "reduced" = true)
    (k14 : PySem.W.keepIn K (.ref f14) = true)
    (a15 : PySem.W.nsIn K mainGlobals "step_of" = some (some (.ref f15)))
    (l15 : K.lookup f15 = some ⟨oc15, od15, .func (PySem.W.fnOf "step_of" "step_of" (defArgs s_step_of) (defBody s_step_of) (defScope s_step_of) .none kV15 dc15 pm15 an15 cd15 ct15), sl15⟩)
    (c15 : PySem.W.codeIn K cd15 "step_of" = true)
    (k15 : PySem.W.keepIn K (.ref f15) = true)
    (a16 : PySem.W.nsIn K mainGlobals "solutions" = some (some (.ref f16)))
    (l16 : K.lookup f16 = some ⟨oc16, od16, .func (PySem.W.fnOf "solutions" "solutions" (defArgs s_solutions) (defBody s_solutions) (defScope s_solutions) .none kV16 dc16 pm16 an16 (.ref C16) ct16), sl16⟩)
    (c16 : PySem.W.codeIn K (.ref C16) "solutions" = true)
    (lt16 : K.lookup C16 = some ⟨eC16, dC16, .fields vs16, sC16⟩)
    (vt16 : vs16[11]? = some (.ref Q16))
    (nt16 : K.lookup Q16 = none)
    (k16 : PySem.W.keepIn K (.ref f16) = true)
    (a17 : PySem.W.nsIn K mainGlobals "leading_through" = some (some (.ref f17)))
    (l17 : K.lookup f17 = some ⟨oc17, od17, .func (PySem.W.fnOf "leading_through" "leading_through" (defArgs s_leading_through) (defBody s_leading_through) (defScope s_leading_through) .none kV17 dc17 pm17 an17 cd17 ct17), sl17⟩)
    (c17 : PySem.W.codeIn K cd17 "leading_through" = true)
    (k17 : PySem.W.keepIn K (.ref f17) = true)
    (a18 : PySem.W.nsIn K mainGlobals "polynomial_of" = some (some (.ref f18)))
    (l18 : K.lookup f18 = some ⟨oc18, od18, .func (PySem.W.fnOf "polynomial_of" "polynomial_of" (defArgs s_polynomial_of) (defBody s_polynomial_of) (defScope s_polynomial_of) .none kV18 dc18 pm18 an18 cd18 ct18), sl18⟩)
    (c18 : PySem.W.codeIn K cd18 "polynomial_of" = true)
    (k18 : PySem.W.keepIn K (.ref f18) = true)
    (a19 : PySem.W.nsIn K mainGlobals "secret_of" = some (some (.ref f19)))
    (l19 : K.lookup f19 = some ⟨oc19, od19, .func (PySem.W.fnOf "secret_of" "secret_of" (defArgs s_secret_of) (defBody s_secret_of) (defScope s_secret_of) .none kV19 dc19 pm19 an19 cd19 ct19), sl19⟩)
    (c19 : PySem.W.codeIn K cd19 "secret_of" = true)
    (k19 : PySem.W.keepIn K (.ref f19) = true)
    (a20 : PySem.W.nsIn K mainGlobals "_law_numbers" = some (some (.ref f20)))
    (l20 : K.lookup f20 = some ⟨oc20, od20, .func (PySem.W.fnOf "_law_numbers" "_law_numbers" (defArgs s__law_numbers) (defBody s__law_numbers) (defScope s__law_numbers) .none kV20 dc20 pm20 an20 cd20 ct20), sl20⟩)
    (c20 : PySem.W.codeIn K cd20 "_law_numbers" = true)
    (k20 : PySem.W.keepIn K (.ref f20) = true)
    (a21 : PySem.W.nsIn K mainGlobals "_law_is_prime" = some (some (.ref f21)))
    (l21 : K.lookup f21 = some ⟨oc21, od21, .func (PySem.W.fnOf "_law_is_prime" "_law_is_prime" (defArgs s__law_is_prime) (defBody s__law_is_prime) (defScope s__law_is_prime) .none kV21 dc21 pm21 an21 cd21 ct21), sl21⟩)
    (c21 : PySem.W.codeIn K cd21 "_law_is_prime" = true)
    (k21 : PySem.W.keepIn K (.ref f21) = true)
    (a22 : PySem.W.nsIn K mainGlobals "_law_order" = some (some (.ref f22)))
    (l22 : K.lookup f22 = some ⟨oc22, od22, .func (PySem.W.fnOf "_law_order" "_law_order" (defArgs s__law_order) (defBody s__law_order) (defScope s__law_order) .none kV22 dc22 pm22 an22 cd22 ct22), sl22⟩)
    (c22 : PySem.W.codeIn K cd22 "_law_order" = true)
    (k22 : PySem.W.keepIn K (.ref f22) = true)
    (a23 : PySem.W.nsIn K mainGlobals "_law_value" = some (some (.ref f23)))
    (l23 : K.lookup f23 = some ⟨oc23, od23, .func (PySem.W.fnOf "_law_value" "_law_value" (defArgs s__law_value) (defBody s__law_value) (defScope s__law_value) .none kV23 dc23 pm23 an23 cd23 ct23), sl23⟩)
    (c23 : PySem.W.codeIn K cd23 "_law_value" = true)
    (k23 : PySem.W.keepIn K (.ref f23) = true)
    (a24 : PySem.W.nsIn K mainGlobals "_law_places" = some (some (.ref f24)))
    (l24 : K.lookup f24 = some ⟨oc24, od24, .func (PySem.W.fnOf "_law_places" "_law_places" (defArgs s__law_places) (defBody s__law_places) (defScope s__law_places) .none kV24 dc24 pm24 an24 cd24 ct24), sl24⟩)
    (c24 : PySem.W.codeIn K cd24 "_law_places" = true)
    (k24 : PySem.W.keepIn K (.ref f24) = true)
    (a25 : PySem.W.nsIn K mainGlobals "_law_word" = some (some (.ref f25)))
    (l25 : K.lookup f25 = some ⟨oc25, od25, .func (PySem.W.fnOf "_law_word" "_law_word" (defArgs s__law_word) (defBody s__law_word) (defScope s__law_word) .none kV25 dc25 pm25 an25 cd25 ct25), sl25⟩)
    (c25 : PySem.W.codeIn K cd25 "_law_word" = true)
    (k25 : PySem.W.keepIn K (.ref f25) = true)
    (a26 : PySem.W.nsIn K mainGlobals "_law_doors" = some (some (.ref f26)))
    (l26 : K.lookup f26 = some ⟨oc26, od26, .func (PySem.W.fnOf "_law_doors" "_law_doors" (defArgs s__law_doors) (defBody s__law_doors) (defScope s__law_doors) .none kV26 dc26 pm26 an26 cd26 ct26), sl26⟩)
    (c26 : PySem.W.codeIn K cd26 "_law_doors" = true)
    (k26 : PySem.W.keepIn K (.ref f26) = true)
    (a27 : PySem.W.nsIn K mainGlobals "law" = some (some (.ref f27)))
    (l27 : K.lookup f27 = some ⟨oc27, od27, .func (PySem.W.fnOf "law" "law" (defArgs s_law) (defBody s_law) (defScope s_law) .none kV27 dc27 pm27 an27 cd27 ct27), sl27⟩)
    (c27 : PySem.W.codeIn K cd27 "law" = true)
    (k27 : PySem.W.keepIn K (.ref f27) = true)
    (z_abs : PySem.W.nsIn K mainGlobals "abs" = some none)
    (z_all : PySem.W.nsIn K mainGlobals "all" = some none)
    (z_any : PySem.W.nsIn K mainGlobals "any" = some none)
    (z_enumerate : PySem.W.nsIn K mainGlobals "enumerate" = some none)
    (z_int : PySem.W.nsIn K mainGlobals "int" = some none)
    (z_isinstance : PySem.W.nsIn K mainGlobals "isinstance" = some none)
    (z_len : PySem.W.nsIn K mainGlobals "len" = some none)
    (z_list : PySem.W.nsIn K mainGlobals "list" = some none)
    (z_max : PySem.W.nsIn K mainGlobals "max" = some none)
    (z_range : PySem.W.nsIn K mainGlobals "range" = some none)
    (z_reversed : PySem.W.nsIn K mainGlobals "reversed" = some none)
    (z_set : PySem.W.nsIn K mainGlobals "set" = some none)
    (z_zip : PySem.W.nsIn K mainGlobals "zip" = some none)
    (v_MAX_POINTS : PySem.W.nsIn K mainGlobals "MAX_POINTS" = some (some (.int (10) t_c_MAX_POINTS)))
    (v__MOST_ROWS : PySem.W.nsIn K mainGlobals "_MOST_ROWS" = some (some (.int (60) t_c__MOST_ROWS)))
    (v__MOST_UNKNOWNS : PySem.W.nsIn K mainGlobals "_MOST_UNKNOWNS" = some (some (.int (40) t_c__MOST_UNKNOWNS)))
    (g_CloakError : PySem.W.nsIn K mainGlobals "CloakError" = some (some (.ref C_CloakError)))
    (x_CloakError : PySem.W.excIn K C_CloakError [.type "ValueError", .type "Exception", .type "BaseException", .type "object"] "ValueError.__new__" = true)
    (k_CloakError : PySem.W.keepIn K (.ref C_CloakError) = true)
    (b_CloakError : PySem.W.subIn K (.ref C_CloakError) (.type "BaseException") = some true)
    (t_CloakError : PySem.W.typeIn K (.ref C_CloakError) = some (.type "type"))
    (h_CloakError : PySem.W.hasDictIn K C_CloakError = true)
    (g_NotAllowed : PySem.W.nsIn K mainGlobals "NotAllowed" = some (some (.ref C_NotAllowed)))
    (x_NotAllowed : PySem.W.excIn K C_NotAllowed [.type "ValueError", .type "Exception", .type "BaseException", .type "object"] "ValueError.__new__" = true)
    (k_NotAllowed : PySem.W.keepIn K (.ref C_NotAllowed) = true)
    (b_NotAllowed : PySem.W.subIn K (.ref C_NotAllowed) (.type "BaseException") = some true)
    (t_NotAllowed : PySem.W.typeIn K (.ref C_NotAllowed) = some (.type "type"))
    (h_NotAllowed : PySem.W.hasDictIn K C_NotAllowed = true)
    (g_Missing : PySem.W.nsIn K mainGlobals "Missing" = some (some (.ref C_Missing)))
    (x_Missing : PySem.W.excIn K C_Missing [.type "ValueError", .type "Exception", .type "BaseException", .type "object"] "ValueError.__new__" = true)
    (k_Missing : PySem.W.keepIn K (.ref C_Missing) = true)
    (b_Missing : PySem.W.subIn K (.ref C_Missing) (.type "BaseException") = some true)
    (t_Missing : PySem.W.typeIn K (.ref C_Missing) = some (.type "type"))
    (h_Missing : PySem.W.hasDictIn K C_Missing = true)
    (eg_CloakError : PySem.W.findIn K (.ref C_CloakError) "__getattribute__" = some (some (.builtin "BaseException.__getattribute__")))
    (eh_CloakError : PySem.W.findIn K (.ref C_CloakError) "__getattr__" = some none)
    (ea_CloakError : PySem.W.findIn K (.ref C_CloakError) "__class__" = some (some (.builtin "object.__class__")))
    (em_CloakError : PySem.W.mroIn K C_CloakError (.type "object") = some true)
    (eg_NotAllowed : PySem.W.findIn K (.ref C_NotAllowed) "__getattribute__" = some (some (.builtin "BaseException.__getattribute__")))
    (eh_NotAllowed : PySem.W.findIn K (.ref C_NotAllowed) "__getattr__" = some none)
    (ea_NotAllowed : PySem.W.findIn K (.ref C_NotAllowed) "__class__" = some (some (.builtin "object.__class__")))
    (em_NotAllowed : PySem.W.mroIn K C_NotAllowed (.type "object") = some true)
    (eg_Missing : PySem.W.findIn K (.ref C_Missing) "__getattribute__" = some (some (.builtin "BaseException.__getattribute__")))
    (eh_Missing : PySem.W.findIn K (.ref C_Missing) "__getattr__" = some none)
    (ea_Missing : PySem.W.findIn K (.ref C_Missing) "__class__" = some (some (.builtin "object.__class__")))
    (em_Missing : PySem.W.mroIn K C_Missing (.type "object") = some true)
    (en : PySem.W.specialIn K (.builtin "object.__class__") "__get__" = some (some (.builtin "getset_descriptor.__get__")))
    (et : PySem.W.takesIn K (.builtin "object.__class__") = some true)
    (s_CloakError_CloakError : PySem.W.subIn K (.ref C_CloakError) (.ref C_CloakError) = some true)
    (s_NotAllowed_CloakError : PySem.W.subIn K (.ref C_NotAllowed) (.ref C_CloakError) = some true)
    (s_Missing_CloakError : PySem.W.subIn K (.ref C_Missing) (.ref C_CloakError) = some true)
    (s_CloakError_NotAllowed : PySem.W.subIn K (.ref C_CloakError) (.ref C_NotAllowed) = some false)
    (s_NotAllowed_NotAllowed : PySem.W.subIn K (.ref C_NotAllowed) (.ref C_NotAllowed) = some true)
    (s_Missing_NotAllowed : PySem.W.subIn K (.ref C_Missing) (.ref C_NotAllowed) = some false)
    (q_CloakError_NotAllowed : PySem.W.kitOne K (.ref C_CloakError) (.ref C_NotAllowed) = some false)
    (q_NotAllowed_NotAllowed : PySem.W.kitOne K (.ref C_NotAllowed) (.ref C_NotAllowed) = some true)
    (q_Missing_NotAllowed : PySem.W.kitOne K (.ref C_Missing) (.ref C_NotAllowed) = some false)
    (HT : ∀ t ∈ (["check_places", "check_points", "check_system", "solutions"] : List Str), J.TabOf K mg h t)
    : ∃ T : Tx K mg, T.a_law = fa ∧ ∀ p ∈ T.cs, h.get? p.2 = some { cls := .none, data := .fields #[] } ∧ K.lookup p.2 = none ∧ PySem.W.CodeHd h p.1 p.2 := by
  have e := hfa.symm.trans (PySem.W.mg_of X G a27)
  cases e
  have e4 := HT "check_places" (by simp) _ _ _ _ _ _ _ _ _ (PySem.W.mg_of X G a4) l4 rfl rfl lt4 vt4
  have e6 := HT "check_points" (by simp) _ _ _ _ _ _ _ _ _ (PySem.W.mg_of X G a6) l6 rfl rfl lt6 vt6
  have e8 := HT "check_system" (by simp) _ _ _ _ _ _ _ _ _ (PySem.W.mg_of X G a8) l8 rfl rfl lt8 vt8
  have e16 := HT "solutions" (by simp) _ _ _ _ _ _ _ _ _ (PySem.W.mg_of X G a16) l16 rfl rfl lt16 vt16
  refine ⟨{
    a_is_exponent := f0
    d_is_exponent := PySem.W.fnOf "is_exponent" "is_exponent" (defArgs s_is_exponent) (defBody s_is_exponent) (defScope s_is_exponent) .none kV0 dc0 pm0 an0 cd0 ct0
    F_is_exponent := fun_mk (st := s_is_exponent) l0 c0 k0
    g_is_exponent := PySem.W.mg_of X G a0
    b_is_exponent := ((fun_mk (st := s_is_exponent) l0 c0 k0).binds (ps := ["q", "value"]) (fun _ _ _ _ _ _ us hl => match us, hl with | [_, _], _ => rfl))
    a_check_exponent := f1
    d_check_exponent := PySem.W.fnOf "check_exponent" "check_exponent" (defArgs s_check_exponent) (defBody s_check_exponent) (defScope s_check_exponent) .none kV1 dc1 pm1 an1 cd1 ct1
    F_check_exponent := fun_mk (st := s_check_exponent) l1 c1 k1
    g_check_exponent := PySem.W.mg_of X G a1
    b_check_exponent := ((fun_mk (st := s_check_exponent) l1 c1 k1).binds (ps := ["q", "value"]) (fun _ _ _ _ _ _ us hl => match us, hl with | [_, _], _ => rfl))
    a_check_polynomial := f2
    d_check_polynomial := PySem.W.fnOf "check_polynomial" "check_polynomial" (defArgs s_check_polynomial) (defBody s_check_polynomial) (defScope s_check_polynomial) .none kV2 dc2 pm2 an2 cd2 ct2
    F_check_polynomial := fun_mk (st := s_check_polynomial) l2 c2 k2
    g_check_polynomial := PySem.W.mg_of X G a2
    b_check_polynomial := ((fun_mk (st := s_check_polynomial) l2 c2 k2).binds (ps := ["q", "polynomial"]) (fun _ _ _ _ _ _ us hl => match us, hl with | [_, _], _ => rfl))
    a_value_at := f3
    d_value_at := PySem.W.fnOf "value_at" "value_at" (defArgs s_value_at) (defBody s_value_at) (defScope s_value_at) .none kV3 dc3 pm3 an3 cd3 ct3
    F_value_at := fun_mk (st := s_value_at) l3 c3 k3
    g_value_at := PySem.W.mg_of X G a3
    b_value_at := ((fun_mk (st := s_value_at) l3 c3 k3).binds (ps := ["q", "polynomial", "x"]) (fun _ _ _ _ _ _ us hl => match us, hl with | [_, _, _], _ => rfl))
    c_check_places := C4
    P_check_places := Q4
    FC_check_places := ⟨_, _, _, _, _, _, _, _, rfl, l4, c4⟩
    a_check_places := f4
    d_check_places := PySem.W.fnOf "check_places" "check_places" (defArgs s_check_places) (defBody s_check_places) (defScope s_check_places) .none kV4 dc4 pm4 an4 (.ref C4) ct4
    F_check_places := fun_mk (st := s_check_places) l4 c4 k4
    g_check_places := PySem.W.mg_of X G a4
    b_check_places := ((fun_mk (st := s_check_places) l4 c4 k4).binds (ps := ["places"]) (fun _ _ _ _ _ _ us hl => match us, hl with | [_], _ => rfl))
    a_shares_of := f5
    d_shares_of := PySem.W.fnOf "shares_of" "shares_of" (defArgs s_shares_of) (defBody s_shares_of) (defScope s_shares_of) .none kV5 dc5 pm5 an5 cd5 ct5
    F_shares_of := fun_mk (st := s_shares_of) l5 c5 k5
    g_shares_of := PySem.W.mg_of X G a5
    b_shares_of := ((fun_mk (st := s_shares_of) l5 c5 k5).binds (ps := ["q", "polynomial", "places"]) (fun _ _ _ _ _ _ us hl => match us, hl with | [_, _, _], _ => rfl))
    c_check_points := C6
    P_check_points := Q6
    FC_check_points := ⟨_, _, _, _, _, _, _, _, rfl, l6, c6⟩
    a_check_points := f6
    d_check_points := PySem.W.fnOf "check_points" "check_points" (defArgs s_check_points) (defBody s_check_points) (defScope s_check_points) .none kV6 dc6 pm6 an6 (.ref C6) ct6
    F_check_points := fun_mk (st := s_check_points) l6 c6 k6
    g_check_points := PySem.W.mg_of X G a6
    b_check_points := ((fun_mk (st := s_check_points) l6 c6 k6).binds (ps := ["q", "points"]) (fun _ _ _ _ _ _ us hl => match us, hl with | [_, _], _ => rfl))
    a_raised := f7
    d_raised := PySem.W.fnOf "raised" "raised" (defArgs s_raised) (defBody s_raised) (defScope s_raised) .none kV7 dc7 pm7 an7 cd7 ct7
    F_raised := fun_mk (st := s_raised) l7 c7 k7
    g_raised := PySem.W.mg_of X G a7
    b_raised := ((fun_mk (st := s_raised) l7 c7 k7).binds (ps := ["modulus", "base", "exponent"]) (fun _ _ _ _ _ _ us hl => match us, hl with | [_, _, _], _ => rfl))
    c_check_system := C8
    P_check_system := Q8
    FC_check_system := ⟨_, _, _, _, _, _, _, _, rfl, l8, c8⟩
    a_check_system := f8
    d_check_system := PySem.W.fnOf "check_system" "check_system" (defArgs s_check_system) (defBody s_check_system) (defScope s_check_system) .none kV8 dc8 pm8 an8 (.ref C8) ct8
    F_check_system := fun_mk (st := s_check_system) l8 c8 k8
    g_check_system := PySem.W.mg_of X G a8
    b_check_system := ((fun_mk (st := s_check_system) l8 c8 k8).binds (ps := ["unknowns", "rows", "right"]) (fun _ _ _ _ _ _ us hl => match us, hl with | [_, _, _], _ => rfl))
    a_first_row_with := f9
    d_first_row_with := PySem.W.fnOf "first_row_with" "first_row_with" (defArgs s_first_row_with) (defBody s_first_row_with) (defScope s_first_row_with) .none kV9 dc9 pm9 an9 cd9 ct9
    F_first_row_with := fun_mk (st := s_first_row_with) l9 c9 k9
    g_first_row_with := PySem.W.mg_of X G a9
    b_first_row_with := ((fun_mk (st := s_first_row_with) l9 c9 k9).binds (ps := ["rows", "start", "column"]) (fun _ _ _ _ _ _ us hl => match us, hl with | [_, _, _], _ => rfl))
    a_swapped := f10
    d_swapped := PySem.W.fnOf "swapped" "swapped" (defArgs s_swapped) (defBody s_swapped) (defScope s_swapped) .none kV10 dc10 pm10 an10 cd10 ct10
    F_swapped := fun_mk (st := s_swapped) l10 c10 k10
    g_swapped := PySem.W.mg_of X G a10
    b_swapped := ((fun_mk (st := s_swapped) l10 c10 k10).binds (ps := ["rows", "first", "second"]) (fun _ _ _ _ _ _ us hl => match us, hl with | [_, _, _], _ => rfl))
    a_quotient := f11
    d_quotient := PySem.W.fnOf "quotient" "quotient" (defArgs s_quotient) (defBody s_quotient) (defScope s_quotient) .none kV11 dc11 pm11 an11 cd11 ct11
    F_quotient := fun_mk (st := s_quotient) l11 c11 k11
    g_quotient := PySem.W.mg_of X G a11
    b_quotient := ((fun_mk (st := s_quotient) l11 c11 k11).binds (ps := ["q", "first", "second"]) (fun _ _ _ _ _ _ us hl => match us, hl with | [_, _, _], _ => rfl))
    a_less_multiple := f12
    d_less_multiple := PySem.W.fnOf "less_multiple" "less_multiple" (defArgs s_less_multiple) (defBody s_less_multiple) (defScope s_less_multiple) .none kV12 dc12 pm12 an12 cd12 ct12
    F_less_multiple := fun_mk (st := s_less_multiple) l12 c12 k12
    g_less_multiple := PySem.W.mg_of X G a12
    b_less_multiple := ((fun_mk (st := s_less_multiple) l12 c12 k12).binds (ps := ["q", "row", "factor", "other"]) (fun _ _ _ _ _ _ us hl => match us, hl with | [_, _, _, _], _ => rfl))
    a_cleared := f13
    d_cleared := PySem.W.fnOf "cleared" "cleared" (defArgs s_cleared) (defBody s_cleared) (defScope s_cleared) .none kV13 dc13 pm13 an13 cd13 ct13
    F_cleared := fun_mk (st := s_cleared) l13 c13 k13
    g_cleared := PySem.W.mg_of X G a13
    b_cleared := ((fun_mk (st := s_cleared) l13 c13 k13).binds (ps := ["q", "rows", "lead", "column"]) (fun _ _ _ _ _ _ us hl => match us, hl with | [_, _, _, _], _ => rfl))
    a_reduced := f14
    d_reduced := PySem.W.fnOf "reduced" "reduced" (defArgs s_reduced) (defBody s_reduced) (defScope s_reduced) .none kV14 dc14 pm14 an14 cd14 ct14
    F_reduced := fun_mk (st := s_reduced) l14 c14 k14
    g_reduced := PySem.W.mg_of X G a14
    b_reduced := ((fun_mk (st := s_reduced) l14 c14 k14).binds (ps := ["q", "rows", "unknowns"]) (fun _ _ _ _ _ _ us hl => match us, hl with | [_, _, _], _ => rfl))
    a_step_of := f15
    d_step_of := PySem.W.fnOf "step_of" "step_of" (defArgs s_step_of) (defBody s_step_of) (defScope s_step_of) .none kV15 dc15 pm15 an15 cd15 ct15
    F_step_of := fun_mk (st := s_step_of) l15 c15 k15
    g_step_of := PySem.W.mg_of X G a15
    b_step_of := ((fun_mk (st := s_step_of) l15 c15 k15).binds (ps := ["q", "unknowns", "left", "bound", "free"]) (fun _ _ _ _ _ _ us hl => match us, hl with | [_, _, _, _, _], _ => rfl))
    c_solutions := C16
    P_solutions := Q16
    FC_solutions := ⟨_, _, _, _, _, _, _, _, rfl, l16, c16⟩
    a_solutions := f16
    d_solutions := PySem.W.fnOf "solutions" "solutions" (defArgs s_solutions) (defBody s_solutions) (defScope s_solutions) .none kV16 dc16 pm16 an16 (.ref C16) ct16
    F_solutions := fun_mk (st := s_solutions) l16 c16 k16
    g_solutions := PySem.W.mg_of X G a16
    b_solutions := ((fun_mk (st := s_solutions) l16 c16 k16).binds (ps := ["q", "unknowns", "rows", "right"]) (fun _ _ _ _ _ _ us hl => match us, hl with | [_, _, _, _], _ => rfl))
    a_leading_through := f17
    d_leading_through := PySem.W.fnOf "leading_through" "leading_through" (defArgs s_leading_through) (defBody s_leading_through) (defScope s_leading_through) .none kV17 dc17 pm17 an17 cd17 ct17
    F_leading_through := fun_mk (st := s_leading_through) l17 c17 k17
    g_leading_through := PySem.W.mg_of X G a17
    b_leading_through := ((fun_mk (st := s_leading_through) l17 c17 k17).binds (ps := ["q", "points"]) (fun _ _ _ _ _ _ us hl => match us, hl with | [_, _], _ => rfl))
    a_polynomial_of := f18
    d_polynomial_of := PySem.W.fnOf "polynomial_of" "polynomial_of" (defArgs s_polynomial_of) (defBody s_polynomial_of) (defScope s_polynomial_of) .none kV18 dc18 pm18 an18 cd18 ct18
    F_polynomial_of := fun_mk (st := s_polynomial_of) l18 c18 k18
    g_polynomial_of := PySem.W.mg_of X G a18
    b_polynomial_of := ((fun_mk (st := s_polynomial_of) l18 c18 k18).binds (ps := ["q", "points"]) (fun _ _ _ _ _ _ us hl => match us, hl with | [_, _], _ => rfl))
    a_secret_of := f19
    d_secret_of := PySem.W.fnOf "secret_of" "secret_of" (defArgs s_secret_of) (defBody s_secret_of) (defScope s_secret_of) .none kV19 dc19 pm19 an19 cd19 ct19
    F_secret_of := fun_mk (st := s_secret_of) l19 c19 k19
    g_secret_of := PySem.W.mg_of X G a19
    b_secret_of := ((fun_mk (st := s_secret_of) l19 c19 k19).binds (ps := ["q", "points"]) (fun _ _ _ _ _ _ us hl => match us, hl with | [_, _], _ => rfl))
    a__law_numbers := f20
    d__law_numbers := PySem.W.fnOf "_law_numbers" "_law_numbers" (defArgs s__law_numbers) (defBody s__law_numbers) (defScope s__law_numbers) .none kV20 dc20 pm20 an20 cd20 ct20
    F__law_numbers := fun_mk (st := s__law_numbers) l20 c20 k20
    g__law_numbers := PySem.W.mg_of X G a20
    b__law_numbers := ((fun_mk (st := s__law_numbers) l20 c20 k20).binds (ps := ["script", "many"]) (fun _ _ _ _ _ _ us hl => match us, hl with | [_, _], _ => rfl))
    a__law_is_prime := f21
    d__law_is_prime := PySem.W.fnOf "_law_is_prime" "_law_is_prime" (defArgs s__law_is_prime) (defBody s__law_is_prime) (defScope s__law_is_prime) .none kV21 dc21 pm21 an21 cd21 ct21
    F__law_is_prime := fun_mk (st := s__law_is_prime) l21 c21 k21
    g__law_is_prime := PySem.W.mg_of X G a21
    b__law_is_prime := ((fun_mk (st := s__law_is_prime) l21 c21 k21).binds (ps := ["number"]) (fun _ _ _ _ _ _ us hl => match us, hl with | [_], _ => rfl))
    a__law_order := f22
    d__law_order := PySem.W.fnOf "_law_order" "_law_order" (defArgs s__law_order) (defBody s__law_order) (defScope s__law_order) .none kV22 dc22 pm22 an22 cd22 ct22
    F__law_order := fun_mk (st := s__law_order) l22 c22 k22
    g__law_order := PySem.W.mg_of X G a22
    b__law_order := ((fun_mk (st := s__law_order) l22 c22 k22).binds (ps := ["number"]) (fun _ _ _ _ _ _ us hl => match us, hl with | [_], _ => rfl))
    a__law_value := f23
    d__law_value := PySem.W.fnOf "_law_value" "_law_value" (defArgs s__law_value) (defBody s__law_value) (defScope s__law_value) .none kV23 dc23 pm23 an23 cd23 ct23
    F__law_value := fun_mk (st := s__law_value) l23 c23 k23
    g__law_value := PySem.W.mg_of X G a23
    b__law_value := ((fun_mk (st := s__law_value) l23 c23 k23).binds (ps := ["q", "polynomial", "x"]) (fun _ _ _ _ _ _ us hl => match us, hl with | [_, _, _], _ => rfl))
    a__law_places := f24
    d__law_places := PySem.W.fnOf "_law_places" "_law_places" (defArgs s__law_places) (defBody s__law_places) (defScope s__law_places) .none kV24 dc24 pm24 an24 cd24 ct24
    F__law_places := fun_mk (st := s__law_places) l24 c24 k24
    g__law_places := PySem.W.mg_of X G a24
    b__law_places := ((fun_mk (st := s__law_places) l24 c24 k24).binds (ps := ["numbers", "count"]) (fun _ _ _ _ _ _ us hl => match us, hl with | [_, _], _ => rfl))
    a__law_word := f25
    d__law_word := PySem.W.fnOf "_law_word" "_law_word" (defArgs s__law_word) (defBody s__law_word) (defScope s__law_word) .none kV25 dc25 pm25 an25 cd25 ct25
    F__law_word := fun_mk (st := s__law_word) l25 c25 k25
    g__law_word := PySem.W.mg_of X G a25
    b__law_word := ((fun_mk (st := s__law_word) l25 c25 k25).binds (ps := ["kind", "q", "first", "second"]) (fun _ _ _ _ _ _ us hl => match us, hl with | [_, _, _, _], _ => rfl))
    a__law_doors := f26
    d__law_doors := PySem.W.fnOf "_law_doors" "_law_doors" (defArgs s__law_doors) (defBody s__law_doors) (defScope s__law_doors) .none kV26 dc26 pm26 an26 cd26 ct26
    F__law_doors := fun_mk (st := s__law_doors) l26 c26 k26
    g__law_doors := PySem.W.mg_of X G a26
    b__law_doors := ((fun_mk (st := s__law_doors) l26 c26 k26).binds (ps := ["q", "polynomial", "points"]) (fun _ _ _ _ _ _ us hl => match us, hl with | [_, _, _], _ => rfl))
    a_law := fa
    d_law := PySem.W.fnOf "law" "law" (defArgs s_law) (defBody s_law) (defScope s_law) .none kV27 dc27 pm27 an27 cd27 ct27
    F_law := fun_mk (st := s_law) l27 c27 k27
    g_law := PySem.W.mg_of X G a27
    b_law := ((fun_mk (st := s_law) l27 c27 k27).binds (ps := ["script"]) (fun _ _ _ _ _ _ us hl => match us, hl with | [_], _ => rfl))
    lb := fun s v => .of_eq rfl
    z_abs := PySem.W.mg_none_of X G z_abs
    z_all := PySem.W.mg_none_of X G z_all
    z_any := PySem.W.mg_none_of X G z_any
    z_enumerate := PySem.W.mg_none_of X G z_enumerate
    z_int := PySem.W.mg_none_of X G z_int
    z_isinstance := PySem.W.mg_none_of X G z_isinstance
    z_len := PySem.W.mg_none_of X G z_len
    z_list := PySem.W.mg_none_of X G z_list
    z_max := PySem.W.mg_none_of X G z_max
    z_range := PySem.W.mg_none_of X G z_range
    z_reversed := PySem.W.mg_none_of X G z_reversed
    z_set := PySem.W.mg_none_of X G z_set
    z_zip := PySem.W.mg_none_of X G z_zip
    c_MAX_POINTS := ⟨_, PySem.W.mg_of X G v_MAX_POINTS⟩
    c__MOST_ROWS := ⟨_, PySem.W.mg_of X G v__MOST_ROWS⟩
    c__MOST_UNKNOWNS := ⟨_, PySem.W.mg_of X G v__MOST_UNKNOWNS⟩
    a_CloakError := C_CloakError
    g_CloakError := PySem.W.mg_of X G g_CloakError
    x_CloakError := x_CloakError
    k_CloakError := k_CloakError
    b_CloakError := b_CloakError
    t_CloakError := t_CloakError
    h_CloakError := h_CloakError
    a_NotAllowed := C_NotAllowed
    g_NotAllowed := PySem.W.mg_of X G g_NotAllowed
    x_NotAllowed := x_NotAllowed
    k_NotAllowed := k_NotAllowed
    b_NotAllowed := b_NotAllowed
    t_NotAllowed := t_NotAllowed
    h_NotAllowed := h_NotAllowed
    a_Missing := C_Missing
    g_Missing := PySem.W.mg_of X G g_Missing
    x_Missing := x_Missing
    k_Missing := k_Missing
    b_Missing := b_Missing
    t_Missing := t_Missing
    h_Missing := h_Missing
    e_CloakError := ⟨eg_CloakError, eh_CloakError, b_CloakError, h_CloakError, ea_CloakError, en, et, em_CloakError⟩
    e_NotAllowed := ⟨eg_NotAllowed, eh_NotAllowed, b_NotAllowed, h_NotAllowed, ea_NotAllowed, en, et, em_NotAllowed⟩
    e_Missing := ⟨eg_Missing, eh_Missing, b_Missing, h_Missing, ea_Missing, en, et, em_Missing⟩
    s_CloakError_CloakError := s_CloakError_CloakError
    s_NotAllowed_CloakError := s_NotAllowed_CloakError
    s_Missing_CloakError := s_Missing_CloakError
    s_CloakError_NotAllowed := s_CloakError_NotAllowed
    s_NotAllowed_NotAllowed := s_NotAllowed_NotAllowed
    s_Missing_NotAllowed := s_Missing_NotAllowed
    q_CloakError_NotAllowed := q_CloakError_NotAllowed
    q_NotAllowed_NotAllowed := q_NotAllowed_NotAllowed
    q_Missing_NotAllowed := q_Missing_NotAllowed }, rfl, fun p hp => ?_⟩
  simp only [Tx.cs, List.mem_cons, List.not_mem_nil, or_false] at hp
  rcases hp with rfl | rfl | rfl | rfl
  · exact ⟨e4.1, nt4, e4.2⟩
  · exact ⟨e6.1, nt6, e6.2⟩
  · exact ⟨e8.1, nt8, e8.2⟩
  · exact ⟨e16.1, nt16, e16.2⟩
end LK
set_option linter.all false
set_option maxRecDepth 100000
set_option maxHeartbeats 8000000
open PySem PySem.W PyProof.Rows
set_option maxRecDepth 100000 in
set_option maxHeartbeats 0 in
theorem PySem.Challenge.cw_cloak_k75_polynomials_holds : PySem.Challenge.rw_cloak_k75_polynomials.Holds := by
  w_on; o_law; k_head; (case hw => w_witness2)
  k_fill
  refine J.walk_tabs (l := PySem.Challenge.rw_cloak_k75_polynomials) (n := 63) (k := 11) (x := "script") (CX := fun w => L2N.CX (PySem.Challenge.rw_cloak_k75_polynomials).prog w) ["check_places", "check_points", "check_system", "solutions"] rfl (by decide) rfl ⟨rfl, by decide, by decide⟩ (by decide +kernel) (fun w h Y => PySem.W.kIn_of Y) ?F (fun _ _ _ _ _ h => J.no_exc h)
  case F =>
    intro w mg fa h KX G hmg HT
    obtain ⟨T, rfl, hcs⟩ : ∃ T : LK.Tx _ mg, T.a_law = fa ∧ ∀ p ∈ T.cs, h.get? p.2 = some { cls := .none, data := .fields #[] } ∧ List.lookup p.2 _ = none ∧ PySem.W.CodeHd h p.1 p.2 := by
      refine' LK.all_mk KX G hmg ?a0 ?l0 ?c0 ?k0 ?a1 ?l1 ?c1 ?k1 ?a2 ?l2 ?c2 ?k2 ?a3 ?l3 ?c3 ?k3 ?a4 ?l4 ?c4 ?lt4 ?vt4 ?nt4 ?k4 ?a5 ?l5 ?c5 ?k5 ?a6 ?l6 ?c6 ?lt6 ?vt6 ?nt6 ?k6 ?a7 ?l7 ?c7 ?k7 ?a8 ?l8 ?c8 ?lt8 ?vt8 ?nt8 ?k8 ?a9 ?l9 ?c9 ?k9 ?a10 ?l10 ?c10 ?k10 ?a11 ?l11 ?c11 ?k11 ?a12 ?l12 ?c12 ?k12 ?a13 ?l13 ?c13 ?k13 ?a14 ?l14 ?c14 ?k14 ?a15 ?l15 ?c15 ?k15 ?a16 ?l16 ?c16 ?lt16 ?vt16 ?nt16 ?k16 ?a17 ?l17 ?c17 ?k17 ?a18 ?l18 ?c18 ?k18 ?a19 ?l19 ?c19 ?k19 ?a20 ?l20 ?c20 ?k20 ?a21 ?l21 ?c21 ?k21 ?a22 ?l22 ?c22 ?k22 ?a23 ?l23 ?c23 ?k23 ?a24 ?l24 ?c24 ?k24 ?a25 ?l25 ?c25 ?k25 ?a26 ?l26 ?c26 ?k26 ?a27 ?l27 ?c27 ?k27 ?z_abs ?z_all ?z_any ?z_enumerate ?z_int ?z_isinstance ?z_len ?z_list ?z_max ?z_range ?z_reversed ?z_set ?z_zip ?v_MAX_POINTS ?v__MOST_ROWS ?v__MOST_UNKNOWNS ?g_CloakError ?x_CloakError ?k_CloakError ?b_CloakError ?t_CloakError ?h_CloakError ?g_NotAllowed ?x_NotAllowed ?k_NotAllowed ?b_NotAllowed ?t_NotAllowed ?h_NotAllowed ?g_Missing ?x_Missing ?k_Missing ?b_Missing ?t_Missing ?h_Missing ?eg_CloakError ?eh_CloakError ?ea_CloakError ?em_CloakError ?eg_NotAllowed ?eh_NotAllowed ?ea_NotAllowed ?em_NotAllowed ?eg_Missing ?eh_Missing ?ea_Missing ?em_Missing ?en ?et ?s_CloakError_CloakError ?s_NotAllowed_CloakError ?s_Missing_CloakError ?s_CloakError_NotAllowed ?s_NotAllowed_NotAllowed ?s_Missing_NotAllowed ?q_CloakError_NotAllowed ?q_NotAllowed_NotAllowed ?q_Missing_NotAllowed HT
      (case a0 => k_is)
      (case l0 => k_is)
      (case c0 => k_is)
      (case k0 => k_is)
      (case a1 => k_is)
      (case l1 => k_is)
      (case c1 => k_is)
      (case k1 => k_is)
      (case a2 => k_is)
      (case l2 => k_is)
      (case c2 => k_is)
      (case k2 => k_is)
      (case a3 => k_is)
      (case l3 => k_is)
      (case c3 => k_is)
      (case k3 => k_is)
      (case a4 => k_is)
      (case l4 => k_is)
      (case c4 => k_is)
      (case lt4 => k_is)
      (case vt4 => rfl)
      (case nt4 => first | rfl | k_is)
      (case k4 => k_is)
      (case a5 => k_is)
      (case l5 => k_is)
      (case c5 => k_is)
      (case k5 => k_is)
      (case a6 => k_is)
      (case l6 => k_is)
      (case c6 => k_is)
      (case lt6 => k_is)
      (case vt6 => rfl)
      (case nt6 => first | rfl | k_is)
      (case k6 => k_is)
      (case a7 => k_is)
      (case l7 => k_is)
      (case c7 => k_is)
      (case k7 => k_is)
      (case a8 => k_is)
      (case l8 => k_is)
      (case c8 => k_is)
      (case lt8 => k_is)
      (case vt8 => rfl)
      (case nt8 => first | rfl | k_is)
      (case k8 => k_is)
      (case a9 => k_is)
      (case l9 => k_is)
      (case c9 => k_is)
      (case k9 => k_is)
      (case a10 => k_is)
      (case l10 => k_is)
      (case c10 => k_is)
      (case k10 => k_is)
      (case a11 => k_is)
      (case l11 => k_is)
      (case c11 => k_is)
      (case k11 => k_is)
      (case a12 => k_is)
      (case l12 => k_is)
      (case c12 => k_is)
      (case k12 => k_is)
      (case a13 => k_is)
      (case l13 => k_is)
      (case c13 => k_is)
      (case k13 => k_is)
      (case a14 => k_is)
      (case l14 => k_is)
      (case c14 => k_is)
      (case k14 => k_is)
      (case a15 => k_is)
      (case l15 => k_is)
      (case c15 => k_is)
      (case k15 => k_is)
      (case a16 => k_is)
      (case l16 => k_is)
      (case c16 => k_is)
      (case lt16 => k_is)
      (case vt16 => rfl)
      (case nt16 => first | rfl | k_is)
      (case k16 => k_is)
      (case a17 => k_is)
      (case l17 => k_is)
      (case c17 => k_is)
      (case k17 => k_is)
      (case a18 => k_is)
      (case l18 => k_is)
      (case c18 => k_is)
      (case k18 => k_is)
      (case a19 => k_is)
      (case l19 => k_is)
      (case c19 => k_is)
      (case k19 => k_is)
      (case a20 => k_is)
      (case l20 => k_is)
      (case c20 => k_is)
      (case k20 => k_is)
      (case a21 => k_is)
      (case l21 => k_is)
      (case c21 => k_is)
      (case k21 => k_is)
      (case a22 => k_is)
      (case l22 => k_is)
      (case c22 => k_is)
      (case k22 => k_is)
      (case a23 => k_is)
      (case l23 => k_is)
      (case c23 => k_is)
      (case k23 => k_is)
      (case a24 => k_is)
      (case l24 => k_is)
      (case c24 => k_is)
      (case k24 => k_is)
      (case a25 => k_is)
      (case l25 => k_is)
      (case c25 => k_is)
      (case k25 => k_is)
      (case a26 => k_is)
      (case l26 => k_is)
      (case c26 => k_is)
      (case k26 => k_is)
      (case a27 => k_is)
      (case l27 => k_is)
      (case c27 => k_is)
      (case k27 => k_is)
      (case z_abs => k_is)
      (case z_all => k_is)
      (case z_any => k_is)
      (case z_enumerate => k_is)
      (case z_int => k_is)
      (case z_isinstance => k_is)
      (case z_len => k_is)
      (case z_list => k_is)
      (case z_max => k_is)
      (case z_range => k_is)
      (case z_reversed => k_is)
      (case z_set => k_is)
      (case z_zip => k_is)
      (case v_MAX_POINTS => k_is)
      (case v__MOST_ROWS => k_is)
      (case v__MOST_UNKNOWNS => k_is)
      (case g_CloakError => k_is)
      (case x_CloakError => k_exc)
      (case k_CloakError => k_is)
      (case b_CloakError => k_is)
      (case t_CloakError => k_is)
      (case h_CloakError => k_is)
      (case g_NotAllowed => k_is)
      (case x_NotAllowed => k_exc)
      (case k_NotAllowed => k_is)
      (case b_NotAllowed => k_is)
      (case t_NotAllowed => k_is)
      (case h_NotAllowed => k_is)
      (case g_Missing => k_is)
      (case x_Missing => k_exc)
      (case k_Missing => k_is)
      (case b_Missing => k_is)
      (case t_Missing => k_is)
      (case h_Missing => k_is)
      (case eg_CloakError => k_is)
      (case eh_CloakError => k_is)
      (case ea_CloakError => k_is)
      (case em_CloakError => k_is)
      (case eg_NotAllowed => k_is)
      (case eh_NotAllowed => k_is)
      (case ea_NotAllowed => k_is)
      (case em_NotAllowed => k_is)
      (case eg_Missing => k_is)
      (case eh_Missing => k_is)
      (case ea_Missing => k_is)
      (case em_Missing => k_is)
      (case en => k_is)
      (case et => k_is)
      (case s_CloakError_CloakError => first | rfl | k_is)
      (case s_NotAllowed_CloakError => first | rfl | k_is)
      (case s_Missing_CloakError => first | rfl | k_is)
      (case s_CloakError_NotAllowed => first | rfl | k_is)
      (case s_NotAllowed_NotAllowed => first | rfl | k_is)
      (case s_Missing_NotAllowed => first | rfl | k_is)
      (case q_CloakError_NotAllowed => first | rfl | k_is)
      (case q_NotAllowed_NotAllowed => first | rfl | k_is)
      (case q_Missing_NotAllowed => first | rfl | k_is)
    exact J.lawAt T.cs hcs T.lb fun base hB => J.law_impT (LK.ok_law T ⟨hB (T.c_check_places, T.P_check_places) (by simp [LK.Tx.cs]), hB (T.c_check_points, T.P_check_points) (by simp [LK.Tx.cs]), hB (T.c_check_system, T.P_check_system) (by simp [LK.Tx.cs]), hB (T.c_solutions, T.P_solutions) (by simp [LK.Tx.cs])⟩) LK.law_true
