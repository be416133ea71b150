import PyProof.Rows.All
import Wide.All
import OpenK.AllK
import Wide.FinOn
import HandS.ForMost
import HandS.ForExc
import HandS.TupAny
import HandS.TupMul
import HandS.IsInst
import HandS.Wide
import HandS.StrMore
import HandS.Zip
import HandS.Rev
import KE.DataEq
import KE.DataCmp
import HandS.RaiseMore
import HandS.WordsDict
import HandS.Steps
import PyProof.ListStr
import PyProof.TupleOfStr
import KE.GoesNew
import KE.GoesMore
import HandS.Ends
import PyProof.StrLawsIn
import PyProof.StrLawsRepr
import KE.SortData
import PySem.Challenge.RW_tallyhouse_k01_digits_tickets_and_rolls
set_option Elab.async false
set_option maxRecDepth 100000
set_option linter.all false
namespace TL
open PySem L2

/-! ### data -/
inductive D where
  | non | bl (b : Bool) | int (i : Int) | str (x : Str)
  | tup (xs : List D) | lst (xs : List D) | dct (kvs : List (Key × D)) | obj (C : Addr) (fs : List (Str × D)) | scr (ns : List Int)

mutual
inductive Rep (K : PySem.W.Frag) (H : Hp) : V → D → Prop
  | non : Rep K H .non .non
  | bl (b : Bool) : Rep K H (.bl b) (.bl b)
  | int (i : Int) : Rep K H (.int i) (.int i)
  | str (x : Str) : Rep K H (.str x) (.str x)
  | tup {a : Addr} {xs : List V} {ds : List D} : SqT K H a xs → RepL K H xs ds → Rep K H (.ref a) (.tup ds)
  | lst {a : Addr} {xs : List V} {ds : List D} : H a = some (.lst xs) → RepL K H xs ds → Rep K H (.ref a) (.lst ds)
  | dct {a : Addr} {xs : List (Key × V)} {ds : List (Key × D)} : H a = some (.dK xs) → RepK K H xs ds → Rep K H (.ref a) (.dct ds)
  | obj {a C dx : Addr} {xs : List (Str × V)} {ds : List (Str × D)} : H a = some (.ins C dx xs) → RepF K H xs ds → Rep K H (.ref a) (.obj C ds)
  | scr {a : Addr} {ns : List Int} : SqL K H a (ns.map V.int) → Rep K H (.ref a) (.scr ns)
inductive RepL (K : PySem.W.Frag) (H : Hp) : List V → List D → Prop
  | nil : RepL K H [] []
  | cons {v : V} {vs : List V} {d : D} {ds : List D} : Rep K H v d → RepL K H vs ds → RepL K H (v :: vs) (d :: ds)
inductive RepK (K : PySem.W.Frag) (H : Hp) : List (Key × V) → List (Key × D) → Prop
  | nil : RepK K H [] []
  | cons {k : Key} {v : V} {vs : List (Key × V)} {d : D} {ds : List (Key × D)} : Rep K H v d → RepK K H vs ds → RepK K H ((k, v) :: vs) ((k, d) :: ds)
inductive RepF (K : PySem.W.Frag) (H : Hp) : List (Str × V) → List (Str × D) → Prop
  | nil : RepF K H [] []
  | cons {k : Str} {v : V} {vs : List (Str × V)} {d : D} {ds : List (Str × D)} : Rep K H v d → RepF K H vs ds → RepF K H ((k, v) :: vs) ((k, d) :: ds)
end

def Ex (H H' : Hp) : Prop := ∀ a o, H a = some o → H' a = some o
theorem Ex.refl (H : Hp) : Ex H H := fun _ _ h => h
theorem Ex.trans {H H1 H2 : Hp} (a : Ex H H1) (b : Ex H1 H2) : Ex H H2 := fun x o h => b x o (a x o h)
theorem Ex.new {H : Hp} {p : Addr} {o : HO} (h : H p = none) : Ex H (upd H p o) := fun a u e => by
  rw [upd_ne (ne_of_none e h)]; exact e
theorem Ex.rd {H H' : Hp} {a : Addr} {u : HO} (e : Ex H H') (h : Rd H a u) : Rd H' a u := by
  rcases h with h | ⟨o, h⟩
  · exact Or.inl (e a _ h)
  · exact Or.inr ⟨o, e a _ h⟩
theorem Ex.sqt {K : PySem.W.Frag} {H H' : Hp} {a : Addr} {xs : List V} (e : Ex H H') (h : SqT K H a xs) : SqT K H' a xs := h.elim (fun h => .inl (e.rd h)) .inr
theorem Ex.sql {K : PySem.W.Frag} {H H' : Hp} {a : Addr} {xs : List V} (e : Ex H H') (h : SqL K H a xs) : SqL K H' a xs := h.elim (fun h => .inl (e.rd h)) .inr
theorem Ex.back {H H' : Hp} {p : Addr} (e : Ex H H') (h : H' p = none) : H p = none := by
  cases h1 : H p with
  | none => rfl
  | some o => rw [e p o h1] at h; cases h

mutual
theorem Rep.mono {K : PySem.W.Frag} {H H' : Hp} (e : Ex H H') {v : V} {d : D} : Rep K H v d → Rep K H' v d
  | .non => .non
  | .bl b => .bl b
  | .int i => .int i
  | .str x => .str x
  | .tup h l => .tup (e.sqt h) (RepL.mono e l)
  | .lst h l => .lst (e _ _ h) (RepL.mono e l)
  | .dct h l => .dct (e _ _ h) (RepK.mono e l)
  | .obj h l => .obj (e _ _ h) (RepF.mono e l)
  | .scr h => .scr (e.sql h)
theorem RepL.mono {K : PySem.W.Frag} {H H' : Hp} (e : Ex H H') {v : List V} {d : List D} : RepL K H v d → RepL K H' v d
  | .nil => .nil
  | .cons h l => .cons (Rep.mono e h) (RepL.mono e l)
theorem RepK.mono {K : PySem.W.Frag} {H H' : Hp} (e : Ex H H') {v : List (Key × V)} {d : List (Key × D)} : RepK K H v d → RepK K H' v d
  | .nil => .nil
  | .cons h l => .cons (Rep.mono e h) (RepK.mono e l)
theorem RepF.mono {K : PySem.W.Frag} {H H' : Hp} (e : Ex H H') {v : List (Str × V)} {d : List (Str × D)} : RepF K H v d → RepF K H' v d
  | .nil => .nil
  | .cons h l => .cons (Rep.mono e h) (RepF.mono e l)
end

section
variable {K : PySem.W.Frag} {H : Hp}
theorem RepL.length : ∀ {xs : List V} {ds : List D}, RepL K H xs ds → xs.length = ds.length
  | _, _, .nil => rfl
  | _, _, .cons _ t => by rw [List.length_cons, List.length_cons, RepL.length t]
theorem RepL.get : ∀ {xs : List V} {ds : List D} {i : Nat} {d : D}, RepL K H xs ds → ds[i]? = some d → ∃ v, xs[i]? = some v ∧ Rep K H v d
  | _, _, _, _, .nil, h => by simp at h
  | _, _, 0, _, .cons r _, h => by simp at h; subst h; exact ⟨_, rfl, r⟩
  | _, _, i + 1, _, .cons _ t, h => by
    obtain ⟨v, h1, h2⟩ := RepL.get (i := i) t (by simpa using h)
    exact ⟨v, by simpa using h1, h2⟩
theorem RepL.getV : ∀ {xs : List V} {ds : List D} {i : Nat} {v : V}, RepL K H xs ds → xs[i]? = some v → ∃ d, ds[i]? = some d ∧ Rep K H v d
  | _, _, _, _, .nil, h => by simp at h
  | _, _, 0, _, .cons r _, h => by simp at h; subst h; exact ⟨_, rfl, r⟩
  | _, _, i + 1, _, .cons _ t, h => by
    obtain ⟨v, h1, h2⟩ := RepL.getV (i := i) t (by simpa using h)
    exact ⟨v, by simpa using h1, h2⟩
theorem RepL.append : ∀ {xs ys : List V} {ds es : List D}, RepL K H xs ds → RepL K H ys es → RepL K H (xs ++ ys) (ds ++ es)
  | _, _, _, _, .nil, r => r
  | _, _, _, _, .cons h t, r => .cons h (t.append r)
theorem RepL.snoc {xs : List V} {ds : List D} {v : V} {d : D} (h : RepL K H xs ds) (r : Rep K H v d) : RepL K H (xs ++ [v]) (ds ++ [d]) := h.append (.cons r .nil)
theorem RepL.drop : ∀ {xs : List V} {ds : List D} (n : Nat), RepL K H xs ds → RepL K H (xs.drop n) (ds.drop n)
  | _, _, 0, r => r
  | _, _, _ + 1, .nil => .nil
  | _, _, n + 1, .cons _ t => RepL.drop n t
theorem RepL.take : ∀ {xs : List V} {ds : List D} (n : Nat), RepL K H xs ds → RepL K H (xs.take n) (ds.take n)
  | _, _, 0, _ => .nil
  | _, _, _ + 1, .nil => .nil
  | _, _, n + 1, .cons r t => .cons r (RepL.take n t)
theorem RepL.reverse : ∀ {xs : List V} {ds : List D}, RepL K H xs ds → RepL K H xs.reverse ds.reverse
  | _, _, .nil => .nil
  | _, _, .cons r t => by rw [List.reverse_cons, List.reverse_cons]; exact t.reverse.snoc r
theorem RepL.dropLast {xs : List V} {ds : List D} (h : RepL K H xs ds) : RepL K H xs.dropLast ds.dropLast := by
  rw [List.dropLast_eq_take, List.dropLast_eq_take, h.length]; exact h.take _
theorem RepL.set : ∀ {xs : List V} {ds : List D} (i : Nat) {v : V} {d : D}, RepL K H xs ds → Rep K H v d → RepL K H (xs.set i v) (ds.set i d)
  | _, _, _, _, _, .nil, _ => .nil
  | _, _, 0, _, _, .cons _ t, r => .cons r t
  | _, _, i + 1, _, _, .cons q t, r => .cons q (RepL.set i t r)
theorem RepL.ints : ∀ {xs : List V} (ns : List Int), RepL K H xs (ns.map D.int) → xs = ns.map V.int
  | _, [], .nil => rfl
  | _, n :: ns, .cons r t => by cases r; rw [RepL.ints ns t, List.map_cons]
theorem RepL.strs : ∀ {xs : List V} (ns : List Str), RepL K H xs (ns.map D.str) → xs = ns.map V.str
  | _, [], .nil => rfl
  | _, n :: ns, .cons r t => by cases r; rw [RepL.strs ns t, List.map_cons]
theorem RepL.bools : ∀ {xs : List V} (ns : List Bool), RepL K H xs (ns.map D.bl) → xs = ns.map V.bl
  | _, [], .nil => rfl
  | _, n :: ns, .cons r t => by cases r; rw [RepL.bools ns t, List.map_cons]
theorem RepL.of_ints : ∀ (ns : List Int), RepL K H (ns.map V.int) (ns.map D.int)
  | [] => .nil
  | n :: ns => .cons (.int n) (RepL.of_ints ns)
theorem RepL.of_strs : ∀ (ns : List Str), RepL K H (ns.map V.str) (ns.map D.str)
  | [] => .nil
  | n :: ns => .cons (.str n) (RepL.of_strs ns)
end

/-! ### what is owned -/
def Fz (S : List Addr) (H : Hp) : Hp := fun a => if a ∈ S then none else H a
section
variable {S S' : List Addr} {H H' : Hp} {a p : Addr} {o : HO}
theorem Fz.le : Ex (Fz S H) H := fun a o h => by unfold Fz at h; split at h <;> first | cases h | exact h
theorem Fz.ex (e : Ex H H') : Ex (Fz S H) (Fz S H') := fun a o h => by
  unfold Fz at h ⊢
  split at h
  · cases h
  · rename_i n; rw [if_neg n]; exact e a o h
theorem Fz.sub (h : ∀ a ∈ S, a ∈ S') : Ex (Fz S' H) (Fz S H) := fun a o e => by
  unfold Fz at e ⊢
  split at e
  · cases e
  · rename_i n; rw [if_neg fun m => n (h a m)]; exact e
theorem Fz.out (h : a ∉ S) : Fz S H a = H a := by unfold Fz; rw [if_neg h]
theorem Fz.own (h : a ∈ S) : Fz S H a = none := by unfold Fz; rw [if_pos h]
/-- an owned one is changed -/
theorem Fz.upd_own (h : p ∈ S) : Fz S (upd H p o) = Fz S H := by
  funext a; unfold Fz
  by_cases m : a ∈ S
  · rw [if_pos m, if_pos m]
  · rw [if_neg m, if_neg m, upd_ne (fun e => m (by rw [e]; exact h))]
/-- a new owned one -/
theorem Fz.upd_new (h : H p = none) : Ex (Fz S H) (Fz (p :: S) (upd H p o)) := fun a u e => by
  have q := Fz.le a u e
  have n : a ≠ p := ne_of_none q h
  have m : a ∉ S := fun m => by rw [Fz.own m] at e; cases e
  rw [Fz.out (by simp [n, m]), upd_ne n]; exact q
end
end TL

namespace TL
open PySem L2

/-- the deck of draws -/
structure Dk where
  cells : List Int
  mixed : Int
  turn : Int
  dr : Bool
def Dk.kt (s : Dk) : Str := if s.dr = true then "draws" else "turn"

/-- what a name holds: not told, data, an own list, an own dict, the deck -/
inductive Cell where
  | no | d (x : D) | ol (ds : List D) | od (kvs : List (Key × D)) | dk (s : Dk)

def DkAt (H : Hp) (d l : Addr) (s : Dk) : Prop :=
  H d = some (.dK [(.inr "cells", .ref l), (.inr "mixed", .int s.mixed), (.inr s.kt, .int s.turn)]) ∧ H l = some (.lst (s.cells.map V.int)) ∧ d ≠ l

def CellR (K : PySem.W.Frag) (S : List Addr) (H : Hp) (as : List Addr) (o : Option V) : Cell → Prop
  | .no => as = []
  | .d x => as = [] ∧ ∃ v, o = some v ∧ Rep K (Fz S H) v x
  | .ol ds => ∃ p xs, as = [p] ∧ o = some (.ref p) ∧ H p = some (.lst xs) ∧ RepL K (Fz S H) xs ds
  | .od ds => ∃ p xs, as = [p] ∧ o = some (.ref p) ∧ H p = some (.dK xs) ∧ RepK K (Fz S H) xs ds
  | .dk s => ∃ d l, as = [d, l] ∧ o = some (.ref d) ∧ DkAt H d l s

/-- the def's entry: the heap, what is not to be touched, what may be changed of it -/
structure Cn where
  H0 : Hp
  S0 : List Addr
  T : Addr → Prop
  loc : Prop
  tl : List Addr
/-- a def's own entry: what may be changed is nothing, or a deck -/
structure CnL where
  H0 : Hp
  S0 : List Addr
  tl : List Addr
  two : tl = [] ∨ ∃ a b, a ≠ b ∧ tl = [a, b]
def CnL.up (c : CnL) : Cn := ⟨c.H0, c.S0, fun a => a ∈ c.tl, True, c.tl⟩
instance : Coe CnL Cn := ⟨CnL.up⟩

structure SR (K : PySem.W.Frag) (c : Cn) (S : List Addr) (own : Nat → List Addr) (σ : St) (H : Hp) (ρ : List Cell) : Prop where
  len : σ.length = ρ.length
  cell : ∀ i x, ρ[i]? = some x → CellR K S H (own i) (σ[i]?.join) x
  apart : ∀ i j, i ≠ j → ∀ a ∈ own i, a ∉ own j
  ownS : ∀ i, ∀ a ∈ own i, a ∈ S ∧ (c.T a ∨ c.H0 a = none)
  sub : ∀ a ∈ c.S0, a ∈ S
  trk : ∀ a ∈ S, (H a).isSome = true
  trk0 : ∀ a ∈ c.S0, (c.H0 a).isSome = true
  keep : ∀ a o, c.H0 a = some o → ¬ c.T a → H a = some o
  tS : ∀ a, c.T a → a ∈ c.S0
  tdk : c.loc → c.tl ≠ [] → own 0 = c.tl

theorem CellR.ex {K : PySem.W.Frag} {S : List Addr} {H H' : Hp} {as : List Addr} {o : Option V} (e : Ex H H') : ∀ {x : Cell}, CellR K S H as o x → CellR K S H' as o x
  | .no, h => h
  | .d _, ⟨ha, v, h, r⟩ => ⟨ha, v, h, r.mono (Fz.ex e)⟩
  | .ol _, ⟨p, xs, ha, h, hp, r⟩ => ⟨p, xs, ha, h, e _ _ hp, r.mono (Fz.ex e)⟩
  | .od _, ⟨p, xs, ha, h, hp, r⟩ => ⟨p, xs, ha, h, e _ _ hp, r.mono (Fz.ex e)⟩
  | .dk _, ⟨d, l, ha, h, h1, h2, h3⟩ => ⟨d, l, ha, h, e _ _ h1, e _ _ h2, h3⟩
section
variable {K : PySem.W.Frag} {c : Cn} {S : List Addr} {own : Nat → List Addr} {σ : St} {H H' : Hp} {ρ : List Cell}
theorem SR.ex (r : SR K c S own σ H ρ) (e : Ex H H') : SR K c S own σ H' ρ :=
  ⟨r.len, fun i x h => (r.cell i x h).ex e, r.apart, r.ownS, r.sub, fun a h => by
    have := r.trk a h
    cases q : H a with
    | none => rw [q] at this; cases this
    | some o => rw [e a o q]; rfl, r.trk0, fun a o h n => e a o (r.keep a o h n), r.tS, r.tdk⟩
theorem SR.new {p : Addr} (r : SR K c S own σ H ρ) (h : H p = none) : p ∉ S := fun m => by
  have := r.trk p m
  rw [h] at this; cases this
theorem SR.fresh0 {p : Addr} (r : SR K c S own σ H ρ) (h : H p = none) : c.H0 p = none := by
  cases q : c.H0 p with
  | none => rfl
  | some o =>
    by_cases t : c.T p
    · exact absurd (r.sub p (r.tS p t)) (r.new h)
    · rw [r.keep p o q t] at h; cases h
theorem SR.dat {i : Nat} {x : D} (r : SR K c S own σ H ρ) (h : ρ[i]? = some (.d x)) : ∃ v, σ[i]? = some (some v) ∧ Rep K (Fz S H) v x := by
  obtain ⟨_, v, e, q⟩ := r.cell i _ h
  refine ⟨v, ?_, q⟩
  cases z : σ[i]? with
  | none => rw [z] at e; cases e
  | some o => rw [z] at e; exact congrArg some e
end

/-! ### mirrors: what a piece of the text does to the names -/
abbrev ME := List Cell → Option (D × List Cell)
abbrev MT := List Cell → Option (Bool × List Cell)
abbrev MA := List Cell → Option (List D × List Cell)
inductive Res where
  | nx (ρ : List Cell) | rt (d : D) (ρ : List Cell) | bk (ρ : List Cell) | ct (ρ : List Cell)
abbrev MS := List Cell → Option Res

/-- the reading that a mirror asks -/
def teOf (K : PySem.W.Frag) (m : ME) : TE := fun σ H Q => ∃ c S own ρ d ρ', SR K c S own σ H ρ ∧ m ρ = some (d, ρ') ∧
  ∀ v H', Ex (Fz S H) (Fz S H') → SR K c S own σ H' ρ' → Rep K (Fz S H') v d → Q v H'
def ttOf (K : PySem.W.Frag) (m : MT) : TT := fun σ H Q => ∃ c S own ρ d ρ', SR K c S own σ H ρ ∧ m ρ = some (d, ρ') ∧
  ∀ H', Ex (Fz S H) (Fz S H') → SR K c S own σ H' ρ' → Q d H'
def taOf (K : PySem.W.Frag) (m : MA) : TA := fun σ H Q => ∃ c S own ρ ds ρ', SR K c S own σ H ρ ∧ m ρ = some (ds, ρ') ∧
  ∀ vs H', Ex (Fz S H) (Fz S H') → SR K c S own σ H' ρ' → RepL K (Fz S H') vs ds → Q vs H'
def EndsOk (K : PySem.W.Frag) (c : Cn) (S : List Addr) (H : Hp) (D : Ends) : Res → Prop
  | .nx ρ' => ∀ S' own' σ' H', Ex (Fz S H) (Fz S' H') → SR K c S' own' σ' H' ρ' → D.nx σ' H'
  | .rt d ρ' => ∀ v S' own' σ' H', Ex (Fz S H) (Fz S' H') → SR K c S' own' σ' H' ρ' → Rep K (Fz c.S0 H') v d → D.rt v H'
  | .bk ρ' => ∀ S' own' σ' H', Ex (Fz S H) (Fz S' H') → SR K c S' own' σ' H' ρ' → D.bk σ' H'
  | .ct ρ' => ∀ S' own' σ' H', Ex (Fz S H) (Fz S' H') → SR K c S' own' σ' H' ρ' → D.ct σ' H'
def tsOf (K : PySem.W.Frag) (m : MS) : TS := fun D σ H => ∃ (c : CnL) (S : List Addr) (own : Nat → List Addr) (ρ : List Cell) (r : Res), SR K c S own σ H ρ ∧ m ρ = some r ∧ EndsOk K c S H D r

abbrev PEM (X : Cx) (e : Expr) (m : ME) : Prop := PE X e (teOf X.K m)
abbrev PTM (X : Cx) (e : Expr) (m : MT) : Prop := PT X e (ttOf X.K m)
abbrev PWM (X : Cx) (e : Expr) (m : MT) : Prop := PW X e (ttOf X.K m)
abbrev PAM (X : Cx) (es : List Expr) (m : MA) : Prop := PA X es (taOf X.K m)
abbrev PSM (X : Cx) (st : Stmt) (m : MS) : Prop := PS X st (tsOf X.K m)
abbrev PSSM (X : Cx) (st : List Stmt) (m : MS) : Prop := PSs X st (tsOf X.K m)

section
variable {X : Cx}
theorem PE.to {e : Expr} {t t' : TE} (h : PE X e t) (q : ∀ σ H Q, t' σ H Q → t σ H Q) : PE X e t' := ⟨fun pins s σ H Q I z => h.run pins s σ H Q I (q σ H Q z)⟩
theorem PT.to {e : Expr} {t t' : TT} (h : PT X e t) (q : ∀ σ H Q, t' σ H Q → t σ H Q) : PT X e t' := ⟨fun pins s σ H Q I z => h.run pins s σ H Q I (q σ H Q z)⟩
theorem PW.to {e : Expr} {t t' : TT} (h : PW X e t) (q : ∀ σ H Q, t' σ H Q → t σ H Q) : PW X e t' := ⟨fun wh pins s σ H Q I z => h.run wh pins s σ H Q I (q σ H Q z)⟩
theorem PA.to {e : List Expr} {t t' : TA} (h : PA X e t) (q : ∀ σ H Q, t' σ H Q → t σ H Q) : PA X e t' := ⟨fun pos pins s σ H Q I z => h.run pos pins s σ H Q I (q σ H Q z)⟩
theorem PS.to {e : Stmt} {t t' : TS} (h : PS X e t) (q : ∀ D σ H, t' D σ H → t D σ H) : PS X e t' := ⟨fun pins s σ H D I z => h.run pins s σ H D I (q D σ H z)⟩
theorem PSs.to {e : List Stmt} {t t' : TS} (h : PSs X e t) (q : ∀ D σ H, t' D σ H → t D σ H) : PSs X e t' := ⟨fun pins s σ H D I z => h.run pins s σ H D I (q D σ H z)⟩
end

section
variable {K : PySem.W.Frag} {c : Cn} {S : List Addr} {own : Nat → List Addr} {σ : St} {H H' : Hp} {ρ ρ' : List Cell}
theorem SR.enter (r : SR K c S own σ H ρ) : SR K ⟨H, S, fun a => ∃ i, a ∈ own i, False, []⟩ S own σ H ρ :=
  ⟨r.len, r.cell, r.apart, fun i a h => ⟨(r.ownS i a h).1, .inl ⟨i, h⟩⟩, fun _ h => h, r.trk, r.trk, fun _ _ h _ => h, fun a ⟨i, h⟩ => (r.ownS i a h).1, False.elim⟩
theorem SR.leave (r : SR K c S own σ H ρ) (q : SR K ⟨H, S, fun a => ∃ i, a ∈ own i, False, []⟩ S own σ H' ρ') : SR K c S own σ H' ρ' :=
  ⟨q.len, q.cell, q.apart, r.ownS, r.sub, q.trk, r.trk0, fun a o h n => q.keep a o (r.keep a o h n) (fun ⟨i, m⟩ => (r.ownS i a m).2.elim n fun z => by rw [h] at z; cases z), r.tS, r.tdk⟩
theorem teOf.mk {m : ME} {d : D} {Q : VK} (r : SR K c S own σ H ρ) (hm : m ρ = some (d, ρ')) (k : ∀ v H', Ex (Fz S H) (Fz S H') → SR K c S own σ H' ρ' → Rep K (Fz S H') v d → (∀ a o, (∀ i, a ∉ own i) → H a = some o → H' a = some o) → Q v H') : teOf K m σ H Q :=
  ⟨_, S, own, ρ, d, ρ', r.enter, hm, fun v H' e q z => k v H' e (r.leave q) z fun a o n h => q.keep a o h fun ⟨i, m⟩ => n i m⟩
theorem ttOf.mk {m : MT} {d : Bool} {Q : Bool → Hp → Prop} (r : SR K c S own σ H ρ) (hm : m ρ = some (d, ρ')) (k : ∀ H', Ex (Fz S H) (Fz S H') → SR K c S own σ H' ρ' → (∀ a o, (∀ i, a ∉ own i) → H a = some o → H' a = some o) → Q d H') : ttOf K m σ H Q :=
  ⟨_, S, own, ρ, d, ρ', r.enter, hm, fun H' e q => k H' e (r.leave q) fun a o n h => q.keep a o h fun ⟨i, m⟩ => n i m⟩
end

/-! ### expressions -/
def mVar (i : Nat) : ME := fun ρ => match ρ[i]? with
  | some (.d x) => some (x, ρ)
  | _ => none
def mC (d : D) : ME := fun ρ => some (d, ρ)
def mBin (f : D → D → Option D) (ma mb : ME) : ME := fun ρ => (ma ρ).bind fun p => (mb p.2).bind fun q => (f p.1 q.1).map fun d => (d, q.2)
def mUn (f : D → Option D) (ma : ME) : ME := fun ρ => (ma ρ).bind fun p => (f p.1).map fun d => (d, p.2)
def mNil : MA := fun ρ => some ([], ρ)
def mCons (ma : ME) (mr : MA) : MA := fun ρ => (ma ρ).bind fun p => (mr p.2).bind fun q => some (p.1 :: q.1, q.2)
def mApp (f : List D → Option D) (ma : MA) : ME := fun ρ => (ma ρ).bind fun p => (f p.1).map fun d => (d, p.2)

section
variable {K : PySem.W.Frag} {ma mb : ME} {m : ME}
theorem em_var {i : Nat} (σ : St) (H : Hp) (Q : VK) : teOf K (mVar i) σ H Q → tVar i σ H Q := by
  rintro ⟨c, S, own, ρ, d, ρ', r, hm, k⟩
  unfold mVar at hm
  split at hm
  · rename_i x hx
    cases hm
    obtain ⟨v, e, q⟩ := r.dat hx
    exact ⟨v, e, k v H (Ex.refl _) r q⟩
  · cases hm
theorem em_c {v : V} {d : D} (hr : ∀ H, Rep K H v d) (σ : St) (H : Hp) (Q : VK) : teOf K (mC d) σ H Q → tC v σ H Q := by
  rintro ⟨c, S, own, ρ, d', ρ', r, hm, k⟩
  cases hm
  exact k v H (Ex.refl _) r (hr _)
/-- an operation on values does f on data -/
def RO (K : PySem.W.Frag) (r : R2) (f : D → D → Option D) : Prop := ∀ (S : List Addr) (H : Hp) (x y : V) (a b d : D) (Q : VK), Rep K (Fz S H) x a → Rep K (Fz S H) y b → f a b = some d → (∀ a ∈ S, (H a).isSome = true) →
  (∀ v H', Ex H H' → Rep K (Fz S H') v d → Q v H') → r x y H Q
def RU (K : PySem.W.Frag) (r : V → Hp → VK → Prop) (f : D → Option D) : Prop := ∀ (S : List Addr) (H : Hp) (x : V) (a d : D) (Q : VK), Rep K (Fz S H) x a → f a = some d → (∀ a ∈ S, (H a).isSome = true) →
  (∀ v H', Ex H H' → Rep K (Fz S H') v d → Q v H') → r x H Q
def RC (K : PySem.W.Frag) (r : List V → Hp → VK → Prop) (f : List D → Option D) : Prop := ∀ (S : List Addr) (H : Hp) (xs : List V) (as : List D) (d : D) (Q : VK), RepL K (Fz S H) xs as → f as = some d → (∀ a ∈ S, (H a).isSome = true) →
  (∀ v H', Ex H H' → Rep K (Fz S H') v d → Q v H') → r xs H Q
theorem em_op {r : R2} {f : D → D → Option D} (hr : RO K r f) (σ : St) (H : Hp) (Q : VK) : teOf K (mBin f ma mb) σ H Q → tOp r (teOf K ma) (teOf K mb) σ H Q := by
  rintro ⟨c, S, own, ρ, d, ρ', sr, hm, k⟩
  unfold mBin at hm
  simp only [Option.bind_eq_some_iff, Option.map_eq_some_iff] at hm
  obtain ⟨⟨a, ρ1⟩, h1, ⟨b, ρ2⟩, h2, d', h3, e⟩ := hm
  cases e
  refine ⟨c, S, own, ρ, a, ρ1, sr, h1, fun v H1 e1 sr1 r1 => ⟨c, S, own, ρ1, b, ρ2, sr1, h2, fun u H2 e2 sr2 r2 => ?_⟩⟩
  exact hr S H2 v u a b d Q (r1.mono e2) r2 h3 sr2.trk fun w H3 e3 r3 => k w H3 ((e1.trans e2).trans (Fz.ex e3)) (sr2.ex e3) r3
theorem em_un {r : V → Hp → VK → Prop} {f : D → Option D} (hr : RU K r f) (σ : St) (H : Hp) (Q : VK) : teOf K (mUn f ma) σ H Q → tUn r (teOf K ma) σ H Q := by
  rintro ⟨c, S, own, ρ, d, ρ', sr, hm, k⟩
  unfold mUn at hm
  simp only [Option.bind_eq_some_iff, Option.map_eq_some_iff] at hm
  obtain ⟨⟨a, ρ1⟩, h1, d', h3, e⟩ := hm
  cases e
  refine ⟨c, S, own, ρ, a, ρ1, sr, h1, fun v H1 e1 sr1 r1 => ?_⟩
  exact hr S H1 v a d Q r1 h3 sr1.trk fun w H3 e3 r3 => k w H3 (e1.trans (Fz.ex e3)) (sr1.ex e3) r3
theorem ea_nil (σ : St) (H : Hp) (Q : List V → Hp → Prop) : taOf K mNil σ H Q → tNil σ H Q := by
  rintro ⟨c, S, own, ρ, d, ρ', sr, hm, k⟩
  cases hm
  exact k [] H (Ex.refl _) sr .nil
theorem ea_cons {mr : MA} (σ : St) (H : Hp) (Q : List V → Hp → Prop) : taOf K (mCons ma mr) σ H Q → tCons (teOf K ma) (taOf K mr) σ H Q := by
  rintro ⟨c, S, own, ρ, d, ρ', sr, hm, k⟩
  unfold mCons at hm
  simp only [Option.bind_eq_some_iff] at hm
  obtain ⟨⟨a, ρ1⟩, h1, ⟨b, ρ2⟩, h2, e⟩ := hm
  cases e
  exact ⟨c, S, own, ρ, a, ρ1, sr, h1, fun v H1 e1 sr1 r1 => ⟨c, S, own, ρ1, b, ρ2, sr1, h2, fun u H2 e2 sr2 r2 => k _ H2 (e1.trans e2) sr2 (.cons (r1.mono e2) r2)⟩⟩
theorem em_cb {r : List V → Hp → VK → Prop} {f : List D → Option D} {mr : MA} (hr : RC K r f) (σ : St) (H : Hp) (Q : VK) : teOf K (mApp f mr) σ H Q → tCB r (taOf K mr) σ H Q := by
  rintro ⟨c, S, own, ρ, d, ρ', sr, hm, k⟩
  unfold mApp at hm
  simp only [Option.bind_eq_some_iff, Option.map_eq_some_iff] at hm
  obtain ⟨⟨a, ρ1⟩, h1, d', h3, e⟩ := hm
  cases e
  refine ⟨c, S, own, ρ, a, ρ1, sr, h1, fun v H1 e1 sr1 r1 => ?_⟩
  exact hr S H1 v a d Q r1 h3 sr1.trk fun w H3 e3 r3 => k w H3 (e1.trans (Fz.ex e3)) (sr1.ex e3) r3
end
theorem nin_of {S : List Addr} {H : Hp} {p : Addr} (t : ∀ a ∈ S, (H a).isSome = true) (h : H p = none) : p ∉ S := fun m => by
  have := t p m
  rw [h] at this; cases this
/-- a new object, made of what is there -/
theorem fz_new {S : List Addr} {H : Hp} {p : Addr} {o : HO} (t : ∀ a ∈ S, (H a).isSome = true) (h : H p = none) : Fz S (upd H p o) p = some o := by
  rw [Fz.out (nin_of t h), upd_same]

/-- a display -/
def dTup (ds : List D) : Option D := if ds.length ≤ sizeLine then some (.tup ds) else none
def dLst (ds : List D) : Option D := if ds.length ≤ sizeLine then some (.lst ds) else none
section
variable {X : Cx}
theorem pem_var (i : Nat) {x : Str} {pos : Pos} (h : PE X (.Name x pos) (tVar i)) : PEM X (.Name x pos) (mVar i) := PE.to h em_var
theorem pem_int {i j pos} : PEM X (.Constant (.int i) j pos) (mC (.int i)) := PE.to pe_int (em_c fun _ => .int i)
theorem pem_bl {i j pos} : PEM X (.Constant (.bool i) j pos) (mC (.bl i)) := PE.to pe_bl (em_c fun _ => .bl i)
theorem pem_str {i j pos} : PEM X (.Constant (.str i) j pos) (mC (.str i)) := PE.to pe_str (em_c fun _ => .str i)
theorem pem_non {j pos} : PEM X (.Constant .none j pos) (mC .non) := PE.to pe_non (em_c fun _ => .non)
theorem pam_nil : PAM X [] mNil := PA.to pa_nil ea_nil
theorem pam_cons {e : Expr} {es : List Expr} {ma : ME} {mr : MA} (ha : PEM X e ma) (hr : PAM X es mr) (hs : starEach (e :: es) X.env = (false, eval e X.env) :: starEach es X.env := by rfl) : PAM X (e :: es) (mCons ma mr) := PA.to (pa_cons ha hr hs) ea_cons
theorem pem_tup {es : List Expr} {mr : MA} {x1 pos} (h : PAM X es mr) : PEM X (.Tuple es x1 pos) (mApp dTup mr) := PE.to (pe_tup h) fun σ H Q q =>
  em_cb (r := fun xs H Q => xs.length ≤ sizeLine ∧ ∀ p, H p = none → Q (.ref p) (upd H p (.tup xs))) (fun S H xs as d Q r h t k => by
    unfold dTup at h
    split at h
    · rename_i hl
      cases h
      exact ⟨by rw [r.length]; exact hl, fun p hp => k _ _ (Ex.new hp) (.tup (SqT.of (fz_new t hp)) (r.mono (Fz.ex (Ex.new hp))))⟩
    · cases h) σ H Q q
theorem pem_lst {es : List Expr} {mr : MA} {pos} (h : PAM X es mr) : PEM X (.List es pos) (mApp dLst mr) := PE.to (pe_lst h) fun σ H Q q =>
  em_cb (r := fun xs H Q => xs.length ≤ sizeLine ∧ ∀ p, H p = none → Q (.ref p) (upd H p (.lst xs))) (fun S H xs as d Q r h t k => by
    unfold dLst at h
    split at h
    · rename_i hl
      cases h
      exact ⟨by rw [r.length]; exact hl, fun p hp => k _ _ (Ex.new hp) (.lst (fz_new t hp) (r.mono (Fz.ex (Ex.new hp))))⟩
    · cases h) σ H Q q
theorem pem_op {op : Operator} {a b : Expr} {ma mb : ME} {r : R2} {f : D → D → Option D} {pos} (ho : OpR X (binaryOp op) r) (hr : RO X.K r f) (ha : PEM X a ma) (hb : PEM X b mb) : PEM X (.BinOp a op b pos) (mBin f ma mb) := PE.to (pe_op ho ha hb) (em_op hr)
theorem pem_cmp {op : CmpOp} {a b : Expr} {ma mb : ME} {r : R2} {f : D → D → Option D} {pos} (ho : OpR X (compareOp op) r) (hr : RO X.K r f) (hm : behindInMarks op b = false) (ha : PEM X a ma) (hb : PEM X b mb) : PEM X (.Compare a [op] [b] pos) (mBin f ma mb) := PE.to (pe_cmpR ho ha hb hm) (em_op hr)
theorem pem_un {op : UnaryOp} {a : Expr} {ma : ME} {r} {f : D → Option D} {pos} (ho : UnR X (unaryOp op) r) (hr : RU X.K r f) (ha : PEM X a ma) : PEM X (.UnaryOp op a pos) (mUn f ma) := PE.to (pe_un ho ha) (em_un hr)
end
end TL

namespace TL
open PySem L2

/-! ### tests, and, or, not, if-else -/
def mTest (ma : ME) : MT := fun ρ => (ma ρ).bind fun p => match p.1 with
  | .bl b => some (b, p.2)
  | _ => none
def mAndT (ta tb : MT) : MT := fun ρ => (ta ρ).bind fun p => if p.1 = true then tb p.2 else some (false, p.2)
def mOrT (ta tb : MT) : MT := fun ρ => (ta ρ).bind fun p => if p.1 = true then some (true, p.2) else tb p.2
def mNotT (ta : MT) : MT := fun ρ => (ta ρ).map fun p => (!p.1, p.2)
def mIfE (t : MT) (a b : ME) : ME := fun ρ => (t ρ).bind fun p => if p.1 = true then a p.2 else b p.2
def mAndV (a b : ME) : ME := fun ρ => (a ρ).bind fun p => match p.1 with
  | .bl k => if k = true then b p.2 else some (.bl false, p.2)
  | _ => none
def mOrV (a b : ME) : ME := fun ρ => (a ρ).bind fun p => match p.1 with
  | .bl k => if k = true then some (.bl true, p.2) else b p.2
  | _ => none
def mNotV (a : ME) : ME := fun ρ => (a ρ).bind fun p => match p.1 with
  | .bl k => some (.bl (!k), p.2)
  | _ => none
def mChain (f g : D → D → Option D) (a b c : ME) : ME := fun ρ => (a ρ).bind fun p => (b p.2).bind fun q => (f p.1 q.1).bind fun z => match z with
  | .bl k => if k = true then (c q.2).bind fun r => (g q.1 r.1).map fun d => (d, r.2) else some (.bl false, q.2)
  | _ => none
section
variable {K : PySem.W.Frag} {ma mb mc : ME} {ta tb : MT} {σ : St} {H : Hp}
theorem em_test {Q : Bool → Hp → Prop} : ttOf K (mTest ma) σ H Q → tTest (teOf K ma) σ H Q := by
  rintro ⟨c, S, own, ρ, d, ρ', sr, hm, k⟩
  unfold mTest at hm
  simp only [Option.bind_eq_some_iff] at hm
  obtain ⟨⟨a, ρ1⟩, h1, h2⟩ := hm
  refine ⟨c, S, own, ρ, a, ρ1, sr, h1, fun v H1 e1 sr1 r1 => ?_⟩
  cases r1 with
  | bl b => cases h2; exact ⟨_, rfl, k H1 e1 sr1⟩
  | _ => cases h2
theorem em_and {Q : Bool → Hp → Prop} : ttOf K (mAndT ta tb) σ H Q → tAnd (ttOf K ta) (ttOf K tb) σ H Q := by
  rintro ⟨c, S, own, ρ, d, ρ', sr, hm, k⟩
  unfold mAndT at hm
  simp only [Option.bind_eq_some_iff] at hm
  obtain ⟨⟨a, ρ1⟩, h1, h2⟩ := hm
  refine ⟨c, S, own, ρ, a, ρ1, sr, h1, fun H1 e1 sr1 => ?_⟩
  cases a with
  | true => rw [if_pos rfl] at h2 ⊢; exact ⟨c, S, own, ρ1, d, ρ', sr1, h2, fun H2 e2 sr2 => k H2 (e1.trans e2) sr2⟩
  | false => rw [if_neg Bool.false_ne_true] at h2 ⊢; cases h2; exact k H1 e1 sr1
theorem em_or {Q : Bool → Hp → Prop} : ttOf K (mOrT ta tb) σ H Q → tOr (ttOf K ta) (ttOf K tb) σ H Q := by
  rintro ⟨c, S, own, ρ, d, ρ', sr, hm, k⟩
  unfold mOrT at hm
  simp only [Option.bind_eq_some_iff] at hm
  obtain ⟨⟨a, ρ1⟩, h1, h2⟩ := hm
  refine ⟨c, S, own, ρ, a, ρ1, sr, h1, fun H1 e1 sr1 => ?_⟩
  cases a with
  | false => rw [if_neg Bool.false_ne_true] at h2 ⊢; exact ⟨c, S, own, ρ1, d, ρ', sr1, h2, fun H2 e2 sr2 => k H2 (e1.trans e2) sr2⟩
  | true => rw [if_pos rfl] at h2 ⊢; cases h2; exact k H1 e1 sr1
theorem em_not {Q : Bool → Hp → Prop} : ttOf K (mNotT ta) σ H Q → tNot (ttOf K ta) σ H Q := by
  rintro ⟨c, S, own, ρ, d, ρ', sr, hm, k⟩
  unfold mNotT at hm
  simp only [Option.map_eq_some_iff] at hm
  obtain ⟨⟨a, ρ1⟩, h1, h2⟩ := hm
  cases h2
  exact ⟨c, S, own, ρ, a, ρ1, sr, h1, fun H1 e1 sr1 => k H1 e1 sr1⟩
theorem em_if {Q : VK} : teOf K (mIfE ta ma mb) σ H Q → tIf (ttOf K ta) (teOf K ma) (teOf K mb) σ H Q := by
  rintro ⟨c, S, own, ρ, d, ρ', sr, hm, k⟩
  unfold mIfE at hm
  simp only [Option.bind_eq_some_iff] at hm
  obtain ⟨⟨a, ρ1⟩, h1, h2⟩ := hm
  refine ⟨c, S, own, ρ, a, ρ1, sr, h1, fun H1 e1 sr1 => ?_⟩
  cases a with
  | true => rw [if_pos rfl] at h2 ⊢; exact ⟨c, S, own, ρ1, d, ρ', sr1, h2, fun v H2 e2 sr2 => k v H2 (e1.trans e2) sr2⟩
  | false => rw [if_neg Bool.false_ne_true] at h2 ⊢; exact ⟨c, S, own, ρ1, d, ρ', sr1, h2, fun v H2 e2 sr2 => k v H2 (e1.trans e2) sr2⟩
theorem em_andV {Q : VK} : teOf K (mAndV ma mb) σ H Q → tAndV (teOf K ma) (teOf K mb) σ H Q := by
  rintro ⟨c, S, own, ρ, d, ρ', sr, hm, k⟩
  unfold mAndV at hm
  simp only [Option.bind_eq_some_iff] at hm
  obtain ⟨⟨a, ρ1⟩, h1, h2⟩ := hm
  refine ⟨c, S, own, ρ, a, ρ1, sr, h1, fun v H1 e1 sr1 r1 => ?_⟩
  cases r1 with
  | bl b =>
    refine ⟨b, rfl, ?_⟩
    cases b with
    | true => simp only [if_true] at h2 ⊢; exact ⟨c, S, own, ρ1, d, ρ', sr1, h2, fun v H2 e2 sr2 => k v H2 (e1.trans e2) sr2⟩
    | false => simp only [Bool.false_eq_true, if_false] at h2 ⊢; cases h2; exact k _ H1 e1 sr1 (.bl _)
  | _ => cases h2
theorem em_orV {Q : VK} : teOf K (mOrV ma mb) σ H Q → tOrV (teOf K ma) (teOf K mb) σ H Q := by
  rintro ⟨c, S, own, ρ, d, ρ', sr, hm, k⟩
  unfold mOrV at hm
  simp only [Option.bind_eq_some_iff] at hm
  obtain ⟨⟨a, ρ1⟩, h1, h2⟩ := hm
  refine ⟨c, S, own, ρ, a, ρ1, sr, h1, fun v H1 e1 sr1 r1 => ?_⟩
  cases r1 with
  | bl b =>
    refine ⟨b, rfl, ?_⟩
    cases b with
    | false => simp only [Bool.false_eq_true, if_false] at h2 ⊢; exact ⟨c, S, own, ρ1, d, ρ', sr1, h2, fun v H2 e2 sr2 => k v H2 (e1.trans e2) sr2⟩
    | true => simp only [if_true] at h2 ⊢; cases h2; exact k _ H1 e1 sr1 (.bl _)
  | _ => cases h2
theorem em_notV {Q : VK} : teOf K (mNotV ma) σ H Q → tNotV (teOf K ma) σ H Q := by
  rintro ⟨c, S, own, ρ, d, ρ', sr, hm, k⟩
  unfold mNotV at hm
  simp only [Option.bind_eq_some_iff] at hm
  obtain ⟨⟨a, ρ1⟩, h1, h2⟩ := hm
  refine ⟨c, S, own, ρ, a, ρ1, sr, h1, fun v H1 e1 sr1 r1 => ?_⟩
  cases r1 with
  | bl b => cases h2; exact ⟨b, rfl, k _ H1 e1 sr1 (.bl _)⟩
  | _ => cases h2
theorem em_chain {r r' : R2} {f g : D → D → Option D} (hr : RO K r f) (hr' : RO K r' g) {Q : VK} : teOf K (mChain f g ma mb mc) σ H Q → tChain r r' (teOf K ma) (teOf K mb) (teOf K mc) σ H Q := by
  rintro ⟨c, S, own, ρ, d, ρ', sr, hm, k⟩
  unfold mChain at hm
  simp only [Option.bind_eq_some_iff] at hm
  obtain ⟨⟨a, ρ1⟩, h1, ⟨b, ρ2⟩, h2, z, h3, h4⟩ := hm
  refine ⟨c, S, own, ρ, a, ρ1, sr, h1, fun v H1 e1 sr1 r1 => ⟨c, S, own, ρ1, b, ρ2, sr1, h2, fun u H2 e2 sr2 r2 => ?_⟩⟩
  refine hr S H2 v u a b z _ (r1.mono e2) r2 h3 sr2.trk fun w H3 e3 r3 => ?_
  cases r3 with
  | bl kk =>
    refine ⟨kk, rfl, ?_⟩
    cases kk with
    | true =>
      simp only [if_true, Option.bind_eq_some_iff, Option.map_eq_some_iff] at h4 ⊢
      obtain ⟨⟨x3, ρ3⟩, h5, d', h6, e⟩ := h4
      cases e
      have es := (e1.trans e2).trans (Fz.ex (S := S) e3)
      exact ⟨c, S, own, ρ2, x3, ρ3, sr2.ex e3, h5, fun y H4 e4 sr4 r4 => hr' S H4 u y b x3 d Q ((r2.mono (Fz.ex e3)).mono e4) r4 h6 sr4.trk fun w' H5 e5 r5 => k w' H5 ((es.trans e4).trans (Fz.ex e5)) (sr4.ex e5) r5⟩
    | false =>
      simp only [Bool.false_eq_true, if_false] at h4 ⊢
      cases h4
      exact k _ H3 ((e1.trans e2).trans (Fz.ex e3)) (sr2.ex e3) (.bl _)
  | _ => cases h4
end
section
variable {X : Cx} {a b e : Expr} {rest : List Expr} {ma mb mc : ME} {ta tb : MT} {pos : Pos}
theorem ptm_val (h : PEM X e ma) (he : ∀ whole, isTrue e X.env whole = (do let v ← whole; standAt e.pos; holding [v] (truthy v)) := by intro _; rfl) : PTM X e (mTest ma) := PT.to (pt_val h he) fun _ _ _ q => em_test q
theorem ptm_cmp {op : CmpOp} {r : R2} {f : D → D → Option D} (ho : OpR X (compareOp op) r) (hr : RO X.K r f) (hm : behindInMarks op b = false) (ha : PEM X a ma) (hb : PEM X b mb) : PTM X (.Compare a [op] [b] pos) (mTest (mBin f ma mb)) :=
  PT.to (pt_cmpR ho ha hb hm) fun σ H Q q => by
    obtain ⟨c, S, own, ρ, a, ρ1, sr, h1, k⟩ := em_test q
    exact em_op hr σ H _ ⟨c, S, own, ρ, a, ρ1, sr, h1, k⟩
theorem ptm_chain {c : Expr} {op op' : CmpOp} {r r' : R2} {f g : D → D → Option D} (hr : RO X.K r f) (hr' : RO X.K r' g) (h : PT X (.Compare a [op, op'] [b, c] pos) (tTest (tChain r r' (teOf X.K ma) (teOf X.K mb) (teOf X.K mc)))) :
    PTM X (.Compare a [op, op'] [b, c] pos) (mTest (mChain f g ma mb mc)) := PT.to h fun σ H Q q => by
    obtain ⟨c, S, own, ρ, a, ρ1, sr, h1, k⟩ := em_test q
    exact em_chain hr hr' ⟨c, S, own, ρ, a, ρ1, sr, h1, k⟩
theorem pem_chain {c : Expr} {op op' : CmpOp} {r r' : R2} {f g : D → D → Option D} (hr : RO X.K r f) (hr' : RO X.K r' g) (h : PE X (.Compare a [op, op'] [b, c] pos) (tChain r r' (teOf X.K ma) (teOf X.K mb) (teOf X.K mc))) :
    PEM X (.Compare a [op, op'] [b, c] pos) (mChain f g ma mb mc) := PE.to h fun _ _ _ q => em_chain hr hr' q
theorem pwm_and1 (h : PTM X a ta) : PWM X (.BoolOp .And [a] pos) ta := pw_and1 h
theorem pwm_or1 (h : PTM X a ta) : PWM X (.BoolOp .Or [a] pos) ta := pw_or1 h
theorem pwm_and (h : PTM X a ta) (h2 : PWM X (.BoolOp .And (b :: rest) pos) tb) : PWM X (.BoolOp .And (a :: b :: rest) pos) (mAndT ta tb) := PW.to (pw_and h h2) fun _ _ _ q => em_and q
theorem pwm_or (h : PTM X a ta) (h2 : PWM X (.BoolOp .Or (b :: rest) pos) tb) : PWM X (.BoolOp .Or (a :: b :: rest) pos) (mOrT ta tb) := PW.to (pw_or h h2) fun _ _ _ q => em_or q
theorem ptm_w (h : PWM X e ta) : PTM X e ta := PW.pt h
theorem ptm_not (h : PTM X a ta) : PTM X (.UnaryOp .Not a pos) (mNotT ta) := PT.to (pt_not h) fun _ _ _ q => em_not q
theorem pem_if {c : Expr} (hc : PTM X c ta) (ha : PEM X a ma) (hb : PEM X b mb) : PEM X (.IfExp c a b pos) (mIfE ta ma mb) := PE.to (pe_ifExp hc ha hb) fun _ _ _ q => em_if q
theorem pem_one {op} (h : PEM X a ma) : PEM X (.BoolOp op [a] pos) ma := pe_one h
theorem pem_and (ha : PEM X a ma) (hb : PEM X (.BoolOp .And (b :: rest) pos) mb) : PEM X (.BoolOp .And (a :: b :: rest) pos) (mAndV ma mb) := PE.to (pe_and ha hb) fun _ _ _ q => em_andV q
theorem pem_or (ha : PEM X a ma) (hb : PEM X (.BoolOp .Or (b :: rest) pos) mb) : PEM X (.BoolOp .Or (a :: b :: rest) pos) (mOrV ma mb) := PE.to (pe_or ha hb) fun _ _ _ q => em_orV q
theorem pem_not (ha : PEM X a ma) : PEM X (.UnaryOp .Not a pos) (mNotV ma) := PE.to (pe_not ha) fun _ _ _ q => em_notV q
end

/-! ### statements -/
def mSeq (a b : MS) : MS := fun ρ => (a ρ).bind fun r => match r with
  | .nx ρ' => b ρ'
  | r => some r
def mSkip : MS := fun ρ => some (.nx ρ)
def mRet (a : ME) : MS := fun ρ => (a ρ).map fun p => .rt p.1 p.2
def mRetN : MS := fun ρ => some (.rt .non ρ)
def mBrk : MS := fun ρ => some (.bk ρ)
def mCnt : MS := fun ρ => some (.ct ρ)
def mIfS (t : MT) (a b : MS) : MS := fun ρ => (t ρ).bind fun p => if p.1 = true then a p.2 else b p.2
def mDrop (a : ME) : MS := fun ρ => (a ρ).map fun p => .nx p.2
def mNever : MS := fun _ => none
/-- a target: what the store does to the names -/
abbrev MG := D → List Cell → Option (List Cell)
abbrev MGs := List D → List Cell → Option (List Cell)
def mAsg (a : ME) (g : MG) : MS := fun ρ => (a ρ).bind fun p => (g p.1 p.2).map .nx
/-- a slot that owns nothing -/
def plainAt (ρ : List Cell) (i : Nat) : Bool := match ρ[i]? with
  | some (.d _) => true
  | some .no => true
  | _ => false
def gmName (i : Nat) : MG := fun d ρ => if plainAt ρ i = true then some (ρ.set i (.d d)) else none
def gmNil : MGs := fun ds ρ => match ds with
  | [] => some ρ
  | _ => none
def gmCons (g : MG) (gs : MGs) : MGs := fun ds ρ => match ds with
  | d :: ds => (g d ρ).bind fun ρ' => gs ds ρ'
  | [] => none
def gmTup (gs : MGs) (n : Nat) : MG := fun d ρ => match d with
  | .tup ds => if ds.length = n then gs ds ρ else none
  | _ => none
/-- a store of data into names: only slots of ts change, the heap stands -/
def GM (K : PySem.W.Frag) (g : TG) (ts : List Nat) (f : MG) : Prop := ∀ c S own σ H ρ v d ρ' (Q : St → Hp → Prop), SR K c S own σ H ρ → Rep K (Fz S H) v d → f d ρ = some ρ' →
  (∀ own' σ', σ'.length = σ.length → (∀ i, i ∉ ts → σ'[i]? = σ[i]? ∧ ρ'[i]? = ρ[i]? ∧ own' i = own i) → (∀ i a, a ∈ own' i → a ∈ own i) → SR K c S own' σ' H ρ' → Q σ' H) → g v σ H Q
def GMs (K : PySem.W.Frag) (g : TGs) (ts : List Nat) (f : MGs) : Prop := ∀ c S own σ H ρ vs ds ρ' (Q : St → Hp → Prop), SR K c S own σ H ρ → RepL K (Fz S H) vs ds → f ds ρ = some ρ' →
  (∀ own' σ', σ'.length = σ.length → (∀ i, i ∉ ts → σ'[i]? = σ[i]? ∧ ρ'[i]? = ρ[i]? ∧ own' i = own i) → (∀ i a, a ∈ own' i → a ∈ own i) → SR K c S own' σ' H ρ' → Q σ' H) → g vs σ H Q

section
variable {K : PySem.W.Frag} {c : Cn} {S : List Addr} {own : Nat → List Addr} {σ : St} {H : Hp} {ρ : List Cell}
/-- a name is stored: it owns nothing -/
theorem SR.plain {i : Nat} (r : SR K c S own σ H ρ) (h : plainAt ρ i = true) : own i = [] := by
  unfold plainAt at h
  split at h
  · rename_i e; exact (r.cell i _ e).1
  · rename_i e; exact r.cell i _ e
  · cases h
theorem SR.set {i : Nat} {v : V} {d : D} (r : SR K c S own σ H ρ) (hp : own i = []) (q : Rep K (Fz S H) v d) : SR K c S (fun j => if j = i then [] else own j) (σ.set i (some v)) H (ρ.set i (.d d)) := by
  refine ⟨by rw [List.length_set, List.length_set]; exact r.len, fun j x h => ?_, fun j k n a => ?_, fun j a h => ?_, r.sub, r.trk, r.trk0, r.keep, r.tS, fun l => ?_⟩
  · by_cases e : j = i
    · subst e
      have hl : j < ρ.length := by
        have := (List.getElem?_eq_some_iff.mp h).1
        simpa using this
      rw [List.getElem?_set_self hl] at h
      cases h
      refine ⟨if_pos rfl, v, ?_, q⟩
      rw [List.getElem?_set_self (by rw [r.len]; exact hl)]
      rfl
    · rw [List.getElem?_set_ne (fun z => e z.symm)] at h ⊢
      simp only [if_neg e]
      exact r.cell j x h
  · by_cases e : j = i
    · simp only [if_pos e]; intro z; cases z
    · by_cases e2 : k = i
      · simp only [if_neg e, if_pos e2]; intro _ z; cases z
      · simp only [if_neg e, if_neg e2]; exact r.apart j k n a
  · by_cases e : j = i
    · simp only [if_pos e] at h; cases h
    · simp only [if_neg e] at h; exact r.ownS j a h
  · intro n
    have := r.tdk l n
    by_cases e : 0 = i
    · rw [e, hp] at this; exact absurd this.symm n
    · simp only [if_neg e]; exact this
theorem gm_name (i : Nat) : GM K (gName i) [i] (gmName i) := by
  intro c S own σ H ρ v d ρ' Q r q hf k
  unfold gmName at hf
  split at hf
  · rename_i hpl
    cases hf
    refine k _ (σ.set i (some v)) (List.length_set ..) (fun j hj => ?_) (fun j a h => by
      by_cases e : j = i
      · simp only [if_pos e] at h; cases h
      · simp only [if_neg e] at h; exact h) (r.set (r.plain hpl) q)
    have n : i ≠ j := fun e => hj (by rw [e]; exact List.mem_cons_self)
    exact ⟨List.getElem?_set_ne n, List.getElem?_set_ne n, if_neg fun e => n e.symm⟩
  · cases hf
theorem gm_nil : GMs K gNil [] gmNil := by
  intro c S own σ H ρ vs ds ρ' Q r q hf k
  cases q with
  | nil => cases hf; exact ⟨rfl, k own σ rfl (fun j _ => ⟨rfl, rfl, rfl⟩) (fun _ _ h => h) r⟩
  | cons _ _ => cases hf
theorem gm_cons {g : TG} {gs : TGs} {t1 t2 : List Nat} {f : MG} {fs : MGs} (h1 : GM K g t1 f) (h2 : GMs K gs t2 fs) : GMs K (gCons g gs) (t1 ++ t2) (gmCons f fs) := by
  intro c S own σ H ρ vs ds ρ' Q r q hf k
  cases q with
  | nil => cases hf
  | cons q1 q2 =>
    simp only [gmCons, Option.bind_eq_some_iff] at hf
    obtain ⟨ρ1, e1, e2⟩ := hf
    refine ⟨_, _, rfl, h1 c S own σ H ρ _ _ ρ1 _ r q1 e1 fun own1 σ1 l1 k1 o1 r1 => h2 c S own1 σ1 H ρ1 _ _ ρ' _ r1 q2 e2 fun own2 σ2 l2 k2 o2 r2 => ?_⟩
    refine k own2 σ2 (l2.trans l1) (fun j hj => ?_) (fun j a h => o1 j a (o2 j a h)) r2
    have n1 : j ∉ t1 := fun m => hj (List.mem_append_left _ m)
    have n2 : j ∉ t2 := fun m => hj (List.mem_append_right _ m)
    exact ⟨(k2 j n2).1.trans (k1 j n1).1, (k2 j n2).2.1.trans (k1 j n1).2.1, (k2 j n2).2.2.trans (k1 j n1).2.2⟩
theorem gm_tup {gs : TGs} {ts : List Nat} {fs : MGs} {n : Nat} (h : GMs K gs ts fs) : GM K (gTup K n gs) ts (gmTup fs n) := by
  intro c S own σ H ρ v d ρ' Q r q hf k
  cases q with
  | tup hs hl =>
    simp only [gmTup] at hf
    split at hf
    · rename_i e
      exact ⟨_, _, rfl, Fz.le.sqt hs, hl.length.trans e, h c S own σ H ρ _ _ ρ' Q r hl hf k⟩
    · cases hf
  | _ => cases hf
end

section
variable {K : PySem.W.Frag} {D : Ends} {σ : St} {H : Hp}
theorem EndsOk.later {K : PySem.W.Frag} {c : Cn} {S S1 : List Addr} {H H1 : Hp} {D : Ends} (e : Ex (Fz S H) (Fz S1 H1)) : ∀ {r : Res}, EndsOk K c S H D r → EndsOk K c S1 H1 D r
  | .nx _, k => fun S' own' σ' H' e' => k S' own' σ' H' (e.trans e')
  | .rt _ _, k => fun v S' own' σ' H' e' => k v S' own' σ' H' (e.trans e')
  | .bk _, k => fun S' own' σ' H' e' => k S' own' σ' H' (e.trans e')
  | .ct _, k => fun S' own' σ' H' e' => k S' own' σ' H' (e.trans e')
theorem sm_seq {a b : MS} : tsOf K (mSeq a b) D σ H → tSeq (tsOf K a) (tsOf K b) D σ H := by
  rintro ⟨c, S, own, ρ, r, sr, hm, k⟩
  unfold mSeq at hm
  simp only [Option.bind_eq_some_iff] at hm
  obtain ⟨r1, h1, h2⟩ := hm
  refine ⟨c, S, own, ρ, r1, sr, h1, ?_⟩
  cases r1 with
  | nx ρ1 => exact fun S' own' σ' H' e' sr' => ⟨c, S', own', ρ1, r, sr', h2, k.later e'⟩
  | rt d ρ1 => cases h2; exact k
  | bk ρ1 => cases h2; exact k
  | ct ρ1 => cases h2; exact k
theorem sm_skip : tsOf K mSkip D σ H → tNext D σ H := by
  rintro ⟨c, S, own, ρ, r, sr, hm, k⟩
  cases hm
  exact k S own σ H (Ex.refl _) sr
theorem sm_brk : tsOf K mBrk D σ H → tBreak D σ H := by
  rintro ⟨c, S, own, ρ, r, sr, hm, k⟩
  cases hm
  exact k S own σ H (Ex.refl _) sr
theorem sm_cnt : tsOf K mCnt D σ H → tCont D σ H := by
  rintro ⟨c, S, own, ρ, r, sr, hm, k⟩
  cases hm
  exact k S own σ H (Ex.refl _) sr
theorem sm_never : tsOf K mNever D σ H → tNever D σ H := by
  rintro ⟨c, S, own, ρ, r, sr, hm, k⟩
  cases hm
theorem sm_ret {a : ME} : tsOf K (mRet a) D σ H → tRet (teOf K a) D σ H := by
  rintro ⟨c, S, own, ρ, r, sr, hm, k⟩
  simp only [mRet, Option.map_eq_some_iff] at hm
  obtain ⟨⟨d, ρ1⟩, h1, e⟩ := hm
  subst e
  exact ⟨c, S, own, ρ, d, ρ1, sr, h1, fun v H' e' sr' q => k v S own σ H' e' sr' (q.mono (Fz.sub sr'.sub))⟩
theorem sm_retN : tsOf K mRetN D σ H → tRetN D σ H := by
  rintro ⟨c, S, own, ρ, r, sr, hm, k⟩
  cases hm
  exact k .non S own σ H (Ex.refl _) sr .non
theorem sm_drop {a : ME} : tsOf K (mDrop a) D σ H → tDrop (teOf K a) D σ H := by
  rintro ⟨c, S, own, ρ, r, sr, hm, k⟩
  simp only [mDrop, Option.map_eq_some_iff] at hm
  obtain ⟨⟨d, ρ1⟩, h1, e⟩ := hm
  subst e
  exact ⟨c, S, own, ρ, d, ρ1, sr, h1, fun v H' e' sr' q => k S own σ H' e' sr'⟩
theorem sm_if {t : MT} {a b : MS} : tsOf K (mIfS t a b) D σ H → tIfS (ttOf K t) (tsOf K a) (tsOf K b) D σ H := by
  rintro ⟨c, S, own, ρ, r, sr, hm, k⟩
  simp only [mIfS, Option.bind_eq_some_iff] at hm
  obtain ⟨⟨b, ρ1⟩, h1, h2⟩ := hm
  refine ⟨c, S, own, ρ, b, ρ1, sr, h1, fun H' e' sr' => ?_⟩
  cases b with
  | true => rw [if_pos rfl] at h2 ⊢; exact ⟨c, S, own, ρ1, r, sr', h2, k.later e'⟩
  | false => rw [if_neg Bool.false_ne_true] at h2 ⊢; exact ⟨c, S, own, ρ1, r, sr', h2, k.later e'⟩
theorem sm_asg {a : ME} {g : TG} {ts : List Nat} {f : MG} (hg : GM K g ts f) : tsOf K (mAsg a f) D σ H → tAsg (teOf K a) g D σ H := by
  rintro ⟨c, S, own, ρ, r, sr, hm, k⟩
  simp only [mAsg, Option.bind_eq_some_iff, Option.map_eq_some_iff] at hm
  obtain ⟨⟨d, ρ1⟩, h1, ρ2, h2, e⟩ := hm
  subst e
  exact ⟨c, S, own, ρ, d, ρ1, sr, h1, fun v H' e' sr' q => hg c S own σ H' ρ1 v d ρ2 _ sr' q h2 fun own' σ' _ _ _ sr2 => k S own' σ' H' e' sr2⟩
end
section
variable {X : Cx} {st : Stmt} {rest : List Stmt} {a b : MS} {e : Expr} {pos : Pos}
theorem psm_seq (h1 : PSM X st a) (h2 : PSSM X rest b) : PSSM X (st :: rest) (mSeq a b) := PSs.to (pss_cons h1 h2) fun _ _ _ q => sm_seq q
theorem psm_one (h1 : PSM X st a) : PSSM X [st] a := pss_one h1
theorem psm_nil : PSSM X [] mSkip := PSs.to pss_nil fun _ _ _ q => sm_skip q
theorem psm_pass : PSM X (.Pass pos) mSkip := PS.to ps_pass fun _ _ _ q => sm_skip q
theorem psm_brk : PSM X (.Break pos) mBrk := PS.to ps_break fun _ _ _ q => sm_brk q
theorem psm_cnt : PSM X (.Continue pos) mCnt := PS.to ps_continue fun _ _ _ q => sm_cnt q
theorem psm_never : PSM X st mNever := PS.to ps_never fun _ _ _ q => sm_never q
theorem psm_ret {m : ME} (h : PEM X e m) : PSM X (.Return (some e) pos) (mRet m) := PS.to (ps_ret h) fun _ _ _ q => sm_ret q
theorem psm_retN : PSM X (.Return none pos) mRetN := PS.to ps_retN fun _ _ _ q => sm_retN q
theorem psm_expr {m : ME} (h : PEM X e m) (hs : swapsWith e none pos.line X.env = pure false := by rfl) : PSM X (.Expr e pos) (mDrop m) := PS.to (ps_expr h hs) fun _ _ _ q => sm_drop q
theorem psm_if {c : Expr} {p q : List Stmt} {t : MT} (hc : PTM X c t) (ha : PSSM X p a) (hb : PSSM X q b) : PSM X (.If c p q pos) (mIfS t a b) := PS.to (ps_if hc ha hb) fun _ _ _ q => sm_if q
theorem psm_set {i : Nat} {x : Str} {m : ME} {pos' : Pos} (hN : X.N.Nodup) (hi : X.N[i]? = some x) (hx : Loc X.env.scope x) (he : PEM X e m) (hs : swapsWith e (some (.Name x pos')) pos.line X.env = pure false := by rfl)
    (hf : X.fn x = true ∨ X.env.scope.names.lookup x = some .local := by first | exact .inl rfl | exact .inr rfl | assumption) : PSM X (.Assign [.Name x pos'] e pos) (mAsg m (gmName i)) := PS.to (ps_set hN hi hx he hs hf) fun _ _ _ q => sm_asg (gm_name i) q
theorem psm_asg {tg : Expr} {m : ME} {g : TG} {ts : List Nat} {f : MG} (he : PEM X e m) (hg : PG X tg g) (hf : GM X.K g ts f) (hs : swapsWithSole [tg] e pos.line X.env = pure false := by rfl) (hw : swappedStores [tg] e X.env = pure none := by rfl) (h1 : (assignEach [tg] X.env).map (·.2) = [assign tg X.env] := by rfl) :
    PSM X (.Assign [tg] e pos) (mAsg m f) := PS.to (ps_asg he hg hs hw h1) fun _ _ _ q => sm_asg hf q
end
end TL

namespace TL
open PySem L2

/-! ### what is walked -/
abbrev MI := List Cell → Option (List D × List Cell)
structure Wk (K : PySem.W.Frag) (J : It) (S : List Addr) (H : Hp) (ds : List D) : Prop where
  go : ∀ S' H1 i, Ex (Fz S H) (Fz S' H1) → (∀ a ∈ S', (H1 a).isSome = true) → i < ds.length → J.go i H1
  yld : ∀ S' H1 i x H2, Ex (Fz S H) (Fz S' H1) → (∀ a ∈ S', (H1 a).isSome = true) → J.yld i H1 x H2 → ∀ d, ds[i]? = some d → Ex H1 H2 ∧ Rep K (Fz S' H2) x d
  stop : ∀ S' H1, Ex (Fz S H) (Fz S' H1) → J.stop ds.length H1
theorem Wk.later {K : PySem.W.Frag} {J : It} {S S1 : List Addr} {H H1 : Hp} {ds : List D} (w : Wk K J S H ds) (e : Ex (Fz S H) (Fz S1 H1)) : Wk K J S1 H1 ds :=
  ⟨fun S' H2 i e2 => w.go S' H2 i (e.trans e2), fun S' H2 i x H3 e2 => w.yld S' H2 i x H3 (e.trans e2), fun S' H2 e2 => w.stop S' H2 (e.trans e2)⟩
def wiOf (K : PySem.W.Frag) (m : MI) : TI := fun σ H R => ∃ c S own ρ ds ρ', SR K c S own σ H ρ ∧ m ρ = some (ds, ρ') ∧
  ∀ J H', Ex (Fz S H) (Fz S H') → SR K c S own σ H' ρ' → Wk K J S H' ds → R J H'
abbrev PIM (X : Cx) (tg e : Expr) (m : MI) : Prop := PI X tg e (wiOf X.K m)
theorem PI.to {X : Cx} {tg e : Expr} {w w' : TI} (h : PI X tg e w) (q : ∀ σ H R, w' σ H R → w σ H R) : PI X tg e w' := ⟨fun pins s σ H R I z => h.run pins s σ H R I (q σ H R z)⟩
theorem PI.or {X : Cx} {tg e : Expr} {w w' : TI} (h : PI X tg e w) (h' : PI X tg e w') : PI X tg e fun σ H R => w σ H R ∨ w' σ H R :=
  ⟨fun pins s σ H R I z => z.elim (h.run pins s σ H R I) (h'.run pins s σ H R I)⟩

def signs (x : Str) : List D := x.cps.toList.map fun c => .str ⟨#[c]⟩
def dItems : D → Option (List D)
  | .lst ds => some ds
  | .tup ds => some ds
  | .str x => some (signs x)
  | _ => none
def mItems (ma : ME) : MI := fun ρ => (ma ρ).bind fun p => (dItems p.1).map fun ds => (ds, p.2)
def upTo (lo : Int) (n : Nat) : List D := (List.range n).map fun (i : Nat) => .int (lo + (i : Int))
def dRange : List D → Option (List D)
  | [.int j] => if -(2 ^ 62) ≤ j ∧ j < 2 ^ 62 then some (upTo 0 j.toNat) else none
  | [.int i, .int j] => if -(2 ^ 62) ≤ i ∧ i < 2 ^ 62 ∧ -(2 ^ 62) ≤ j ∧ j < 2 ^ 62 then some (upTo i (j - i).toNat) else none
  | _ => none
def mRange (ma : MA) : MI := fun ρ => (ma ρ).bind fun p => (dRange p.1).map fun ds => (ds, p.2)

section
variable {K : PySem.W.Frag} {S : List Addr} {H : Hp}
theorem wk_list {a : Addr} {xs : List V} {ds : List D} (h : SqL K (Fz S H) a xs) (r : RepL K (Fz S H) xs ds) : Wk K (Itl K a) S H ds where
  go := fun S' H1 i e _ hi => by
    obtain ⟨v, hv, _⟩ := r.get (i := i) (d := ds[i]) (by simp [hi])
    exact ⟨xs, v, Fz.le.sql (e.sql h), hv⟩
  yld := fun S' H1 i x H2 e _ y d hd => by
    obtain ⟨rfl, hx⟩ := y
    obtain ⟨v, hv, q⟩ := r.get hd
    have := hx xs (Fz.le.sql (e.sql h))
    rw [hv] at this; cases this
    exact ⟨Ex.refl _, q.mono e⟩
  stop := fun S' H1 e => ⟨xs, Fz.le.sql (e.sql h), Nat.le_of_eq r.length⟩
theorem wk_tup {a : Addr} {xs : List V} {ds : List D} (h : SqT K (Fz S H) a xs) (r : RepL K (Fz S H) xs ds) : Wk K (Itt K a) S H ds where
  go := fun S' H1 i e _ hi => by
    obtain ⟨v, hv, _⟩ := r.get (i := i) (d := ds[i]) (by simp [hi])
    exact ⟨xs, v, Fz.le.sqt (e.sqt h), hv⟩
  yld := fun S' H1 i x H2 e _ y d hd => by
    obtain ⟨rfl, hx⟩ := y
    obtain ⟨v, hv, q⟩ := r.get hd
    have := hx xs (Fz.le.sqt (e.sqt h))
    rw [hv] at this; cases this
    exact ⟨Ex.refl _, q.mono e⟩
  stop := fun S' H1 e => ⟨xs, Fz.le.sqt (e.sqt h), Nat.le_of_eq r.length⟩
theorem wk_str {x : Str} : Wk K (Its x) S H (signs x) where
  go := fun S' H1 i e _ hi => by
    unfold signs at hi
    simp only [List.length_map, Array.length_toList] at hi
    exact hi
  yld := fun S' H1 i v H2 e _ y d hd => by
    obtain ⟨rfl, c, hc, rfl⟩ := y
    unfold signs at hd
    simp only [List.getElem?_map, Array.getElem?_toList, hc, Option.map_some] at hd
    cases hd
    exact ⟨Ex.refl _, .str _⟩
  stop := fun S' H1 e => by
    unfold signs
    simp only [List.length_map, Array.length_toList]
    exact Nat.le_refl _
theorem wk_range {lo : Int} {n : Nat} : Wk K (Itr lo n) S H (upTo lo n) where
  go := fun S' H1 i e _ hi => by
    unfold upTo at hi
    simp only [List.length_map, List.length_range] at hi
    exact hi
  yld := fun S' H1 i v H2 e _ y d hd => by
    obtain ⟨rfl, rfl⟩ := y
    unfold upTo at hd
    simp only [List.getElem?_map, Option.map_eq_some_iff] at hd
    obtain ⟨j, hj, rfl⟩ := hd
    have hi : i < n := by
      have := (List.getElem?_eq_some_iff.mp hj).1
      simpa using this
    have : j = i := by simpa [hi] using hj.symm
    subst this
    exact ⟨Ex.refl _, .int _⟩
  stop := fun S' H1 e => by
    unfold upTo
    simp only [List.length_map, List.length_range]
    exact Nat.le_refl _
end
section
variable {X : Cx} {tg e : Expr} {ma : ME} {mr : MA}
theorem pim_items (h : PEM X e ma) : PIM X tg e (mItems ma) := PI.to ((PI.or (pi_list h) (PI.or (pi_tup h) (pi_str h)))) fun σ H R => by
  rintro ⟨c, S, own, ρ, ds, ρ', sr, hm, k⟩
  simp only [mItems, Option.bind_eq_some_iff, Option.map_eq_some_iff] at hm
  obtain ⟨⟨d, ρ1⟩, h1, ds', h2, e⟩ := hm
  cases e
  cases d with
  | lst es =>
    cases h2
    refine .inl ⟨c, S, own, ρ, _, ρ1, sr, h1, fun v H' e' sr' q => ?_⟩
    cases q with
    | lst ha hl => exact ⟨_, rfl, ⟨_, .inl (.inl (Fz.le _ _ ha))⟩, k _ H' e' sr' (wk_list (SqL.of ha) hl)⟩
  | tup es =>
    cases h2
    refine .inr (.inl ⟨c, S, own, ρ, _, ρ1, sr, h1, fun v H' e' sr' q => ?_⟩)
    cases q with
    | tup ha hl => exact ⟨_, rfl, ⟨_, Fz.le.sqt ha⟩, k _ H' e' sr' (wk_tup ha hl)⟩
  | str x =>
    cases h2
    refine .inr (.inr ⟨c, S, own, ρ, _, ρ1, sr, h1, fun v H' e' sr' q => ?_⟩)
    cases q with
    | str _ => exact ⟨x, rfl, k _ H' e' sr' wk_str⟩
  | _ => cases h2
theorem pim_range1 {a : Expr} {p pos : Pos} (hg : Gl X "range") (hm : X.mg "range" = none) (ha : PAM X [a] mr) (h1 : ∀ ρ ds ρ', mr ρ = some (ds, ρ') → ds.length = 1) (hs : starEach [a] X.env = [(false, eval a X.env)] := by rfl) : PIM X tg (.Call (.Name "range" p) [a] [] pos) (mRange mr) := PI.to (pi_range1 hg hm ha hs) fun σ H R => by
  rintro ⟨c, S, own, ρ, ds, ρ', sr, hm, k⟩
  simp only [mRange, Option.bind_eq_some_iff, Option.map_eq_some_iff] at hm
  obtain ⟨⟨as, ρ1⟩, h2, ds', h3, e⟩ := hm
  cases e
  refine ⟨c, S, own, ρ, as, ρ1, sr, h2, fun vs H' e' sr' q => ?_⟩
  have hl := h1 _ _ _ h2
  cases q with
  | nil => cases hl
  | cons q1 q2 =>
    cases q2 with
    | cons _ _ => cases hl
    | nil =>
      cases q1 with
      | int j =>
        simp only [dRange] at h3
        split at h3
        · rename_i b
          cases h3
          exact ⟨j, rfl, b.1, b.2, k _ H' e' sr' wk_range⟩
        · cases h3
      | _ => cases h3
theorem pim_range2 {a b : Expr} {p pos : Pos} (hg : Gl X "range") (hm : X.mg "range" = none) (ha : PAM X [a, b] mr) (h1 : ∀ ρ ds ρ', mr ρ = some (ds, ρ') → ds.length = 2) (hs : starEach [a, b] X.env = [(false, eval a X.env), (false, eval b X.env)] := by rfl) (hs2 : starEach [b] X.env = [(false, eval b X.env)] := by rfl) : PIM X tg (.Call (.Name "range" p) [a, b] [] pos) (mRange mr) := PI.to (pi_range2 hg hm ha hs hs2) fun σ H R => by
  rintro ⟨c, S, own, ρ, ds, ρ', sr, hm, k⟩
  simp only [mRange, Option.bind_eq_some_iff, Option.map_eq_some_iff] at hm
  obtain ⟨⟨as, ρ1⟩, h2, ds', h3, e⟩ := hm
  cases e
  refine ⟨c, S, own, ρ, as, ρ1, sr, h2, fun vs H' e' sr' q => ?_⟩
  have hl := h1 _ _ _ h2
  cases q with
  | nil => cases hl
  | cons q1 q2 =>
    cases q2 with
    | nil => cases hl
    | cons q2 q3 =>
      cases q3 with
      | cons _ _ => cases hl
      | nil =>
        cases q1 with
        | int i =>
          cases q2 with
          | int j =>
            simp only [dRange] at h3
            split at h3
            · rename_i b
              cases h3
              exact ⟨i, j, rfl, b, k _ H' e' sr' wk_range⟩
            · cases h3
          | _ => cases h3
        | _ => cases h3
end
/-! ### for -/
def forGo (f : MG) (body : MS) : List D → List Cell → Option Res
  | [], ρ => some (.nx ρ)
  | d :: ds, ρ => (f d ρ).bind fun ρ1 => (body ρ1).bind fun r => match r with
    | .nx ρ2 => forGo f body ds ρ2
    | .ct ρ2 => forGo f body ds ρ2
    | .bk ρ2 => some (.nx ρ2)
    | .rt d ρ2 => some (.rt d ρ2)
def mFor (mi : MI) (f : MG) (body : MS) : MS := fun ρ => (mi ρ).bind fun p => forGo f body p.1 p.2
theorem sm_for {K : PySem.W.Frag} {mi : MI} {g : TG} {ts : List Nat} {f : MG} {body : MS} {D : Ends} {σ : St} {H : Hp} (hg : GM K g ts f) : tsOf K (mFor mi f body) D σ H → tFor (wiOf K mi) g (tsOf K body) D σ H := by
  rintro ⟨c, S, own, ρ, r, sr, hm, k⟩
  simp only [mFor, Option.bind_eq_some_iff] at hm
  obtain ⟨⟨ds, ρ1⟩, h1, h2⟩ := hm
  refine ⟨c, S, own, ρ, ds, ρ1, sr, h1, fun J H1 e1 sr1 w => ?_⟩
  have k1 := k.later e1
  refine ⟨fun i m σ' H' => ∃ S' own' ρi, m = ds.length - i ∧ i ≤ ds.length ∧ Ex (Fz S H1) (Fz S' H') ∧ SR K c S' own' σ' H' ρi ∧ forGo f body (ds.drop i) ρi = some r, ⟨_, S, own, ρ1, rfl, Nat.zero_le _, Ex.refl _, sr1, h2⟩, ?_⟩
  rintro i m σ' H' ⟨S', own', ρi, rfl, hi, ei, si, hf⟩
  by_cases hlt : i < ds.length
  · right
    refine ⟨w.go S' H' i ei si.trk hlt, fun σ2 H2 => ∃ S2 own2 ρ2, Ex (Fz S H1) (Fz S2 H2) ∧ SR K c S2 own2 σ2 H2 ρ2 ∧ forGo f body (ds.drop (i + 1)) ρ2 = some r, ?_, ?_⟩
    · rintro σ2 H2 ⟨S2, own2, ρ2, e2, s2, hf2⟩
      exact ⟨ds.length - (i + 1), by omega, S2, own2, ρ2, rfl, hlt, e2, s2, hf2⟩
    · intro x H2 hy
      obtain ⟨e2, q⟩ := w.yld S' H' i x H2 ei si.trk hy ds[i] (by simp [hlt])
      rw [List.drop_eq_getElem_cons hlt] at hf
      simp only [forGo, Option.bind_eq_some_iff] at hf
      obtain ⟨ρ2, f1, r3, f2, f3⟩ := hf
      have ei2 : Ex (Fz S H1) (Fz S' H2) := ei.trans (Fz.ex e2)
      refine hg c S' own' σ' H2 ρi x ds[i] ρ2 _ (si.ex e2) q f1 fun own2 σ2 _ _ _ s2 => ?_
      refine ⟨c, S', own2, ρ2, r3, s2, f2, ?_⟩
      cases r3 with
      | nx ρ3 => exact fun S3 own3 σ3 H3 e3 s3 => ⟨S3, own3, ρ3, ei2.trans e3, s3, f3⟩
      | ct ρ3 => exact fun S3 own3 σ3 H3 e3 s3 => ⟨S3, own3, ρ3, ei2.trans e3, s3, f3⟩
      | bk ρ3 => cases f3; exact fun S3 own3 σ3 H3 e3 s3 => k1 S3 own3 σ3 H3 (ei2.trans e3) s3
      | rt d ρ3 => cases f3; exact fun v S3 own3 σ3 H3 e3 s3 q3 => k1 v S3 own3 σ3 H3 (ei2.trans e3) s3 q3
  · left
    have e : i = ds.length := by omega
    subst e
    rw [List.drop_length] at hf
    cases hf
    exact ⟨w.stop S' H' ei, k1 S' own' σ' H' ei si⟩
/-! ### while -/
def whGo (t : MT) (body : MS) : Nat → List Cell → Option Res
  | 0, _ => none
  | n + 1, ρ => (t ρ).bind fun p => if p.1 = true then (body p.2).bind fun r => match r with
      | .nx ρ2 => whGo t body n ρ2
      | .ct ρ2 => whGo t body n ρ2
      | .bk ρ2 => some (.nx ρ2)
      | .rt d ρ2 => some (.rt d ρ2)
    else some (.nx p.2)
open Classical in
noncomputable def mWhile (t : MT) (body : MS) : MS := fun ρ => if h : ∃ n, (whGo t body n ρ).isSome = true then whGo t body (Classical.choose h) ρ else none
theorem whGo_up {t : MT} {body : MS} : ∀ {n : Nat} {ρ : List Cell} {r : Res}, whGo t body n ρ = some r → whGo t body (n + 1) ρ = some r
  | 0, _, _, h => by cases h
  | n + 1, ρ, r, h => by
    unfold whGo at h ⊢
    simp only [Option.bind_eq_some_iff] at h ⊢
    obtain ⟨⟨b, ρ1⟩, h1, h2⟩ := h
    refine ⟨(b, ρ1), h1, ?_⟩
    cases b with
    | false => exact h2
    | true =>
      simp only [if_true, Option.bind_eq_some_iff] at h2 ⊢
      obtain ⟨r2, h3, h4⟩ := h2
      refine ⟨r2, h3, ?_⟩
      cases r2 with
      | nx _ => exact whGo_up h4
      | ct _ => exact whGo_up h4
      | bk _ => exact h4
      | rt _ _ => exact h4
theorem whGo_le {t : MT} {body : MS} {n m : Nat} {ρ : List Cell} {r : Res} (h : whGo t body n ρ = some r) (l : n ≤ m) : whGo t body m ρ = some r := by
  induction l with
  | refl => exact h
  | step _ ih => exact whGo_up ih
theorem mWhile_of {t : MT} {body : MS} {n : Nat} {ρ : List Cell} {r : Res} (h : whGo t body n ρ = some r) : mWhile t body ρ = some r := by
  have hx : ∃ n, (whGo t body n ρ).isSome = true := ⟨n, by rw [h]; rfl⟩
  unfold mWhile
  rw [dif_pos hx]
  have hc := Classical.choose_spec hx
  generalize Classical.choose hx = m at hc ⊢
  cases q : whGo t body m ρ with
  | none => rw [q] at hc; cases hc
  | some r' =>
    have a := whGo_le q (Nat.le_max_left m n)
    have b := whGo_le h (Nat.le_max_right m n)
    rw [a] at b; exact b
theorem of_mWhile {t : MT} {body : MS} {ρ : List Cell} {r : Res} (h : mWhile t body ρ = some r) : ∃ n, whGo t body n ρ = some r := by
  unfold mWhile at h
  split at h
  · exact ⟨_, h⟩
  · cases h
theorem sm_while {K : PySem.W.Frag} {t : MT} {body : MS} {D : Ends} {σ : St} {H : Hp} : tsOf K (mWhile t body) D σ H → tWhile (ttOf K t) (tsOf K body) D σ H := by
  rintro ⟨c, S, own, ρ, r, sr, hm, k⟩
  obtain ⟨n, hn⟩ := of_mWhile hm
  refine ⟨fun m σ' H' => ∃ S' own' ρi, Ex (Fz S H) (Fz S' H') ∧ SR K c S' own' σ' H' ρi ∧ whGo t body m ρi = some r, ⟨n, S, own, ρ, Ex.refl _, sr, hn⟩, ?_⟩
  rintro m σ' H' ⟨S', own', ρi, ei, si, hf⟩
  cases m with
  | zero => cases hf
  | succ m =>
    unfold whGo at hf
    simp only [Option.bind_eq_some_iff] at hf
    obtain ⟨⟨b, ρ1⟩, h1, h2⟩ := hf
    refine ⟨c, S', own', ρi, b, ρ1, si, h1, fun H1 e1 s1 => ?_⟩
    have ei1 := ei.trans e1
    cases b with
    | false => simp only [Bool.false_eq_true, if_false] at h2 ⊢; cases h2; exact k S' own' σ' H1 ei1 s1
    | true =>
      simp only [if_true, Option.bind_eq_some_iff] at h2 ⊢
      obtain ⟨r3, h3, h4⟩ := h2
      refine ⟨fun σ2 H2 => ∃ S2 own2 ρ2, Ex (Fz S H) (Fz S2 H2) ∧ SR K c S2 own2 σ2 H2 ρ2 ∧ whGo t body m ρ2 = some r, ?_, c, S', own', ρ1, r3, s1, h3, ?_⟩
      · rintro σ2 H2 ⟨S2, own2, ρ2, e2, s2, hf2⟩
        exact ⟨m, Nat.lt_succ_self m, S2, own2, ρ2, e2, s2, hf2⟩
      · cases r3 with
        | nx ρ3 => exact fun S3 own3 σ3 H3 e3 s3 => ⟨S3, own3, ρ3, ei1.trans e3, s3, h4⟩
        | ct ρ3 => exact fun S3 own3 σ3 H3 e3 s3 => ⟨S3, own3, ρ3, ei1.trans e3, s3, h4⟩
        | bk ρ3 => cases h4; exact fun S3 own3 σ3 H3 e3 s3 => k S3 own3 σ3 H3 (ei1.trans e3) s3
        | rt d ρ3 => cases h4; exact fun v S3 own3 σ3 H3 e3 s3 q3 => k v S3 own3 σ3 H3 (ei1.trans e3) s3 q3
section
variable {X : Cx} {tg iter c : Expr} {st : List Stmt} {mi : MI} {body : MS} {pos : Pos}
theorem psm_for {g : TG} {ts : List Nat} {f : MG} (hp : PassesOwn (model X.prog X.w) X.A X.env X.xe) (hc : X.calm = true) (hi : PIM X tg iter mi) (hg : PG X tg g) (hf : GM X.K g ts f) (hb : PSSM X st body) (hs : ∀ x, foldedSetIterable iter X.env x = pure x := by intro _; rfl) :
    PSM X (.For tg iter st [] pos) (mFor mi f body) := PS.to (ps_for hp hc hi hg hb hs) fun _ _ _ q => sm_for hf q
theorem psm_while {t : MT} (hp : PassesOwn (model X.prog X.w) X.A X.env X.xe) (hc : PTM X c t) (hb : PSSM X st body) : PSM X (.While c st [] pos) (mWhile t body) := PS.to (ps_while hp hc hb) fun _ _ _ q => sm_while q
end
end TL

namespace TL
open PySem PySem.Spec L2
open PyProof.Rows (envOfC)

/-! ### defs: no display is being written out around them -/
structure FnG (P : Program) (w : World) (K : PySem.W.Frag) (mg : Str → Option Value) (base : Heap) (CX : CXT) (k : Nat) (f : Addr) (fd : FuncData) (ps : List Str) (sp : Sp) : Prop where
  args : ∀ vs H Q E, sp vs H Q E → vs.length = ps.length
  go : ∀ (A : Around) (outer : List Env) (s : Shared) (H : Hp) (ar : Args) (us : List Value) (vs : List V) (Q : VK) (E : XK), Room k A → A.guards = some [] → Env0 P w K mg base A outer s H → BindsTo s fd ar (ps.zip us) → Vals vs us →
    sp vs H Q E → codeAny (model P w) A (.call (.ref f) ar) (CR CX outer P w H s Q E) s
section
variable {P : Program} {w : World} {K : PySem.W.Frag} {mg : Str → Option Value} {base : Heap} {CX : CXT} {j k : Nat} {f : Addr} {fd : FuncData} {ps : List Str} {sp sp' : Sp}
theorem FnG.of (F : FnOk P w K mg base CX k f fd ps sp) : FnG P w K mg base CX k f fd ps sp := ⟨F.len, fun A outer s H ar us vs Q E hr _ => F.run A outer s H ar us vs Q E hr⟩
theorem FnG.mono (F : FnG P w K mg base CX j f fd ps sp) (h : j ≤ k) : FnG P w K mg base CX k f fd ps sp := ⟨F.args, fun A outer s H ar us vs Q E hr => F.go A outer s H ar us vs Q E (hr.mono h)⟩
theorem FnG.imp (F : FnG P w K mg base CX k f fd ps sp) (h : ∀ vs H Q E, sp' vs H Q E → sp vs H Q E) : FnG P w K mg base CX k f fd ps sp' :=
  ⟨fun vs H Q E q => F.args vs H Q E (h _ _ _ _ q), fun A outer s H ar us vs Q E hr hg he hb hv hs => F.go A outer s H ar us vs Q E hr hg he hb hv (h _ _ _ _ hs)⟩
end
/-- how the written arguments (n by place, then those named ks) come to the parameters: pm tells for each parameter which one -/
structure Bd (fd : FuncData) (ps : List Str) (n : Nat) (ks : List Str) (pm : List Nat) : Prop where
  bind : ∀ (s : Shared) (us ws : List Value), us.length = n → ws.length = ks.length → BindsTo s fd ⟨us, ks.zip ws⟩ (ps.zip (pm.map fun i => (us ++ ws).getD i .none))
theorem Vals.pick {vs : List V} {us : List Value} (r : Vals vs us) : ∀ pm : List Nat, Vals (pm.map fun i => vs.getD i .non) (pm.map fun i => us.getD i .none)
  | [] => .nil
  | i :: pm => by
    refine .cons ?_ (Vals.pick r pm)
    show RelV (vs.getD i .non) (us.getD i .none)
    rw [List.getD_eq_getElem?_getD, List.getD_eq_getElem?_getD]
    cases e : vs[i]? with
    | none => rw [r.none_of e]; exact rfl
    | some v =>
      obtain ⟨u, e2, q⟩ := r.get e
      rw [e2]; exact q
section
variable {X : Cx} {CX : CXT} {k n : Nat} {f C : Addr} {fd : FuncData} {ps ks : List Str} {pm : List Nat} {sp : Sp} {E : XK} {x m : Str} {p pos apos : Pos} {e o : Expr} {es : List Expr} {kws : List Keyword} {ta : TE} {t tk : TA}
theorem run_fnG {pins : List (Addr × Obj)} {σ : L2.St} {H : Hp} {s : Shared} {Q : VK} {us ws : List Value} {vs zs : List V} (F : FnG X.prog X.w X.K X.mg X.base CX k f fd ps sp) (hr : Room k X.A) (hgd : X.A.guards = some []) (hb : Bd fd ps n ks pm) (hx : Passes CX X E)
    (I : Inv X pins σ H s) (r : Vals vs us) (rz : Vals zs ws) (l1 : vs.length = n) (l2 : zs.length = ks.length) (h : sp (pm.map fun i => (vs ++ zs).getD i .non) H Q E) : wpAny (model X.prog X.w) X.A (call (.ref f) us (ks.zip ws)) (EP X pins σ Q) X.xe s := by
  refine wpAny_call (codeAny_mono (F.go X.A X.stack s H ⟨us, ks.zip ws⟩ _ _ Q E hr hgd I.env0 (hb.bind s us ws (by rw [← r.length]; exact l1) (by rw [← rz.length]; exact l2)) (Vals.pick (r.append rz) pm) h) fun r s' hq => ?_)
  match r, hq with
  | .error e, hq => exact hx pins σ H s e s' I hq
  | .ok (.ret u), hq => exact I.after hq
  | .ok .next, hq => exact hq.elim
  | .ok .brk, hq => exact hq.elim
  | .ok .cont, hq => exact hq.elim
/-- f(..) by place and by name -/
def tCallG (n m : Nat) (pm : List Nat) (sp : Sp) (E : XK) (t tk : TA) : TE := fun σ H Q => t σ H fun vs H1 => tk σ H1 fun zs H2 => vs.length = n ∧ zs.length = m ∧ sp (pm.map fun i => (vs ++ zs).getD i .non) H2 Q E
theorem pe_callG (F : FnG X.prog X.w X.K X.mg X.base CX k f fd ps sp) (hr : Room k X.A) (hgd : X.A.guards = some []) (hg : Gl X x) (hm : X.mg x = some (.ref f)) (hk : PySem.W.keepIn X.K (.ref f) = true) (hb : Bd fd ps n [] pm) (hx : Passes CX X E)
    (ha : PA X (e :: es) t) (hdb : (x == ("__debug__" : Str)) = false := by decide) (he : starEach (e :: es) X.env = (false, eval e X.env) :: starEach es X.env := by rfl) (hpl : (backTo pos (starEach es X.env)).any (·.1) = false := by rfl) :
    PE X (.Call (.Name x p) (e :: es) [] pos) (tCallG n 0 pm sp E t tNil) := by
  refine ⟨fun pins s σ H Q I h => wpAny_Call_Name_kw (ld_glob I hg hm ?_ hdb)⟩
  refine PySem.W.callWith_K (h₀ := X.base) I.ok.mod.kin hk (thn (ha.run pos pins s σ H _ I h) fun us s1 q => ?_) he hpl
  obtain ⟨vs, H1, I1, r, l1, l2, q⟩ := q
  exact ⟨I1.kIn, run_fnG (ks := []) (ws := []) F hr hgd hb hx I1 r .nil l1 rfl q⟩
theorem pe_callG0 (F : FnG X.prog X.w X.K X.mg X.base CX k f fd ps sp) (hr : Room k X.A) (hgd : X.A.guards = some []) (hg : Gl X x) (hm : X.mg x = some (.ref f)) (hk : PySem.W.keepIn X.K (.ref f) = true) (hb : Bd fd ps 0 [] pm) (hx : Passes CX X E)
    (hdb : (x == ("__debug__" : Str)) = false := by decide) : PE X (.Call (.Name x p) [] [] pos) (tCallG 0 0 pm sp E tNil tNil) :=
  ⟨fun _ _ _ _ _ I h => wpAny_Call_Name_kw (ld_glob I hg hm (PySem.W.callWith_K0 I.kIn hk (run_fnG (ks := []) (us := []) (ws := []) F hr hgd hb hx I .nil .nil rfl rfl h.2.2)) hdb)⟩
theorem pe_callGK (F : FnG X.prog X.w X.K X.mg X.base CX k f fd ps sp) (hr : Room k X.A) (hgd : X.A.guards = some []) (hg : Gl X x) (hm : X.mg x = some (.ref f)) (hk : PySem.W.keepIn X.K (.ref f) = true) (hb : Bd fd ps n ks pm) (hx : Passes CX X E)
    (ha : PA X (e :: es) t) (hkw : PK X kws tk) (hall : (backToKw pos (keywordEach kws X.env)).all (·.1.isSome) = true := by rfl) (hks : (backToKw pos (keywordEach kws X.env)).filterMap (·.1) = ks := by rfl)
    (hdb : (x == ("__debug__" : Str)) = false := by decide) (he : starEach (e :: es) X.env = (false, eval e X.env) :: starEach es X.env := by rfl)
    (hpl : ((backTo pos (starEach (e :: es) X.env)).any (·.1) || (backToKw pos (keywordEach kws X.env)).any (·.1.isNone)) = false := by rfl) :
    PE X (.Call (.Name x p) (e :: es) kws pos) (tCallG n ks.length pm sp E t tk) := by
  refine ⟨fun pins s σ H Q I h => wpAny_Call_Name_kw (ld_glob I hg hm ?_ hdb)⟩
  refine PySem.W.callWith_KW (h₀ := X.base) I.ok.mod.kin hk hall (thn (ha.run pos pins s σ H _ I h) fun us s1 q => ?_) hpl he
  obtain ⟨vs, H1, I1, r, q⟩ := q
  refine thn (hkw.run pos pins s1 σ H1 _ I1 q) fun ws s2 q => ?_
  obtain ⟨zs, H2, I2, rz, l1, l2, q2⟩ := q
  refine ⟨I2.kIn, ?_⟩
  rw [hks]
  exact run_fnG F hr hgd hb hx I2 r rz l1 l2 q2
theorem pe_callGK0 (F : FnG X.prog X.w X.K X.mg X.base CX k f fd ps sp) (hr : Room k X.A) (hgd : X.A.guards = some []) (hg : Gl X x) (hm : X.mg x = some (.ref f)) (hk : PySem.W.keepIn X.K (.ref f) = true) (hb : Bd fd ps 0 ks pm) (hx : Passes CX X E)
    (hkw : PK X kws tk) (hall : (backToKw pos (keywordEach kws X.env)).all (·.1.isSome) = true := by rfl) (hks : (backToKw pos (keywordEach kws X.env)).filterMap (·.1) = ks := by rfl)
    (hdb : (x == ("__debug__" : Str)) = false := by decide)
    (hpl : ((backTo pos (starEach [] X.env)).any (·.1) || (backToKw pos (keywordEach kws X.env)).any (·.1.isNone)) = false := by rfl) :
    PE X (.Call (.Name x p) [] kws pos) (tCallG 0 ks.length pm sp E tNil tk) := by
  refine ⟨fun pins s σ H Q I h => wpAny_Call_Name_kw (ld_glob I hg hm ?_ hdb)⟩
  refine PySem.W.callWith_KW0 (h₀ := X.base) I.ok.mod.kin hk hall (thn (hkw.run pos pins s σ H _ I h) fun ws s2 q => ?_) hpl
  obtain ⟨zs, H2, I2, rz, l1, l2, q2⟩ := q
  refine ⟨I2.kIn, ?_⟩
  rw [hks]
  exact run_fnG (us := []) F hr hgd hb hx I2 .nil rz rfl l2 q2
end

/-! ### promises in data -/
/-- nothing is changed: f of the arguments -/
def spP (K : PySem.W.Frag) (n : Nat) (f : List D → Option D) : Sp := fun vs H Q _ => ∃ S ds d, vs.length = n ∧ (∀ a ∈ S, (H a).isSome = true) ∧ RepL K (Fz S H) vs ds ∧ f ds = some d ∧ ∀ v H', Ex H H' → Rep K (Fz S H') v d → Q v H'
/-- the deck, the first one, goes on -/
def spD (K : PySem.W.Frag) (n : Nat) (f : Dk → List D → Option (D × Dk)) : Sp := fun vs H Q _ => ∃ S da la ws s ds d s', vs = .ref da :: ws ∧ vs.length = n ∧ (∀ a ∈ S, (H a).isSome = true) ∧ da ∈ S ∧ la ∈ S ∧ DkAt H da la s ∧ RepL K (Fz S H) ws ds ∧ f s ds = some (d, s') ∧
  ∀ v H', (∀ a o, a ≠ da → a ≠ la → H a = some o → H' a = some o) → DkAt H' da la s' → Rep K (Fz S H') v d → Q v H'

def runP (N : Nat) (m : MS) : List D → Option D := fun ds => match m (ds.map Cell.d ++ List.replicate (N - ds.length) .no) with
  | some (.rt d _) => some d
  | some (.nx _) => some .non
  | _ => none
def runD (N : Nat) (m : MS) : Dk → List D → Option (D × Dk) := fun s ds => match m (.dk s :: ds.map Cell.d ++ List.replicate (N - (ds.length + 1)) .no) with
  | some (.rt d (.dk s' :: _)) => some (d, s')
  | some (.nx (.dk s' :: _)) => some (.non, s')
  | _ => none

section
variable {P : Program} {w : World} {K : PySem.W.Frag} {mg : Str → Option Value} {base : Heap} {x qual : Str} {st : Stmt} {f : Addr} {fd : FuncData} {N ps : List Str} {k : Nat}
/-- a def that may be called where nothing is being written out -/
theorem fnG_of {CX : CXT} {sp : Sp} (F : Fun K x qual st f fd) (S : FnScope N ps (defScope st)) (len : ∀ vs H Q E, sp vs H Q E → vs.length = ps.length)
    (hbody : ∀ (cdv : Value) (A : Around) (outer : List Env) (s : Shared) (H : Hp) (vs : List V) (Q : VK) (E : XK), Room k (A.deeper (envOfC qual (defScope st) s.heap.objs.size f cdv)) → (A.deeper (envOfC qual (defScope st) s.heap.objs.size f cdv)).guards = some [] → sp vs H Q E →
      ∃ t, PSs (cxOf CX P w K mg base N qual (defScope st) f cdv A outer s H E) (defBody st) t ∧ t { nx := fun _ H' => Q .non H', rt := Q } (L2.start N vs) H) : FnG P w K mg base CX (k + 1) f fd ps sp := by
  obtain ⟨oc, od, kV, doc, pm, an, cdv, ct, osl, rfl, lk, hcd⟩ := F.ex
  refine ⟨len, fun A outer s H ar us vs Q E hr hgd e0 hb r hsp => ?_⟩
  have hl := len _ _ _ _ hsp
  have kin : K.In s.heap := e0.mod.kin.keeps fun b o e => (e0.bs b o e).1
  have lim : s.heap.NoLimit := e0.mod.nolimit.keeps fun b o e => (e0.bs b o e).1
  have kinds : ∀ y ∈ ps.zip us, (defScope st).names.lookup y.1 = some .local ∨ ((defScope st).names.lookup y.1 = some .cell ∧ ((cellsFrom (s.heap.objs.size + 1) (defScope st).names []).lookup y.1).isSome = true) := by
    rintro ⟨y, v⟩ hy
    rcases S.par y (List.of_mem_zip hy).1 with q | q
    · exact .inl q
    · exact .inr ⟨q, PySem.W.cellsFrom_some _ _ _ (.inl q)⟩
  refine codeAny_call_function hr.depth (kin _ _ lk) rfl S.co S.gen rfl (PySem.W.codeRec_of kin hcd) (hb _ _ _ _ (wpAny_newFunctionEnv_cells S.kind kinds fun env he s1 x => ?_))
  subst he
  obtain ⟨t, ht, hq⟩ := hbody cdv A outer s H vs Q E (hr.deeper _) hgd hsp
  have I : Inv (cxOf CX P w K mg base N _ (defScope st) f cdv A outer s H E) [] (L2.start N vs) H s1 := inv_start S hr.hd e0 hl r x
  refine ⟨lim.keeps x.toInCall.keep, codeAny_func (wpAny_mono (ht.run [] s1 (L2.start N vs) H _ I hq) (fun fl s' hs => ?_) fun _ _ hs => hs)⟩
  match fl, hs with
  | .ret u, ⟨v, σ', H', J, rv, q⟩ => exact ⟨v, H', J.os, J.bare, J.base, J.hok, rv, q⟩
  | .next, ⟨σ', H', J, q⟩ => exact ⟨V.non, H', J.os, J.bare, J.base, J.hok, (rfl : Value.none = Value.none), q⟩
  | .brk, ⟨_, _, _, q⟩ => exact q.elim
  | .cont, ⟨_, _, _, q⟩ => exact q.elim

theorem start_get {N : List Str} {vs : List V} {i : Nat} : (L2.start N vs)[i]?.join = vs[i]? := by
  unfold L2.start
  by_cases h : i < vs.length
  · rw [List.getElem?_append_left (by simpa using h), List.getElem?_map]
    cases vs[i]? <;> rfl
  · rw [List.getElem?_append_right (by simpa using h), List.getElem?_replicate, List.getElem?_eq_none (Nat.le_of_not_lt h)]
    split <;> rfl
theorem sr_start {N : List Str} {vs : List V} {ds : List D} {S : List Addr} {H : Hp} (hl : vs.length ≤ N.length) (t : ∀ a ∈ S, (H a).isSome = true) (r : RepL K (Fz S H) vs ds) :
    SR K (CnL.up ⟨H, S, [], .inl rfl⟩) S (fun _ => []) (L2.start N vs) H (ds.map Cell.d ++ List.replicate (N.length - ds.length) .no) := by
  refine ⟨?_, fun i x h => ?_, fun i j _ a h => (by cases h), fun i a h => (by cases h), fun a h => h, t, t, fun a o h _ => h, fun a h => (by cases h), fun _ n => absurd rfl n⟩
  · unfold L2.start
    simp only [List.length_append, List.length_map, List.length_replicate]
    have := r.length
    omega
  · rw [start_get]
    by_cases hi : i < ds.length
    · rw [List.getElem?_append_left (by simpa using hi), List.getElem?_map] at h
      cases e : ds[i]? with
      | none => rw [e] at h; cases h
      | some d =>
        rw [e] at h; cases h
        obtain ⟨v, e1, q⟩ := r.get e
        exact ⟨rfl, v, e1, q⟩
    · rw [List.getElem?_append_right (by simpa using hi), List.getElem?_replicate] at h
      split at h <;> cases h
      exact rfl
/-- a def that changes nothing -/
theorem fn_pure (F : Fun K x qual st f fd) (S : FnScope N ps (defScope st)) (m : MS)
    (hbody : ∀ (cdv : Value) (A : Around) (outer : List Env) (s : Shared) (H : Hp) (E : XK), Room k (A.deeper (envOfC qual (defScope st) s.heap.objs.size f cdv)) → (A.deeper (envOfC qual (defScope st) s.heap.objs.size f cdv)).guards = some [] →
      PSSM (cxOf CX0 P w K mg base N qual (defScope st) f cdv A outer s H E).nox (defBody st) m) : FnG P w K mg base CX0 (k + 1) f fd ps (spP K ps.length (runP N.length m)) := by
  refine fnG_of F S (fun vs H Q E h => ?_) fun cdv A outer s H vs Q E hr hg h => ?_
  · obtain ⟨_, _, _, e, _⟩ := h
    exact e
  · obtain ⟨T, ds, d, e, t, r, hf, q⟩ := h
    refine ⟨_, (hbody cdv A outer s H E hr hg).nox, ?_⟩
    have hpl : ps.length ≤ N.length := by have := congrArg List.length S.pre; rw [List.length_take] at this; omega
    unfold runP at hf
    split at hf
    · rename_i d' ρ' hm
      cases hf
      exact ⟨_, T, _, _, _, sr_start (by rw [e]; exact hpl) t r, hm, fun v S' own' σ' H' _ s' rv => q v H' (fun a o ha => s'.keep a o ha (fun m => nomatch (show a ∈ ([] : List Addr) from m))) rv⟩
    · rename_i ρ' hm
      cases hf
      exact ⟨_, T, _, _, _, sr_start (by rw [e]; exact hpl) t r, hm, fun S' own' σ' H' _ s' => q .non H' (fun a o ha => s'.keep a o ha (fun m => nomatch (show a ∈ ([] : List Addr) from m))) .non⟩
    · cases hf
theorem sr_startD {N : List Str} {da la : Addr} {ws : List V} {s : Dk} {ds : List D} {S : List Addr} {H : Hp} (hl : ws.length + 1 ≤ N.length) (t : ∀ a ∈ S, (H a).isSome = true) (h1 : da ∈ S) (h2 : la ∈ S) (hd : DkAt H da la s) (r : RepL K (Fz S H) ws ds) :
    SR K (CnL.up ⟨H, S, [da, la], .inr ⟨da, la, hd.2.2, rfl⟩⟩) S (fun i => if i = 0 then [da, la] else []) (L2.start N (.ref da :: ws)) H (.dk s :: ds.map Cell.d ++ List.replicate (N.length - (ds.length + 1)) .no) := by
  refine ⟨?_, fun i x h => ?_, fun i j n a h => ?_, fun i a h => ?_, fun a h => h, t, t, fun a o h _ => h, fun a h => ?_, fun _ _ => rfl⟩
  · unfold L2.start
    simp only [List.length_append, List.length_map, List.length_replicate, List.length_cons]
    have := r.length
    omega
  · rw [start_get]
    cases i with
    | zero =>
      simp only [List.cons_append, List.getElem?_cons_zero] at h
      cases h
      exact ⟨da, la, if_pos rfl, rfl, hd⟩
    | succ i =>
      simp only [List.cons_append, List.getElem?_cons_succ] at h
      simp only [List.getElem?_cons_succ]
      by_cases hi : i < ds.length
      · rw [List.getElem?_append_left (by simpa using hi), List.getElem?_map] at h
        cases e : ds[i]? with
        | none => rw [e] at h; cases h
        | some d =>
          rw [e] at h; cases h
          obtain ⟨v, e1, q⟩ := r.get e
          exact ⟨rfl, v, e1, q⟩
      · rw [List.getElem?_append_right (by simpa using hi), List.getElem?_replicate] at h
        split at h <;> cases h
        exact rfl
  · by_cases e : i = 0
    · have : j ≠ 0 := fun z => n (e.trans z.symm)
      simp only [if_neg this]
      intro z; cases z
    · simp only [if_neg e] at h; cases h
  · by_cases e : i = 0
    · simp only [if_pos e] at h
      refine ⟨?_, .inl h⟩
      simp only [List.mem_cons, List.not_mem_nil, or_false] at h
      rcases h with rfl | rfl
      · exact h1
      · exact h2
    · simp only [if_neg e] at h; cases h
  · have h : a ∈ [da, la] := h
    simp only [List.mem_cons, List.not_mem_nil, or_false] at h
    rcases h with rfl | rfl
    · exact h1
    · exact h2
end
end TL

namespace TL
open PySem L2

def wipeC (ρ : List Cell) : List Nat → List Cell
  | [] => ρ
  | v :: vs => (wipeC ρ vs).set v .no
def backC (ρ ρb : List Cell) : List Nat → List Cell
  | [] => ρb
  | v :: vs => (backC ρ ρb vs).set v (ρ.getD v .no)
def plainC (ρ : List Cell) (vs : List Nat) : Bool := vs.all fun i => plainAt ρ i
def lcGo (f : MG) (mt : MT) (me : ME) (vs : List Nat) : List D → List Cell → Option (List D × List Cell)
  | [], ρ => some ([], ρ)
  | d :: ds, ρ => (f d ρ).bind fun ρ1 => (mt ρ1).bind fun q => if q.1 = true then (me q.2).bind fun r => (lcGo f mt me vs ds (wipeC r.2 vs)).map fun z => (r.1 :: z.1, z.2)
      else lcGo f mt me vs ds (wipeC q.2 vs)
def mLc (mi : MI) (f : MG) (mt : MT) (me : ME) (vs : List Nat) : ME := fun ρ => (mi ρ).bind fun p => if plainC p.2 vs = true then (lcGo f mt me vs p.1 (wipeC p.2 vs)).bind fun z =>
  if z.1.length ≤ sizeLine then some (.lst z.1, backC p.2 z.2 vs) else none else none

theorem wipeC_len (ρ : List Cell) : ∀ vs, (wipeC ρ vs).length = ρ.length
  | [] => rfl
  | v :: vs => by unfold wipeC; rw [List.length_set, wipeC_len ρ vs]
theorem backC_len (ρ ρb : List Cell) : ∀ vs, (backC ρ ρb vs).length = ρb.length
  | [] => rfl
  | v :: vs => by unfold backC; rw [List.length_set, backC_len ρ ρb vs]
theorem wipeC_out {ρ : List Cell} {i : Nat} : ∀ {vs : List Nat}, i ∉ vs → (wipeC ρ vs)[i]? = ρ[i]?
  | [], _ => rfl
  | v :: vs, h => by
    unfold wipeC
    rw [List.getElem?_set_ne (fun e => h (by rw [e]; exact List.mem_cons_self)), wipeC_out fun m => h (List.mem_cons_of_mem _ m)]
theorem wipeC_in {ρ : List Cell} {i : Nat} {x : Cell} : ∀ {vs : List Nat}, i ∈ vs → (wipeC ρ vs)[i]? = some x → x = .no
  | v :: vs, h, e => by
    unfold wipeC at e
    by_cases q : v = i
    · subst q
      by_cases hv : v < (wipeC ρ vs).length
      · rw [List.getElem?_set_self hv] at e; cases e; rfl
      · rw [List.getElem?_eq_none (by simpa using hv)] at e; cases e
    · rw [List.getElem?_set_ne q] at e
      refine wipeC_in ?_ e
      rcases List.mem_cons.mp h with z | z
      · exact absurd z.symm q
      · exact z
theorem backC_out {ρ ρb : List Cell} {i : Nat} : ∀ {vs : List Nat}, i ∉ vs → (backC ρ ρb vs)[i]? = ρb[i]?
  | [], _ => rfl
  | v :: vs, h => by
    unfold backC
    rw [List.getElem?_set_ne (fun e => h (by rw [e]; exact List.mem_cons_self)), backC_out fun m => h (List.mem_cons_of_mem _ m)]
theorem backC_in {ρ ρb : List Cell} {i : Nat} (hl : ρb.length = ρ.length) : ∀ {vs : List Nat}, i ∈ vs → (backC ρ ρb vs)[i]? = ρ[i]?
  | v :: vs, h => by
    unfold backC
    by_cases q : v = i
    · subst q
      by_cases hv : v < ρ.length
      · rw [List.getElem?_set_self (by rw [backC_len, hl]; exact hv), List.getD_eq_getElem?_getD, List.getElem?_eq_getElem hv]
        rfl
      · rw [List.getElem?_eq_none (by rw [List.length_set, backC_len, hl]; omega), List.getElem?_eq_none (by omega)]
    · rw [List.getElem?_set_ne q]
      refine backC_in hl ?_
      rcases List.mem_cons.mp h with z | z
      · exact absurd z.symm q
      · exact z
theorem wipe_in {σ : L2.St} {i : Nat} : ∀ {vs : List Nat}, i ∈ vs → i < σ.length → (wipe σ vs)[i]? = some none
  | v :: vs, h, hi => by
    unfold wipe
    by_cases q : v = i
    · subst q
      rw [List.getElem?_set_self (by rw [wipe_length]; exact hi)]
    · rw [List.getElem?_set_ne q]
      refine wipe_in ?_ hi
      rcases List.mem_cons.mp h with z | z
      · exact absurd z.symm q
      · exact z
theorem wipe_eq {σ σ' : L2.St} {vs : List Nat} (hl : σ'.length = σ.length) (h : ∀ i, i ∉ vs → σ'[i]? = σ[i]?) : wipe σ' vs = wipe σ vs := by
  refine List.ext_getElem? fun i => ?_
  by_cases m : i ∈ vs
  · by_cases hi : i < σ.length
    · rw [wipe_in m hi, wipe_in m (by rw [hl]; exact hi)]
    · rw [List.getElem?_eq_none (by rw [wipe_length]; omega), List.getElem?_eq_none (by rw [wipe_length]; omega)]
  · rw [wipe_out m, wipe_out m]; exact h i m
section
variable {K : PySem.W.Frag} {c : Cn} {S : List Addr} {own own' : Nat → List Addr} {σ σ' : L2.St} {H H' : Hp} {ρ ρ' : List Cell} {vs : List Nat}
/-- the block's names forgotten -/
theorem SR.wipe (r : SR K c S own σ H ρ) (vs : List Nat) (hv : ∀ i ∈ vs, own i = []) : SR K c S own (L2.wipe σ vs) H (wipeC ρ vs) := by
  refine ⟨by rw [wipe_length, wipeC_len]; exact r.len, fun i x h => ?_, r.apart, r.ownS, r.sub, r.trk, r.trk0, r.keep, r.tS, r.tdk⟩
  by_cases m : i ∈ vs
  · rw [wipeC_in m h]; exact hv i m
  · rw [wipe_out m]
    rw [wipeC_out m] at h
    exact r.cell i x h
/-- a new object that is being filled is put aside -/
theorem SR.aside {p : Addr} {o : HO} (r : SR K c S own σ H ρ) (h : H p = none) : SR K c (p :: S) own σ (upd H p o) ρ := by
  have ex : Ex H (upd H p o) := Ex.new h
  refine ⟨r.len, fun i x hx => ?_, r.apart, fun i a ha => ⟨List.mem_cons_of_mem _ (r.ownS i a ha).1, (r.ownS i a ha).2⟩, fun a ha => List.mem_cons_of_mem _ (r.sub a ha), fun a ha => ?_, r.trk0, fun a u ha n => ex a u (r.keep a u ha n), r.tS, r.tdk⟩
  · have q := r.cell i x hx
    cases x with
    | no => exact q
    | d y => obtain ⟨u, v, e, z⟩ := q; exact ⟨u, v, e, z.mono (Fz.upd_new h)⟩
    | ol ds => obtain ⟨a, xs, e1, e2, e3, z⟩ := q; exact ⟨a, xs, e1, e2, ex _ _ e3, z.mono (Fz.upd_new h)⟩
    | od ds => obtain ⟨a, xs, e1, e2, e3, z⟩ := q; exact ⟨a, xs, e1, e2, ex _ _ e3, z.mono (Fz.upd_new h)⟩
    | dk s => obtain ⟨a, b, e1, e2, e3, e4, e5⟩ := q; exact ⟨a, b, e1, e2, ex _ _ e3, ex _ _ e4, e5⟩
  · rcases List.mem_cons.mp ha with rfl | ha
    · rw [upd_same]; rfl
    · have := r.trk a ha
      cases q : H a with
      | none => rw [q] at this; cases this
      | some u => rw [ex a u q]; rfl
/-- an own object that no name holds is changed -/
theorem SR.touch {p : Addr} {o u : HO} (r : SR K c S own σ H ρ) (hp : p ∈ S) (hu : H p = some u) (hn : ∀ i, p ∉ own i) (hk : c.H0 p = none) : SR K c S own σ (upd H p o) ρ := by
  have fz : Fz S (upd H p o) = Fz S H := Fz.upd_own hp
  refine ⟨r.len, fun i x hx => ?_, r.apart, r.ownS, r.sub, fun a ha => ?_, r.trk0, fun a v ha n => ?_, r.tS, r.tdk⟩
  · have q := r.cell i x hx
    cases x with
    | no => exact q
    | d y => obtain ⟨u, v, e, z⟩ := q; exact ⟨u, v, e, by rw [fz]; exact z⟩
    | ol ds =>
      obtain ⟨a, xs, e1, e2, e3, z⟩ := q
      have ne : a ≠ p := fun e => hn i (by rw [e1, e]; exact List.mem_cons_self)
      exact ⟨a, xs, e1, e2, by rw [upd_ne ne]; exact e3, by rw [fz]; exact z⟩
    | od ds =>
      obtain ⟨a, xs, e1, e2, e3, z⟩ := q
      have ne : a ≠ p := fun e => hn i (by rw [e1, e]; exact List.mem_cons_self)
      exact ⟨a, xs, e1, e2, by rw [upd_ne ne]; exact e3, by rw [fz]; exact z⟩
    | dk s =>
      obtain ⟨a, b, e1, e2, e3, e4, e5⟩ := q
      have ne : a ≠ p := fun e => hn i (by rw [e1, e]; exact List.mem_cons_self)
      have ne2 : b ≠ p := fun e => hn i (by rw [e1, e]; exact List.mem_cons_of_mem _ List.mem_cons_self)
      exact ⟨a, b, e1, e2, by rw [upd_ne ne]; exact e3, by rw [upd_ne ne2]; exact e4, e5⟩
  · by_cases e : a = p
    · rw [e, upd_same]; rfl
    · rw [upd_ne e]; exact r.trk a ha
  · rw [upd_ne (ne_of_none ha hk)]; exact r.keep a v ha n
theorem CellR.less {p : Addr} {as : List Addr} {o : Option V} : ∀ {x : Cell}, CellR K (p :: S) H as o x → CellR K S H as o x
  | .no, h => h
  | .d _, ⟨u, v, e, q⟩ => ⟨u, v, e, q.mono (Fz.sub fun _ m => List.mem_cons_of_mem _ m)⟩
  | .ol _, ⟨a, xs, e1, e2, e3, q⟩ => ⟨a, xs, e1, e2, e3, q.mono (Fz.sub fun _ m => List.mem_cons_of_mem _ m)⟩
  | .od _, ⟨a, xs, e1, e2, e3, q⟩ => ⟨a, xs, e1, e2, e3, q.mono (Fz.sub fun _ m => List.mem_cons_of_mem _ m)⟩
  | .dk _, q => q
/-- behind the block -/
theorem SR.back {p : Addr} (r0 : SR K c S own σ H ρ) (hv : plainC ρ vs = true) (e : Ex (Fz S H) (Fz S H')) (r : SR K c (p :: S) own' (L2.wipe σ vs) H' ρ') (ho : ∀ i, i ∉ vs → own' i = own i) : SR K c S own σ H' (backC ρ ρ' vs) := by
  have hl : ρ'.length = ρ.length := by rw [← r.len, wipe_length]; exact r0.len
  refine ⟨by rw [backC_len, hl]; exact r0.len, fun i x h => ?_, r0.apart, r0.ownS, r0.sub, fun a ha => r.trk a (List.mem_cons_of_mem _ ha), r0.trk0, r.keep, r.tS, r0.tdk⟩
  by_cases m : i ∈ vs
  · rw [backC_in hl m] at h
    have q := r0.cell i x h
    have pl := List.all_eq_true.mp hv i m
    unfold plainAt at pl
    rw [h] at pl
    cases x with
    | no => exact q
    | d y => obtain ⟨u, v, e1, z⟩ := q; exact ⟨u, v, e1, z.mono e⟩
    | _ => cases pl
  · rw [backC_out m] at h
    have q := (r.cell i x h).less
    rw [wipe_out m, ho i m] at q
    exact q
end
theorem em_lc {K : PySem.W.Frag} {mi : MI} {g : TG} {ts vs : List Nat} {f : MG} {mt : MT} {me : ME} (hg : GM K g ts f) (hts : ∀ i ∈ ts, i ∈ vs) {σ : L2.St} {H : Hp} {Q : VK} : teOf K (mLc mi f mt me vs) σ H Q → tLc (wiOf K mi) g (ttOf K mt) (teOf K me) vs σ H Q := by
  rintro ⟨c, S, own, ρ, d, ρ', sr, hm, k⟩
  simp only [mLc, Option.bind_eq_some_iff] at hm
  obtain ⟨⟨ds, ρ1⟩, h1, h2⟩ := hm
  split at h2
  case isFalse => cases h2
  rename_i hpl
  simp only [Option.bind_eq_some_iff] at h2
  obtain ⟨⟨out, ρb⟩, h3, h4⟩ := h2
  split at h4
  case isFalse => cases h4
  rename_i hsz
  cases h4
  refine ⟨c, S, own, ρ, ds, ρ1, sr, h1, fun J H1 e1 sr1 w p hp => ?_⟩
  have hpS : p ∉ S := sr1.new hp
  have hp0 : c.H0 p = none := sr1.fresh0 hp
  have hown : ∀ i, p ∉ own i := fun i m => hpS (sr1.ownS i p m).1
  have hvs : ∀ i ∈ vs, own i = [] := fun i hi => sr1.plain (List.all_eq_true.mp hpl i hi)
  have w' : Wk K J (p :: S) (upd H1 p (.lst [])) ds := w.later (Fz.upd_new hp)
  refine ⟨fun i m H' => ∃ own' ρi acc as rest, m = ds.length - i ∧ i ≤ ds.length ∧ Ex (Fz (p :: S) (upd H1 p (.lst []))) (Fz (p :: S) H') ∧ SR K c (p :: S) own' (L2.wipe σ vs) H' ρi ∧ (∀ j, j ∉ vs → own' j = own j) ∧ (∀ j, p ∉ own' j) ∧ (∀ j ∈ vs, own' j = []) ∧
    H' p = some (.lst acc) ∧ RepL K (Fz (p :: S) H') acc as ∧ as ++ rest = out ∧ lcGo f mt me vs (ds.drop i) ρi = some (rest, ρb), ?_, ?_⟩
  · exact ⟨_, own, wipeC ρ1 vs, [], [], out, rfl, Nat.zero_le _, Ex.refl _, (sr1.aside hp).wipe vs hvs, fun _ _ => rfl, hown, hvs, upd_same, .nil, rfl, h3⟩
  · rintro i m H' ⟨own', ρi, acc, as, rest, rfl, hi, ei, si, hoi, hpi, hvi, ha, hr, hout, hl⟩
    by_cases hlt : i < ds.length
    · right
      refine ⟨w'.go (p :: S) H' i ei si.trk hlt, fun H2 => ∃ own' ρi acc as rest, Ex (Fz (p :: S) (upd H1 p (.lst []))) (Fz (p :: S) H2) ∧ SR K c (p :: S) own' (L2.wipe σ vs) H2 ρi ∧ (∀ j, j ∉ vs → own' j = own j) ∧ (∀ j, p ∉ own' j) ∧ (∀ j ∈ vs, own' j = []) ∧
        H2 p = some (.lst acc) ∧ RepL K (Fz (p :: S) H2) acc as ∧ as ++ rest = out ∧ lcGo f mt me vs (ds.drop (i + 1)) ρi = some (rest, ρb), ?_, ?_⟩
      · rintro H2 ⟨own2, ρ2, acc2, as2, rest2, a1, a2, a3, a4, a5, a6, a7, a8, a9⟩
        exact ⟨ds.length - (i + 1), by omega, own2, ρ2, acc2, as2, rest2, rfl, hlt, a1, a2, a3, a4, a5, a6, a7, a8, a9⟩
      · intro x H2 hy
        obtain ⟨e2, q⟩ := w'.yld (p :: S) H' i x H2 ei si.trk hy ds[i] (by simp [hlt])
        rw [List.drop_eq_getElem_cons hlt] at hl
        simp only [lcGo, Option.bind_eq_some_iff] at hl
        obtain ⟨ρ2, f1, ⟨b, ρ3⟩, f2, f3⟩ := hl
        have ei2 : Ex (Fz (p :: S) (upd H1 p (.lst []))) (Fz (p :: S) H2) := ei.trans (Fz.ex e2)
        refine hg c (p :: S) own' (L2.wipe σ vs) H2 ρi x ds[i] ρ2 _ (si.ex e2) q f1 fun own2 σ2 hl2 hk2 hn2 s2 => ?_
        have hw : L2.wipe σ2 vs = L2.wipe σ vs := by
          have e := wipe_eq (σ := L2.wipe σ vs) (σ' := σ2) (vs := vs) hl2 fun j hj => (hk2 j fun m => hj (hts j m)).1
          rw [e]
          exact wipe_eq (by rw [wipe_length]) fun j hj => wipe_out hj
        have ho2 : ∀ j, j ∉ vs → own2 j = own j := fun j hj => ((hk2 j fun m => hj (hts j m)).2.2).trans (hoi j hj)
        have hp2 : ∀ j, p ∉ own2 j := fun j m => hpi j (hn2 j p m)
        have hv2 : ∀ j ∈ vs, own2 j = [] := fun j hj => List.eq_nil_iff_forall_not_mem.mpr fun a ha => by have := hn2 j a ha; rw [hvi j hj] at this; cases this
        refine ⟨hw, ttOf.mk s2 f2 fun H3 e3 s3 fr3 => ?_⟩
        have ei3 := ei2.trans e3
        have ha3 : H3 p = some (.lst acc) := fr3 p _ hp2 (e2 p _ ha)
        have hr3 : RepL K (Fz (p :: S) H3) acc as := (hr.mono (Fz.ex e2)).mono e3
        have again : ∀ {H4 : Hp} {ρ4 : List Cell}, SR K c (p :: S) own2 σ2 H4 ρ4 → SR K c (p :: S) own2 (L2.wipe σ vs) H4 (wipeC ρ4 vs) := fun s4 => by
          have := s4.wipe vs hv2
          rw [hw] at this
          exact this
        cases b with
        | false =>
          simp only [Bool.false_eq_true, if_false] at f3 ⊢
          exact ⟨own2, _, acc, as, rest, ei3, again s3, ho2, hp2, hv2, ha3, hr3, hout, f3⟩
        | true =>
          simp only [if_true, Option.bind_eq_some_iff, Option.map_eq_some_iff] at f3 ⊢
          obtain ⟨⟨y, ρ4⟩, f4, ⟨rest', ρ5⟩, f5, ez⟩ := f3
          cases ez
          refine teOf.mk s3 f4 fun v H4 e4 s4 q4 fr4 => ?_
          have ha4 : H4 p = some (.lst acc) := fr4 p _ hp2 ha3
          have fz : Fz (p :: S) (upd H4 p (.lst (acc ++ [v]))) = Fz (p :: S) H4 := Fz.upd_own List.mem_cons_self
          refine ⟨acc, ha4, ?_, own2, _, acc ++ [v], as ++ [y], rest', ?_, (again s4).touch List.mem_cons_self ha4 hp2 hp0, ho2, hp2, hv2, upd_same, ?_, by rw [List.append_assoc]; exact hout, f5⟩
          · have l1 := hr.length
            have l2 := congrArg List.length hout
            rw [List.length_append, List.length_cons] at l2
            have l3 : out.length ≤ sizeLine := hsz
            have l4 : as.length < sizeLine := by omega
            omega
          · rw [fz]; exact ei3.trans e4
          · rw [fz]; exact (hr3.mono e4).snoc q4
    · left
      have e : i = ds.length := by omega
      subst e
      rw [List.drop_length] at hl
      cases hl
      rw [List.append_nil] at hout
      subst hout
      have ex : Ex (Fz S H1) (Fz S H') := ((Fz.upd_new hp).trans ei).trans (Fz.sub fun _ m => List.mem_cons_of_mem _ m)
      exact ⟨w'.stop (p :: S) H' ei, k _ H' (e1.trans ex) (SR.back sr1 hpl ex si hoi) (.lst (by rw [Fz.out hpS]; exact ha) (hr.mono (Fz.sub fun _ m => List.mem_cons_of_mem _ m)))⟩
section
variable {X : Cx} {elt tg iter : Expr} {ifs : List Expr} {scope : Scope} {own : List (Str × Nat)} {pos : Pos} {mi : MI} {g : TG} {ts : List Nat} {f : MG} {mt : MT} {me : ME}
abbrev PTMs (X : Cx) (ifs : List Expr) (t : MT) : Prop := PTs X ifs (ttOf X.K t)
def mYes : MT := fun ρ => some (true, ρ)
theorem ptms_nil : PTMs X [] mYes := ⟨fun pins s σ H Q I h => pts_nil.run pins s σ H Q I (by
  obtain ⟨c, S, own, ρ, d, ρ', sr, hm, k⟩ := h
  cases hm
  exact k H (Ex.refl _) sr)⟩
theorem ptms_one {c : Expr} (h : PTM X c mt) : PTMs X [c] mt := pts_one h
theorem pem_lc (hc : X.calm = true) (hN : X.N.Nodup) (hi : PIM X tg iter mi) (ok : blkC X.N X.env.scope scope own = true)
    (hg : ∀ (s : Shared) (H : Hp) (C : Addr) (cl : List (Str × Addr)) (fp : List Addr), PG (X.blk s H scope (compEnvC scope cl C X.env) fp) tg g) (hf : GM X.K g ts f) (hts : ∀ i ∈ ts, i ∈ own.map (·.2))
    (ht : ∀ (s : Shared) (H : Hp) (C : Addr) (cl : List (Str × Addr)) (fp : List Addr), PTMs (X.blk s H scope (compEnvC scope cl C X.env) fp) ifs mt)
    (he : ∀ (s : Shared) (H : Hp) (C : Addr) (cl : List (Str × Addr)) (fp : List Addr), PEM (X.blk s H scope (compEnvC scope cl C X.env) fp) elt me) (hs : ∀ x, foldedSetIterable iter X.env x = pure x := by intro _; rfl) :
    PEM X (.ListComp elt [⟨tg, iter, ifs, 0⟩] scope pos) (mLc mi f mt me (own.map (·.2))) := PE.to (pe_lc hc hN hi (blkOk_by ok) hg ht he hs) fun _ _ _ q => em_lc hf hts q
end
end TL

namespace TL
open PySem L2

/-! ### data as the library reads it -/
def kP : Key → PyData
  | .inl i => .int i
  | .inr x => .str x
mutual
def D.py : D → Option PyData
  | .non => some .none
  | .bl b => some (.bool b)
  | .int i => some (.int i)
  | .str x => some (.str x)
  | .tup xs => (D.pys xs).map .tuple
  | .lst xs => (D.pys xs).map .list
  | .dct kvs => (D.pyk kvs).map .dict
  | .obj _ _ => none
  | .scr _ => none
def D.pys : List D → Option (List PyData)
  | [] => some []
  | x :: xs => (D.py x).bind fun p => (D.pys xs).map fun ps => p :: ps
def D.pyk : List (Key × D) → Option (List (PyData × PyData))
  | [] => some []
  | (k, x) :: xs => (D.py x).bind fun p => (D.pyk xs).map fun ps => (kP k, p) :: ps
end
def D.flat : D → Bool
  | .non => true
  | .bl _ => true
  | .int _ => true
  | .str _ => true
  | _ => false

theorem Vals.cons_inv {x : V} {xs : List V} {us : List Value} (r : Vals (x :: xs) us) : ∃ u ws, us = u :: ws ∧ RelV x u ∧ Vals xs ws := by
  cases r with
  | cons a b => exact ⟨_, _, rfl, a, b⟩
theorem KV.cons_inv {x : Key × V} {xs : List (Key × V)} {us : List (Key × Value)} (r : KV (x :: xs) us) : ∃ u ws, us = u :: ws ∧ x.1 = u.1 ∧ RelV x.2 u.2 ∧ KV xs ws := by
  cases r with
  | cons a b => exact ⟨_, _, rfl, a.1, a.2, b⟩
theorem key_reads {h : Heap} {k : Key} {v : Value} (hk : keyIs k v = true) : Reads h v (kP k) [] := by
  rcases keyIs_shape hk with ⟨i, t, rfl, rfl⟩ | ⟨x, t, rfl, rfl⟩
  · exact .int i t
  · exact .str x t
section
variable {X : Cx} {pins : List (Addr × Obj)} {σ : St} {H : Hp} {s : Shared}
mutual
theorem Rep.reads (I : Inv X pins σ H s) : ∀ {d : D} {v : V} {p : PyData} {u : Value}, Rep X.K H v d → d.py = some p → RelV v u → ∃ as, Reads s.heap u p as
  | _, _, _, _, .non, e, r => by cases e; cases r; exact ⟨_, .none⟩
  | _, _, _, _, .bl b, e, r => by cases e; cases r; exact ⟨_, .bool b⟩
  | _, _, _, _, .int i, e, r => by cases e; obtain ⟨t, rfl⟩ := r; exact ⟨_, .int i t⟩
  | _, _, _, _, .str x, e, r => by cases e; obtain ⟨t, rfl⟩ := r; exact ⟨_, .str x t⟩
  | _, _, _, _, .tup hs ha, e, r => by
    simp only [D.py, Option.map_eq_some_iff] at e
    obtain ⟨ps, e1, rfl⟩ := e
    cases r
    obtain ⟨its, rv, ⟨o, ho, hc, n, hd⟩, _⟩ := I.tuple hs
    obtain ⟨as, hr⟩ := RepL.reads I ha e1 rv
    exact ⟨_, .tuple ho hc hd hr⟩
  | _, _, _, _, .lst hs ha, e, r => by
    simp only [D.py, Option.map_eq_some_iff] at e
    obtain ⟨ps, e1, rfl⟩ := e
    cases r
    obtain ⟨its, rv, ⟨o, n, ho, hc, _, hd⟩, _⟩ := I.list (SqL.of hs)
    obtain ⟨as, hr⟩ := RepL.reads I ha e1 rv
    exact ⟨_, .list ho hc hd hr⟩
  | _, _, _, _, .dct hs ha, e, r => by
    simp only [D.py, Option.map_eq_some_iff] at e
    obtain ⟨ps, e1, rfl⟩ := e
    cases r
    obtain ⟨hz, hsy, vs, rk, o, es, ep, ho, hx, hd, _, hp, _⟩ := I.hok _ _ hs
    obtain ⟨as, bs, h1, h2⟩ := RepK.reads I ha e1 rk hp
    exact ⟨_, .dict ho hx.1 hd h1 h2⟩
  | _, _, _, _, .obj _ _, e, _ => by simp [D.py] at e
  | _, _, _, _, .scr _, e, _ => by simp [D.py] at e
theorem RepL.reads (I : Inv X pins σ H s) : ∀ {ds : List D} {vs : List V} {ps : List PyData} {us : List Value}, RepL X.K H vs ds → D.pys ds = some ps → Vals vs us → ∃ as, ReadsAll s.heap us ps as
  | _, _, _, _, .nil, e, r => by cases e; cases r; exact ⟨_, .nil⟩
  | _, _, _, _, .cons h t, e, r => by
    simp only [D.pys, Option.bind_eq_some_iff, Option.map_eq_some_iff] at e
    obtain ⟨p, e1, ps, e2, rfl⟩ := e
    obtain ⟨u, ws, rfl, r1, r2⟩ := Vals.cons_inv r
    obtain ⟨as, q1⟩ := Rep.reads I h e1 r1
    obtain ⟨bs, q2⟩ := RepL.reads I t e2 r2
    exact ⟨_, .cons q1 q2⟩
theorem RepK.reads (I : Inv X pins σ H s) : ∀ {ds : List (Key × D)} {vs : List (Key × V)} {ps : List (PyData × PyData)} {us : List (Key × Value)} {es : List DictEntry}, RepK X.K H vs ds → D.pyk ds = some ps → KV vs us → Pairs (mixKind X.prog X.w) es us →
    ∃ as bs, ReadsAll s.heap (es.map (·.key)) (ps.map (·.1)) as ∧ ReadsAll s.heap (es.map (·.val)) (ps.map (·.2)) bs
  | _, _, _, _, _, .nil, e, r, q => by cases e; cases r; cases q; exact ⟨_, _, .nil, .nil⟩
  | _, _, _, _, _, .cons h t, e, r, q => by
    simp only [D.pyk, Option.bind_eq_some_iff, Option.map_eq_some_iff] at e
    obtain ⟨p, e1, ps, e2, rfl⟩ := e
    obtain ⟨u, ws, rfl, r1, r2, r3⟩ := KV.cons_inv r
    cases q with
    | cons k1 k2 k3 =>
      obtain ⟨as, q1⟩ := Rep.reads I h e1 r2
      obtain ⟨bs, cs, q2, q3⟩ := RepK.reads I t e2 r3 k3
      rw [← r1] at k1
      rw [← k2] at q1
      exact ⟨_, _, .cons (key_reads k1) q2, .cons q1 q3⟩
end
/-- a dict of numbers and texts -/
theorem Rep.reads_flat (I : Inv X pins σ H s) {kvs : List (Key × D)} {v : V} {ps : List (PyData × PyData)} {u : Value} (r : Rep X.K H v (.dct kvs)) (e : D.pyk kvs = some ps) (q : RelV v u) (hf : kvs.all (fun kv => kv.2.flat) = true) : ∃ as, Reads s.heap u (.dict ps) as ∧ sysModules ∉ as := by
  cases r with
  | dct hs ha =>
    cases q
    obtain ⟨hz, hsy, vs, rk, o, es, ep, ho, hx, hd, _, hp, _⟩ := I.hok _ _ hs
    have key : ∀ {ds : List (Key × D)} {vs : List (Key × V)} {ps : List (PyData × PyData)} {us : List (Key × Value)} {es : List DictEntry}, ds.all (fun kv => kv.2.flat) = true → RepK X.K H vs ds → D.pyk ds = some ps → KV vs us → Pairs (mixKind X.prog X.w) es us →
        ReadsAll s.heap (es.map (·.key)) (ps.map (·.1)) [] ∧ ReadsAll s.heap (es.map (·.val)) (ps.map (·.2)) [] := by
      intro ds
      induction ds with
      | nil => intro vs ps us es _ h e r q; cases h; cases e; cases r; cases q; exact ⟨.nil, .nil⟩
      | cons d ds ih =>
        intro vs ps us es hf h e r q
        cases h with
        | cons h t =>
          simp only [D.pyk, Option.bind_eq_some_iff, Option.map_eq_some_iff] at e
          obtain ⟨p, e1, ps, e2, rfl⟩ := e
          obtain ⟨u, ws, rfl, r1, r2, r3⟩ := KV.cons_inv r
          simp only [List.all_cons, Bool.and_eq_true] at hf
          cases q with
          | cons k1 k2 k3 =>
            obtain ⟨q2, q3⟩ := ih hf.2 t e2 r3 k3
            rw [← r1] at k1
            have q1 : Reads s.heap u.2 p [] := by
              cases h with
              | non => cases e1; have r2' : u.2 = Value.none := r2; rw [r2']; exact .none
              | bl b => cases e1; have r2' : u.2 = Value.bool b := r2; rw [r2']; exact .bool b
              | int i => cases e1; obtain ⟨t, r2'⟩ := r2; rw [r2']; exact .int i t
              | str x => cases e1; obtain ⟨t, r2'⟩ := r2; rw [r2']; exact .str x t
              | _ => cases hf.1
            rw [← k2] at q1
            exact ⟨ReadsAll.cons (as := []) (bs := []) (key_reads k1) q2, ReadsAll.cons (as := []) (bs := []) q1 q3⟩
    obtain ⟨h1, h2⟩ := key hf ha e rk hp
    refine ⟨_, .dict ho hx.1 hd h1 h2, ?_⟩
    simp only [List.append_nil, List.mem_singleton]
    exact fun z => by rw [z] at hsy; simp at hsy
end
/-! ### comparisons -/
def cmpP (f : PyData → PyData → Option Bool) : D → D → Option D := fun a b => a.py.bind fun p => b.py.bind fun q => if p.depth ≤ 64 then (f p q).map .bl else none
def fEq (p q : PyData) : Option Bool := if p.plain = true ∧ q.plain = true then some (PyData.eqv p q) else none
def fNe (p q : PyData) : Option Bool := if p.plain = true ∧ q.plain = true then some (!PyData.eqv p q) else none
def fOrd (f : PyData → PyData → Bool) (p q : PyData) : Option Bool := match p with
  | .none => none
  | p => if PySem.W.alike p q = true then some (f p q) else none
def dEq := cmpP fEq
def dNe := cmpP fNe
def dLt := cmpP (fOrd fun p q => PySem.W.dataLt p q)
def dGt := cmpP (fOrd fun p q => PySem.W.dataLt q p)
def dLe := cmpP (fOrd fun p q => !PySem.W.dataLt q p)
def dGe := cmpP (fOrd fun p q => !PySem.W.dataLt p q)
def rP (K : PySem.W.Frag) (f : PyData → PyData → Option Bool) : R2 := fun x y H Q => ∃ a b p q k, Rep K H x a ∧ Rep K H y b ∧ a.py = some p ∧ b.py = some q ∧ p.depth ≤ 64 ∧ f p q = some k ∧ Q (.bl k) H
theorem ro_cmp {K : PySem.W.Frag} {f : PyData → PyData → Option Bool} : RO K (rP K f) (cmpP f) := by
  intro S H x y a b d Q ra rb hf t k
  simp only [cmpP, Option.bind_eq_some_iff] at hf
  obtain ⟨p, e1, q, e2, hf⟩ := hf
  split at hf
  · rename_i hd
    simp only [Option.map_eq_some_iff] at hf
    obtain ⟨z, e3, rfl⟩ := hf
    exact ⟨a, b, p, q, z, ra.mono Fz.le, rb.mono Fz.le, e1, e2, hd, e3, k _ H (Ex.refl _) (.bl _)⟩
  · cases hf
section
variable {X : Cx}
theorem opP {op : CmpOp} {f : PyData → PyData → Option Bool} (hu : X.A.units + 64 < cLine)
    (h : ∀ (E : Value → Shared → Prop) (s : Shared) (a b : Value) (p q : PyData) (as bs : List Addr) (k : Bool) (Q : Value → Shared → Prop), Reads s.heap a p as → Reads s.heap b q bs → X.A.units + min p.depth q.depth < cLine → f p q = some k → Q (.bool k) s → wpAny (model X.prog X.w) X.A (compareOp op a b) Q E s) :
    OpR X (compareOp op) (rP X.K f) := by
  rintro pins s σ H x y v u Q I rx ry ⟨a, b, p, q, k, ra, rb, e1, e2, hd, e3, hq⟩
  obtain ⟨as, r1⟩ := Rep.reads I ra e1 rx
  obtain ⟨bs, r2⟩ := Rep.reads I rb e2 ry
  exact h _ s v u p q as bs k _ r1 r2 (by have := Nat.min_le_left p.depth q.depth; omega) e3 ⟨.bl _, H, I, rfl, hq⟩
theorem op_eqP (hu : X.A.units + 64 < cLine) : OpR X (compareOp .Eq) (rP X.K fEq) := opP hu fun E s a b p q as bs k Q r1 r2 hu e hq => by
  unfold fEq at e
  split at e
  · rename_i h; cases e; exact PySem.SeqAt.eq_plain r1 r2 h.1 h.2 hu hq
  · cases e
theorem op_neP (hu : X.A.units + 64 < cLine) : OpR X (compareOp .NotEq) (rP X.K fNe) := opP hu fun E s a b p q as bs k Q r1 r2 hu e hq => by
  unfold fNe at e
  split at e
  · rename_i h; cases e; exact PySem.SeqAt.ne_plain r1 r2 h.1 h.2 hu hq
  · cases e
theorem fOrd_inv {f : PyData → PyData → Bool} {p q : PyData} {k : Bool} (e : fOrd f p q = some k) : p ≠ .none ∧ PySem.W.alike p q = true ∧ k = f p q := by
  cases p with
  | none => cases e
  | _ =>
    simp only [fOrd] at e
    split at e
    · rename_i h; cases e; exact ⟨(by intro z; cases z), h, rfl⟩
    · cases e
theorem op_ltP (hu : X.A.units + 64 < cLine) : OpR X (compareOp .Lt) (rP X.K (fOrd fun p q => PySem.W.dataLt p q)) := opP hu fun E s a b p q as bs k Q r1 r2 hu e hq => by
  obtain ⟨n, al, rfl⟩ := fOrd_inv e; exact PySem.W.lt_data r1 r2 al n hu hq
theorem op_gtP (hu : X.A.units + 64 < cLine) : OpR X (compareOp .Gt) (rP X.K (fOrd fun p q => PySem.W.dataLt q p)) := opP hu fun E s a b p q as bs k Q r1 r2 hu e hq => by
  obtain ⟨n, al, rfl⟩ := fOrd_inv e; exact PySem.W.gt_data r1 r2 al n hu hq
theorem op_leP (hu : X.A.units + 64 < cLine) : OpR X (compareOp .LtE) (rP X.K (fOrd fun p q => !PySem.W.dataLt q p)) := opP hu fun E s a b p q as bs k Q r1 r2 hu e hq => by
  obtain ⟨n, al, rfl⟩ := fOrd_inv e; exact PySem.W.le_data r1 r2 al n hu hq
theorem op_geP (hu : X.A.units + 64 < cLine) : OpR X (compareOp .GtE) (rP X.K (fOrd fun p q => !PySem.W.dataLt p q)) := opP hu fun E s a b p q as bs k Q r1 r2 hu e hq => by
  obtain ⟨n, al, rfl⟩ := fOrd_inv e; exact PySem.W.ge_data r1 r2 al n hu hq
end
/-! ### repr -/
def D.flatDict : D → Bool
  | .dct kvs => kvs.all fun kv => kv.2.flat
  | _ => false
def shows (d : D) (p : PyData) : Bool := p.showable && decide (p.shown.length ≤ sizeLine) && decide (p.depth ≤ 60) && (!p.hasDict || d.flatDict)
def dRepr : List D → Option D
  | [d] => d.py.bind fun p => if shows d p = true then some (.str p.shown) else none
  | _ => none
def rRepr (K : PySem.W.Frag) : List V → Hp → VK → Prop := fun xs H Q => ∃ x d p, xs = [x] ∧ Rep K H x d ∧ d.py = some p ∧ shows d p = true ∧ Q (.str p.shown) H
theorem rc_repr {K : PySem.W.Frag} : RC K (rRepr K) dRepr := by
  intro S H xs as d Q r hf t k
  match as, r, hf with
  | [a], .cons (v := x) r .nil, hf =>
    simp only [dRepr, Option.bind_eq_some_iff] at hf
    obtain ⟨p, e1, hf⟩ := hf
    split at hf
    · rename_i h
      cases hf
      exact ⟨x, a, p, rfl, r.mono Fz.le, e1, h, k _ H (Ex.refl _) (.str _)⟩
    · cases hf
section
variable {X : Cx}
theorem call_reprP (hg : X.A.guards = some []) (hu : X.A.units + 64 < cLine) : CallR X (.builtin "repr") (rRepr X.K) := by
  rintro pins s σ H xs us Q I r ⟨x, d, p, rfl, rd, e, hs, q⟩
  obtain ⟨u, ws, rfl, ru, rw'⟩ := Vals.cons_inv r
  cases rw'
  simp only [shows, Bool.and_eq_true, decide_eq_true_eq, Bool.or_eq_true, Bool.not_eq_true'] at hs
  obtain ⟨⟨⟨h1, h2⟩, h3⟩, h4⟩ := hs
  have big : ∀ a, u = .ref a → wpAny (model X.prog X.w) X.A (call (.builtin "repr") [u]) (EP X pins σ Q) X.xe s := by
    rintro a rfl
    have fin : ∀ (as : List Addr), Reads s.heap (.ref a) p as → (p.hasDict = true → sysModules ∉ as) → wpAny (model X.prog X.w) X.A (call (.builtin "repr") [.ref a]) (EP X pins σ Q) X.xe s := fun as ra hn =>
      PySem.repr_of_reads' ra h1 hn hg (by omega) (fun _ _ e => e) (fun h' t tk hk => ⟨.str p.shown, H, I.kept hk, ⟨t, rfl⟩, q⟩) h2
    rcases h4 with h4 | h4
    · obtain ⟨as, ra⟩ := Rep.reads I rd e ru
      exact fin as ra fun z => by rw [h4] at z; cases z
    · cases d with
      | dct kvs =>
        have e' := e
        simp only [D.py, Option.map_eq_some_iff] at e'
        obtain ⟨ps, e1, rfl⟩ := e'
        obtain ⟨as, ra, hn⟩ := Rep.reads_flat I rd e1 ru h4
        exact fin as ra fun _ => hn
      | _ => cases h4
  cases rd with
  | non => cases e; cases ru; exact PySem.P.repr_of_none ⟨.str _, H, I.tok _, ⟨_, rfl⟩, by simpa only [PyData.shown] using q⟩
  | bl b => cases e; cases ru; exact PySem.P.repr_of_bool ⟨.str _, H, I.tok _, ⟨_, rfl⟩, by simpa only [PyData.shown] using q⟩
  | int i => cases e; obtain ⟨t, rfl⟩ := ru; exact PySem.P.repr_of_int (by simpa [PyData.showable] using h1) ⟨.str _, H, I.tok _, ⟨_, rfl⟩, by simpa only [PyData.shown] using q⟩
  | str z => cases e; obtain ⟨t, rfl⟩ := ru; exact PySem.P.repr_of_str ⟨.str _, H, I.tok _, ⟨_, rfl⟩, by simpa only [PyData.shown] using q⟩ (by simpa only [PyData.shown] using h2)
  | tup _ _ => cases ru; exact big _ rfl
  | lst _ _ => cases ru; exact big _ rfl
  | dct _ _ => cases ru; exact big _ rfl
  | obj _ _ => cases ru; exact big _ rfl
  | scr _ => cases ru; exact big _ rfl
end
end TL

namespace TL
open PySem L2

/-! ### arithmetic, texts, lists, tuples -/
def mulOk (i j : Int) : Bool := decide (i.natAbs.log2 + j.natAbs.log2 < 1000000)
def dAdd : D → D → Option D
  | .int i, .int j => some (.int (i + j))
  | .str a, .str b => if a.length + b.length ≤ sizeLine then some (.str (a ++ b)) else none
  | .lst a, .lst b => if a.length + b.length ≤ sizeLine then some (.lst (a ++ b)) else none
  | .tup a, .tup b => if a.length + b.length ≤ sizeLine then some (.tup (a ++ b)) else none
  | _, _ => none
def dSub : D → D → Option D
  | .int i, .int j => some (.int (i - j))
  | _, _ => none
def dFdiv : D → D → Option D
  | .int i, .int j => if 0 < j ∧ j.natAbs.log2 < 9000 then some (.int (i / j)) else none
  | _, _ => none
def dMod : D → D → Option D
  | .int i, .int j => if 0 < j then some (.int (i % j)) else none
  | _, _ => none
def dPow : D → D → Option D
  | .int i, .int j => if 0 ≤ j ∧ j ≤ 1000000 ∧ i.natAbs < 2 ^ 64 then some (.int (i ^ j.toNat)) else none
  | _, _ => none
def strMul (x : Str) (n : Nat) : Str := ⟨(List.replicate n x.cps.toList).flatten.toArray⟩
def dMul : D → D → Option D
  | .int i, .int j => if mulOk i j = true then some (.int (i * j)) else none
  | _, _ => none
def rAddA (K : PySem.W.Frag) : R2 := fun x y H Q => (rI0 (fun i j => .int (i + j)) x y H Q ∨ (∃ i j, x = .str i ∧ y = .str j ∧ i.length + j.length ≤ sizeLine ∧ Q (.str (i ++ j)) H)) ∨ (rCat x y H Q ∨ rCatA K x y H Q)
section
variable {X : Cx}
theorem op_addA : OpR X (binaryOp .Add) (rAddA X.K) := OpR.or (OpR.or op_add op_add_str) (OpR.or op_cat op_catA)
end
section
variable {K : PySem.W.Frag}
theorem ro_add : RO K (rAddA K) dAdd := by
  intro S H x y a b d Q ra rb hf t k
  cases ra with
  | int i =>
    cases rb with
    | int j => cases hf; exact .inl (.inl ⟨i, j, rfl, rfl, k _ H (Ex.refl _) (.int _)⟩)
    | _ => cases hf
  | str x =>
    cases rb with
    | str y =>
      simp only [dAdd] at hf
      split at hf
      · rename_i h; cases hf; exact .inl (.inr ⟨x, y, rfl, rfl, h, k _ H (Ex.refl _) (.str _)⟩)
      · cases hf
    | _ => cases hf
  | lst h1 l1 =>
    cases rb with
    | lst h2 l2 =>
      simp only [dAdd] at hf
      split at hf
      · rename_i h; cases hf
        exact .inr (.inl ⟨_, _, _, _, rfl, rfl, Fz.le _ _ h1, Fz.le _ _ h2, by rw [l1.length, l2.length]; exact h, fun p hp => k _ _ (Ex.new hp) (.lst (fz_new t hp) ((l1.append l2).mono (Fz.ex (Ex.new hp))))⟩)
      · cases hf
    | _ => cases hf
  | tup h1 l1 =>
    cases rb with
    | tup h2 l2 =>
      simp only [dAdd] at hf
      split at hf
      · rename_i h; cases hf
        refine .inr (.inr ⟨_, _, _, _, rfl, rfl, Fz.le.sqt h1, Fz.le.sqt h2, by rw [l1.length, l2.length]; exact h, fun e => ?_, fun _ e => ?_, fun _ _ p hp => k _ _ (Ex.new hp) (.tup (SqT.of (fz_new t hp)) ((l1.append l2).mono (Fz.ex (Ex.new hp))))⟩)
        · subst e
          cases l1
          exact k _ H (Ex.refl _) (.tup h2 l2)
        · subst e
          cases l2
          rw [List.append_nil] at k
          exact k _ H (Ex.refl _) (.tup h1 l1)
      · cases hf
    | _ => cases hf
  | _ => cases hf
theorem ro_I0 {g : Int → Int → Int} {f : D → D → Option D} (h : ∀ a b d, f a b = some d → ∃ i j, a = .int i ∧ b = .int j ∧ d = .int (g i j)) : RO K (rI0 fun i j => .int (g i j)) f := by
  intro S H x y a b d Q ra rb hf t k
  obtain ⟨i, j, rfl, rfl, rfl⟩ := h a b d hf
  cases ra; cases rb
  exact ⟨i, j, rfl, rfl, k _ H (Ex.refl _) (.int _)⟩
theorem ro_I {C : Int → Int → Prop} {g : Int → Int → Int} {f : D → D → Option D} (h : ∀ a b d, f a b = some d → ∃ i j, a = .int i ∧ b = .int j ∧ C i j ∧ d = .int (g i j)) : RO K (rI C fun i j => .int (g i j)) f := by
  intro S H x y a b d Q ra rb hf t k
  obtain ⟨i, j, rfl, rfl, c, rfl⟩ := h a b d hf
  cases ra; cases rb
  exact ⟨i, j, rfl, rfl, c, k _ H (Ex.refl _) (.int _)⟩
theorem ro_sub : RO K (rI0 fun i j => .int (i - j)) dSub := ro_I0 fun a b d h => by
  cases a <;> first | (cases h; done) | skip
  cases b <;> first | (cases h; done) | skip
  cases h; exact ⟨_, _, rfl, rfl, rfl⟩
theorem ro_mul : RO K (rI CMulW fun i j => .int (i * j)) dMul := ro_I fun a b d h => by
  cases a <;> first | (cases h; done) | skip
  cases b <;> first | (cases h; done) | skip
  simp only [dMul] at h
  split at h
  · rename_i c; cases h; exact ⟨_, _, rfl, rfl, of_decide_eq_true (p := _ < 1000000) c, rfl⟩
  · cases h
theorem ro_fdiv : RO K (rI CDivW fun i j => .int (i / j)) dFdiv := ro_I fun a b d h => by
  cases a <;> first | (cases h; done) | skip
  cases b <;> first | (cases h; done) | skip
  simp only [dFdiv] at h
  split at h
  · rename_i c; cases h; exact ⟨_, _, rfl, rfl, c, rfl⟩
  · cases h
theorem ro_mod : RO K (rI (fun _ j => 0 < j) fun i j => .int (i % j)) dMod := ro_I fun a b d h => by
  cases a <;> first | (cases h; done) | skip
  cases b <;> first | (cases h; done) | skip
  simp only [dMod] at h
  split at h
  · rename_i c; cases h; exact ⟨_, _, rfl, rfl, c, rfl⟩
  · cases h
theorem ro_pow : RO K (rI CPow fun i j => .int (i ^ j.toNat)) dPow := ro_I fun a b d h => by
  cases a <;> first | (cases h; done) | skip
  cases b <;> first | (cases h; done) | skip
  simp only [dPow] at h
  split at h
  · rename_i c; cases h; exact ⟨_, _, rfl, rfl, c, rfl⟩
  · cases h
def dNeg : D → Option D
  | .int i => some (.int (-i))
  | _ => none
theorem ru_neg : RU K (rU fun i => .int (-i)) dNeg := by
  intro S H x a d Q ra hf t k
  cases ra <;> first | (cases hf; done) | skip
  cases hf
  exact ⟨_, rfl, k _ H (Ex.refl _) (.int _)⟩
end
/-! ### in, not in -/
def strIn (i j : Str) : Bool := !(Builtin.Str.occurrences j i 0 j.length 1).isEmpty
def dIn : D → D → Option D
  | .str i, .str j => some (.bl (strIn i j))
  | _, _ => none
def dNotIn : D → D → Option D
  | .str i, .str j => some (.bl (!strIn i j))
  | _, _ => none
section
variable {K : PySem.W.Frag}
theorem ro_in : RO K (fun x y H Q => ∃ i j, x = .str i ∧ y = .str j ∧ Q (.bl (!(Builtin.Str.occurrences j i 0 j.length 1).isEmpty)) H) dIn := by
  intro S H x y a b d Q ra rb hf t k
  cases ra <;> first | (cases hf; done) | skip
  cases rb <;> first | (cases hf; done) | skip
  cases hf
  exact ⟨_, _, rfl, rfl, k _ H (Ex.refl _) (.bl _)⟩
theorem ro_notIn : RO K (fun x y H Q => ∃ i j, x = .str i ∧ y = .str j ∧ Q (.bl (!(!(Builtin.Str.occurrences j i 0 j.length 1).isEmpty))) H) dNotIn := by
  intro S H x y a b d Q ra rb hf t k
  cases ra <;> first | (cases hf; done) | skip
  cases rb <;> first | (cases hf; done) | skip
  cases hf
  exact ⟨_, _, rfl, rfl, k _ H (Ex.refl _) (.bl _)⟩
end
/-! ### items and slices -/
def dItem : D → D → Option D
  | .lst ds, .int i => atI ds i
  | .tup ds, .int i => atI ds i
  | .str x, .int i => if x.length ≤ sizeLine then (atI x.cps.toList i).map fun c => .str ⟨#[c]⟩ else none
  | _, _ => none
theorem RepL.atI {K : PySem.W.Frag} {H : Hp} {xs : List V} {ds : List D} {i : Int} {d : D} (r : RepL K H xs ds) (h : L2.atI ds i = some d) : ∃ v, L2.atI xs i = some v ∧ Rep K H v d := by
  unfold L2.atI at h ⊢
  rw [r.length]
  simp only [Option.bind_eq_some_iff] at h ⊢
  obtain ⟨j, h1, h2⟩ := h
  obtain ⟨v, h3, q⟩ := r.get h2
  exact ⟨v, ⟨j, h1, h3⟩, q⟩
section
variable {K : PySem.W.Frag}
theorem ro_item : RO K (rIx K) dItem := by
  intro S H x y a b d Q ra rb hf t k
  cases ra with
  | lst h1 l1 =>
    cases rb <;> first | (cases hf; done) | skip
    obtain ⟨v, e, q⟩ := l1.atI hf
    exact .inl ⟨_, _, _, v, rfl, rfl, SqL.of (Fz.le _ _ h1), e, k v H (Ex.refl _) q⟩
  | tup h1 l1 =>
    cases rb <;> first | (cases hf; done) | skip
    obtain ⟨v, e, q⟩ := l1.atI hf
    exact .inr (.inl ⟨_, _, _, v, rfl, rfl, Fz.le.sqt h1, e, k v H (Ex.refl _) q⟩)
  | str x =>
    cases rb <;> first | (cases hf; done) | skip
    simp only [dItem] at hf
    split at hf
    · rename_i h
      simp only [Option.map_eq_some_iff] at hf
      obtain ⟨c, e, rfl⟩ := hf
      exact .inr (.inr ⟨x, _, c, rfl, rfl, h, e, k _ H (Ex.refl _) (.str _)⟩)
    · cases hf
  | _ => cases hf
end
/-- the parts of a slice -/
abbrev MO := List Cell → Option (Option Int × List Cell)
def toOf (K : PySem.W.Frag) (m : MO) : TO := fun σ H Q => ∃ c S own ρ o ρ', SR K c S own σ H ρ ∧ m ρ = some (o, ρ') ∧ ∀ H', Ex (Fz S H) (Fz S H') → SR K c S own σ H' ρ' → Q o H'
def mNoPart : MO := fun ρ => some (none, ρ)
def mPart (ma : ME) : MO := fun ρ => (ma ρ).bind fun p => match p.1 with
  | .int i => some (some i, p.2)
  | _ => none
def cutD (ds : List D) (lo hi : Option Int) : List D := (ds.drop (HT.sIx ds.length 0 lo)).take (HT.sIx ds.length ds.length hi - HT.sIx ds.length 0 lo)
def dSlice (d : D) (lo hi : Option Int) : Option D := match d with
  | .lst ds => some (.lst (cutD ds lo hi))
  | .tup ds => some (.tup (cutD ds lo hi))
  | .scr ns => some (.lst (cutD (ns.map D.int) lo hi))
  | .str x => if x.length ≤ sizeLine then some (.str (cutS x lo hi)) else none
  | _ => none
def mSlice (ma : ME) (lo hi : MO) : ME := fun ρ => (ma ρ).bind fun p => (lo p.2).bind fun q => (hi q.2).bind fun r => (dSlice p.1 q.1 r.1).map fun d => (d, r.2)
theorem RepL.cut {K : PySem.W.Frag} {H : Hp} {xs : List V} {ds : List D} (lo hi : Option Int) (r : RepL K H xs ds) : RepL K H (cutV xs lo hi) (cutD ds lo hi) := by
  unfold cutV cutD
  rw [r.length]
  exact (r.drop _).take _
def rSlice (K : PySem.W.Frag) : V → Option Int → Option Int → Hp → VK → Prop := fun x lo hi H Q => rSlL K x lo hi H Q ∨ (rSlA K x lo hi H Q ∨ rSlS x lo hi H Q)
section
variable {K : PySem.W.Frag}
theorem sl_sliceA {X : Cx} : SlR X (rSlice X.K) := SlR.or sl_list (SlR.or sl_tupA sl_str)
theorem cut_all {α : Type} {xs : List α} {lo hi : Option Int} (h : HT.sIx xs.length 0 lo = 0 ∧ HT.sIx xs.length xs.length hi = xs.length) : (xs.drop (HT.sIx xs.length 0 lo)).take (HT.sIx xs.length xs.length hi - HT.sIx xs.length 0 lo) = xs := by
  rw [h.1, h.2, List.drop_zero, Nat.sub_zero, List.take_length]
theorem rs_slice {S : List Addr} {H : Hp} {x : V} {a d : D} {lo hi : Option Int} {Q : VK} (ra : Rep K (Fz S H) x a) (hf : dSlice a lo hi = some d) (t : ∀ a ∈ S, (H a).isSome = true) (k : ∀ v H', Ex H H' → Rep K (Fz S H') v d → Q v H') : rSlice K x lo hi H Q := by
  cases ra with
  | lst h1 l1 => cases hf; exact .inl ⟨_, _, rfl, SqL.of (Fz.le _ _ h1), fun p hp => k _ _ (Ex.new hp) (.lst (fz_new t hp) ((l1.cut lo hi).mono (Fz.ex (Ex.new hp))))⟩
  | tup h1 l1 =>
    cases hf
    refine .inr (.inl ⟨_, _, rfl, Fz.le.sqt h1, fun e => ?_, fun _ p hp => k _ _ (Ex.new hp) (.tup (SqT.of (fz_new t hp)) ((l1.cut lo hi).mono (Fz.ex (Ex.new hp))))⟩)
    have : cutD _ lo hi = _ := cut_all (by rw [← l1.length]; exact e)
    rw [this] at k
    exact k _ H (Ex.refl _) (.tup h1 l1)
  | scr h1 => cases hf; exact .inl ⟨_, _, rfl, Fz.le.sql h1, fun p hp => k _ _ (Ex.new hp) (.lst (fz_new t hp) (((RepL.of_ints _).cut lo hi).mono (Fz.ex (Ex.new hp))))⟩
  | str x =>
    simp only [dSlice] at hf
    split at hf
    · rename_i h; cases hf; exact .inr (.inr ⟨x, rfl, h, k _ H (Ex.refl _) (.str _)⟩)
    · cases hf
  | _ => cases hf
theorem em_slice {ma : ME} {lo hi : MO} {σ : St} {H : Hp} {Q : VK} : teOf K (mSlice ma lo hi) σ H Q → tSl (rSlice K) (teOf K ma) (toOf K lo) (toOf K hi) σ H Q := by
  rintro ⟨c, S, own, ρ, d, ρ', sr, hm, k⟩
  simp only [mSlice, Option.bind_eq_some_iff, Option.map_eq_some_iff] at hm
  obtain ⟨⟨a, ρ1⟩, h1, ⟨l, ρ2⟩, h2, ⟨u, ρ3⟩, h3, d', h4, e⟩ := hm
  cases e
  refine ⟨c, S, own, ρ, a, ρ1, sr, h1, fun v H1 e1 sr1 r1 => ⟨c, S, own, ρ1, l, ρ2, sr1, h2, fun H2 e2 sr2 => ⟨c, S, own, ρ2, u, ρ3, sr2, h3, fun H3 e3 sr3 => ?_⟩⟩⟩
  exact rs_slice (r1.mono (e2.trans e3)) h4 sr3.trk fun w H4 e4 r4 => k w H4 (((e1.trans e2).trans e3).trans (Fz.ex e4)) (sr3.ex e4) r4
end
section
variable {X : Cx} {e : Expr} {lo hi : Option Expr} {ma : ME} {ml mh : MO}
abbrev POM (X : Cx) (e : Option Expr) (m : MO) : Prop := PO X e (toOf X.K m)
theorem PO.to {e : Option Expr} {t t' : TO} (h : PO X e t) (q : ∀ σ H Q, t' σ H Q → t σ H Q) : PO X e t' := ⟨fun pins s σ H Q I z => h.run pins s σ H Q I (q σ H Q z)⟩
theorem pom_none : POM X none mNoPart := PO.to po_none fun σ H Q => by
  rintro ⟨c, S, own, ρ, d, ρ', sr, hm, k⟩
  cases hm
  exact k H (Ex.refl _) sr
theorem pom_some (h : PEM X e ma) : POM X (some e) (mPart ma) := PO.to (po_some h) fun σ H Q => by
  rintro ⟨c, S, own, ρ, d, ρ', sr, hm, k⟩
  simp only [mPart, Option.bind_eq_some_iff] at hm
  obtain ⟨⟨a, ρ1⟩, h1, h2⟩ := hm
  refine ⟨c, S, own, ρ, a, ρ1, sr, h1, fun v H1 e1 sr1 r1 => ?_⟩
  cases r1 with
  | int i => cases h2; exact ⟨i, rfl, k H1 e1 sr1⟩
  | _ => cases h2
theorem pem_slice {p2 pos} (h : PEM X e ma) (hl : POM X lo ml) (hh : POM X hi mh) : PEM X (.Subscript e (.Slice lo hi none p2) pos) (mSlice ma ml mh) := PE.to (pe_slice sl_sliceA h hl hh) fun _ _ _ q => em_slice q
theorem pem_item {a b : Expr} {ma mb : ME} {pos} (ha : PEM X a ma) (hb : PEM X b mb) (hs : PlainIx b) : PEM X (.Subscript a b pos) (mBin dItem ma mb) := PE.to (pe_ix ix_seq ha hb hs) fun _ _ _ q => em_op ro_item _ _ _ q
end
end TL

namespace TL
open PySem L2

/-! ### built-ins -/
theorem RC.or {K : PySem.W.Frag} {r r' : List V → Hp → VK → Prop} {f f' : List D → Option D} (h : RC K r f) (h' : RC K r' f') : RC K (fun xs H Q => r xs H Q ∨ r' xs H Q) fun ds => (f ds).or (f' ds) := by
  intro S H xs as d Q r0 hf t k
  have hf : (f as).or (f' as) = some d := hf
  cases e : f as with
  | some d' => rw [e] at hf; cases hf; exact .inl (h S H xs as _ Q r0 e t k)
  | none => rw [e] at hf; exact .inr (h' S H xs as d Q r0 hf t k)
def one (f : D → Option D) : List D → Option D
  | [d] => f d
  | _ => none
theorem rc_one {K : PySem.W.Frag} {r : List V → Hp → VK → Prop} {g : D → Option D} (h : ∀ (S : List Addr) (H : Hp) (x : V) (a d : D) (Q : VK), Rep K (Fz S H) x a → g a = some d → (∀ a ∈ S, (H a).isSome = true) → (∀ v H', Ex H H' → Rep K (Fz S H') v d → Q v H') → r [x] H Q) : RC K r (one g) := by
  intro S H xs as d Q r0 hf t k
  match as, r0, hf with
  | [a], .cons r0 .nil, hf => exact h S H _ a d Q r0 hf t k
def dLen1 : D → Option D
  | .str x => if x.length ≤ sizeLine then some (.int x.length) else none
  | .lst ds => some (.int ds.length)
  | .tup ds => some (.int ds.length)
  | .dct kvs => some (.int kvs.length)
  | _ => none
def dLen : List D → Option D := one dLen1
def rLenA (K : PySem.W.Frag) : List V → Hp → VK → Prop := fun xs H Q => (∃ x n, xs = [x] ∧ LenV K x H n ∧ Q (.int n) H) ∨ ∃ a kvs, xs = [V.ref a] ∧ H a = some (.dK kvs) ∧ Q (.int kvs.length) H
theorem call_lenA {X : Cx} : CallR X (.builtin "len") (rLenA X.K) := CallR.or call_len call_lenD
section
variable {K : PySem.W.Frag}
theorem RepK.length {H : Hp} : ∀ {xs : List (Key × V)} {ds : List (Key × D)}, RepK K H xs ds → xs.length = ds.length
  | _, _, .nil => rfl
  | _, _, .cons _ t => by rw [List.length_cons, List.length_cons, RepK.length t]
theorem rc_len : RC K (rLenA K) dLen := by
  refine rc_one fun S H x a d Q r hf t k => ?_
  case _ =>
    cases r with
    | str y =>
      simp only [dLen1] at hf
      split at hf
      · rename_i h; cases hf; exact .inl ⟨_, _, rfl, ⟨h, rfl⟩, k _ H (Ex.refl _) (.int _)⟩
      · cases hf
    | lst h1 l1 =>
      cases hf
      exact .inl ⟨_, _, rfl, .inl ⟨_, SqL.of (Fz.le _ _ h1), l1.length.symm⟩, k _ H (Ex.refl _) (.int _)⟩
    | tup h1 l1 =>
      cases hf
      exact .inl ⟨_, _, rfl, .inr ⟨_, Fz.le.sqt h1, l1.length.symm⟩, k _ H (Ex.refl _) (.int _)⟩
    | dct h1 l1 =>
      cases hf
      exact .inr ⟨_, _, rfl, Fz.le _ _ h1, by rw [l1.length]; exact k _ H (Ex.refl _) (.int _)⟩
    | _ => cases hf
/-- all, any, sum, min, max of a list -/
def asBls : List D → Option (List Bool)
  | [] => some []
  | .bl b :: ds => (asBls ds).map fun bs => b :: bs
  | _ => none
def asInts : List D → Option (List Int)
  | [] => some []
  | .int b :: ds => (asInts ds).map fun bs => b :: bs
  | _ => none
def asStrs : List D → Option (List Str)
  | [] => some []
  | .str b :: ds => (asStrs ds).map fun bs => b :: bs
  | _ => none
theorem asBls_eq : ∀ {ds : List D} {bs : List Bool}, asBls ds = some bs → ds = bs.map D.bl
  | [], _, h => by cases h; rfl
  | d :: ds, bs, h => by
    cases d <;> first | (cases h; done) | skip
    simp only [asBls, Option.map_eq_some_iff] at h
    obtain ⟨cs, e, rfl⟩ := h
    rw [asBls_eq e, List.map_cons]
theorem asInts_eq : ∀ {ds : List D} {bs : List Int}, asInts ds = some bs → ds = bs.map D.int
  | [], _, h => by cases h; rfl
  | d :: ds, bs, h => by
    cases d <;> first | (cases h; done) | skip
    simp only [asInts, Option.map_eq_some_iff] at h
    obtain ⟨cs, e, rfl⟩ := h
    rw [asInts_eq e, List.map_cons]
theorem asStrs_eq : ∀ {ds : List D} {bs : List Str}, asStrs ds = some bs → ds = bs.map D.str
  | [], _, h => by cases h; rfl
  | d :: ds, bs, h => by
    cases d <;> first | (cases h; done) | skip
    simp only [asStrs, Option.map_eq_some_iff] at h
    obtain ⟨cs, e, rfl⟩ := h
    rw [asStrs_eq e, List.map_cons]
@[simp] theorem asBls_map : ∀ bs : List Bool, asBls (bs.map D.bl) = some bs
  | [] => rfl
  | b :: bs => by simp [asBls, asBls_map bs]
@[simp] theorem asInts_map : ∀ bs : List Int, asInts (bs.map D.int) = some bs
  | [] => rfl
  | b :: bs => by simp [asInts, asInts_map bs]
@[simp] theorem asStrs_map : ∀ bs : List Str, asStrs (bs.map D.str) = some bs
  | [] => rfl
  | b :: bs => by simp [asStrs, asStrs_map bs]
def dAll1 : D → Option D
  | .lst ds => (asBls ds).map fun bs => .bl (bs.all id)
  | _ => none
def dAll : List D → Option D := one dAll1
def dAny1 : D → Option D
  | .lst ds => (asBls ds).map fun bs => .bl (bs.any id)
  | _ => none
def dAny : List D → Option D := one dAny1
def dSum1 : D → Option D
  | .lst ds => (asInts ds).map fun bs => .int bs.sum
  | _ => none
def dSum : List D → Option D := one dSum1
def dMax1 : D → Option D
  | .lst ds => (asInts ds).bind fun bs => bs.max?.map .int
  | _ => none
def dMax : List D → Option D := one dMax1
def dMin1 : D → Option D
  | .lst ds => (asInts ds).bind fun bs => bs.min?.map .int
  | _ => none
def dMin : List D → Option D := one dMin1
theorem rc_all : RC K (rAll K) dAll := by
  refine rc_one fun S H x a d Q r hf t k => ?_
  case _ =>
    cases r with
    | lst h1 l1 =>
      simp only [dAll1, Option.map_eq_some_iff] at hf
      obtain ⟨bs, e, rfl⟩ := hf
      rw [asBls_eq e] at l1
      have := l1.bools; subst this
      exact ⟨_, bs, rfl, SqL.of (Fz.le _ _ h1), k _ H (Ex.refl _) (.bl _)⟩
    | _ => cases hf
theorem rc_any : RC K (rAny K) dAny := by
  refine rc_one fun S H x a d Q r hf t k => ?_
  case _ =>
    cases r with
    | lst h1 l1 =>
      simp only [dAny1, Option.map_eq_some_iff] at hf
      obtain ⟨bs, e, rfl⟩ := hf
      rw [asBls_eq e] at l1
      have := l1.bools; subst this
      exact ⟨_, bs, rfl, SqL.of (Fz.le _ _ h1), k _ H (Ex.refl _) (.bl _)⟩
    | _ => cases hf
theorem rc_sum : RC K (rSum K) dSum := by
  refine rc_one fun S H x a d Q r hf t k => ?_
  case _ =>
    cases r with
    | lst h1 l1 =>
      simp only [dSum1, Option.map_eq_some_iff] at hf
      obtain ⟨bs, e, rfl⟩ := hf
      rw [asInts_eq e] at l1
      have := l1.ints; subst this
      exact ⟨_, bs, rfl, SqL.of (Fz.le _ _ h1), k _ H (Ex.refl _) (.int _)⟩
    | _ => cases hf
theorem rc_max : RC K (rMax K) dMax := by
  refine rc_one fun S H x a d Q r hf t k => ?_
  case _ =>
    cases r with
    | lst h1 l1 =>
      simp only [dMax1, Option.bind_eq_some_iff, Option.map_eq_some_iff] at hf
      obtain ⟨bs, e, m, em, rfl⟩ := hf
      rw [asInts_eq e] at l1
      have := l1.ints; subst this
      obtain ⟨m1, m2⟩ := List.max?_eq_some_iff.mp em
      refine ⟨_, bs, rfl, SqL.of (Fz.le _ _ h1), List.length_pos_of_mem m1, fun z z1 z2 => ?_⟩
      have : z = m := Int.le_antisymm (m2 z z1) (z2 m m1)
      subst this
      exact k _ H (Ex.refl _) (.int _)
    | _ => cases hf
theorem rc_min : RC K (rMin K) dMin := by
  refine rc_one fun S H x a d Q r hf t k => ?_
  case _ =>
    cases r with
    | lst h1 l1 =>
      simp only [dMin1, Option.bind_eq_some_iff, Option.map_eq_some_iff] at hf
      obtain ⟨bs, e, m, em, rfl⟩ := hf
      rw [asInts_eq e] at l1
      have := l1.ints; subst this
      obtain ⟨m1, m2⟩ := List.min?_eq_some_iff.mp em
      refine ⟨_, bs, rfl, SqL.of (Fz.le _ _ h1), List.length_pos_of_mem m1, fun z z1 z2 => ?_⟩
      have : z = m := Int.le_antisymm (z2 m m1) (m2 z z1)
      subst this
      exact k _ H (Ex.refl _) (.int _)
    | _ => cases hf
def signV (x : Str) : List V := x.cps.toList.map fun c => .str ⟨#[c]⟩
theorem rep_signs {K : PySem.W.Frag} {H : Hp} (x : Str) : RepL K H (signV x) (signs x) := by
  unfold signV signs
  generalize x.cps.toList = l
  induction l with
  | nil => exact .nil
  | cons c l ih => exact .cons (.str _) ih
theorem vals_signs {x : Str} {acc : Array Value} (h : ItemsOf (SignAt x) acc x.cps.size) : Vals (signV x) acc.toList := by
  have key : ∀ (l : List Nat) (us : List Value) (k : Nat), us.length = l.length → (∀ j c, l[j]? = some c → x.cps[k + j]? = some c) → (∀ j v, us[j]? = some v → SignAt x (k + j) v) → Vals (l.map fun c => V.str ⟨#[c]⟩) us := by
    intro l
    induction l with
    | nil => intro us k hl _ _; cases us with
      | nil => exact .nil
      | cons _ _ => cases hl
    | cons c l ih =>
      intro us k hl h1 h2
      cases us with
      | nil => cases hl
      | cons u us =>
        refine .cons ?_ (ih us (k + 1) (by simpa using hl) (fun j d hj => ?_) fun j v hj => ?_)
        · obtain ⟨d, w, e1, e2⟩ := h2 0 u rfl
          have e3 := h1 0 c rfl
          rw [e1] at e3
          cases e3
          exact ⟨w, e2⟩
        · have := h1 (j + 1) d (by simpa using hj)
          rw [← this]; congr 1; omega
        · have := h2 (j + 1) v (by simpa using hj)
          have e : k + (j + 1) = k + 1 + j := by omega
          rw [e] at this; exact this
  refine key x.cps.toList acc.toList 0 (by simp [h.1]) (fun j c hj => ?_) fun j v hj => ?_
  · rw [Nat.zero_add]; simpa using hj
  · rw [Nat.zero_add]; exact h.2 j v (by simpa using hj)
def rListS : List V → Hp → VK → Prop := fun xs H Q => ∃ x, xs = [.str x] ∧ x.length ≤ sizeLine ∧ ∀ l, H l = none → Q (.ref l) (upd H l (.lst (signV x)))
def rTupleS : List V → Hp → VK → Prop := fun xs H Q => ∃ x, xs = [.str x] ∧ x.length ≤ sizeLine ∧ ∀ l, H l = none → Q (.ref l) (upd H l (.tup (signV x)))
section
variable {X : Cx}
theorem call_listS (hc : X.calm = true) : CallR X (.type "list") rListS := by
  intro pins s σ H xs us Q I r h
  obtain ⟨x, rfl, hz, q⟩ := h
  obtain ⟨u, ws, rfl, ru, rw'⟩ := Vals.cons_inv r
  cases rw'
  obtain ⟨t, rfl⟩ := ru
  refine call_list_str (I.ok.hd hc) x t (fun h' tk acc c' hk ho hi => ?_) hz
  refine ⟨.ref s.heap.objs.size, _, I.laid (t' := tk) hk (Nat.le_refl _) (show ObjOk X.prog X.w _ h' _ (.lst (signV x)) from ⟨?_, acc.toList, c', vals_signs hi, ?_⟩), rfl, q _ (I.hok.fresh (Nat.le_refl _))⟩
  · show (signV x).length ≤ sizeLine
    unfold signV
    rw [List.length_map]
    simpa [Str.length] using hz
  · simpa using ho
theorem call_tupleS (hc : X.calm = true) : CallR X (.type "tuple") rTupleS := by
  intro pins s σ H xs us Q I r h
  obtain ⟨x, rfl, hz, q⟩ := h
  obtain ⟨u, ws, rfl, ru, rw'⟩ := Vals.cons_inv r
  cases rw'
  obtain ⟨t, rfl⟩ := ru
  refine call_tuple_str (I.ok.hd hc) x t (fun h' tk acc hk hi => ?_) hz
  have I1 : Inv X pins σ H { s with heap := h', toks := tk } := I.kept (t' := tk) hk
  have I2 : Inv X pins σ (upd H h'.objs.size (.tup (signV x))) { s with heap := h'.push { cls := .type "tuple", data := .seq acc }, toks := tk } :=
    I1.laid (t' := tk) (fun b o e => Heap.get?_push_of_some _ e) (Nat.le_refl _) (show ObjOk X.prog X.w _ _ _ (.tup (signV x)) from ⟨?_, acc.toList, vals_signs hi, ⟨_, Heap.get?_push_size _ rfl, rfl, 0, rfl⟩⟩)
  · exact ⟨.ref h'.objs.size, _, I2, rfl, q _ (I1.hok.fresh (Nat.le_refl _))⟩
  · show (signV x).length ≤ sizeLine
    unfold signV
    rw [List.length_map]
    simpa [Str.length] using hz
end

/-- tuple(x), list(x), int(x) -/
def dTuple1 : D → Option D
  | .str x => if x.length ≤ sizeLine then some (.tup (signs x)) else none
  | .lst ds => some (.tup ds)
  | .tup ds => some (.tup ds)
  | _ => none
def dTuple : List D → Option D := one dTuple1
def dList1 : D → Option D
  | .str x => if x.length ≤ sizeLine then some (.lst (signs x)) else none
  | .lst ds => some (.lst ds)
  | .tup ds => some (.lst ds)
  | _ => none
def dList : List D → Option D := one dList1
def dInt1 : D → Option D
  | .int i => some (.int i)
  | .bl b => some (.int (if b then 1 else 0))
  | .str a => if a.length ≤ 640 then (PySem.intText? a).map .int else none
  | _ => none
def dInt : List D → Option D := one dInt1
def rTuple (K : PySem.W.Frag) : List V → Hp → VK → Prop := fun xs H Q => ∃ p ys, xs = [.ref p] ∧ ((SqL K H p ys ∧ ∀ l, H l = none → Q (.ref l) (upd H l (.tup ys))) ∨ (SqT K H p ys ∧ Q (.ref p) H))
def rListOf (K : PySem.W.Frag) : List V → Hp → VK → Prop := fun xs H Q => ∃ p ys, xs = [.ref p] ∧ (SqL K H p ys ∨ SqT K H p ys) ∧ ∀ l, H l = none → Q (.ref l) (upd H l (.lst ys))
def rTupleA (K : PySem.W.Frag) : List V → Hp → VK → Prop := fun xs H Q => rTuple K xs H Q ∨ rTupleS xs H Q
def rListA (K : PySem.W.Frag) : List V → Hp → VK → Prop := fun xs H Q => rListOf K xs H Q ∨ rListS xs H Q
def rIntA : List V → Hp → VK → Prop := fun xs H Q => ((∃ i, xs = [.int i] ∧ Q (.int i) H) ∨ ∃ k, xs = [.bl k] ∧ Q (.int (if k then 1 else 0)) H) ∨ ∃ a n, xs = [.str a] ∧ PySem.intText? a = some n ∧ a.length ≤ 640 ∧ Q (.int n) H
theorem call_tupleA {X : Cx} (hc : X.calm = true) : CallR X (.type "tuple") (rTupleA X.K) := CallR.or call_tuple_of (call_tupleS hc)
theorem call_listA {X : Cx} (hc : X.calm = true) : CallR X (.type "list") (rListA X.K) := CallR.or call_list_of (call_listS hc)
theorem call_intA {X : Cx} : CallR X (.type "int") rIntA := CallR.or call_int1 call_int_str
theorem rc_tuple : RC K (rTupleA K) dTuple := by
  refine rc_one fun S H x a d Q r hf t k => ?_
  cases r with
  | lst h1 l1 =>
    cases hf
    exact .inl ⟨_, _, rfl, .inl ⟨SqL.of (Fz.le _ _ h1), fun p hp => k _ _ (Ex.new hp) (.tup (SqT.of (fz_new t hp)) (l1.mono (Fz.ex (Ex.new hp))))⟩⟩
  | tup h1 l1 => cases hf; exact .inl ⟨_, _, rfl, .inr ⟨Fz.le.sqt h1, k _ H (Ex.refl _) (.tup h1 l1)⟩⟩
  | str y =>
    simp only [dTuple1] at hf
    split at hf
    · rename_i hz
      cases hf
      exact .inr ⟨y, rfl, hz, fun p hp => k _ _ (Ex.new hp) (.tup (SqT.of (fz_new t hp)) (rep_signs y))⟩
    · cases hf
  | _ => cases hf
theorem rc_list : RC K (rListA K) dList := by
  refine rc_one fun S H x a d Q r hf t k => ?_
  cases r with
  | lst h1 l1 =>
    cases hf
    exact .inl ⟨_, _, rfl, .inl (SqL.of (Fz.le _ _ h1)), fun p hp => k _ _ (Ex.new hp) (.lst (fz_new t hp) (l1.mono (Fz.ex (Ex.new hp))))⟩
  | tup h1 l1 => cases hf; exact .inl ⟨_, _, rfl, .inr (Fz.le.sqt h1), fun p hp => k _ _ (Ex.new hp) (.lst (fz_new t hp) (l1.mono (Fz.ex (Ex.new hp))))⟩
  | str y =>
    simp only [dList1] at hf
    split at hf
    · rename_i hz
      cases hf
      exact .inr ⟨y, rfl, hz, fun p hp => k _ _ (Ex.new hp) (.lst (fz_new t hp) (rep_signs y))⟩
    · cases hf
  | _ => cases hf
theorem rc_int : RC K rIntA dInt := by
  refine rc_one fun S H x a d Q r hf t k => ?_
  case _ =>
    cases r with
    | int i => cases hf; exact .inl (.inl ⟨i, rfl, k _ H (Ex.refl _) (.int _)⟩)
    | bl b => cases hf; exact .inl (.inr ⟨b, rfl, k _ H (Ex.refl _) (.int _)⟩)
    | str z =>
      simp only [dInt1] at hf
      split at hf
      · rename_i h
        simp only [Option.map_eq_some_iff] at hf
        obtain ⟨n, e, rfl⟩ := hf
        exact .inr ⟨z, n, rfl, e, h, k _ H (Ex.refl _) (.int _)⟩
      · cases hf
    | _ => cases hf
/-- is None, is not None -/
def dIsN : D → D → Option D
  | .non, .non => some (.bl true)
  | _, .non => some (.bl false)
  | _, _ => none
def dNotN : D → D → Option D
  | .non, .non => some (.bl false)
  | _, .non => some (.bl true)
  | _, _ => none
theorem ro_isN : RO K rIsN dIsN := by
  intro S H x y a b d Q ra rb hf t k
  cases rb <;> first | (cases ra <;> cases hf; done) | skip
  cases ra <;> cases hf <;> exact ⟨rfl, k _ H (Ex.refl _) (.bl _)⟩
theorem ro_notN : RO K rNotN dNotN := by
  intro S H x y a b d Q ra rb hf t k
  cases rb <;> first | (cases ra <;> cases hf; done) | skip
  cases ra <;> cases hf <;> exact ⟨rfl, k _ H (Ex.refl _) (.bl _)⟩
/-- isinstance(x, T), T a built-in type -/
def dTy : D → Option String
  | .non => some "NoneType"
  | .bl _ => some "bool"
  | .int _ => some "int"
  | .str _ => some "str"
  | .tup _ => some "tuple"
  | .lst _ => some "list"
  | .dct _ => some "dict"
  | .obj _ _ => none
  | .scr _ => none
def dIsi (T : String) : D → Option D := fun d => (dTy d).bind fun t => (kitB t T).map .bl
theorem Rep.ty {H : Hp} {v : V} {d : D} {t : String} (r : Rep K H v d) (h : dTy d = some t) : TyX K H v (.type t) := by
  cases r with
  | non => cases h; exact .base .non
  | bl b => cases h; exact .base (.bl b)
  | int b => cases h; exact .base (.int b)
  | str b => cases h; exact .base (.str b)
  | tup h1 _ =>
    cases h
    rcases h1 with (h1 | ⟨o, h1⟩) | ⟨o, _, _, h1, h2, _⟩
    · exact .base (.tup h1)
    · exact .fTuple h1
    · exact .kTuple h1 h2
  | lst h1 _ => cases h; exact .base (.lst h1)
  | dct h1 _ => cases h; exact .base (.dK h1)
  | obj _ _ => cases h
  | scr _ => cases h
end
section
variable {X : Cx} {x : Str} {p pos : Pos} {e : Expr} {es : List Expr} {id : String} {mr : MA} {ma : ME} {f : List D → Option D} {r : List V → Hp → VK → Prop}
theorem pem_callB (hc : CallR X (.builtin id) r) (hr : RC X.K r f) (hg : Gl X x) (hm : X.mg x = none) (hv : bootBuiltins x = some (.builtin id)) (ha : PAM X (e :: es) mr) (hn : x ≠ "__name__" := by decide) (hdb : (x == ("__debug__" : Str)) = false := by decide)
    (he : starEach (e :: es) X.env = (false, eval e X.env) :: starEach es X.env := by rfl) (hpl : (backTo pos (starEach es X.env)).any (·.1) = false := by rfl) : PEM X (.Call (.Name x p) (e :: es) [] pos) (mApp f mr) :=
  PE.to (pe_callB hc hg hm hv ha hn hdb he hpl) fun _ _ _ q => em_cb hr _ _ _ q
theorem pem_callTy {T : String} (hc : CallR X (.type T) r) (hr : RC X.K r f) (hg : Gl X x) (hm : X.mg x = none) (hv : bootBuiltins x = some (.type T)) (ha : PAM X (e :: es) mr) (hn : x ≠ "__name__" := by decide) (hdb : (x == ("__debug__" : Str)) = false := by decide)
    (he : starEach (e :: es) X.env = (false, eval e X.env) :: starEach es X.env := by rfl) (hpl : (backTo pos (starEach es X.env)).any (·.1) = false := by rfl) : PEM X (.Call (.Name x p) (e :: es) [] pos) (mApp f mr) :=
  PE.to (pe_callTy hc hg hm hv ha hn hdb he hpl) fun _ _ _ q => em_cb hr _ _ _ q
theorem pem_isi {y : Str} {T : String} {p2 : Pos} (hg : Gl X "isinstance") (hm : X.mg "isinstance" = none) (hg2 : Gl X y) (hm2 : X.mg y = none) (hv2 : bootBuiltins y = some (.type T)) (ha : PEM X e ma) (hn : y ≠ "__name__" := by decide) (hdb : (y == ("__debug__" : Str)) = false := by decide)
    (he : starEach [e, .Name y p2] X.env = (false, eval e X.env) :: starEach [.Name y p2] X.env := by rfl) (hpl : (backTo pos (starEach [.Name y p2] X.env)).any (·.1) = false := by rfl) (hs : starEach [.Name y p2] X.env = (false, eval (.Name y p2) X.env) :: starEach [] X.env := by rfl) :
    PEM X (.Call (.Name "isinstance" p) [e, .Name y p2] [] pos) (mUn (dIsi T) ma) :=
  PE.to (pe_callB call_isi hg hm (by rfl) (pa_cons ha (pa_cons (pe_bltn (v := .ty T) hg2 hm2 hv2 rfl hn hdb) pa_nil hs) he) (by decide) (by decide) he hpl) fun σ H Q h => by
    obtain ⟨c, S, own, ρ, d, ρ', sr, hm, k⟩ := h
    unfold mUn at hm
    simp only [Option.bind_eq_some_iff, Option.map_eq_some_iff] at hm
    obtain ⟨⟨a, ρ1⟩, h1, d', h3, e⟩ := hm
    cases e
    refine ⟨c, S, own, ρ, a, ρ1, sr, h1, fun v H1 e1 sr1 r1 => ?_⟩
    simp only [dIsi, Option.bind_eq_some_iff, Option.map_eq_some_iff] at h3
    obtain ⟨t, e2, b, e3, rfl⟩ := h3
    exact ⟨v, .ty T, .type t, .type T, b, rfl, .ty T, (r1.mono Fz.le).ty e2, kit_ty e3, k _ H1 e1 sr1 (.bl b)⟩
end
end TL

namespace TL
open PySem L2

/-! ### x[::-1] -/
def revS (x : Str) : Str := Txt.sliceBy x none none (-1, 0)
theorem revS_list (x : Str) : (revS x).cps.toList = x.cps.toList.reverse := by
  unfold revS
  rw [PyProof.Rows.step_rev_list]
  refine List.ext_getElem (by simp [Str.length]) fun i h1 h2 => ?_
  simp only [List.length_map, List.length_range] at h1
  simp only [List.getElem_map, List.getElem_range, List.getElem_reverse, Array.getElem_toList, Array.length_toList]
  have hb : x.length - 1 - i < x.cps.size := by have : x.length = x.cps.size := rfl; omega
  rw [Array.getD_eq_getD_getElem?, Array.getElem?_eq_getElem hb]
  rfl
def tRevA (K : PySem.W.Frag) (te : TE) : TE := fun σ H Q => te σ H fun x H1 => (∃ a xs, x = .ref a ∧ SqL K H1 a xs ∧ ∀ p, H1 p = none → Q (.ref p) (upd H1 p (.lst xs.reverse))) ∨ ∃ y, x = .str y ∧ y.length ≤ sizeLine ∧ Q (.str (revS y)) H1
section
variable {X : Cx} {e : Expr} {ma : ME}
theorem pe_revA {te : TE} {k : Nat} {p1 p2 p3 pos : Pos} (he : PE X e te) : PE X (.Subscript e (.Slice none none (some (.UnaryOp .USub (.Constant (.int 1) k p1) p2)) p3) pos) (tRevA X.K te) := by
  refine ⟨fun pins s σ H Q I h => ?_⟩
  refine PyProof.Rows.Subscript_ (thn (he.run pins s σ H _ I h) fun v s1 ⟨x, H1, I1, r1, q1⟩ => ?_)
  have hst : PO X (some (.UnaryOp .USub (.Constant (.int 1) k p1) p2)) (tPart (tUn (rU fun i => .int (-i)) (tC (.int 1)))) := po_some (pe_un un_neg pe_int)
  refine wpAny_Slice (thn (po_none.run pins s1 σ H1 (fun o H2 => o = none ∧ H2 = H1) I1 ⟨rfl, rfl⟩) fun vl s2 ⟨l, H2, I2, pl, el, e2⟩ => ?_)
  subst el; subst e2
  refine thn (po_none.run pins s2 σ H2 (fun o H3 => o = none ∧ H3 = H2) I2 ⟨rfl, rfl⟩) fun vu s3 ⟨u, H3, I3, pu, eu, e3⟩ => ?_
  subst eu; subst e3
  refine thn (hst.run pins s3 σ H3 (fun o H4 => o = some (-1) ∧ H4 = H3) I3 ⟨1, rfl, -1, rfl, rfl, rfl⟩) fun vs s4 ⟨o, H4, I4, ps, eo, e4⟩ => ?_
  subst eo; subst e4
  have I5 : Inv X pins σ H4 { s4 with heap := s4.heap.push { cls := .type "slice", data := .fields #[vl, vu, vs] } } := I4.kept (t' := s4.toks) fun b ob q => Heap.get?_push_of_some _ q
  rcases q1 with ⟨a, xs, ex, hx, q⟩ | ⟨y, ex, hy, q⟩
  · subst ex
    cases r1
    obtain ⟨its, r, ht, hz⟩ := I5.list hx
    have hlen := r.length
    refine PyProof.Rows.tail_any (ops := [.ref a, .ref s4.heap.objs.size]) ht.isList.typeIs (PySem.slot_list_getitem.lookup) ?_ (by with_unfolding_all rfl)
    refine wpAny_getItem_list_slice ht.isList (Heap.IsSliceOf.new _ vl vu vs) pl pu ps (by decide) ?_ (by rw [List.size_toArray]; omega)
    rw [PySem.W.krv_pick]
    refine ⟨.ref _, _, I5.laid (t' := s4.toks) (o := .lst xs.reverse) (fun b ob q => Heap.get?_push_of_some _ q) (Nat.le_refl _) ?_, rfl, q _ (I5.hok.fresh (Nat.le_refl _))⟩
    exact ⟨by rw [List.length_reverse]; exact hz, _, 0, r.reverse, Heap.get?_push_size _ rfl⟩
  · subst ex
    obtain ⟨t, rfl⟩ := r1
    cases pl
    cases pu
    cases ps
    rename_i tk _
    refine PyProof.Rows.tail_any (ops := [.ref s4.heap.objs.size, .str y t]) (typeIs_str _ _ _) F.slot_str_getitem.lookup ?_ (by with_unfolding_all rfl)
    refine wpAny_getItem_str_slice (l := none) (u := none) (st := some (-1, tk)) ⟨_, Heap.get?_push_size _ rfl, rfl, rfl⟩ rfl (post_val_or_str ⟨Nat.le_trans (Txt.sliceBy_le y none none (-1, tk) (by intro z; cases z)) hy, fun t' c => ?_⟩)
    exact ⟨.str (revS y), _, I5.kept (t' := c) fun _ _ z => z, ⟨t', rfl⟩, q⟩
def dRev : D → Option D
  | .lst ds => some (.lst ds.reverse)
  | .str x => if x.length ≤ sizeLine then some (.str (revS x)) else none
  | _ => none
theorem pem_rev {k : Nat} {p1 p2 p3 pos : Pos} (he : PEM X e ma) : PEM X (.Subscript e (.Slice none none (some (.UnaryOp .USub (.Constant (.int 1) k p1) p2)) p3) pos) (mUn dRev ma) := PE.to (pe_revA he) fun σ H Q q =>
  em_un (K := X.K) (r := fun x H1 Q => (∃ a xs, x = .ref a ∧ SqL X.K H1 a xs ∧ ∀ p, H1 p = none → Q (.ref p) (upd H1 p (.lst xs.reverse))) ∨ ∃ y, x = .str y ∧ y.length ≤ sizeLine ∧ Q (.str (revS y)) H1) (fun S H x a d Q ra hf t k => by
    cases ra with
    | lst h1 l1 => cases hf; exact .inl ⟨_, _, rfl, SqL.of (Fz.le _ _ h1), fun p hp => k _ _ (Ex.new hp) (.lst (fz_new t hp) (l1.reverse.mono (Fz.ex (Ex.new hp))))⟩
    | str y =>
      simp only [dRev] at hf
      split at hf
      · rename_i h; cases hf; exact .inr ⟨y, rfl, h, k _ H (Ex.refl _) (.str _)⟩
      · cases hf
    | _ => cases hf) σ H Q q
end

/-! ### join, index -/
def dJoin : D → D → Option D
  | .str a, .lst ds => (asStrs ds).bind fun ys => if (ys.map (·.length)).sum + ys.length * a.length ≤ 16777216 then some (.str (Txt.join a ys)) else none
  | .str a, .tup ds => (asStrs ds).bind fun ys => if (ys.map (·.length)).sum + ys.length * a.length ≤ 16777216 then some (.str (Txt.join a ys)) else none
  | _, _ => none
def dIndex : D → D → Option D
  | .lst ds, .str x => (asStrs ds).bind fun ys => (ys.findIdx? (· == x)).map fun i => .int (i : Nat)
  | .lst ds, .int x => (asInts ds).bind fun ys => (ys.findIdx? (· == x)).map fun i => .int (i : Nat)
  | _, _ => none
section
variable {X : Cx} {o e : Expr} {mo me : ME} {apos pos : Pos}
theorem pem_join (ho : PEM X o mo) (he : PEM X e me) (hs : starEach [e] X.env = [(false, eval e X.env)] := by rfl) (hbase : attributeBase o "join" X.env (eval o X.env) = eval o X.env := by rfl) (hline : (apos.endLine == pos.line) = true := by rfl) :
    PEM X (.Call (.Attribute o "join" apos) [e] [] pos) (mBin dJoin mo me) := PE.to (pe_join ho he hs hbase hline) fun σ H Q h => by
  obtain ⟨c, S, own, ρ, d, ρ', sr, hm, k⟩ := h
  unfold mBin at hm
  simp only [Option.bind_eq_some_iff, Option.map_eq_some_iff] at hm
  obtain ⟨⟨a, ρ1⟩, h1, ⟨b, ρ2⟩, h2, d', h3, e⟩ := hm
  cases e
  refine ⟨c, S, own, ρ, a, ρ1, sr, h1, fun v H1 e1 sr1 r1 => ?_⟩
  cases a <;> first | (cases h3; done) | skip
  rename_i x
  cases r1
  refine ⟨⟨_, rfl⟩, c, S, own, ρ1, b, ρ2, sr1, h2, fun u H2 e2 sr2 r2 => ?_⟩
  cases r2 with
  | lst g1 l1 =>
    simp only [dJoin, Option.bind_eq_some_iff] at h3
    obtain ⟨ys, e3, h3⟩ := h3
    split at h3
    · rename_i hb
      cases h3
      rw [asStrs_eq e3] at l1
      have := l1.strs; subst this
      exact ⟨x, _, ys, rfl, rfl, .inl (SqL.of (Fz.le _ _ g1)), hb, k _ H2 (e1.trans e2) sr2 (.str _)⟩
    · cases h3
  | tup g1 l1 =>
    simp only [dJoin, Option.bind_eq_some_iff] at h3
    obtain ⟨ys, e3, h3⟩ := h3
    split at h3
    · rename_i hb
      cases h3
      rw [asStrs_eq e3] at l1
      have := l1.strs; subst this
      exact ⟨x, _, ys, rfl, rfl, .inr (Fz.le.sqt g1), hb, k _ H2 (e1.trans e2) sr2 (.str _)⟩
    · cases h3
  | _ => cases h3
theorem flat_ints (ns : List Int) : (ns.map V.int).all flatV = true := List.all_eq_true.mpr fun x hx => by
  obtain ⟨n, _, rfl⟩ := List.mem_map.mp hx
  rfl
theorem flat_strs (ns : List Str) : (ns.map V.str).all flatV = true := List.all_eq_true.mpr fun x hx => by
  obtain ⟨n, _, rfl⟩ := List.mem_map.mp hx
  rfl
theorem pem_index (ho : PEM X o mo) (he : PEM X e me) (hbase : attributeBase o "index" X.env (eval o X.env) = eval o X.env := by rfl)
    (hfew : ((backTo pos (starEach [e] X.env)).all (fun x => !x.1) && (backToKw pos (keywordEach [] X.env)).all (fun x => x.1.isSome)
      && decide ([e].length + ([] : List Keyword).length + (if ([] : List Keyword).isEmpty then 0 else 1) < 30)) = true := by rfl)
    (hline : (apos.endLine == pos.line) = true := by rfl) (hs : starEach [e] X.env = (false, eval e X.env) :: starEach [] X.env := by rfl) (hplain : (backTo pos (starEach [] X.env)).any (·.1) = false := by rfl) :
    PEM X (.Call (.Attribute o "index" apos) [e] [] pos) (mBin dIndex mo me) := PE.to (pe_bm PySem.F.plainAttrs_list PySem.F.slot_list_index PySem.F.type_list_index mt_index ho (pa_cons he pa_nil hs) hbase hfew hline hs hplain) fun σ H Q h => by
  obtain ⟨c, S, own, ρ, d, ρ', sr, hm, k⟩ := h
  unfold mBin at hm
  simp only [Option.bind_eq_some_iff, Option.map_eq_some_iff] at hm
  obtain ⟨⟨a, ρ1⟩, h1, ⟨b, ρ2⟩, h2, d', h3, e⟩ := hm
  cases e
  refine ⟨c, S, own, ρ, a, ρ1, sr, h1, fun v H1 e1 sr1 r1 => ?_⟩
  cases a <;> first | (cases b <;> cases h3; done) | skip
  rename_i ds
  cases r1 with
  | lst g1 l1 =>
    refine ⟨.inl ⟨rfl, _, SqL.of (Fz.le _ _ g1)⟩, c, S, own, ρ1, b, ρ2, sr1, h2, fun u H2 e2 sr2 r2 => ?_⟩
    cases r2 with
    | str x =>
      simp only [dIndex, Option.bind_eq_some_iff, Option.map_eq_some_iff] at h3
      obtain ⟨ys, e3, i, e4, rfl⟩ := h3
      rw [asStrs_eq e3] at l1
      have := l1.strs; subst this
      obtain ⟨hi, f1, f2⟩ := List.findIdx?_eq_some_iff_getElem.mp e4
      refine ⟨_, _, _, i, .str ys[i], rfl, rfl, SqL.of (Fz.le _ _ (e2 _ _ g1)), rfl, flat_strs ys, by simp [hi], f1, fun m z hm hz => ?_, k _ H2 (e1.trans e2) sr2 (.int _)⟩
      rw [List.getElem?_map, List.getElem?_eq_getElem (Nat.lt_trans hm hi)] at hz
      cases hz
      have := f2 m hm
      simpa [eqV] using this
    | int x =>
      simp only [dIndex, Option.bind_eq_some_iff, Option.map_eq_some_iff] at h3
      obtain ⟨ys, e3, i, e4, rfl⟩ := h3
      rw [asInts_eq e3] at l1
      have := l1.ints; subst this
      obtain ⟨hi, f1, f2⟩ := List.findIdx?_eq_some_iff_getElem.mp e4
      refine ⟨_, _, _, i, .int ys[i], rfl, rfl, SqL.of (Fz.le _ _ (e2 _ _ g1)), rfl, flat_ints ys, by simp [hi], f1, fun m z hm hz => ?_, k _ H2 (e1.trans e2) sr2 (.int _)⟩
      rw [List.getElem?_map, List.getElem?_eq_getElem (Nat.lt_trans hm hi)] at hz
      cases hz
      have := f2 m hm
      simpa [eqV] using this
    | _ => cases h3
end

/-! ### a text, a list or a tuple, many times -/
def rMulS : R2 := fun x y H Q => ∃ z k, x = .str z ∧ y = .int k ∧ z.length ≤ sizeLine ∧ 0 ≤ k ∧ k < 2 ^ 40 ∧ z.length * k.toNat ≤ sizeLine ∧ Q (.str (strMul z k.toNat)) H
theorem foldl_cat (c : Array Nat) : ∀ (n : Nat) (acc : Array Nat), ((List.replicate n c).foldl (· ++ ·) acc).toList = acc.toList ++ (List.replicate n c.toList).flatten
  | 0, acc => by simp
  | n + 1, acc => by
    rw [List.replicate_succ, List.foldl_cons, foldl_cat c n, List.replicate_succ, List.flatten_cons, Array.toList_append, List.append_assoc]
theorem strMul_fold (z : Str) (n : Nat) : (⟨(List.replicate n z.cps).foldl (· ++ ·) #[]⟩ : Str) = strMul z n := by
  unfold strMul
  congr 1
  refine Array.ext' ?_
  rw [foldl_cat, List.nil_append]
theorem strMul_one (z : Str) : strMul z 1 = z := by
  unfold strMul
  show (⟨(z.cps.toList ++ []).toArray⟩ : Str) = z
  rw [List.append_nil]
theorem strMul_nil (z : Str) (n : Nat) (h : z.length = 0) : strMul z n = z := by
  have e : z.cps = #[] := Array.eq_empty_of_size_eq_zero h
  obtain ⟨c⟩ := z
  subst e
  unfold strMul
  congr 1
  refine Array.ext' ?_
  simp
theorem strMul_zero (z : Str) : strMul z 0 = Str.empty := rfl
section
variable {X : Cx}
theorem op_mulS : OpR X (binaryOp .Mult) rMulS := by
  intro pins s σ H x y v u Q I rx ry h
  obtain ⟨z, k, rfl, rfl, hz, h0, h1, h2, q⟩ := h
  obtain ⟨t, rfl⟩ := rx
  obtain ⟨t2, rfl⟩ := ry
  refine PySem.P.mul_str ?_ (fun hn _ => ?_) (fun hn _ => ?_) ?_
  · rw [decide_eq_false (by omega), decide_eq_false (by omega)]; rfl
  · have hk : (0 : Int) < k := by omega
    have hs : (sizeLine : Nat) ≤ 2 ^ 60 := by decide
    have : (z.length : Int) * k ≤ 2 ^ 63 - 1 := by
      have e : (k.toNat : Int) = k := Int.toNat_of_nonneg h0
      have : ((z.length * k.toNat : Nat) : Int) ≤ 2 ^ 60 := by exact_mod_cast Nat.le_trans h2 hs
      rw [Int.natCast_mul, e] at this
      omega
    have := (Int.le_ediv_iff_mul_le hk).mpr this
    omega
  · exact decide_eq_false (Nat.not_lt.mpr h2)
  · split
    · rename_i hn
      have e : k.toNat = 0 := by omega
      rw [e, strMul_zero] at q
      exact ⟨by decide, .str _, H, I.tok _, ⟨_, rfl⟩, q⟩
    · split
      · rename_i hn hc
        simp only [Bool.or_eq_true, beq_iff_eq] at hc
        have e : strMul z k.toNat = z := by
          rcases hc with rfl | hc
          · exact strMul_one z
          · exact strMul_nil z _ hc
        rw [e] at q
        exact ⟨.str _, H, I, ⟨_, rfl⟩, q⟩
      · rw [strMul_fold]
        refine ⟨?_, .str _, H, I.tok _, ⟨_, rfl⟩, q⟩
        show (strMul z k.toNat).cps.size ≤ sizeLine
        have : (strMul z k.toNat).cps.size = z.length * k.toNat := by
          unfold strMul
          simp [Str.length, Nat.mul_comm]
        rw [this]; exact h2
end
def rMulA (K : PySem.W.Frag) : R2 := fun x y H Q => rI CMulW (fun i j => .int (i * j)) x y H Q ∨ (rMulS x y H Q ∨ rRep x y H Q)
theorem op_mulA {X : Cx} : OpR X (binaryOp .Mult) (rMulA X.K) := OpR.or op_mulW (OpR.or op_mulS op_rep)
def dMulA : D → D → Option D
  | .int i, .int j => if mulOk i j = true then some (.int (i * j)) else none
  | .str z, .int k => if z.length ≤ sizeLine ∧ 0 ≤ k ∧ k < 2 ^ 40 ∧ z.length * k.toNat ≤ sizeLine then some (.str (strMul z k.toNat)) else none
  | .lst ds, .int k => if 0 ≤ k ∧ k < 2 ^ 40 ∧ ds.length * k.toNat ≤ sizeLine then some (.lst (List.replicate k.toNat ds).flatten) else none
  | _, _ => none
theorem RepL.times {K : PySem.W.Frag} {H : Hp} {xs : List V} {ds : List D} (r : RepL K H xs ds) : ∀ n : Nat, RepL K H (List.replicate n xs).flatten (List.replicate n ds).flatten
  | 0 => .nil
  | n + 1 => by rw [List.replicate_succ, List.replicate_succ, List.flatten_cons, List.flatten_cons]; exact r.append (r.times n)
theorem ro_mulA {K : PySem.W.Frag} : RO K (rMulA K) dMulA := by
  intro S H x y a b d Q ra rb hf t k
  cases ra with
  | int i =>
    cases rb <;> first | (cases hf; done) | skip
    exact .inl (ro_mul S H _ _ _ _ d Q (.int i) (.int _) hf t k)
  | str z =>
    cases rb <;> first | (cases hf; done) | skip
    simp only [dMulA] at hf
    split at hf
    · rename_i h; cases hf; exact .inr (.inl ⟨z, _, rfl, rfl, h.1, h.2.1, h.2.2.1, h.2.2.2, k _ H (Ex.refl _) (.str _)⟩)
    · cases hf
  | lst h1 l1 =>
    cases rb <;> first | (cases hf; done) | skip
    simp only [dMulA] at hf
    split at hf
    · rename_i h; cases hf
      exact .inr (.inr ⟨_, _, _, rfl, rfl, Fz.le _ _ h1, by omega, by omega, by rw [l1.length]; exact h.2.2, fun p hp => k _ _ (Ex.new hp) (.lst (fz_new t hp) ((l1.times _).mono (Fz.ex (Ex.new hp))))⟩)
    · cases hf
  | _ => cases hf
end TL

namespace TL
open PySem L2

/-! ### two clauses -/
def lc2Go (f : MG) (mt : MT) (mi1 : MI) (f1 : MG) (mt1 : MT) (me : ME) (vs vs1 : List Nat) : List D → List Cell → Option (List D × List Cell)
  | [], ρ => some ([], ρ)
  | d :: ds, ρ => (f d ρ).bind fun ρ1 => (mt ρ1).bind fun q => if q.1 = true then (mi1 q.2).bind fun p => (lcGo f1 mt1 me vs1 p.1 (wipeC p.2 vs1)).bind fun r => (lc2Go f mt mi1 f1 mt1 me vs vs1 ds (wipeC r.2 vs)).map fun z => (r.1 ++ z.1, z.2)
      else lc2Go f mt mi1 f1 mt1 me vs vs1 ds (wipeC q.2 vs)
def mLc2 (mi : MI) (f : MG) (mt : MT) (mi1 : MI) (f1 : MG) (mt1 : MT) (me : ME) (vs vs1 : List Nat) : ME := fun ρ => (mi ρ).bind fun p => if plainC p.2 vs = true then (lc2Go f mt mi1 f1 mt1 me vs vs1 p.1 (wipeC p.2 vs)).bind fun z =>
  if z.1.length ≤ sizeLine then some (.lst z.1, backC p.2 z.2 vs) else none else none
theorem nil_of_sub {own own' : Nat → List Addr} {vs : List Nat} (h : ∀ i a, a ∈ own' i → a ∈ own i) (hv : ∀ j ∈ vs, own j = []) : ∀ j ∈ vs, own' j = [] := fun j hj =>
  List.eq_nil_iff_forall_not_mem.mpr fun a ha => by have := h j a ha; rw [hv j hj] at this; cases this
theorem wipe_both {σ : L2.St} {vs vs1 : List Nat} (h : ∀ i ∈ vs1, i ∈ vs) : L2.wipe (L2.wipe σ vs1) vs = L2.wipe σ vs :=
  wipe_eq (wipe_length ..) fun i hi => wipe_out fun m => hi (h i m)
theorem em_lc2 {K : PySem.W.Frag} {mi mi1 : MI} {g g1 : TG} {ts ts1 vs vs1 : List Nat} {f f1 : MG} {mt mt1 : MT} {me : ME} (hg : GM K g ts f) (hts : ∀ i ∈ ts, i ∈ vs) (hg1 : GM K g1 ts1 f1) (hts1 : ∀ i ∈ ts1, i ∈ vs1) (hvs1 : ∀ i ∈ vs1, i ∈ vs) {σ : L2.St} {H : Hp} {Q : VK} :
    teOf K (mLc2 mi f mt mi1 f1 mt1 me vs vs1) σ H Q → tLc2 (wiOf K mi) g (ttOf K mt) (wiOf K mi1) g1 (ttOf K mt1) (teOf K me) vs vs1 σ H Q := by
  rintro ⟨c, S, own, ρ, d, ρ', sr, hm, k⟩
  simp only [mLc2, Option.bind_eq_some_iff] at hm
  obtain ⟨⟨ds, ρ1⟩, h1, h2⟩ := hm
  split at h2
  case isFalse => cases h2
  rename_i hpl
  simp only [Option.bind_eq_some_iff] at h2
  obtain ⟨⟨out, ρb⟩, h3, h4⟩ := h2
  split at h4
  case isFalse => cases h4
  rename_i hsz
  cases h4
  refine ⟨c, S, own, ρ, ds, ρ1, sr, h1, fun J H1 e1 sr1 w p hp => ?_⟩
  have hpS : p ∉ S := sr1.new hp
  have hp0 : c.H0 p = none := sr1.fresh0 hp
  have hown : ∀ i, p ∉ own i := fun i m => hpS (sr1.ownS i p m).1
  have hvs : ∀ i ∈ vs, own i = [] := fun i hi => sr1.plain (List.all_eq_true.mp hpl i hi)
  have w' : Wk K J (p :: S) (upd H1 p (.lst [])) ds := w.later (Fz.upd_new hp)
  refine ⟨fun i m H' => ∃ own' ρi acc as rest, m = ds.length - i ∧ i ≤ ds.length ∧ Ex (Fz (p :: S) (upd H1 p (.lst []))) (Fz (p :: S) H') ∧ SR K c (p :: S) own' (L2.wipe σ vs) H' ρi ∧ (∀ j, j ∉ vs → own' j = own j) ∧ (∀ j, p ∉ own' j) ∧ (∀ j ∈ vs, own' j = []) ∧
    H' p = some (.lst acc) ∧ RepL K (Fz (p :: S) H') acc as ∧ as ++ rest = out ∧ lc2Go f mt mi1 f1 mt1 me vs vs1 (ds.drop i) ρi = some (rest, ρb), ?_, ?_⟩
  · exact ⟨_, own, wipeC ρ1 vs, [], [], out, rfl, Nat.zero_le _, Ex.refl _, (sr1.aside hp).wipe vs hvs, fun _ _ => rfl, hown, hvs, upd_same, .nil, rfl, h3⟩
  · rintro i m H' ⟨own', ρi, acc, as, rest, rfl, hi, ei, si, hoi, hpi, hvi, ha, hr, hout, hl⟩
    by_cases hlt : i < ds.length
    · right
      refine ⟨w'.go (p :: S) H' i ei si.trk hlt, fun H2 => ∃ own' ρi acc as rest, Ex (Fz (p :: S) (upd H1 p (.lst []))) (Fz (p :: S) H2) ∧ SR K c (p :: S) own' (L2.wipe σ vs) H2 ρi ∧ (∀ j, j ∉ vs → own' j = own j) ∧ (∀ j, p ∉ own' j) ∧ (∀ j ∈ vs, own' j = []) ∧
        H2 p = some (.lst acc) ∧ RepL K (Fz (p :: S) H2) acc as ∧ as ++ rest = out ∧ lc2Go f mt mi1 f1 mt1 me vs vs1 (ds.drop (i + 1)) ρi = some (rest, ρb), ?_, ?_⟩
      · rintro H2 ⟨own2, ρ2, acc2, as2, rest2, a1, a2, a3, a4, a5, a6, a7, a8, a9⟩
        exact ⟨ds.length - (i + 1), by omega, own2, ρ2, acc2, as2, rest2, rfl, hlt, a1, a2, a3, a4, a5, a6, a7, a8, a9⟩
      · intro x H2 hy
        obtain ⟨e2, q⟩ := w'.yld (p :: S) H' i x H2 ei si.trk hy ds[i] (by simp [hlt])
        rw [List.drop_eq_getElem_cons hlt] at hl
        simp only [lc2Go, Option.bind_eq_some_iff] at hl
        obtain ⟨ρ2, f1', ⟨b, ρ3⟩, f2, f3⟩ := hl
        have ei2 : Ex (Fz (p :: S) (upd H1 p (.lst []))) (Fz (p :: S) H2) := ei.trans (Fz.ex e2)
        refine hg c (p :: S) own' (L2.wipe σ vs) H2 ρi x ds[i] ρ2 _ (si.ex e2) q f1' fun own2 σ2 hl2 hk2 hn2 s2 => ?_
        have hw : L2.wipe σ2 vs = L2.wipe σ vs := by
          have e := wipe_eq (σ := L2.wipe σ vs) (σ' := σ2) (vs := vs) hl2 fun j hj => (hk2 j fun m => hj (hts j m)).1
          rw [e]
          exact wipe_eq (by rw [wipe_length]) fun j hj => wipe_out hj
        have ho2 : ∀ j, j ∉ vs → own2 j = own j := fun j hj => ((hk2 j fun m => hj (hts j m)).2.2).trans (hoi j hj)
        have hp2 : ∀ j, p ∉ own2 j := fun j m => hpi j (hn2 j p m)
        have hv2 : ∀ j ∈ vs, own2 j = [] := nil_of_sub hn2 hvi
        refine ⟨hw, ttOf.mk s2 f2 fun H3 e3 s3 fr3 => ?_⟩
        have ei3 := ei2.trans e3
        have ha3 : H3 p = some (.lst acc) := fr3 p _ hp2 (e2 p _ ha)
        have hr3 : RepL K (Fz (p :: S) H3) acc as := (hr.mono (Fz.ex e2)).mono e3
        cases b with
        | false =>
          simp only [Bool.false_eq_true, if_false] at f3 ⊢
          have s4 := s3.wipe vs hv2
          rw [hw] at s4
          exact ⟨own2, _, acc, as, rest, ei3, s4, ho2, hp2, hv2, ha3, hr3, hout, f3⟩
        | true =>
          simp only [if_true, Option.bind_eq_some_iff, Option.map_eq_some_iff] at f3 ⊢
          obtain ⟨⟨ds1, ρ4⟩, f4, ⟨mid, ρ5⟩, f5, ⟨rest', ρ6⟩, f6, ez⟩ := f3
          cases ez
          have sE := s3.enter
          refine ⟨_, p :: S, own2, ρ3, ds1, ρ4, sE, f4, fun J1 H4 e4 s4' w1 => ?_⟩
          have s4 := s3.leave s4'
          have fr4 : H4 p = some (.lst acc) := s4'.keep p _ ha3 fun ⟨i, m⟩ => hp2 i m
          have ei4 := ei3.trans e4
          have hr4 : RepL K (Fz (p :: S) H4) acc as := hr3.mono e4
          have hv1 : ∀ j ∈ vs1, own2 j = [] := fun j hj => hv2 j (hvs1 j hj)
          refine ⟨fun j n H' => ∃ own3 ρj acc3 as3 rest3, n = ds1.length - j ∧ j ≤ ds1.length ∧ Ex (Fz (p :: S) H4) (Fz (p :: S) H') ∧ SR K c (p :: S) own3 (L2.wipe σ2 vs1) H' ρj ∧ (∀ j, j ∉ vs → own3 j = own j) ∧ (∀ j, p ∉ own3 j) ∧ (∀ j ∈ vs, own3 j = []) ∧
            H' p = some (.lst acc3) ∧ RepL K (Fz (p :: S) H') acc3 as3 ∧ as3 ++ (rest3 ++ rest') = out ∧ lcGo f1 mt1 me vs1 (ds1.drop j) ρj = some (rest3, ρ5), ?_, ?_⟩
          · exact ⟨_, own2, _, acc, as, mid, rfl, Nat.zero_le _, Ex.refl _, s4.wipe vs1 hv1, ho2, hp2, hv2, fr4, hr4, hout, f5⟩
          · rintro j n H' ⟨own3, ρj, acc3, as3, rest3, rfl, hj, ej, sj, hoj, hpj, hvj, haj, hrj, houtj, hlj⟩
            by_cases hlt1 : j < ds1.length
            · right
              refine ⟨w1.go (p :: S) H' j ej sj.trk hlt1, fun H2 => ∃ own3 ρj acc3 as3 rest3, Ex (Fz (p :: S) H4) (Fz (p :: S) H2) ∧ SR K c (p :: S) own3 (L2.wipe σ2 vs1) H2 ρj ∧ (∀ j, j ∉ vs → own3 j = own j) ∧ (∀ j, p ∉ own3 j) ∧ (∀ j ∈ vs, own3 j = []) ∧
                H2 p = some (.lst acc3) ∧ RepL K (Fz (p :: S) H2) acc3 as3 ∧ as3 ++ (rest3 ++ rest') = out ∧ lcGo f1 mt1 me vs1 (ds1.drop (j + 1)) ρj = some (rest3, ρ5), ?_, ?_⟩
              · rintro H2 ⟨own2, ρ2, acc2, as2, rest2, a1, a2, a3, a4, a5, a6, a7, a8, a9⟩
                exact ⟨ds1.length - (j + 1), by omega, own2, ρ2, acc2, as2, rest2, rfl, hlt1, a1, a2, a3, a4, a5, a6, a7, a8, a9⟩
              · intro y H5 hy5
                obtain ⟨e5, q5⟩ := w1.yld (p :: S) H' j y H5 ej sj.trk hy5 ds1[j] (by simp [hlt1])
                rw [List.drop_eq_getElem_cons hlt1] at hlj
                simp only [lcGo, Option.bind_eq_some_iff] at hlj
                obtain ⟨ρ7, f7, ⟨b, ρ8⟩, f8, f9⟩ := hlj
                have ej5 : Ex (Fz (p :: S) H4) (Fz (p :: S) H5) := ej.trans (Fz.ex e5)
                refine hg1 c (p :: S) own3 (L2.wipe σ2 vs1) H5 ρj y ds1[j] ρ7 _ (sj.ex e5) q5 f7 fun own6 σ6 hl6 hk6 hn6 s6 => ?_
                have hw6 : L2.wipe σ6 vs1 = L2.wipe σ2 vs1 := by
                  have e := wipe_eq (σ := L2.wipe σ2 vs1) (σ' := σ6) (vs := vs1) hl6 fun j hj => (hk6 j fun m => hj (hts1 j m)).1
                  rw [e]
                  exact wipe_eq (by rw [wipe_length]) fun j hj => wipe_out hj
                have ho6 : ∀ j, j ∉ vs → own6 j = own j := fun j hj => ((hk6 j fun m => hj (hvs1 j (hts1 j m))).2.2).trans (hoj j hj)
                have hp6 : ∀ j, p ∉ own6 j := fun j m => hpj j (hn6 j p m)
                have hv6 : ∀ j ∈ vs, own6 j = [] := nil_of_sub hn6 hvj
                refine ⟨hw6, ttOf.mk s6 f8 fun H8 e8 s8 fr8 => ?_⟩
                have ej8 := ej5.trans e8
                have ha8 : H8 p = some (.lst acc3) := fr8 p _ hp6 (e5 p _ haj)
                have hr8 : RepL K (Fz (p :: S) H8) acc3 as3 := (hrj.mono (Fz.ex e5)).mono e8
                have again : ∀ {H4 : Hp} {ρ4 : List Cell}, SR K c (p :: S) own6 σ6 H4 ρ4 → SR K c (p :: S) own6 (L2.wipe σ2 vs1) H4 (wipeC ρ4 vs1) := fun s9 => by
                  have := s9.wipe vs1 fun j hj => hv6 j (hvs1 j hj)
                  rw [hw6] at this
                  exact this
                cases b with
                | false =>
                  simp only [Bool.false_eq_true, if_false] at f9 ⊢
                  exact ⟨own6, _, acc3, as3, rest3, ej8, again s8, ho6, hp6, hv6, ha8, hr8, houtj, f9⟩
                | true =>
                  simp only [if_true, Option.bind_eq_some_iff, Option.map_eq_some_iff] at f9 ⊢
                  obtain ⟨⟨z, ρ9⟩, f10, ⟨rest4, ρ10⟩, f11, ez⟩ := f9
                  cases ez
                  refine teOf.mk s8 f10 fun v H9 e9 s9 q9 fr9 => ?_
                  have ha9 : H9 p = some (.lst acc3) := fr9 p _ hp6 ha8
                  have fz : Fz (p :: S) (upd H9 p (.lst (acc3 ++ [v]))) = Fz (p :: S) H9 := Fz.upd_own List.mem_cons_self
                  refine ⟨acc3, ha9, ?_, own6, _, acc3 ++ [v], as3 ++ [z], rest4, ?_, (again s9).touch List.mem_cons_self ha9 hp6 hp0, ho6, hp6, hv6, upd_same, ?_, by rw [List.append_assoc]; exact houtj, f11⟩
                  · have l1 := hr8.length
                    have l2 := congrArg List.length houtj
                    simp only [List.length_append, List.length_cons] at l2
                    have l3 : out.length ≤ sizeLine := hsz
                    have l4 : as3.length < sizeLine := by omega
                    omega
                  · rw [fz]; exact ej8.trans e9
                  · rw [fz]; exact (hr8.mono e9).snoc q9
            · left
              have e : j = ds1.length := by omega
              subst e
              rw [List.drop_length] at hlj
              cases hlj
              have s9 := sj.wipe vs hvj
              rw [wipe_both hvs1, hw] at s9
              exact ⟨w1.stop (p :: S) H' ej, own3, _, acc3, as3, rest', ei4.trans ej, s9, hoj, hpj, hvj, haj, hrj, houtj, f6⟩
    · left
      have e : i = ds.length := by omega
      subst e
      rw [List.drop_length] at hl
      cases hl
      rw [List.append_nil] at hout
      subst hout
      have ex : Ex (Fz S H1) (Fz S H') := ((Fz.upd_new hp).trans ei).trans (Fz.sub fun _ m => List.mem_cons_of_mem _ m)
      exact ⟨w'.stop (p :: S) H' ei, k _ H' (e1.trans ex) (SR.back sr1 hpl ex si hoi) (.lst (by rw [Fz.out hpS]; exact ha) (hr.mono (Fz.sub fun _ m => List.mem_cons_of_mem _ m)))⟩
section
variable {X : Cx} {elt tg iter tg1 iter1 : Expr} {ifs ifs1 : List Expr} {scope : Scope} {own : List (Str × Nat)} {pos spos py : Pos} {mi mi1 : MI} {g g1 : TG} {ts ts1 vs1 : List Nat} {f f1 : MG} {mt mt1 : MT} {me : ME} {i : Nat} {y : Str}
theorem psm_setLc (hc : X.calm = true) (hN : X.N.Nodup) (hy : X.N[i]? = some y) (hyl : X.env.scope.names.lookup y = some .local)
    (hsw : swapsWith (.ListComp elt [⟨tg, iter, ifs, 0⟩] scope pos) (some (.Name y py)) spos.line X.env = pure true) (hi : PIM X tg iter mi) (ok : blkC X.N X.env.scope scope own = true)
    (hg : ∀ (s : Shared) (H : Hp) (C : Addr) (cl : List (Str × Addr)) (fp : List Addr), PG (X.blk s H scope (compEnvC scope cl C X.env) fp) tg g) (hf : GM X.K g ts f) (hts : ∀ i ∈ ts, i ∈ own.map (·.2))
    (ht : ∀ (s : Shared) (H : Hp) (C : Addr) (cl : List (Str × Addr)) (fp : List Addr), PTMs (X.blk s H scope (compEnvC scope cl C X.env) fp) ifs mt)
    (he : ∀ (s : Shared) (H : Hp) (C : Addr) (cl : List (Str × Addr)) (fp : List Addr), PEM (X.blk s H scope (compEnvC scope cl C X.env) fp) elt me) (hs : ∀ x, foldedSetIterable iter X.env x = pure x := by intro _; rfl) :
    PSM X (.Assign [.Name y py] (.ListComp elt [⟨tg, iter, ifs, 0⟩] scope pos) spos) (mAsg (mLc mi f mt me (own.map (·.2))) (gmName i)) :=
  PS.to (ps_setLc hc hN hy hyl hsw hi (blkOk_by ok) hg ht he hs) fun _ _ _ q => em_lc hf hts (sm_asg (gm_name i) q)
theorem pem_lc2 (hc : X.calm = true) (hN : X.N.Nodup) (hi : PIM X tg iter mi) (ok : blkC X.N X.env.scope scope own = true) (hv : ∀ i ∈ vs1, i ∈ own.map (·.2))
    (hg : ∀ (s : Shared) (H : Hp) (C : Addr) (cl : List (Str × Addr)) (fp : List Addr), PG (X.blk s H scope (compEnvC scope cl C X.env) fp) tg g) (hf : GM X.K g ts f) (hts : ∀ i ∈ ts, i ∈ own.map (·.2))
    (ht : ∀ (s : Shared) (H : Hp) (C : Addr) (cl : List (Str × Addr)) (fp : List Addr), PTMs (X.blk s H scope (compEnvC scope cl C X.env) fp) ifs mt)
    (hi1 : ∀ (s : Shared) (H : Hp) (C : Addr) (cl : List (Str × Addr)) (fp : List Addr), PIM (X.blk s H scope (compEnvC scope cl C X.env) fp) tg1 iter1 mi1)
    (hg1 : ∀ (s : Shared) (H : Hp) (C : Addr) (cl : List (Str × Addr)) (fp : List Addr), PG (X.blk s H scope (compEnvC scope cl C X.env) fp) tg1 g1) (hf1 : GM X.K g1 ts1 f1) (hts1 : ∀ i ∈ ts1, i ∈ vs1)
    (ht1 : ∀ (s : Shared) (H : Hp) (C : Addr) (cl : List (Str × Addr)) (fp : List Addr), PTMs (X.blk s H scope (compEnvC scope cl C X.env) fp) ifs1 mt1)
    (he : ∀ (s : Shared) (H : Hp) (C : Addr) (cl : List (Str × Addr)) (fp : List Addr), PEM (X.blk s H scope (compEnvC scope cl C X.env) fp) elt me) (hs : ∀ x, foldedSetIterable iter X.env x = pure x := by intro _; rfl) (hs1 : ∀ env x, foldedSetIterable iter1 env x = pure x := by intro _ _; rfl) :
    PEM X (.ListComp elt [⟨tg, iter, ifs, 0⟩, ⟨tg1, iter1, ifs1, 0⟩] scope pos) (mLc2 mi f mt mi1 f1 mt1 me (own.map (·.2)) vs1) :=
  PE.to (pe_lc2 hc hN hi (blkOk_by ok) hv hg ht hi1 hg1 ht1 he hs hs1) fun _ _ _ q => em_lc2 hf hts hf1 hts1 hv q
theorem psm_setLc2 (hc : X.calm = true) (hN : X.N.Nodup) (hy : X.N[i]? = some y) (hyl : X.env.scope.names.lookup y = some .local)
    (hsw : swapsWith (.ListComp elt [⟨tg, iter, ifs, 0⟩, ⟨tg1, iter1, ifs1, 0⟩] scope pos) (some (.Name y py)) spos.line X.env = pure true) (hi : PIM X tg iter mi) (ok : blkC X.N X.env.scope scope own = true) (hv : ∀ i ∈ vs1, i ∈ own.map (·.2))
    (hg : ∀ (s : Shared) (H : Hp) (C : Addr) (cl : List (Str × Addr)) (fp : List Addr), PG (X.blk s H scope (compEnvC scope cl C X.env) fp) tg g) (hf : GM X.K g ts f) (hts : ∀ i ∈ ts, i ∈ own.map (·.2))
    (ht : ∀ (s : Shared) (H : Hp) (C : Addr) (cl : List (Str × Addr)) (fp : List Addr), PTMs (X.blk s H scope (compEnvC scope cl C X.env) fp) ifs mt)
    (hi1 : ∀ (s : Shared) (H : Hp) (C : Addr) (cl : List (Str × Addr)) (fp : List Addr), PIM (X.blk s H scope (compEnvC scope cl C X.env) fp) tg1 iter1 mi1)
    (hg1 : ∀ (s : Shared) (H : Hp) (C : Addr) (cl : List (Str × Addr)) (fp : List Addr), PG (X.blk s H scope (compEnvC scope cl C X.env) fp) tg1 g1) (hf1 : GM X.K g1 ts1 f1) (hts1 : ∀ i ∈ ts1, i ∈ vs1)
    (ht1 : ∀ (s : Shared) (H : Hp) (C : Addr) (cl : List (Str × Addr)) (fp : List Addr), PTMs (X.blk s H scope (compEnvC scope cl C X.env) fp) ifs1 mt1)
    (he : ∀ (s : Shared) (H : Hp) (C : Addr) (cl : List (Str × Addr)) (fp : List Addr), PEM (X.blk s H scope (compEnvC scope cl C X.env) fp) elt me) (hs : ∀ x, foldedSetIterable iter X.env x = pure x := by intro _; rfl) (hs1 : ∀ env x, foldedSetIterable iter1 env x = pure x := by intro _ _; rfl) :
    PSM X (.Assign [.Name y py] (.ListComp elt [⟨tg, iter, ifs, 0⟩, ⟨tg1, iter1, ifs1, 0⟩] scope pos) spos) (mAsg (mLc2 mi f mt mi1 f1 mt1 me (own.map (·.2)) vs1) (gmName i)) :=
  PS.to (ps_setLc2 hc hN hy hyl hsw hi (blkOk_by ok) hv hg ht hi1 hg1 ht1 he hs hs1) fun _ _ _ q => em_lc2 hf hts hf1 hts1 hv (sm_asg (gm_name i) q)
end

/-! ### a, b = x, y -/
def mPar (i j : Nat) (ma : MA) : MS := fun ρ => (ma ρ).bind fun p => match p.1 with
  | [x, y] => (gmName i x p.2).bind fun ρ1 => (gmName j y ρ1).map .nx
  | _ => none
theorem sm_par {K : PySem.W.Frag} {D : Ends} {σ : L2.St} {H : Hp} {i j : Nat} {ma : MA} : tsOf K (mPar i j ma) D σ H → tPar i j (taOf K ma) D σ H := by
  rintro ⟨c, S, own, ρ, r, sr, hm, k⟩
  simp only [mPar, Option.bind_eq_some_iff] at hm
  obtain ⟨⟨ds, ρ1⟩, h1, h2⟩ := hm
  refine ⟨c, S, own, ρ, ds, ρ1, sr, h1, fun vs H' e' sr' q => ?_⟩
  match ds, q, h2 with
  | [x, y], .cons (v := v) q1 (.cons (v := w) q2 .nil), h2 =>
    simp only [Option.bind_eq_some_iff, Option.map_eq_some_iff] at h2
    obtain ⟨ρ2, f1, ρ3, f2, rfl⟩ := h2
    refine ⟨v, w, rfl, ?_⟩
    refine gm_name i c S own σ H' ρ1 v x ρ2 (fun σ' H'' => D.nx (σ'.set j (some w)) H'') sr' q1 f1 fun own2 σ2 _ _ _ s2 => ?_
    exact gm_name j c S own2 σ2 H' ρ2 w y ρ3 D.nx s2 q2 f2 fun own3 σ3 _ _ _ s3 => k S own3 σ3 H' e' s3
  | [], _, h2 => cases h2
  | [_], _, h2 => cases h2
  | _ :: _ :: _ :: _, _, h2 => cases h2
def mPar3 (i j l : Nat) (ma : MA) : MS := fun ρ => (ma ρ).bind fun p => match p.1 with
  | [x, y, z] => (gmName i x p.2).bind fun ρ1 => (gmName j y ρ1).bind fun ρ2 => (gmName l z ρ2).map .nx
  | _ => none
section
variable {X : Cx} {i j : Nat} {x y : Str} {a b : Expr} {ma : MA} {px py pt pos : Pos} {kt k2 : Nat} {pt2 : Pos}
theorem psm_par (hc : X.calm = true) (hN : X.N.Nodup) (hi : X.N[i]? = some x) (hj : X.N[j]? = some y) (hij : i ≠ j)
    (hx : X.env.scope.names.lookup x = some .local) (hy : X.env.scope.names.lookup y = some .local) (ha : PAM X [a, b] ma)
    (hw : swappedStores [.Tuple [.Name x px, .Name y py] kt pt] (.Tuple [a, b] k2 pt2) X.env = pure (some [x, y]))
    (hs : swapsWithSole [.Tuple [.Name x px, .Name y py] kt pt] (.Tuple [a, b] k2 pt2) pos.line X.env = pure false := by rfl) :
    PSM X (.Assign [.Tuple [.Name x px, .Name y py] kt pt] (.Tuple [a, b] k2 pt2) pos) (mPar i j ma) := PS.to (ps_par hc hN hi hj hij hx hy ha hw hs) fun _ _ _ q => sm_par q
end
end TL

namespace TL
open PySem L2

/-! ### sources: a list, a tuple, a text -/
inductive Sc where
  | lst (a : Addr) | tup (a : Addr) | txt (x : Str) (t : Tok)
def Sc.val : Sc → Value
  | .lst a => .ref a
  | .tup a => .ref a
  | .txt x t => .str x t
def Sc.new : Sc → Obj
  | .lst a => { cls := .type "list_iterator", data := .fields #[.ref a, .int 0 0] }
  | .tup a => { cls := .type "tuple_iterator", data := .fields #[.ref a, .int 0 0] }
  | .txt x t => { cls := .type (strIterType x), data := .fields #[.str x t, .int 0 0] }
def Sc.iter (h : Heap) (it : Addr) (i : Nat) : Sc → Prop
  | .lst a => h.IsListIter it a i
  | .tup a => h.IsTupleIter it a i
  | .txt x t => h.IsStrIter it (strIterType x) x t i
def Sc.has (K : PySem.W.Frag) (H : Hp) (xs : List V) : Sc → Prop
  | .lst a => SqL K H a xs
  | .tup a => SqT K H a xs
  | .txt x _ => xs = signV x
theorem Sc.has_ex {K : PySem.W.Frag} {H H' : Hp} (e : Ex H H') {xs : List V} : ∀ {c : Sc}, c.has K H xs → c.has K H' xs
  | .lst _, h => e.sql h
  | .tup _, h => e.sqt h
  | .txt _ _, h => h
theorem Sc.iter_new {h : Heap} {it : Addr} : ∀ {c : Sc}, h.get? it = some c.new → c.iter h it 0
  | .lst _, e => ⟨_, e, rfl, rfl⟩
  | .tup _, e => ⟨_, e, rfl, rfl⟩
  | .txt _ _, e => ⟨_, e, rfl, rfl⟩
theorem Sc.iter_at {h h' : Heap} {it : Addr} {i : Nat} : ∀ {c : Sc}, c.iter h it i → (∀ o, h.get? it = some o → h'.get? it = some o) → c.iter h' it i
  | .lst _, ⟨o, e, r⟩, k => ⟨o, k o e, r⟩
  | .tup _, ⟨o, e, r⟩, k => ⟨o, k o e, r⟩
  | .txt _ _, ⟨o, e, r⟩, k => ⟨o, k o e, r⟩
theorem Sc.iter_obj {h : Heap} {it : Addr} {i : Nat} : ∀ {c : Sc}, c.iter h it i → ∃ o, h.get? it = some o ∧ ∀ v, o.data ≠ .cell v
  | .lst _, ⟨o, e, _, d⟩ => ⟨o, e, fun v q => by rw [d] at q; cases q⟩
  | .tup _, ⟨o, e, _, d⟩ => ⟨o, e, fun v q => by rw [d] at q; cases q⟩
  | .txt _ _, ⟨o, e, _, d⟩ => ⟨o, e, fun v q => by rw [d] at q; cases q⟩
section
variable {X : Cx} {pins : List (Addr × Obj)} {σ : L2.St} {H : Hp} {s : Shared}
theorem Sc.inj (I : Inv X pins σ H s) {xs ys : List V} : ∀ {c : Sc}, c.has X.K H xs → c.has X.K H ys → xs = ys
  | .lst _, h, h' => I.list_inj h h'
  | .tup _, h, h' => I.tuple_inj h h'
  | .txt _ _, h, h' => h.trans h'.symm
/-- iter of a source -/
theorem Sc.begin (I : Inv X pins σ H s) {xs : List V} : ∀ {c : Sc}, c.has X.K H xs → ∃ Hd : Heap → Prop, Begins c.val c.new Hd ∧ Hd s.heap
  | .lst a, h => by
    obtain ⟨its, rv, p, _⟩ := I.list h
    exact ⟨_, begins_list a its.toArray, p.isList⟩
  | .tup a, h => by
    obtain ⟨its, rv, p, _⟩ := I.tuple h
    exact ⟨_, begins_tuple a its.toArray, show s.heap.IsTuple a its.toArray from p⟩
  | .txt x t, h => ⟨_, begins_text x t, trivial⟩
theorem Vals.getV : ∀ {xs : List V} {us : List Value} {i : Nat} {u : Value}, Vals xs us → us[i]? = some u → ∃ x, xs[i]? = some x ∧ RelV x u
  | _, _, _, _, .nil, e => by simp at e
  | _, _, 0, _, .cons r _, e => by simp at e; subst e; exact ⟨_, rfl, r⟩
  | _, _, i + 1, x, .cons _ t, e => by
    obtain ⟨v, h1, h2⟩ := Vals.getV (i := i) t (by simpa using e)
    exact ⟨v, by simpa using h1, h2⟩
def Sc.fp : Sc → List Addr
  | .lst a => [a]
  | .tup a => [a]
  | .txt _ _ => []
theorem Sc.fp_lt (I : Inv X pins σ H s) {xs : List V} : ∀ {c : Sc}, c.has X.K H xs → ∀ b ∈ c.fp, b < s.heap.objs.size
  | .lst a, h, b, hb => by
    obtain ⟨its, rv, p, _⟩ := I.list h
    rw [List.mem_singleton.mp hb]; exact p.lt
  | .tup a, h, b, hb => by
    obtain ⟨its, rv, ⟨o, e, _⟩, _⟩ := I.tuple h
    rw [List.mem_singleton.mp hb]; exact Heap.lt_size e
  | .txt _ _, _, b, hb => by cases hb
/-- what its iterator draws -/
theorem Sc.draws (I : Inv X pins σ H s) {P : Program} {w : World} {A : Around} (hh : A.handled = none) {it : Addr} {xs : List V} : ∀ {c : Sc}, c.has X.K H xs → it ∉ c.fp →
    ∃ (Pv : Nat → Value → Prop) (St : Nat → Heap → Prop), Draws P w A it (it :: c.fp) xs.length Pv St ∧ (∀ i, c.iter s.heap it i → St i s.heap) ∧ (∀ i h, St i h → c.iter h it i) ∧ (∀ i v, Pv i v → ∃ x, xs[i]? = some x ∧ RelV x v)
  | .lst a, h, hk => by
    obtain ⟨its, rv, p, _⟩ := I.list h
    have e : its.toArray.size = xs.length := by rw [List.size_toArray, rv.length]
    have ne : a ≠ it := fun z => hk (by rw [z]; exact List.mem_cons_self)
    refine ⟨_, _, e ▸ Draws.list hh it a ne its.toArray, fun i st => ⟨st, p.isList⟩, fun i h st => st.1, fun i v hv => ?_⟩
    have hv : its.toArray[i]? = some v := hv
    rw [List.getElem?_toArray] at hv
    exact Vals.getV rv hv
  | .tup a, h, hk => by
    obtain ⟨its, rv, p, _⟩ := I.tuple h
    have e : its.toArray.size = xs.length := by rw [List.size_toArray, rv.length]
    have ne : a ≠ it := fun z => hk (by rw [z]; exact List.mem_cons_self)
    refine ⟨_, _, e ▸ Draws.tuple hh it a ne its.toArray, fun i st => ⟨st, p⟩, fun i h st => st.1, fun i v hv => ?_⟩
    have hv : its.toArray[i]? = some v := hv
    rw [List.getElem?_toArray] at hv
    exact Vals.getV rv hv
  | .txt x t, h, hk => by
    have h : xs = signV x := h
    subst h
    have e : x.cps.size = (signV x).length := by simp [signV]
    refine ⟨_, _, e ▸ Draws.text hh it x t, fun i st => st, fun i h st => st, fun i v hv => ?_⟩
    obtain ⟨c, u, h1, rfl⟩ := hv
    exact ⟨.str ⟨#[c]⟩, by simp [signV, h1], u, rfl⟩
end

/-! ### zip of two -/
def ItG (K : PySem.W.Frag) (c1 c2 : Sc) : It :=
  ⟨fun i H => ∃ xs ys : List V, c1.has K H xs ∧ c2.has K H ys ∧ i < xs.length ∧ i < ys.length,
    fun i H v H' => ∃ T x y, v = .ref T ∧ H T = none ∧ H' = upd H T (.tup [x, y]) ∧ (∀ xs, c1.has K H xs → xs[i]? = some x) ∧ ∀ ys, c2.has K H ys → ys[i]? = some y,
    fun i H => ∃ xs ys : List V, c1.has K H xs ∧ c2.has K H ys ∧ i = min xs.length ys.length⟩
theorem turn_zipG {P : Program} {w : World} {K : PySem.W.Frag} {elts : List Expr} {kk : Nat} {tpos : Pos} {c1 c2 : Sc} {z TI TO i1 i2 : Addr} (D : ZipSep2 z TI TO i1 i2 (i1 :: c1.fp) (i2 :: c2.fp)) (n1 : i1 ∉ c1.fp) (n2 : i2 ∉ c2.fp) :
    Turn P w K (.Tuple elts kk tpos) (ItG K c1 c2) [z, TI, TO, i1, i2] z (fun i h => IsZip h z TI TO .none ∧ IsTupOf2 h TI (.ref i1) (.ref i2) ∧ (∃ a1 a2, IsTupOf2 h TO a1 a2) ∧ c1.iter h i1 i ∧ c2.iter h i2 i) where
  mem := by simp
  obj := fun i h st c hc => by
    obtain ⟨hz, hTI, ⟨x, y, hTO⟩, h1, h2⟩ := st
    have e' : c = z ∨ c = TI ∨ c = TO ∨ c = i1 ∨ c = i2 := by simpa using hc
    rcases e' with q | q | q | q | q
    · rw [q]; exact ⟨_, hz, fun v q => nomatch q⟩
    · rw [q]; exact ⟨_, hTI, fun v q => nomatch q⟩
    · rw [q]; exact ⟨_, hTO, fun v q => nomatch q⟩
    · rw [q]; exact Sc.iter_obj h1
    · rw [q]; exact Sc.iter_obj h2
  keep := fun i h h' st k => by
    obtain ⟨hz, hTI, ⟨x, y, hTO⟩, h1, h2⟩ := st
    exact ⟨k z (by simp) _ hz, k TI (by simp) _ hTI, ⟨x, y, k TO (by simp) _ hTO⟩, Sc.iter_at h1 fun o q => k i1 (by simp) o q, Sc.iter_at h2 fun o q => k i2 (by simp) o q⟩
  item := by
    intro X hP hw hK hc i pins s σ H E I hf st hg
    subst hP hw hK
    obtain ⟨hz, hTI, hTO, h1, h2⟩ := st
    obtain ⟨xs, ys, hqx, hqy, hx, hy⟩ := hg
    have hh : X.A.in1.handled = none := I.ok.hd hc
    obtain ⟨P1, St1, D1, a1, b1, p1⟩ := Sc.draws (P := X.prog) (w := X.w) I hh hqx n1
    obtain ⟨P2, St2, D2, a2, b2, p2⟩ := Sc.draws (P := X.prog) (w := X.w) I hh hqy n2
    have G := GoesN.zip2 (elts := elts) (x1 := kk) (pos := tpos) D D1 D2
    have hzl : z < s.heap.objs.size := Heap.lt_size hz
    refine wpAny_mono (G.goes i s (fun u s2 => ∃ x H', Inv X pins σ H' s2 ∧ RelV x u ∧ (ItG X.K c1 c2).yld i H x H' ∧ (IsZip s2.heap z TI TO .none ∧ IsTupOf2 s2.heap TI (.ref i1) (.ref i2) ∧ (∃ a1 a2, IsTupOf2 s2.heap TO a1 a2) ∧ c1.iter s2.heap i1 (i + 1) ∧ c2.iter s2.heap i2 (i + 1)) ∧ ∀ b ∈ [z, TI, TO, i1, i2], H' b = none) E (by omega) ⟨hz, hTI, hTO, a1 i h1, a2 i h2⟩ ?_) (fun r s1 ⟨v, e, q⟩ => ⟨v, e, q⟩) fun _ _ e => e
    rintro v h' tk ⟨T, u1, u2, rfl, hT, hP1, hP2, hTT⟩ ⟨gz, gTI, gTO, g1, g2⟩ hk htk
    obtain ⟨x, ex, rx⟩ := p1 i u1 hP1
    obtain ⟨y, ey, ry⟩ := p2 i u2 hP2
    have new : ObjOk X.prog X.w (upd H T (.tup [x, y])) h' T (.tup [x, y]) :=
      ⟨by show 2 ≤ sizeLine; decide, [u1, u2], .cons rx (.cons ry .nil), hTT⟩
    have I1 : Inv X pins σ (upd H T (.tup [x, y])) { s with heap := h', toks := tk } :=
      I.turnedNew (t' := tk) (ch := [z, TO, i1, i2]) (fun c o hb q => hk c o hb q) (fun b hb => hf b (by
        have e' : b = z ∨ b = TO ∨ b = i1 ∨ b = i2 := by simpa using hb
        rcases e' with q | q | q | q <;> rw [q] <;> simp)) hT new
    refine ⟨.ref T, _, I1, rfl, ⟨T, x, y, rfl, I.hok.fresh hT, rfl, fun l hl => by rw [Sc.inj I hl hqx]; exact ex, fun l hl => by rw [Sc.inj I hl hqy]; exact ey⟩, ⟨gz, gTI, gTO, b1 _ _ g1, b2 _ _ g2⟩, fun c hcm => ?_⟩
    have hlt : c < s.heap.objs.size := by
      have e' : c = z ∨ c = TI ∨ c = TO ∨ c = i1 ∨ c = i2 := by simpa using hcm
      rcases e' with q | q | q | q | q
      · rw [q]; exact hzl
      · rw [q]; exact Heap.lt_size hTI
      · obtain ⟨_, _, hTO⟩ := hTO; rw [q]; exact Heap.lt_size hTO
      · rw [q]; obtain ⟨_, e1, _⟩ := Sc.iter_obj h1; exact Heap.lt_size e1
      · rw [q]; obtain ⟨_, e2, _⟩ := Sc.iter_obj h2; exact Heap.lt_size e2
    rw [upd_ne (Nat.ne_of_lt (Nat.lt_of_lt_of_le hlt hT))]
    exact (hf c hcm).1
  done := by
    intro X hP hw hK hc i pins s σ H E I hf st hg
    subst hP hw hK
    obtain ⟨hz, hTI, hTO, h1, h2⟩ := st
    obtain ⟨xs, ys, hqx, hqy, rfl⟩ := hg
    have hh : X.A.in1.handled = none := I.ok.hd hc
    obtain ⟨P1, St1, D1, a1, b1, p1⟩ := Sc.draws (P := X.prog) (w := X.w) I hh hqx n1
    obtain ⟨P2, St2, D2, a2, b2, p2⟩ := Sc.draws (P := X.prog) (w := X.w) I hh hqy n2
    have G := GoesN.zip2 (elts := elts) (x1 := kk) (pos := tpos) D D1 D2
    refine G.stops s (fun s1 => Inv X pins σ H s1) E ⟨hz, hTI, hTO, a1 _ h1, a2 _ h2⟩ fun h' tk hk htk => ?_
    exact I.turnedL (t' := tk) (ch := [z, TO, i1, i2]) (fun c o hb q => hk c o hb q) fun b hb => hf b (by
        have e' : b = z ∨ b = TO ∨ b = i1 ∨ b = i2 := by simpa using hb
        rcases e' with q | q | q | q <;> rw [q] <;> simp)
  self := fun A i s Q E st h => wpAny_pyIter_zip st.1 h

def ScV (K : PySem.W.Frag) (H : Hp) (v : V) (xs : List V) (c : Sc) : Prop := match c with
  | .lst a => v = .ref a ∧ SqL K H a xs
  | .tup a => v = .ref a ∧ SqT K H a xs
  | .txt x _ => v = .str x ∧ xs = signV x
def Sc.wt (t : Tok) : Sc → Sc
  | .txt x _ => .txt x t
  | c => c
def iZipG (K : PySem.W.Frag) (ta : TA) : TI := fun σ H R => ta σ H fun vs H1 => ∃ v1 v2 xs ys c1 c2, vs = [v1, v2] ∧ ScV K H1 v1 xs c1 ∧ ScV K H1 v2 ys c2 ∧ ∀ t1 t2, R (ItG K (c1.wt t1) (c2.wt t2)) H1
theorem scv {X : Cx} {pins : List (Addr × Obj)} {σ : L2.St} {H : Hp} {s : Shared} {K : PySem.W.Frag} {v : V} {u : Value} {xs : List V} {c : Sc} (h : ScV K H v xs c) (r : RelV v u) : ∃ t, u = (c.wt t).val ∧ (c.wt t).has K H xs := by
  cases c with
  | lst a => obtain ⟨rfl, h⟩ := h; cases r; exact ⟨0, rfl, h⟩
  | tup a => obtain ⟨rfl, h⟩ := h; cases r; exact ⟨0, rfl, h⟩
  | txt x _ => obtain ⟨rfl, h⟩ := h; obtain ⟨t, rfl⟩ := r; exact ⟨t, rfl, h⟩
theorem pi_zipG {X : Cx} {e e2 : Expr} {ta : TA} {p pos tpos : Pos} {elts : List Expr} {kk : Nat} (hg : Gl X "zip") (hm : X.mg "zip" = none) (ha : PA X [e, e2] ta)
    (hs : starEach [e, e2] X.env = (false, eval e X.env) :: starEach [e2] X.env := by rfl) (hpl : (backTo pos (starEach [e2] X.env)).any (·.1) = false := by rfl) :
    PI X (.Tuple elts kk tpos) (.Call (.Name "zip" p) [e, e2] [] pos) (iZipG X.K ta) := by
  refine ⟨fun pins s σ H R I h => ?_⟩
  refine PyProof.Rows.Call_ (ld_blt I hg hm PyProof.Rows.boot_zip (PyProof.Rows.callWith_type1 (thn (ha.run pos pins s σ H _ I h) fun us s1 ⟨vs, H1, I1, r1, q1⟩ => ?_) hs hpl))
  obtain ⟨v1, v2, xs, ys, c1, c2, ex, k1, k2, q⟩ := q1
  subst ex
  obtain ⟨u1, ws, rfl, r, rr⟩ := Vals.cons_inv r1
  obtain ⟨u2, ws, rfl, r', rr⟩ := Vals.cons_inv rr
  cases rr
  obtain ⟨t1, e1, m1⟩ := scv (X := X) (pins := pins) (σ := σ) (s := s1) k1 r
  obtain ⟨t2, e2', m2⟩ := scv (X := X) (pins := pins) (σ := σ) (s := s1) k2 r'
  have q := q t1 t2
  revert e1 m1 e2' m2 q
  generalize (c1.wt t1) = d1
  generalize (c2.wt t2) = d2
  intro e1 m1 e2' m2 q
  subst e1
  subst e2'
  have fresh5 : ∀ c, c ∈ [s1.heap.objs.size + 4, s1.heap.objs.size + 2, s1.heap.objs.size + 3, s1.heap.objs.size, s1.heap.objs.size + 1] → FpOk X pins H1 c := fun c hcm => by
    have e' : c = s1.heap.objs.size + 4 ∨ c = s1.heap.objs.size + 2 ∨ c = s1.heap.objs.size + 3 ∨ c = s1.heap.objs.size ∨ c = s1.heap.objs.size + 1 := by simpa using hcm
    have hle : s1.heap.objs.size ≤ c := by
      rcases e' with z | z | z | z | z
      · rw [z]; exact Nat.le_add_right _ _
      · rw [z]; exact Nat.le_add_right _ _
      · rw [z]; exact Nat.le_add_right _ _
      · rw [z]; exact Nat.le_refl _
      · rw [z]; exact Nat.le_add_right _ _
    exact I1.fpOk hle (I1.hok.fresh hle)
  obtain ⟨Hd1, B1, w1⟩ := Sc.begin I1 m1
  obtain ⟨Hd2, B2, w2⟩ := Sc.begin I1 m2
  refine zip_begins2 B1 B2 w1 w2 fun h' hz hTI hTO g1 g2 hsz hk => wpAny_pyIter_zip hz ?_
  have I2 : Inv X pins σ H1 { s1 with heap := h' } := I1.kept (t' := s1.toks) hk
  have lt1 := Sc.fp_lt I1 m1
  have lt2 := Sc.fp_lt I1 m2
  exact ⟨s1.heap.objs.size + 4, [s1.heap.objs.size + 4, s1.heap.objs.size + 2, s1.heap.objs.size + 3, s1.heap.objs.size, s1.heap.objs.size + 1], _, _, H1, rfl, I2,
    turn_zipG (zip_sep2 lt1 lt2) (fun m => Nat.lt_irrefl _ (lt1 _ m)) (fun m => by have h : (s1.heap.objs.size + 1 : Nat) < s1.heap.objs.size := lt2 _ m; omega), ⟨hz, hTI, ⟨_, _, hTO⟩, Sc.iter_new g1, Sc.iter_new g2⟩, fresh5, q⟩

/-! ### in data -/
def dZip : List D → Option (List D)
  | [a, b] => (dItems a).bind fun xs => (dItems b).map fun ys => List.zipWith (fun x y => D.tup [x, y]) xs ys
  | _ => none
def mZip (ma : MA) : MI := fun ρ => (ma ρ).bind fun p => (dZip p.1).map fun ds => (ds, p.2)
theorem rep_sc {K : PySem.W.Frag} {H : Hp} {v : V} {d : D} {ds : List D} (r : Rep K H v d) (h : dItems d = some ds) : ∃ xs c, RepL K H xs ds ∧ ScV K H v xs c := by
  cases r with
  | lst h1 l1 => cases h; exact ⟨_, .lst _, l1, rfl, SqL.of h1⟩
  | tup h1 l1 => cases h; exact ⟨_, .tup _, l1, rfl, h1⟩
  | str x => cases h; exact ⟨_, .txt x 0, rep_signs x, rfl, rfl⟩
  | _ => cases h
theorem scv_ex {K : PySem.W.Frag} {H H' : Hp} (e : Ex H H') {v : V} {xs : List V} : ∀ {c : Sc}, ScV K H v xs c → ScV K H' v xs c
  | .lst _, ⟨h, q⟩ => ⟨h, e.sql q⟩
  | .tup _, ⟨h, q⟩ => ⟨h, e.sqt q⟩
  | .txt _ _, h => h
theorem scv_has {K : PySem.W.Frag} {H : Hp} {v : V} {xs : List V} (t : Tok) : ∀ {c : Sc}, ScV K H v xs c → (c.wt t).has K H xs
  | .lst _, ⟨_, q⟩ => q
  | .tup _, ⟨_, q⟩ => q
  | .txt _ _, ⟨_, q⟩ => q
theorem wk_zip {K : PySem.W.Frag} {S : List Addr} {H : Hp} {c1 c2 : Sc} {xs ys : List V} {ds es : List D} (h1 : c1.has K (Fz S H) xs) (h2 : c2.has K (Fz S H) ys) (r1 : RepL K (Fz S H) xs ds) (r2 : RepL K (Fz S H) ys es) :
    Wk K (ItG K c1 c2) S H (List.zipWith (fun x y => D.tup [x, y]) ds es) where
  go := fun S' H1 i e _ hi => by
    rw [List.length_zipWith] at hi
    exact ⟨xs, ys, Sc.has_ex Fz.le (Sc.has_ex e h1), Sc.has_ex Fz.le (Sc.has_ex e h2), by rw [r1.length]; omega, by rw [r2.length]; omega⟩
  yld := fun S' H1 i v H2 e t y d hd => by
    obtain ⟨T, x, y, rfl, hT, rfl, f1, f2⟩ := y
    have g1 := f1 xs (Sc.has_ex Fz.le (Sc.has_ex e h1))
    have g2 := f2 ys (Sc.has_ex Fz.le (Sc.has_ex e h2))
    obtain ⟨d1, k1, q1⟩ := r1.getV g1
    obtain ⟨d2, k2, q2⟩ := r2.getV g2
    simp only [List.getElem?_zipWith, k1, k2] at hd
    cases hd
    refine ⟨Ex.new hT, .tup (SqT.of (fz_new t hT)) (.cons ?_ (.cons ?_ .nil))⟩
    · exact (q1.mono e).mono (Fz.ex (Ex.new hT))
    · exact (q2.mono e).mono (Fz.ex (Ex.new hT))
  stop := fun S' H1 e => ⟨xs, ys, Sc.has_ex Fz.le (Sc.has_ex e h1), Sc.has_ex Fz.le (Sc.has_ex e h2), by rw [List.length_zipWith, r1.length, r2.length]⟩
theorem pim_zip {X : Cx} {e e2 : Expr} {ma : MA} {p pos tpos : Pos} {elts : List Expr} {kk : Nat} (hg : Gl X "zip") (hm : X.mg "zip" = none) (ha : PAM X [e, e2] ma)
    (hs : starEach [e, e2] X.env = (false, eval e X.env) :: starEach [e2] X.env := by rfl) (hpl : (backTo pos (starEach [e2] X.env)).any (·.1) = false := by rfl) :
    PIM X (.Tuple elts kk tpos) (.Call (.Name "zip" p) [e, e2] [] pos) (mZip ma) := PI.to (pi_zipG hg hm ha hs hpl) fun σ H R => by
  rintro ⟨c, S, own, ρ, ds, ρ', sr, hm, k⟩
  simp only [mZip, Option.bind_eq_some_iff, Option.map_eq_some_iff] at hm
  obtain ⟨⟨as, ρ1⟩, h1, ds', h2, e⟩ := hm
  cases e
  refine ⟨c, S, own, ρ, as, ρ1, sr, h1, fun vs H' e' sr' q => ?_⟩
  match as, q, h2 with
  | [a, b], .cons (v := v1) q1 (.cons (v := v2) q2 .nil), h2 =>
    simp only [dZip, Option.bind_eq_some_iff, Option.map_eq_some_iff] at h2
    obtain ⟨as, e1, bs, e2, rfl⟩ := h2
    obtain ⟨xs, c1, l1, s1⟩ := rep_sc q1 e1
    obtain ⟨ys, c2, l2, s2⟩ := rep_sc q2 e2
    exact ⟨v1, v2, xs, ys, c1, c2, rfl, scv_ex Fz.le s1, scv_ex Fz.le s2, fun t1 t2 => k _ H' e' sr' (wk_zip (scv_has t1 s1) (scv_has t2 s2) l1 l2)⟩
  | [], _, h2 => cases h2
  | [_], _, h2 => cases h2
  | _ :: _ :: _ :: _, _, h2 => cases h2
end TL

namespace TL
open PySem L2

/-! ### dicts as data -/
def keyD : D → Option Key
  | .int i => some (.inl i)
  | .str x => some (.inr x)
  | _ => none
def valD (kvs : List (Key × D)) (k : Key) : Option D := (kvs.find? fun kv => decide (kv.1 = k)).map (·.2)
def putD (kvs : List (Key × D)) (k : Key) (v : D) : List (Key × D) :=
  if (kvs.any fun kv => decide (kv.1 = k)) = true then kvs.map (fun kv => if kv.1 = k then (kv.1, v) else kv) else kvs ++ [(k, v)]
def mergeD (kvs more : List (Key × D)) : List (Key × D) := more.foldl (fun acc kv => putD acc kv.1 kv.2) kvs
section
variable {K : PySem.W.Frag} {H : Hp}
theorem RepK.keys : ∀ {xs : List (Key × V)} {ds : List (Key × D)}, RepK K H xs ds → xs.map (·.1) = ds.map (·.1)
  | _, _, .nil => rfl
  | _, _, .cons _ t => by rw [List.map_cons, List.map_cons, RepK.keys t]
theorem RepK.val {k : Key} {d : D} : ∀ {xs : List (Key × V)} {ds : List (Key × D)}, RepK K H xs ds → valD ds k = some d → ∃ v, valV xs k = some v ∧ Rep K H v d
  | _, _, .nil, h => by cases h
  | (j, x) :: xs, (_, y) :: ds, .cons q t, h => by
    by_cases e : j = k
    · simp only [valD, List.find?_cons, e, decide_true, Option.map_some] at h
      cases h
      exact ⟨x, by simp [valV, List.find?_cons, e], q⟩
    · simp only [valD, List.find?_cons, e, decide_false] at h
      obtain ⟨v, h1, h2⟩ := RepK.val t h
      exact ⟨v, by rw [← h1]; exact valV_neg e, h2⟩
theorem RepK.any {k : Key} : ∀ {xs : List (Key × V)} {ds : List (Key × D)}, RepK K H xs ds → (xs.any fun kv => decide (kv.1 = k)) = (ds.any fun kv => decide (kv.1 = k))
  | _, _, .nil => rfl
  | _, _, .cons _ t => by rw [List.any_cons, List.any_cons, RepK.any t]
theorem RepK.setAll {k : Key} {v : V} {d : D} (q : Rep K H v d) : ∀ {xs : List (Key × V)} {ds : List (Key × D)}, RepK K H xs ds → RepK K H (xs.map fun kv => if kv.1 = k then (kv.1, v) else kv) (ds.map fun kv => if kv.1 = k then (kv.1, d) else kv)
  | _, _, .nil => .nil
  | (j, x) :: xs, (_, y) :: ds, .cons z t => by
    rw [List.map_cons, List.map_cons]
    by_cases e : j = k
    · simp only [e, if_true]; exact .cons q (RepK.setAll q t)
    · simp only [e, if_false]; exact .cons z (RepK.setAll q t)
theorem RepK.append : ∀ {xs ys : List (Key × V)} {ds es : List (Key × D)}, RepK K H xs ds → RepK K H ys es → RepK K H (xs ++ ys) (ds ++ es)
  | _, _, _, _, .nil, r => r
  | _, _, _, _, .cons h t, r => .cons h (t.append r)
theorem RepK.put {xs : List (Key × V)} {ds : List (Key × D)} {k : Key} {v : V} {d : D} (r : RepK K H xs ds) (q : Rep K H v d) : RepK K H (putK xs k v) (putD ds k d) := by
  unfold putK putD
  rw [r.any]
  split
  · exact RepK.setAll q r
  · exact r.append (.cons q .nil)
theorem RepK.merge : ∀ {more : List (Key × V)} {mo : List (Key × D)} {xs : List (Key × V)} {ds : List (Key × D)}, RepK K H more mo → RepK K H xs ds → RepK K H (mergeK xs more) (mergeD ds mo)
  | [], [], _, _, .nil, r => r
  | _ :: _, _ :: _, _, _, .cons q t, r => RepK.merge (xs := putK _ _ _) (ds := putD _ _ _) t (r.put q)
end
def mPairs : List (ME × ME) → List Cell → Option (List (D × D) × List Cell)
  | [], ρ => some ([], ρ)
  | (mk, mv) :: ms, ρ => (mk ρ).bind fun p => (mv p.2).bind fun q => (mPairs ms q.2).map fun z => ((p.1, q.1) :: z.1, z.2)
def keysD : List (D × D) → Option (List (Key × D))
  | [] => some []
  | (k, v) :: r => (keyD k).bind fun kk => (keysD r).map fun z => (kk, v) :: z
def mDisp (ms : List (ME × ME)) : ME := fun ρ => (mPairs ms ρ).bind fun p => (keysD p.1).bind fun kvs => if kvs.length ≤ 15 then some (.dct (mergeD [] kvs), p.2) else none
def mDict0 : ME := mC (.dct [])
section
variable {K : PySem.W.Frag}
theorem em_pairs : ∀ {ms : List (ME × ME)} {σ : L2.St} {H : Hp} {Q : List (V × V) → Hp → Prop} {c : Cn} {S : List Addr} {own : Nat → List Addr} {ρ ρ' : List Cell} {xs : List (D × D)}, SR K c S own σ H ρ → mPairs ms ρ = some (xs, ρ') →
    (∀ vs H', Ex (Fz S H) (Fz S H') → SR K c S own σ H' ρ' → RepL K (Fz S H') (vs.map (·.1)) (xs.map (·.1)) → RepL K (Fz S H') (vs.map (·.2)) (xs.map (·.2)) → Q vs H') → tPairs (ms.map fun m => (teOf K m.1, teOf K m.2)) σ H Q
  | [], σ, H, Q, c, S, own, ρ, ρ', xs, sr, hm, k => by cases hm; exact k [] H (Ex.refl _) sr .nil .nil
  | (mk, mv) :: ms, σ, H, Q, c, S, own, ρ, ρ', xs, sr, hm, k => by
    simp only [mPairs, Option.bind_eq_some_iff, Option.map_eq_some_iff] at hm
    obtain ⟨⟨x, ρ1⟩, h1, ⟨y, ρ2⟩, h2, ⟨zs, ρ3⟩, h3, e⟩ := hm
    cases e
    refine ⟨c, S, own, ρ, x, ρ1, sr, h1, fun v H1 e1 s1 q1 => ⟨c, S, own, ρ1, y, ρ2, s1, h2, fun u H2 e2 s2 q2 => ?_⟩⟩
    exact em_pairs s2 h3 fun vs H3 e3 s3 r1 r2 => k _ H3 ((e1.trans e2).trans e3) s3 (.cons (q1.mono (e2.trans e3)) r1) (.cons (q2.mono e3) r2)
theorem SR.unaside {c : Cn} {S : List Addr} {own : Nat → List Addr} {σ : L2.St} {H H' : Hp} {ρ ρ' : List Cell} {p : Addr} (r0 : SR K c S own σ H ρ) (r : SR K c (p :: S) own σ H' ρ') : SR K c S own σ H' ρ' :=
  ⟨r.len, fun i x h => (r.cell i x h).less, r0.apart, r0.ownS, r0.sub, fun a h => r.trk a (List.mem_cons_of_mem _ h), r0.trk0, r.keep, r0.tS, r0.tdk⟩
theorem keys_rep {H : Hp} : ∀ {vs : List (V × V)} {xs : List (D × D)} {kvs : List (Key × D)}, RepL K H (vs.map (·.1)) (xs.map (·.1)) → RepL K H (vs.map (·.2)) (xs.map (·.2)) → keysD xs = some kvs → ∃ ks : List (Key × V), vs = ks.map (fun kv => (kV kv.1, kv.2)) ∧ RepK K H ks kvs
  | [], [], _, .nil, .nil, h => by cases h; exact ⟨[], rfl, .nil⟩
  | (v, u) :: vs, (x, y) :: xs, kvs, .cons q1 t1, .cons q2 t2, h => by
    simp only [keysD, Option.bind_eq_some_iff, Option.map_eq_some_iff] at h
    obtain ⟨k, e1, zs, e2, rfl⟩ := h
    obtain ⟨ks, rfl, r⟩ := keys_rep t1 t2 e2
    refine ⟨(k, u) :: ks, ?_, .cons q2 r⟩
    rw [List.map_cons]
    congr 1
    cases q1 with
    | int i => cases e1; rfl
    | str i => cases e1; rfl
    | _ => cases e1
  | [], _ :: _, _, h, _, _ => nomatch h
  | _ :: _, [], _, h, _, _ => nomatch h
theorem em_disp {ms : List (ME × ME)} {σ : L2.St} {H : Hp} {Q : VK} : teOf K (mDisp ms) σ H Q → tDisp (ms.map fun m => (teOf K m.1, teOf K m.2)) σ H Q := by
  rintro ⟨c, S, own, ρ, d, ρ', sr, hm, k⟩
  simp only [mDisp, Option.bind_eq_some_iff] at hm
  obtain ⟨⟨xs, ρ1⟩, h1, kvs, h2, h3⟩ := hm
  split at h3
  case isFalse => cases h3
  rename_i hl
  cases h3
  intro p hp
  have hpS := sr.new hp
  have hown : ∀ i, p ∉ own i := fun i m => hpS (sr.ownS i p m).1
  have s1 := sr.aside (o := .dK []) hp
  refine em_pairs s1.enter h1 fun vs H2 e2 s2 r1 r2 => ?_
  have hp2 : H2 p = some (.dK []) := s2.keep p _ upd_same fun ⟨i, m⟩ => hown i m
  obtain ⟨ks, rfl, r⟩ := keys_rep r1 r2 h2
  refine ⟨hp2, ks, rfl, by rw [r.length]; exact hl, ?_⟩
  have s3 := s1.leave s2
  have s4 := s3.touch (o := .dK (mergeK [] ks)) List.mem_cons_self hp2 hown (sr.fresh0 hp)
  have fz : Fz (p :: S) (upd H2 p (.dK (mergeK [] ks))) = Fz (p :: S) H2 := Fz.upd_own List.mem_cons_self
  have sub : Ex (Fz (p :: S) (upd H2 p (.dK (mergeK [] ks)))) (Fz S (upd H2 p (.dK (mergeK [] ks)))) := Fz.sub fun _ m => List.mem_cons_of_mem _ m
  refine k _ _ ?_ (sr.unaside s4) (.dct (xs := mergeK [] ks) (by rw [Fz.out hpS, upd_same]) ?_)
  · exact ((Fz.upd_new hp).trans e2).trans (fz ▸ sub)
  · exact ((RepK.merge r .nil).mono (fz ▸ Ex.refl _)).mono sub
end
/-- x[i], x a list, a tuple, a text, a dict -/
def dItemA : D → D → Option D
  | .dct kvs, k => (keyD k).bind fun kk => valD kvs kk
  | a, b => dItem a b
section
variable {X : Cx} {a b : Expr} {ma mb : ME} {pos : Pos}
theorem PE.or {e : Expr} {t t' : TE} (h : PE X e t) (h' : PE X e t') : PE X e fun σ H Q => t σ H Q ∨ t' σ H Q :=
  ⟨fun pins s σ H Q I z => z.elim (h.run pins s σ H Q I) (h'.run pins s σ H Q I)⟩
theorem pem_itemA (hu : X.A.units + 1 < cLine) (ha : PEM X a ma) (hb : PEM X b mb) (hs : PlainIx b) : PEM X (.Subscript a b pos) (mBin dItemA ma mb) := PE.to (PE.or (pe_ix ix_seq ha hb hs) (pe_dget hu ha hb hs)) fun σ H Q h => by
  obtain ⟨c, S, own, ρ, d, ρ', sr, hm, k⟩ := h
  have hm0 := hm
  unfold mBin at hm
  simp only [Option.bind_eq_some_iff, Option.map_eq_some_iff] at hm
  obtain ⟨⟨x, ρ1⟩, h1, ⟨y, ρ2⟩, h2, d', h3, e⟩ := hm
  cases e
  by_cases hd : ∃ kvs, x = .dct kvs
  · obtain ⟨kvs, rfl⟩ := hd
    refine .inr ⟨c, S, own, ρ, _, ρ1, sr, h1, fun v H1 e1 s1 q1 => ⟨c, S, own, ρ1, y, ρ2, s1, h2, fun u H2 e2 s2 q2 => ?_⟩⟩
    have h3 : ((keyD y).bind fun kk => valD kvs kk) = some d := h3
    simp only [Option.bind_eq_some_iff] at h3
    obtain ⟨kk, e3, e4⟩ := h3
    have hu : u = kV kk := by cases q2 <;> cases e3 <;> rfl
    subst hu
    have q1 := q1.mono e2
    cases q1 with
    | dct g1 l1 =>
      obtain ⟨z, e5, q3⟩ := l1.val e4
      exact ⟨_, z, rfl, e5 ▸ DGet.k (Fz.le _ _ g1), k z H2 (e1.trans e2) s2 q3⟩
  · refine .inl (em_op ro_item σ H Q ⟨c, S, own, ρ, d, _, sr, ?_, k⟩)
    unfold mBin
    simp only [Option.bind_eq_some_iff, Option.map_eq_some_iff]
    refine ⟨_, h1, _, h2, d, ?_, rfl⟩
    cases x <;> first | exact h3 | exact absurd ⟨_, rfl⟩ hd
theorem pem_dict0 : PEM X (.Dict [] [] pos) mDict0 := PE.to pe_dnewK fun σ H Q h => by
  obtain ⟨c, S, own, ρ, d, ρ', sr, hm, k⟩ := h
  cases hm
  exact fun p hp => k _ _ (Fz.ex (Ex.new hp)) (sr.ex (Ex.new hp)) (.dct (fz_new sr.trk hp) .nil)
abbrev PPM (X : Cx) (pos : Pos) (keys : List (Option Expr)) (values : List Expr) (ms : List (ME × ME)) : Prop := PPs X pos keys values (ms.map fun m => (teOf X.K m.1, teOf X.K m.2))
theorem ppm_nil : PPM X pos [] [] [] := pps_nil
theorem ppm_cons {k v : Expr} {ks : List (Option Expr)} {vs : List Expr} {ms : List (ME × ME)} (hk : PEM X k ma) (hv : PEM X v mb) (hr : PPM X pos ks vs ms) : PPM X pos (some k :: ks) (v :: vs) ((ma, mb) :: ms) := pps_cons hk hv hr
theorem pem_disp {keys : List (Option Expr)} {values : List Expr} {ms : List (ME × ME)} (h : PPM X pos keys values ms) (hall : keys.all (·.isSome) = true) (hl : keys.length = values.length) (h0 : keys ≠ []) (h15 : keys.length ≤ 15) : PEM X (.Dict keys values pos) (mDisp ms) :=
  PE.to (pe_disp h hall hl h0 h15) fun _ _ _ q => em_disp q
end
end TL

namespace TL
open PySem L2

/-! ### own lists -/
section
variable {K : PySem.W.Frag} {c : Cn} {S : List Addr} {own own' : Nat → List Addr} {σ σ' : L2.St} {H H' : Hp} {ρ ρ' : List Cell}
theorem CellR.other {p : Addr} {o : HO} {S : List Addr} (hp : p ∈ S) {as : List Addr} (hn : p ∉ as) {v : Option V} : ∀ {x : Cell}, CellR K S H as v x → CellR K S (upd H p o) as v x
  | .no, h => h
  | .d _, ⟨ha, v, h, r⟩ => ⟨ha, v, h, by rw [Fz.upd_own hp]; exact r⟩
  | .ol _, ⟨a, xs, ha, h, h1, r⟩ => by
    subst ha
    exact ⟨a, xs, rfl, h, by rw [upd_ne (fun e => hn (by rw [e]; exact List.mem_cons_self))]; exact h1, by rw [Fz.upd_own hp]; exact r⟩
  | .od _, ⟨a, xs, ha, h, h1, r⟩ => by
    subst ha
    exact ⟨a, xs, rfl, h, by rw [upd_ne (fun e => hn (by rw [e]; exact List.mem_cons_self))]; exact h1, by rw [Fz.upd_own hp]; exact r⟩
  | .dk _, ⟨d, l, ha, h, h1, h2, h3⟩ => by
    subst ha
    exact ⟨d, l, rfl, h, by rw [upd_ne (fun e => hn (by rw [e]; exact List.mem_cons_self))]; exact h1, by rw [upd_ne (fun e => hn (by rw [e]; exact List.mem_cons_of_mem _ List.mem_cons_self))]; exact h2, h3⟩
/-- an own object of slot i is changed -/
theorem SR.touchOwn {i : Nat} {p : Addr} {u o : HO} {x : Cell} (r : SR K c S own σ H ρ) (hp : p ∈ own i) (hu : H p = some u) (hi : i < ρ.length) (hx : CellR K S (upd H p o) (own i) (σ[i]?.join) x) : SR K c S own σ (upd H p o) (ρ.set i x) := by
  have hpS := (r.ownS i p hp).1
  refine ⟨by rw [List.length_set]; exact r.len, fun j y hy => ?_, r.apart, r.ownS, r.sub, fun a ha => ?_, r.trk0, fun a v ha n => ?_, r.tS, r.tdk⟩
  · by_cases e : j = i
    · subst e
      rw [List.getElem?_set_self hi] at hy
      cases hy
      exact hx
    · rw [List.getElem?_set_ne (fun z => e z.symm)] at hy
      exact (r.cell j y hy).other hpS (fun m => r.apart j i e p m hp)
  · by_cases e : a = p
    · rw [e, upd_same]; rfl
    · rw [upd_ne e]; exact r.trk a ha
  · have ne : a ≠ p := fun e => by
      subst e
      rcases (r.ownS i a hp).2 with z | z
      · exact n z
      · rw [z] at ha; cases ha
    rw [upd_ne ne]; exact r.keep a v ha n
/-- a new list becomes slot i's own -/
theorem SR.owns {i : Nat} {p : Addr} {xs : List V} {ds : List D} (r : SR K c (p :: S) own σ H ρ) (hp : own i = []) (hn : ∀ j, p ∉ own j) (h0 : c.H0 p = none) (hH : H p = some (.lst xs)) (q : RepL K (Fz (p :: S) H) xs ds) (hi : i < ρ.length) :
    SR K c (p :: S) (fun j => if j = i then [p] else own j) (σ.set i (some (.ref p))) H (ρ.set i (.ol ds)) := by
  refine ⟨by rw [List.length_set, List.length_set]; exact r.len, fun j x h => ?_, fun j k n a h => ?_, fun j a h => ?_, r.sub, r.trk, r.trk0, r.keep, r.tS, fun l n => ?_⟩
  · by_cases e : j = i
    · subst e
      rw [List.getElem?_set_self hi] at h
      cases h
      exact ⟨p, xs, if_pos rfl, by rw [List.getElem?_set_self (by rw [r.len]; exact hi)]; rfl, hH, q⟩
    · rw [List.getElem?_set_ne (fun z => e z.symm)] at h ⊢
      simp only [if_neg e]
      exact r.cell j x h
  · by_cases e : j = i
    · simp only [if_pos e] at h
      have e2 : k ≠ i := fun z => n (e.trans z.symm)
      simp only [if_neg e2]
      rw [List.mem_singleton.mp h]; exact hn k
    · simp only [if_neg e] at h
      by_cases e2 : k = i
      · simp only [if_pos e2]
        intro z
        rw [List.mem_singleton.mp z] at h
        exact hn j h
      · simp only [if_neg e2]; exact r.apart j k n a h
  · by_cases e : j = i
    · simp only [if_pos e] at h
      rw [List.mem_singleton.mp h]
      exact ⟨List.mem_cons_self, .inr h0⟩
    · simp only [if_neg e] at h; exact r.ownS j a h
  · have := r.tdk l n
    by_cases e : 0 = i
    · rw [e, hp] at this; exact absurd this.symm n
    · simp only [if_neg e]; exact this
/-- an own list is given away: from now on it is data -/
theorem SR.freeze {c : CnL} {i : Nat} {ds : List D} (r : SR K c S own σ H ρ) (h : ρ[i]? = some (.ol ds)) : ∃ S' own', Ex (Fz S H) (Fz S' H) ∧ SR K c S' own' σ H (ρ.set i (.d (.lst ds))) := by
  obtain ⟨p, xs, ha, hv, hH, q⟩ := r.cell i _ h
  have hpi : p ∈ own i := by rw [ha]; exact List.mem_cons_self
  have hi : i < ρ.length := (List.getElem?_eq_some_iff.mp h).1
  have two : c.tl ≠ [] → own 0 = c.tl := r.tdk True.intro
  have hT : p ∉ c.tl := fun m => by
    have ne : c.tl ≠ [] := fun e => by rw [e] at m; cases m
    have e0 := two ne
    have i0 : i = 0 := Classical.byContradiction fun n => r.apart i 0 n p hpi (by rw [e0]; exact m)
    rcases c.two with e | ⟨a, b, hab, e⟩
    · exact ne e
    · rw [← i0, ha, e] at e0; cases e0
  have h0 : c.H0 p = none := (r.ownS i p hpi).2.elim (fun z => absurd z hT) id
  have hS0 : p ∉ c.S0 := fun m => by have := r.trk0 p m; rw [show c.up.H0 p = none from h0] at this; cases this
  let S' := S.filter fun a => decide (a ≠ p)
  have memS : ∀ a, a ∈ S' ↔ a ∈ S ∧ a ≠ p := fun a => by simp [S', List.mem_filter]
  have ex : Ex (Fz S H) (Fz S' H) := Fz.sub fun a m => ((memS a).mp m).1
  refine ⟨S', fun j => if j = i then [] else own j, ex, by rw [List.length_set]; exact r.len, fun j x hj => ?_, fun j k n a hj => ?_, fun j a hj => ?_, fun a m => (memS a).mpr ⟨r.sub a m, fun e => hS0 (e ▸ m)⟩, fun a m => r.trk a ((memS a).mp m).1, r.trk0, r.keep, r.tS, fun l n => ?_⟩
  · by_cases e : j = i
    · subst e
      rw [List.getElem?_set_self hi] at hj
      cases hj
      refine ⟨if_pos rfl, .ref p, hv, .lst (xs := xs) ?_ (q.mono ex)⟩
      rw [Fz.out (fun m => ((memS p).mp m).2 rfl)]; exact hH
    · rw [List.getElem?_set_ne (fun z => e z.symm)] at hj
      simp only [if_neg e]
      have q := r.cell j x hj
      cases x with
      | no => exact q
      | d y => obtain ⟨u, v, e1, z⟩ := q; exact ⟨u, v, e1, z.mono ex⟩
      | ol ds => obtain ⟨a, xs, e1, e2, e3, z⟩ := q; exact ⟨a, xs, e1, e2, e3, z.mono ex⟩
      | od ds => obtain ⟨a, xs, e1, e2, e3, z⟩ := q; exact ⟨a, xs, e1, e2, e3, z.mono ex⟩
      | dk s => exact q
  · by_cases e : j = i
    · simp only [if_pos e] at hj; cases hj
    · by_cases e2 : k = i
      · simp only [if_pos e2]; intro z; cases z
      · simp only [if_neg e] at hj; simp only [if_neg e2]; exact r.apart j k n a hj
  · by_cases e : j = i
    · simp only [if_pos e] at hj; cases hj
    · simp only [if_neg e] at hj
      exact ⟨(memS a).mpr ⟨(r.ownS j a hj).1, fun z => r.apart j i e a hj (z ▸ hpi)⟩, (r.ownS j a hj).2⟩
  · have := two n
    by_cases e : 0 = i
    · subst e
      rw [ha] at this
      exact absurd (by rw [← this]; exact List.mem_cons_self) hT
    · simp only [if_neg e]; exact this
end
def mFrz (i : Nat) : MS := fun ρ => match ρ[i]? with
  | some (.ol ds) => some (.nx (ρ.set i (.d (.lst ds))))
  | _ => none
theorem sm_frz {K : PySem.W.Frag} {D : Ends} {σ : L2.St} {H : Hp} {i : Nat} {m : MS} : tsOf K (mSeq (mFrz i) m) D σ H → tsOf K m D σ H := by
  rintro ⟨c, S, own, ρ, r, sr, hm, k⟩
  simp only [mSeq, Option.bind_eq_some_iff] at hm
  obtain ⟨r1, h1, h2⟩ := hm
  unfold mFrz at h1
  split at h1
  · rename_i ds e
    cases h1
    obtain ⟨S', own', ex, sr'⟩ := sr.freeze e
    exact ⟨c, S', own', _, r, sr', h2, k.later ex⟩
  · cases h1
section
variable {X : Cx} {st : Stmt} {sts : List Stmt} {m : MS} {i : Nat}
theorem psm_frz (h : PSM X st m) : PSM X st (mSeq (mFrz i) m) := PS.to h fun _ _ _ q => sm_frz q
theorem pssm_frz (h : PSSM X sts m) : PSSM X sts (mSeq (mFrz i) m) := PSs.to h fun _ _ _ q => sm_frz q
end

/-! ### new lists -/
abbrev MN := List Cell → Option (List D × List Cell)
/-- an expression whose value is a list that nothing else holds -/
def teN (K : PySem.W.Frag) (m : MN) : TE := fun σ H Q => ∃ c S own ρ ds ρ', SR K c S own σ H ρ ∧ m ρ = some (ds, ρ') ∧
  ∀ p xs H', Ex (Fz S H) (Fz (p :: S) H') → SR K c (p :: S) own σ H' ρ' → (∀ j, p ∉ own j) → c.H0 p = none → H' p = some (.lst xs) → RepL K (Fz (p :: S) H') xs ds → Q (.ref p) H'
abbrev PEN (X : Cx) (e : Expr) (m : MN) : Prop := PE X e (teN X.K m)
def mNLst (ma : MA) : MN := fun ρ => (ma ρ).bind fun p => if p.1.length ≤ sizeLine then some p else none
def mOwn (i : Nat) (m : MN) : MS := fun ρ => (m ρ).bind fun p => if plainAt p.2 i = true then some (.nx (p.2.set i (.ol p.1))) else none
theorem plainAt_lt {ρ : List Cell} {i : Nat} (h : plainAt ρ i = true) : i < ρ.length := by
  unfold plainAt at h
  split at h
  · rename_i e; exact (List.getElem?_eq_some_iff.mp e).1
  · rename_i e; exact (List.getElem?_eq_some_iff.mp e).1
  · cases h
theorem sm_own {K : PySem.W.Frag} {D : Ends} {σ : L2.St} {H : Hp} {i : Nat} {m : MN} : tsOf K (mOwn i m) D σ H → tAsg (teN K m) (gName i) D σ H := by
  rintro ⟨c, S, own, ρ, r, sr, hm, k⟩
  simp only [mOwn, Option.bind_eq_some_iff] at hm
  obtain ⟨⟨ds, ρ1⟩, h1, h2⟩ := hm
  split at h2
  · rename_i hp
    cases h2
    exact ⟨c, S, own, ρ, ds, ρ1, sr, h1, fun p xs H' ex s1 hn h0 hH q => k (p :: S) _ _ H' ex (s1.owns (s1.plain hp) hn h0 hH q (plainAt_lt hp))⟩
  · cases h2
section
variable {X : Cx} {e : Expr} {es : List Expr} {ma : MA} {pos : Pos}
theorem pen_lst (h : PAM X es ma) : PEN X (.List es pos) (mNLst ma) := PE.to (pe_lst h) fun σ H Q h => by
  obtain ⟨c, S, own, ρ, d, ρ', sr, hm, k⟩ := h
  simp only [mNLst, Option.bind_eq_some_iff] at hm
  obtain ⟨⟨ds, ρ1⟩, h1, h2⟩ := hm
  split at h2
  · rename_i hl
    cases h2
    refine ⟨c, S, own, ρ, _, _, sr, h1, fun vs H1 e1 s1 q1 => ⟨by rw [q1.length]; exact hl, fun p hp => ?_⟩⟩
    exact k p vs _ (e1.trans (Fz.upd_new hp)) (s1.aside hp) (fun i m => s1.new hp (s1.ownS i p m).1) (s1.fresh0 hp) upd_same (q1.mono (Fz.upd_new hp))
  · cases h2
theorem psm_own {i : Nat} {x : Str} {m : MN} {pos' : Pos} (hN : X.N.Nodup) (hi : X.N[i]? = some x) (hx : Loc X.env.scope x) (he : PEN X e m) (hs : swapsWith e (some (.Name x pos')) pos.line X.env = pure false := by rfl)
    (hf : X.fn x = true ∨ X.env.scope.names.lookup x = some .local := by first | exact .inl rfl | exact .inr rfl | assumption) : PSM X (.Assign [.Name x pos'] e pos) (mOwn i m) := PS.to (ps_set hN hi hx he hs hf) fun _ _ _ q => sm_own q
end

/-! ### what is done to them -/
def mPush (i : Nat) (me : ME) : MS := fun ρ => match ρ[i]? with
  | some (.ol _) => (me ρ).bind fun p => match p.2[i]? with
    | some (.ol ds) => if ds.length < sizeLine then some (.nx (p.2.set i (.ol (ds ++ [p.1])))) else none
    | _ => none
  | _ => none
def mExt (i : Nat) (me : ME) : MS := fun ρ => match ρ[i]? with
  | some (.ol _) => (me ρ).bind fun p => match p.1, p.2[i]? with
    | .lst es, some (.ol ds) => if ds.length + es.length ≤ sizeLine then some (.nx (p.2.set i (.ol (ds ++ es)))) else none
    | _, _ => none
  | _ => none
def mPop (i : Nat) : ME := fun ρ => match ρ[i]? with
  | some (.ol ds) => ds.getLast?.map fun d => (d, ρ.set i (.ol ds.dropLast))
  | _ => none
section
variable {K : PySem.W.Frag} {c : Cn} {S : List Addr} {own : Nat → List Addr} {σ : L2.St} {H : Hp} {ρ : List Cell}
theorem SR.put {i : Nat} {p : Addr} {xs xs' : List V} {ds' : List D} (r : SR K c S own σ H ρ) (ha : own i = [p]) (hv : σ[i]?.join = some (.ref p)) (hH : H p = some (.lst xs)) (hi : i < ρ.length) (q : RepL K (Fz S H) xs' ds') :
    SR K c S own σ (upd H p (.lst xs')) (ρ.set i (.ol ds')) :=
  r.touchOwn (by rw [ha]; exact List.mem_cons_self) hH hi ⟨p, xs', ha, hv, upd_same, by rw [Fz.upd_own (r.ownS i p (by rw [ha]; exact List.mem_cons_self)).1]; exact q⟩
theorem SR.slot {i : Nat} {v : V} (r : SR K c S own σ H ρ) (h : σ[i]?.join = some v) : σ[i]? = some (some v) := by
  cases e : σ[i]? with
  | none => rw [e] at h; cases h
  | some o => rw [e] at h; exact congrArg some h
theorem sm_push {D : Ends} {σ : L2.St} {H : Hp} {i : Nat} {me : ME} : tsOf K (mPush i me) D σ H → tDrop (tBM K "list" rAppend (tVar i) (tCons (teOf K me) tNil)) D σ H := by
  rintro ⟨c, S, own, ρ, r, sr, hm, k⟩
  unfold mPush at hm
  split at hm
  · rename_i ds0 h0
    simp only [Option.bind_eq_some_iff] at hm
    obtain ⟨⟨d, ρ1⟩, h1, h2⟩ := hm
    split at h2
    · rename_i ds h3
      split at h2
      · rename_i hl
        cases h2
        obtain ⟨p, xs, ha, hv, hH, q⟩ := sr.cell i _ h0
        refine ⟨.ref p, sr.slot hv, .inl ⟨rfl, _, SqL.of hH⟩, c, S, own, ρ, d, ρ1, sr, h1, fun v H1 e1 s1 q1 => ?_⟩
        obtain ⟨p', xs1, ha', hv', hH1, q2⟩ := s1.cell i _ h3
        rw [ha] at ha'; cases ha'
        have hpS := (s1.ownS i p (by rw [ha]; exact List.mem_cons_self)).1
        refine ⟨p, xs1, v, rfl, rfl, hH1, by rw [q2.length]; exact hl, ?_⟩
        refine k S own σ _ ?_ (s1.put ha hv hH1 (List.getElem?_eq_some_iff.mp h3).1 (q2.snoc q1))
        rw [Fz.upd_own hpS]; exact e1
      · cases h2
    · cases h2
  · cases hm
theorem sm_ext {D : Ends} {σ : L2.St} {H : Hp} {i : Nat} {me : ME} : tsOf K (mExt i me) D σ H → tDrop (tBM K "list" rExtend (tVar i) (tCons (teOf K me) tNil)) D σ H := by
  rintro ⟨c, S, own, ρ, r, sr, hm, k⟩
  unfold mExt at hm
  split at hm
  · rename_i ds0 h0
    simp only [Option.bind_eq_some_iff] at hm
    obtain ⟨⟨d, ρ1⟩, h1, h2⟩ := hm
    split at h2
    · rename_i es ds h3 h4
      have h3 : d = .lst es := h3
      have h4 : ρ1[i]? = some (.ol ds) := h4
      subst h3
      split at h2
      · rename_i hl
        cases h2
        obtain ⟨p, xs, ha, hv, hH, q⟩ := sr.cell i _ h0
        refine ⟨.ref p, sr.slot hv, .inl ⟨rfl, _, SqL.of hH⟩, c, S, own, ρ, _, ρ1, sr, h1, fun v H1 e1 s1 q1 => ?_⟩
        obtain ⟨p', xs1, ha', hv', hH1, q2⟩ := s1.cell i _ h4
        rw [ha] at ha'; cases ha'
        have hpS := (s1.ownS i p (by rw [ha]; exact List.mem_cons_self)).1
        cases q1 with
        | lst g1 l1 =>
          refine ⟨p, _, xs1, _, rfl, rfl, hH1, Fz.le _ _ g1, by rw [q2.length, l1.length]; exact hl, ?_⟩
          refine k S own σ _ ?_ (s1.put ha hv hH1 (List.getElem?_eq_some_iff.mp h4).1 (q2.append l1))
          rw [Fz.upd_own hpS]; exact e1
      · cases h2
    · cases h2
  · cases hm
theorem em_pop {σ : L2.St} {H : Hp} {i : Nat} {Q : VK} : teOf K (mPop i) σ H Q → tBM0 K "list" rPop (tVar i) σ H Q := by
  rintro ⟨c, S, own, ρ, d, ρ', sr, hm, k⟩
  unfold mPop at hm
  split at hm
  · rename_i ds h0
    simp only [Option.map_eq_some_iff] at hm
    obtain ⟨d', h1, e⟩ := hm
    cases e
    obtain ⟨p, xs, ha, hv, hH, q⟩ := sr.cell i _ h0
    have hpS := (sr.ownS i p (by rw [ha]; exact List.mem_cons_self)).1
    rw [List.getLast?_eq_getElem?] at h1
    obtain ⟨v, hx, qv⟩ := q.get h1
    rw [← q.length] at hx
    refine ⟨.ref p, sr.slot hv, .inl ⟨rfl, _, SqL.of hH⟩, p, xs, v, rfl, rfl, hH, hx, ?_⟩
    have fz : Fz S (upd H p (.lst xs.dropLast)) = Fz S H := Fz.upd_own hpS
    exact k v _ (fz ▸ Ex.refl _) (sr.put ha hv hH (List.getElem?_eq_some_iff.mp h0).1 q.dropLast) (by rw [fz]; exact qv)
  · cases hm
end
section
variable {X : Cx} {e : Expr} {x : Str} {px apos cpos pos : Pos} {me : ME} {i : Nat}
theorem psm_push (hv : PE X (.Name x px) (tVar i)) (he : PEM X e me)
    (hbase : attributeBase (.Name x px) "append" X.env (eval (.Name x px) X.env) = eval (.Name x px) X.env := by rfl)
    (hfew : ((backTo cpos (starEach [e] X.env)).all (fun x => !x.1) && (backToKw cpos (keywordEach [] X.env)).all (fun x => x.1.isSome)
      && decide ([e].length + ([] : List Keyword).length + (if ([] : List Keyword).isEmpty then 0 else 1) < 30)) = true := by rfl)
    (hline : (apos.endLine == cpos.line) = true := by rfl) (hs : starEach [e] X.env = (false, eval e X.env) :: starEach [] X.env := by rfl) (hplain : (backTo cpos (starEach [] X.env)).any (·.1) = false := by rfl) (hw : swapsWith (.Call (.Attribute (.Name x px) "append" apos) [e] [] cpos) none pos.line X.env = pure false := by rfl) :
    PSM X (.Expr (.Call (.Attribute (.Name x px) "append" apos) [e] [] cpos) pos) (mPush i me) :=
  PS.to (ps_expr (pe_bm PySem.F.plainAttrs_list PySem.F.slot_list_append PySem.F.type_list_append mt_append hv (pa_cons he pa_nil hs) hbase hfew hline hs hplain) hw) fun _ _ _ q => sm_push q
theorem psm_ext (hv : PE X (.Name x px) (tVar i)) (he : PEM X e me)
    (hbase : attributeBase (.Name x px) "extend" X.env (eval (.Name x px) X.env) = eval (.Name x px) X.env := by rfl)
    (hfew : ((backTo cpos (starEach [e] X.env)).all (fun x => !x.1) && (backToKw cpos (keywordEach [] X.env)).all (fun x => x.1.isSome)
      && decide ([e].length + ([] : List Keyword).length + (if ([] : List Keyword).isEmpty then 0 else 1) < 30)) = true := by rfl)
    (hline : (apos.endLine == cpos.line) = true := by rfl) (hs : starEach [e] X.env = (false, eval e X.env) :: starEach [] X.env := by rfl) (hplain : (backTo cpos (starEach [] X.env)).any (·.1) = false := by rfl) (hw : swapsWith (.Call (.Attribute (.Name x px) "extend" apos) [e] [] cpos) none pos.line X.env = pure false := by rfl) :
    PSM X (.Expr (.Call (.Attribute (.Name x px) "extend" apos) [e] [] cpos) pos) (mExt i me) :=
  PS.to (ps_expr (pe_bm PySem.F.plainAttrs_list PySem.F.slot_list_extend PySem.F.type_list_extend mt_extend hv (pa_cons he pa_nil hs) hbase hfew hline hs hplain) hw) fun _ _ _ q => sm_ext q
theorem pem_pop (hv : PE X (.Name x px) (tVar i)) (hbase : attributeBase (.Name x px) "pop" X.env (eval (.Name x px) X.env) = eval (.Name x px) X.env := by rfl) (hline : (apos.endLine == cpos.line) = true := by rfl) :
    PEM X (.Call (.Attribute (.Name x px) "pop" apos) [] [] cpos) (mPop i) :=
  PE.to (pe_bm0 PySem.F.plainAttrs_list PySem.F.slot_list_pop PySem.F.type_list_pop mt_pop hv hbase hline) fun _ _ _ q => em_pop q
end
end TL

namespace TL
open PySem L2

/-! ### the deck -/
def kCells : Str := "cells"
def kMixed : Str := "mixed"
def Dk.get (s : Dk) (k : Str) : Option Int := if k = "mixed" then some s.mixed else if k = s.kt then some s.turn else none
def mDkGet (i : Nat) (k : Str) : ME := fun ρ => match ρ[i]? with
  | some (.dk s) => (s.get k).map fun n => (.int n, ρ)
  | _ => none
def mDkSet (i : Nat) (k : Str) (me : ME) : MS := fun ρ => match ρ[i]? with
  | some (.dk _) => (me ρ).bind fun p => match p.1, p.2[i]? with
    | .int n, some (.dk s) => if k = s.kt then some (.nx (p.2.set i (.dk { s with turn := n }))) else none
    | _, _ => none
  | _ => none
def mDkPop (i : Nat) : ME := fun ρ => match ρ[i]? with
  | some (.dk s) => s.cells.getLast?.map fun n => (.int n, ρ.set i (.dk { s with cells := s.cells.dropLast }))
  | _ => none
def mDkPush (i : Nat) (me : ME) : MS := fun ρ => match ρ[i]? with
  | some (.dk _) => (me ρ).bind fun p => match p.1, p.2[i]? with
    | .int n, some (.dk s) => if s.cells.length < sizeLine then some (.nx (p.2.set i (.dk { s with cells := s.cells ++ [n] }))) else none
    | _, _ => none
  | _ => none
def mDkHas (i : Nat) : MT := fun ρ => match ρ[i]? with
  | some (.dk s) => some (!s.cells.isEmpty, ρ)
  | _ => none
theorem kt_ne (s : Dk) : s.kt ≠ "mixed" ∧ s.kt ≠ "cells" := by
  unfold Dk.kt
  split <;> constructor <;> decide
section
variable {K : PySem.W.Frag} {c : Cn} {S : List Addr} {own : Nat → List Addr} {σ : L2.St} {H : Hp} {ρ : List Cell}
theorem dk_val {H : Hp} {d l : Addr} {s : Dk} (h : DkAt H d l s) {k : Str} {n : Int} (e : s.get k = some n) : DGet H d (.str k) (some (.int n)) := by
  have h1 := DGet.k (k := Sum.inr k) h.1
  have : valV [((Sum.inr "cells" : Key), V.ref l), (.inr "mixed", .int s.mixed), (.inr s.kt, .int s.turn)] (.inr k) = some (.int n) := by
    unfold Dk.get at e
    split at e
    · rename_i z; cases e; subst z
      rw [valV_neg (by intro z; cases z), valV_pos rfl]
    · split at e
      · rename_i z z2; cases e; subst z2
        rw [valV_neg (fun z => (kt_ne s).2 (Sum.inr.inj z).symm), valV_neg (fun z => (kt_ne s).1 (Sum.inr.inj z).symm), valV_pos rfl]
      · cases e
  rw [this] at h1
  exact h1
theorem dk_cells {H : Hp} {d l : Addr} {s : Dk} (h : DkAt H d l s) : DGet H d (.str "cells") (some (.ref l)) := by
  have h1 := DGet.k (k := Sum.inr "cells") h.1
  rw [valV_pos rfl] at h1
  exact h1
theorem em_dkGet {i : Nat} {k : Str} {Q : VK} : teOf K (mDkGet i k) σ H Q → tDGet (tVar i) (tC (.str k)) σ H Q := by
  rintro ⟨c, S, own, ρ, d, ρ', sr, hm, q⟩
  unfold mDkGet at hm
  split at hm
  · rename_i s h0
    simp only [Option.map_eq_some_iff] at hm
    obtain ⟨n, h1, e⟩ := hm
    cases e
    obtain ⟨da, la, ha, hv, hD⟩ := sr.cell i _ h0
    exact ⟨.ref da, sr.slot hv, da, .int n, rfl, dk_val hD h1, q _ H (Ex.refl _) sr (.int n)⟩
  · cases hm
theorem SR.dkSet {i : Nat} {da la p : Addr} {u o : HO} {s' : Dk} (r : SR K c S own σ H ρ) (ha : own i = [da, la]) (hv : σ[i]?.join = some (.ref da)) (hi : i < ρ.length) (hp : p = da ∨ p = la) (hu : H p = some u) (hD : DkAt (upd H p o) da la s') :
    SR K c S own σ (upd H p o) (ρ.set i (.dk s')) ∧ Fz S (upd H p o) = Fz S H := by
  have hpi : p ∈ own i := by rw [ha]; rcases hp with rfl | rfl <;> simp
  exact ⟨r.touchOwn hpi hu hi ⟨da, la, ha, hv, hD⟩, Fz.upd_own (r.ownS i p hpi).1⟩
theorem sm_dkSet {D : Ends} {i : Nat} {k : Str} {me : ME} : tsOf K (mDkSet i k me) D σ H → sDPut (tVar i) (tC (.str k)) (teOf K me) D σ H := by
  rintro ⟨c, S, own, ρ, r, sr, hm, q⟩
  unfold mDkSet at hm
  split at hm
  · rename_i s0 h0
    simp only [Option.bind_eq_some_iff] at hm
    obtain ⟨⟨d, ρ1⟩, h1, h2⟩ := hm
    split at h2
    · rename_i n s h3 h4
      have h3 : d = .int n := h3
      have h4 : ρ1[i]? = some (.dk s) := h4
      subst h3
      split at h2
      · rename_i ek
        cases h2
        refine ⟨c, S, own, ρ, _, ρ1, sr, h1, fun v H1 e1 s1 q1 => ?_⟩
        cases q1
        obtain ⟨da, la, ha, hv, hD⟩ := s1.cell i _ h4
        have hput : putK [((Sum.inr "cells" : Key), V.ref la), (.inr "mixed", .int s.mixed), (.inr s.kt, .int s.turn)] (.inr k) (.int n) = [((Sum.inr "cells" : Key), V.ref la), (.inr "mixed", .int s.mixed), (.inr s.kt, .int n)] := by
          subst ek
          unfold putK
          rw [if_pos (by simp)]
          have a1 : ((Sum.inr "cells" : Key) = .inr s.kt) = False := eq_false fun z => (kt_ne s).2 (Sum.inr.inj z).symm
          have a2 : ((Sum.inr "mixed" : Key) = .inr s.kt) = False := eq_false fun z => (kt_ne s).1 (Sum.inr.inj z).symm
          simp only [List.map_cons, List.map_nil, a1, a2, if_false, if_true]
        have hput2 := DPut.k (k := Sum.inr k) (v := .int n) hD.1 (by show 3 < sizeLine; decide)
        rw [hput] at hput2
        have hne : la ≠ da := fun z => hD.2.2 z.symm
        obtain ⟨s2, fz⟩ := s1.dkSet (i := i) (p := da) (o := .dK [(.inr "cells", .ref la), (.inr "mixed", .int s.mixed), (.inr s.kt, .int n)]) (s' := { s with turn := n }) ha hv (List.getElem?_eq_some_iff.mp h4).1 (.inl rfl) hD.1 ⟨upd_same, by rw [upd_ne hne]; exact hD.2.1, hD.2.2⟩
        exact ⟨.ref da, s1.slot hv, da, _, rfl, hput2, q S own σ _ (fz ▸ e1) s2⟩
      · cases h2
    · cases h2
  · cases hm
theorem em_dkPop {i : Nat} {Q : VK} : teOf K (mDkPop i) σ H Q → tBM0 K "list" rPop (tDGet (tVar i) (tC (.str "cells"))) σ H Q := by
  rintro ⟨c, S, own, ρ, d, ρ', sr, hm, q⟩
  unfold mDkPop at hm
  split at hm
  · rename_i s h0
    simp only [Option.map_eq_some_iff] at hm
    obtain ⟨n, h1, e⟩ := hm
    cases e
    obtain ⟨da, la, ha, hv, hD⟩ := sr.cell i _ h0
    rw [List.getLast?_eq_getElem?] at h1
    obtain ⟨s2, fz⟩ := sr.dkSet (i := i) (p := la) (o := .lst (s.cells.dropLast.map V.int)) (s' := { s with cells := s.cells.dropLast }) ha hv (List.getElem?_eq_some_iff.mp h0).1 (.inr rfl) hD.2.1 ⟨by rw [upd_ne hD.2.2]; exact hD.1, upd_same, hD.2.2⟩
    refine ⟨.ref da, sr.slot hv, da, .ref la, rfl, dk_cells hD, .inl ⟨rfl, _, SqL.of hD.2.1⟩, la, _, .int n, rfl, rfl, hD.2.1, ?_, ?_⟩
    · rw [List.length_map, List.getElem?_map, h1]; rfl
    · rw [← List.map_dropLast]
      exact q (.int n) _ (fz ▸ Ex.refl _) s2 (.int n)
  · cases hm
theorem sm_dkPush {D : Ends} {i : Nat} {me : ME} : tsOf K (mDkPush i me) D σ H → tDrop (tBM K "list" rAppend (tDGet (tVar i) (tC (.str "cells"))) (tCons (teOf K me) tNil)) D σ H := by
  rintro ⟨c, S, own, ρ, r, sr, hm, q⟩
  unfold mDkPush at hm
  split at hm
  · rename_i s0 h0
    simp only [Option.bind_eq_some_iff] at hm
    obtain ⟨⟨d, ρ1⟩, h1, h2⟩ := hm
    split at h2
    · rename_i n s h3 h4
      have h3 : d = .int n := h3
      have h4 : ρ1[i]? = some (.dk s) := h4
      subst h3
      split at h2
      · rename_i hl
        cases h2
        obtain ⟨da, la, ha, hv, hD⟩ := sr.cell i _ h0
        refine ⟨.ref da, sr.slot hv, da, .ref la, rfl, dk_cells hD, .inl ⟨rfl, _, SqL.of hD.2.1⟩, c, S, own, ρ, _, ρ1, sr, h1, fun v H1 e1 s1 q1 => ?_⟩
        cases q1
        obtain ⟨da', la', ha', hv', hD'⟩ := s1.cell i _ h4
        rw [ha] at ha'; cases ha'
        obtain ⟨s2, fz⟩ := s1.dkSet (i := i) (p := la) (o := .lst ((s.cells ++ [n]).map V.int)) (s' := { s with cells := s.cells ++ [n] }) ha hv (List.getElem?_eq_some_iff.mp h4).1 (.inr rfl) hD'.2.1 ⟨by rw [upd_ne hD.2.2]; exact hD'.1, upd_same, hD.2.2⟩
        refine ⟨la, _, .int n, rfl, rfl, hD'.2.1, by rw [List.length_map]; exact hl, ?_⟩
        rw [show s.cells.map V.int ++ [V.int n] = (s.cells ++ [n]).map V.int by rw [List.map_append]; rfl]
        exact q S own σ _ (fz ▸ e1) s2
      · cases h2
    · cases h2
  · cases hm
theorem eqv_ints (l : List Int) : PyData.eqv (.list (l.map PyData.int)) (.list []) = l.isEmpty := by
  cases l <;> rfl
theorem pys_ints : ∀ l : List Int, D.pys (l.map D.int) = some (l.map PyData.int)
  | [] => rfl
  | a :: l => by simp only [List.map_cons, D.pys, D.py, Option.bind_some, pys_ints l, Option.map_some]
theorem plain_ints (l : List Int) : PyData.plain (.list (l.map PyData.int)) = true := by
  show PyData.plainAll (l.map PyData.int) = true
  induction l with
  | nil => rfl
  | cons a l ih => simp [PyData.plainAll, PyData.plain, ih]
theorem depth_ints (l : List Int) : PyData.depth (.list (l.map PyData.int)) ≤ 64 := by
  have : PyData.depthAll (l.map PyData.int) = 0 := by
    induction l with
    | nil => rfl
    | cons a l ih => simp [PyData.depthAll, PyData.depth, ih]
  show PyData.depthAll (l.map PyData.int) + 1 ≤ 64
  omega
theorem em_dkHas {i : Nat} {Q : Bool → Hp → Prop} : ttOf K (mDkHas i) σ H Q → tTest (tOp (rP K fNe) (tDGet (tVar i) (tC (.str "cells"))) (teOf K (mApp dLst mNil))) σ H Q := by
  rintro ⟨c, S, own, ρ, b, ρ', sr, hm, q⟩
  unfold mDkHas at hm
  split at hm
  · rename_i s h0
    cases hm
    obtain ⟨da, la, ha, hv, hD⟩ := sr.cell i _ h0
    refine ⟨.ref da, sr.slot hv, da, .ref la, rfl, dk_cells hD, c, S, own, _, .lst [], _, sr, rfl, fun v H1 e1 s1 q1 => ?_⟩
    obtain ⟨da', la', ha', hv', hD'⟩ := s1.cell i _ h0
    rw [ha] at ha'; cases ha'
    refine ⟨.lst (s.cells.map D.int), .lst [], .list (s.cells.map PyData.int), .list [], !s.cells.isEmpty, .lst hD'.2.1 (RepL.of_ints _), q1.mono Fz.le, ?_, rfl, ?_, ?_, _, rfl, q H1 e1 s1⟩
    · simp only [D.py, pys_ints, Option.map_some]
    · exact depth_ints _
    · unfold fNe
      rw [if_pos ⟨plain_ints _, rfl⟩, eqv_ints]
  · cases hm
/-! ### calls with the deck -/
def mCallD (i : Nat) (f : Dk → List D → Option (D × Dk)) (ma : MA) : ME := fun ρ => match ρ[i]? with
  | some (.dk _) => (ma ρ).bind fun p => match p.2[i]? with
    | some (.dk s) => (f s p.1).map fun z => (z.1, p.2.set i (.dk z.2))
    | _ => none
  | _ => none
theorem SR.called {i : Nat} {da la : Addr} {s' : Dk} {H' : Hp} (r : SR K c S own σ H ρ) (ha : own i = [da, la]) (hv : σ[i]?.join = some (.ref da)) (hi : i < ρ.length) (fr : ∀ a o, a ≠ da → a ≠ la → H a = some o → H' a = some o) (hD : DkAt H' da la s') :
    SR K c S own σ H' (ρ.set i (.dk s')) ∧ Ex (Fz S H) (Fz S H') := by
  have da_i : da ∈ own i := by rw [ha]; exact List.mem_cons_self
  have la_i : la ∈ own i := by rw [ha]; exact List.mem_cons_of_mem _ List.mem_cons_self
  have daS := (r.ownS i da da_i).1
  have laS := (r.ownS i la la_i).1
  have ex : Ex (Fz S H) (Fz S H') := fun a o h => by
    have h2 := Fz.le a o h
    have n : a ∉ S := fun m => by rw [Fz.own m] at h; cases h
    rw [Fz.out n]
    exact fr a o (fun e => n (e ▸ daS)) (fun e => n (e ▸ laS)) h2
  refine ⟨⟨by rw [List.length_set]; exact r.len, fun j x hx => ?_, r.apart, r.ownS, r.sub, fun a m => ?_, r.trk0, fun a o h n => ?_, r.tS, r.tdk⟩, ex⟩
  · by_cases e : j = i
    · subst e
      rw [List.getElem?_set_self hi] at hx
      cases hx
      exact ⟨da, la, ha, hv, hD⟩
    · rw [List.getElem?_set_ne (fun z => e z.symm)] at hx
      have q := r.cell j x hx
      have ne : ∀ a, a ∈ own j → a ≠ da ∧ a ≠ la := fun a m => ⟨fun z => r.apart j i e a m (z ▸ da_i), fun z => r.apart j i e a m (z ▸ la_i)⟩
      cases x with
      | no => exact q
      | d y => obtain ⟨u, v, e1, z⟩ := q; exact ⟨u, v, e1, z.mono ex⟩
      | ol ds =>
        obtain ⟨a, xs, e1, e2, e3, z⟩ := q
        have := ne a (by rw [e1]; exact List.mem_cons_self)
        exact ⟨a, xs, e1, e2, fr a _ this.1 this.2 e3, z.mono ex⟩
      | od ds =>
        obtain ⟨a, xs, e1, e2, e3, z⟩ := q
        have := ne a (by rw [e1]; exact List.mem_cons_self)
        exact ⟨a, xs, e1, e2, fr a _ this.1 this.2 e3, z.mono ex⟩
      | dk s =>
        obtain ⟨a, b, e1, e2, e3, e4, e5⟩ := q
        have h1 := ne a (by rw [e1]; exact List.mem_cons_self)
        have h2 := ne b (by rw [e1]; exact List.mem_cons_of_mem _ List.mem_cons_self)
        exact ⟨a, b, e1, e2, fr a _ h1.1 h1.2 e3, fr b _ h2.1 h2.2 e4, e5⟩
  · by_cases e1 : a = da
    · rw [e1, hD.1]; rfl
    · by_cases e2 : a = la
      · rw [e2, hD.2.1]; rfl
      · have := r.trk a m
        cases q : H a with
        | none => rw [q] at this; cases this
        | some o => rw [fr a o e1 e2 q]; rfl
  · have h2 := r.keep a o h n
    refine fr a o (fun e => ?_) (fun e => ?_) h2
    · rcases (r.ownS i da da_i).2 with z | z
      · exact n (e ▸ z)
      · rw [← e, h] at z; cases z
    · rcases (r.ownS i la la_i).2 with z | z
      · exact n (e ▸ z)
      · rw [← e, h] at z; cases z
theorem pick_range (vs : List V) : ((List.range vs.length).map fun i => vs.getD i .non) = vs := by
  refine List.ext_getElem (by simp) fun i h1 h2 => ?_
  simp [List.getD_eq_getElem?_getD, h2]
theorem em_callD {i n : Nat} {f : Dk → List D → Option (D × Dk)} {ma : MA} {E : XK} {Q : VK} (hn : ∀ ρ ds ρ', ma ρ = some (ds, ρ') → ds.length + 1 = n) : teOf K (mCallD i f ma) σ H Q → tCallG n 0 (List.range n) (spD K n f) E (tCons (tVar i) (taOf K ma)) tNil σ H Q := by
  rintro ⟨c, S, own, ρ, d, ρ', sr, hm, q⟩
  unfold mCallD at hm
  split at hm
  · rename_i s0 h0
    simp only [Option.bind_eq_some_iff] at hm
    obtain ⟨⟨ds, ρ1⟩, h1, h2⟩ := hm
    split at h2
    · rename_i s h3
      simp only [Option.map_eq_some_iff] at h2
      obtain ⟨⟨d', s'⟩, h4, e⟩ := h2
      cases e
      obtain ⟨da, la, ha, hv, hD⟩ := sr.cell i _ h0
      refine ⟨.ref da, sr.slot hv, c, S, own, ρ, ds, ρ1, sr, h1, fun vs H1 e1 s1 q1 => ?_⟩
      obtain ⟨da', la', ha', hv', hD'⟩ := s1.cell i _ h3
      rw [ha] at ha'; cases ha'
      have hl : (V.ref da :: vs).length = n := by rw [List.length_cons, q1.length]; exact hn _ _ _ h1
      refine ⟨hl, rfl, ?_⟩
      rw [List.append_nil, ← hl, pick_range, hl]
      refine ⟨S, da, la, vs, s, ds, _, s', rfl, hl, s1.trk, (s1.ownS i da (by rw [ha]; exact List.mem_cons_self)).1, (s1.ownS i la (by rw [ha]; exact List.mem_cons_of_mem _ List.mem_cons_self)).1, hD', q1, h4, fun v H' fr hD2 qv => ?_⟩
      obtain ⟨s2, ex⟩ := s1.called ha hv (List.getElem?_eq_some_iff.mp h3).1 fr hD2
      exact q v H' (e1.trans ex) s2 qv
    · cases h2
  · cases hm
end
/-- a call that changes nothing -/
def mCallP (f : List D → Option D) (pm : List Nat) (ma mk : MA) : ME := fun ρ => (ma ρ).bind fun p => (mk p.2).bind fun q => (f (pm.map fun i => (p.1 ++ q.1).getD i .non)).map fun d => (d, q.2)
def Fix (ma : MA) (n : Nat) : Prop := ∀ ρ ds ρ', ma ρ = some (ds, ρ') → ds.length = n
theorem fix_nil : Fix mNil 0 := fun ρ ds ρ' h => by cases h; rfl
theorem fix_cons {ma : ME} {mr : MA} {n : Nat} (h : Fix mr n) : Fix (mCons ma mr) (n + 1) := fun ρ ds ρ' e => by
  simp only [mCons, Option.bind_eq_some_iff] at e
  obtain ⟨p, h1, q, h2, e⟩ := e
  cases e
  rw [List.length_cons, h _ _ _ h2]
theorem em_callP {K : PySem.W.Frag} {σ : L2.St} {H : Hp} {n m : Nat} {pm : List Nat} {f : List D → Option D} {ma mk : MA} {E : XK} {Q : VK} (hn : Fix ma n) (hk : Fix mk m) (hp : ∀ i ∈ pm, i < n + m) {k : Nat} (hpk : pm.length = k) :
    teOf K (mCallP f pm ma mk) σ H Q → tCallG n m pm (spP K k f) E (taOf K ma) (taOf K mk) σ H Q := by
  rintro ⟨c, S, own, ρ, d, ρ', sr, hm, q⟩
  simp only [mCallP, Option.bind_eq_some_iff, Option.map_eq_some_iff] at hm
  obtain ⟨⟨ds, ρ1⟩, h1, ⟨es, ρ2⟩, h2, d', h3, e⟩ := hm
  cases e
  refine ⟨c, S, own, ρ, ds, ρ1, sr, h1, fun vs H1 e1 s1 q1 => ⟨c, S, own, ρ1, es, ρ2, s1, h2, fun zs H2 e2 s2 q2 => ⟨by rw [q1.length]; exact hn _ _ _ h1, by rw [q2.length]; exact hk _ _ _ h2, S, _, d, by rw [List.length_map]; exact hpk, s2.trk, ?_, h3, fun v H' ex qv => q v H' ((e1.trans e2).trans (Fz.ex ex)) (s2.ex ex) qv⟩⟩⟩
  have ra := (q1.mono e2).append q2
  have hl : (ds ++ es).length = n + m := by rw [List.length_append, hn _ _ _ h1, hk _ _ _ h2]
  clear h3 hpk
  induction pm with
  | nil => exact .nil
  | cons i pm ih =>
    refine .cons ?_ (ih fun j hj => hp j (List.mem_cons_of_mem _ hj))
    have hi : i < (ds ++ es).length := by rw [hl]; exact hp i List.mem_cons_self
    obtain ⟨v, hv, qv⟩ := ra.get (i := i) (List.getElem?_eq_getElem hi)
    show Rep K (Fz S H2) ((vs ++ zs).getD i .non) ((ds ++ es).getD i .non)
    rw [List.getD_eq_getElem?_getD, List.getD_eq_getElem?_getD, hv, List.getElem?_eq_getElem hi]
    exact qv
section
variable {X : Cx} {k n : Nat} {f : Addr} {fd : FuncData} {ps ks : List Str} {pm : List Nat} {x : Str} {p pos px : Pos} {e : Expr} {es : List Expr} {kws : List Keyword} {ma mk : MA} {g : List D → Option D} {gd : Dk → List D → Option (D × Dk)}
abbrev PKM (X : Cx) (kws : List Keyword) (m : MA) : Prop := PK X kws (taOf X.K m)
/-- a call is let -/
structure Hk (X : Cx) (k : Nat) : Prop where
  room : Room k X.A
  gd : X.A.guards = some []
theorem pem_callP (h : Hk X k) (F : FnG X.prog X.w X.K X.mg X.base CX0 k f fd ps (spP X.K ps.length g)) (hg : Gl X x) (hm : X.mg x = some (.ref f)) (hk : PySem.W.keepIn X.K (.ref f) = true) (hb : Bd fd ps n [] pm) (hn : Fix ma n) (hp : ∀ i ∈ pm, i < n) (hpk : pm.length = ps.length)
    (ha : PAM X (e :: es) ma) (hdb : (x == ("__debug__" : Str)) = false := by decide) (he : starEach (e :: es) X.env = (false, eval e X.env) :: starEach es X.env := by rfl) (hpl : (backTo pos (starEach es X.env)).any (·.1) = false := by rfl) :
    PEM X (.Call (.Name x p) (e :: es) [] pos) (mCallP g pm ma mNil) := PE.to (pe_callG (E := fun _ _ _ => False) F h.room h.gd hg hm hk hb pass0 ha hdb he hpl) fun σ H Q q => by
  obtain ⟨c, S, own, ρ, d, ρ', sr, hm, q⟩ := em_callP (E := fun _ _ _ => False) hn fix_nil (m := 0) hp hpk q
  exact ⟨c, S, own, ρ, d, ρ', sr, hm, fun v H' e' s' r' => ea_nil _ _ _ (q v H' e' s' r')⟩
end
end TL

namespace TL
open PySem L2
open PyProof.Rows (envOfC)

theorem un_nil {K : PySem.W.Frag} {n m : Nat} {pm : List Nat} {sp : Sp} {E : XK} {ta : TA} {σ : L2.St} {H : Hp} {Q : VK} : tCallG n m pm sp E ta (taOf K mNil) σ H Q → (∀ σ H (R R' : List V → Hp → Prop), (∀ v H', R v H' → R' v H') → ta σ H R → ta σ H R') → tCallG n m pm sp E ta tNil σ H Q := fun h mono =>
  mono _ _ _ _ (fun v H' q => ea_nil _ _ _ q) h
theorem ta_mono {K : PySem.W.Frag} {m : MA} : ∀ σ H (R R' : List V → Hp → Prop), (∀ v H', R v H' → R' v H') → taOf K m σ H R → taOf K m σ H R' := by
  rintro σ H R R' h ⟨c, S, own, ρ, ds, ρ', sr, hm, k⟩
  exact ⟨c, S, own, ρ, ds, ρ', sr, hm, fun vs H' e s r => h _ _ (k vs H' e s r)⟩
def XF : XK := fun _ _ _ => False
section
variable {X : Cx} {k n m : Nat} {f : Addr} {fd : FuncData} {ps ks : List Str} {pm : List Nat} {x : Str} {p pos px : Pos} {e : Expr} {es : List Expr} {kws : List Keyword} {ma mk : MA} {g : List D → Option D} {gd : Dk → List D → Option (D × Dk)}
theorem pkm_nil : PKM X [] mNil := ⟨fun pos pins s σ H Q I z => pk_nil.run pos pins s σ H Q I (ea_nil σ H Q z)⟩
theorem pkm_cons {me : ME} {nm : Option Str} {kpos : Pos} (ha : PEM X e me) (hr : PKM X kws mk) : PKM X (⟨nm, e, kpos⟩ :: kws) (mCons me mk) := ⟨fun pos pins s σ H Q I z => (pk_cons ha hr).run pos pins s σ H Q I (ea_cons σ H Q z)⟩
theorem pem_callP0 (h : Hk X k) (F : FnG X.prog X.w X.K X.mg X.base CX0 k f fd ps (spP X.K ps.length g)) (hg : Gl X x) (hm : X.mg x = some (.ref f)) (hk : PySem.W.keepIn X.K (.ref f) = true) (hb : Bd fd ps 0 [] []) (hpk : ps.length = 0)
    (hdb : (x == ("__debug__" : Str)) = false := by decide) : PEM X (.Call (.Name x p) [] [] pos) (mCallP g [] mNil mNil) := PE.to (pe_callG0 (E := XF) F h.room h.gd hg hm hk hb pass0 hdb) fun σ H Q q => by
  have := un_nil (em_callP (E := XF) (n := 0) (m := 0) (pm := []) fix_nil fix_nil (fun i hi => by cases hi) (k := ps.length) (by rw [hpk]; rfl) q) ta_mono
  exact ea_nil _ _ _ this
theorem pem_callPK (h : Hk X k) (F : FnG X.prog X.w X.K X.mg X.base CX0 k f fd ps (spP X.K ps.length g)) (hg : Gl X x) (hm : X.mg x = some (.ref f)) (hk : PySem.W.keepIn X.K (.ref f) = true) (hb : Bd fd ps n ks pm) (hn : Fix ma n) (hl : Fix mk ks.length) (hp : ∀ i ∈ pm, i < n + ks.length) (hpk : pm.length = ps.length)
    (ha : PAM X (e :: es) ma) (hkw : PKM X kws mk) (hall : (backToKw pos (keywordEach kws X.env)).all (·.1.isSome) = true := by rfl) (hks : (backToKw pos (keywordEach kws X.env)).filterMap (·.1) = ks := by rfl)
    (hdb : (x == ("__debug__" : Str)) = false := by decide) (he : starEach (e :: es) X.env = (false, eval e X.env) :: starEach es X.env := by rfl)
    (hpl : ((backTo pos (starEach (e :: es) X.env)).any (·.1) || (backToKw pos (keywordEach kws X.env)).any (·.1.isNone)) = false := by rfl) :
    PEM X (.Call (.Name x p) (e :: es) kws pos) (mCallP g pm ma mk) := PE.to (pe_callGK (E := XF) F h.room h.gd hg hm hk hb pass0 ha hkw hall hks hdb he hpl) fun _ _ _ q => em_callP (E := XF) hn hl hp hpk q
theorem pem_callPK0 (h : Hk X k) (F : FnG X.prog X.w X.K X.mg X.base CX0 k f fd ps (spP X.K ps.length g)) (hg : Gl X x) (hm : X.mg x = some (.ref f)) (hk : PySem.W.keepIn X.K (.ref f) = true) (hb : Bd fd ps 0 ks pm) (hl : Fix mk ks.length) (hp : ∀ i ∈ pm, i < ks.length) (hpk : pm.length = ps.length)
    (hkw : PKM X kws mk) (hall : (backToKw pos (keywordEach kws X.env)).all (·.1.isSome) = true := by rfl) (hks : (backToKw pos (keywordEach kws X.env)).filterMap (·.1) = ks := by rfl)
    (hdb : (x == ("__debug__" : Str)) = false := by decide)
    (hpl : ((backTo pos (starEach [] X.env)).any (·.1) || (backToKw pos (keywordEach kws X.env)).any (·.1.isNone)) = false := by rfl) :
    PEM X (.Call (.Name x p) [] kws pos) (mCallP g pm mNil mk) := PE.to (pe_callGK0 (E := XF) F h.room h.gd hg hm hk hb pass0 hkw hall hks hdb hpl) fun _ _ _ q =>
  ea_nil _ _ _ (em_callP (E := XF) (n := 0) fix_nil hl (by simpa using hp) hpk q)
theorem pem_callD {i : Nat} {y : Str} (h : Hk X k) (F : FnG X.prog X.w X.K X.mg X.base CX0 k f fd ps (spD X.K n gd)) (hg : Gl X x) (hm : X.mg x = some (.ref f)) (hk : PySem.W.keepIn X.K (.ref f) = true) (hb : Bd fd ps n [] (List.range n)) (hn : Fix ma m) (hnm : m + 1 = n)
    (hv : PE X (.Name y px) (tVar i)) (ha : PAM X es ma) (hdb : (x == ("__debug__" : Str)) = false := by decide) (he : starEach (.Name y px :: es) X.env = (false, eval (.Name y px) X.env) :: starEach es X.env := by rfl) (hpl : (backTo pos (starEach es X.env)).any (·.1) = false := by rfl) :
    PEM X (.Call (.Name x p) (.Name y px :: es) [] pos) (mCallD i gd ma) := PE.to (pe_callG (E := XF) F h.room h.gd hg hm hk hb pass0 (pa_cons hv ha he) hdb he hpl) fun σ H Q q =>
  em_callD (E := XF) (fun ρ ds ρ' e => by rw [hn ρ ds ρ' e]; exact hnm) q
end

section
variable {P : Program} {w : World} {K : PySem.W.Frag} {mg : Str → Option Value} {base : Heap} {x qual : Str} {st : Stmt} {f : Addr} {fd : FuncData} {N ps : List Str} {k : Nat}
/-- a def whose first parameter is the deck -/
theorem fn_deck (F : Fun K x qual st f fd) (S : FnScope N ps (defScope st)) (m : MS)
    (hbody : ∀ (cdv : Value) (A : Around) (outer : List Env) (s : Shared) (H : Hp) (E : XK), Room k (A.deeper (envOfC qual (defScope st) s.heap.objs.size f cdv)) → (A.deeper (envOfC qual (defScope st) s.heap.objs.size f cdv)).guards = some [] →
      PSSM (cxOf CX0 P w K mg base N qual (defScope st) f cdv A outer s H E).nox (defBody st) m) : FnG P w K mg base CX0 (k + 1) f fd ps (spD K ps.length (runD N.length m)) := by
  refine fnG_of F S (fun vs H Q E h => ?_) fun cdv A outer s H vs Q E hr hg h => ?_
  · obtain ⟨_, _, _, _, _, _, _, _, _, e, _⟩ := h
    exact e
  · obtain ⟨T, da, la, ws, dk, ds, d, dk', rfl, e, t, h1, h2, hD, r, hf, q⟩ := h
    refine ⟨_, (hbody cdv A outer s H E hr hg).nox, ?_⟩
    have hpl : ps.length ≤ N.length := by have := congrArg List.length S.pre; rw [List.length_take] at this; omega
    have ends : ∀ {S' : List Addr} {own' : Nat → List Addr} {σ' : L2.St} {H' : Hp} {ρ' : List Cell}, SR K (CnL.up ⟨H, T, [da, la], .inr ⟨da, la, hD.2.2, rfl⟩⟩) S' own' σ' H' (.dk dk' :: ρ') → (∀ a o, a ≠ da → a ≠ la → H a = some o → H' a = some o) ∧ DkAt H' da la dk' := fun s' => by
      refine ⟨fun a o n1 n2 ha => s'.keep a o ha fun m => ?_, ?_⟩
      · have m : a ∈ [da, la] := m
        simp only [List.mem_cons, List.not_mem_nil, or_false] at m
        rcases m with m | m
        · exact n1 m
        · exact n2 m
      · obtain ⟨da', la', ha, hv, hD'⟩ := s'.cell 0 _ rfl
        have e0 : _ = [da, la] := s'.tdk True.intro (by simp [CnL.up])
        rw [ha] at e0; cases e0
        exact hD'
    unfold runD at hf
    split at hf
    · rename_i d' s2 ρ' hm
      cases hf
      exact ⟨_, T, _, _, _, sr_startD (by have := e; rw [List.length_cons] at this; omega) t h1 h2 hD r, hm, fun v S' own' σ' H' _ s' rv => q v H' (ends s').1 (ends s').2 rv⟩
    · rename_i s2 ρ' hm
      cases hf
      exact ⟨_, T, _, _, _, sr_startD (by have := e; rw [List.length_cons] at this; omega) t h1 h2 hD r, hm, fun S' own' σ' H' _ s' => q .non H' (ends s').1 (ends s').2 .non⟩
    · cases hf
end

/-! ### a new deck -/
def spN (K : PySem.W.Frag) (n : Nat) (f : List D → Option Dk) : Sp := fun vs H Q _ => ∃ S ds s, vs.length = n ∧ (∀ a ∈ S, (H a).isSome = true) ∧ RepL K (Fz S H) vs ds ∧ f ds = some s ∧ ∀ d l H', Ex H H' → H d = none → H l = none → DkAt H' d l s → Q (.ref d) H'
def endN (i j : Nat) (dr : Bool) : Res → Option Dk
  | .nx ρ => match ρ[i]?, ρ[j]? with
    | some (.d (.lst ds)), some (.d (.int n)) => (asInts ds).map fun ns => ⟨ns.reverse, n, 0, dr⟩
    | _, _ => none
  | _ => none
def runN (N : Nat) (m : MS) (i j : Nat) (dr : Bool) : List D → Option Dk := fun ds => (m (ds.map Cell.d ++ List.replicate (N - ds.length) .no)).bind (endN i j dr)
def tNew (K : PySem.W.Frag) (i j : Nat) (kt : Str) : TS := tRet (tDisp [(tC (.str "cells"), tRevA K (tVar i)), (tC (.str "mixed"), tVar j), (tC (.str kt), tC (.int 0))])
def PSL (X : Cx) (sts : List Stmt) (m : MS) (tl : TS) : Prop := PSs X sts (tSeq (tsOf X.K m) tl)
section
variable {X : Cx} {st : Stmt} {sts : List Stmt} {a b : MS} {tl : TS}
theorem psl_cons (h1 : PSM X st a) (h2 : PSL X sts b tl) : PSL X (st :: sts) (mSeq a b) tl := PSs.to (pss_cons h1 h2) fun D σ H q => sm_seq (D := { D with nx := tl D }) q
theorem psl_one (h : PS X st tl) : PSL X [st] mSkip tl := PSs.to (pss_one h) fun D σ H q => sm_skip (D := { D with nx := tl D }) q
end
theorem kt_keys {kt : Str} (h : kt = "turn" ∨ kt = "draws") (l : Addr) (n : Int) : mergeK [] [((Sum.inr "cells" : Key), V.ref l), (.inr "mixed", .int n), (.inr kt, .int 0)] = [((Sum.inr "cells" : Key), V.ref l), (.inr "mixed", .int n), (.inr kt, .int 0)] := by
  rcases h with rfl | rfl <;> rfl
theorem new_dk {K : PySem.W.Frag} {c : CnL} {S : List Addr} {own : Nat → List Addr} {σ : L2.St} {H : Hp} {ρ : List Cell} {i j : Nat} {dr : Bool} {s : Dk} {D : Ends} (hc : c.tl = []) (sr : SR K c S own σ H ρ) (he : endN i j dr (.nx ρ) = some s)
    (k : ∀ d l H', Ex c.H0 H' → c.H0 d = none → c.H0 l = none → DkAt H' d l s → D.rt (.ref d) H') : tNew K i j (if dr = true then "draws" else "turn") D σ H := by
  simp only [endN] at he
  split at he
  · rename_i ds n h1 h2
    simp only [Option.map_eq_some_iff] at he
    obtain ⟨ns, e, rfl⟩ := he
    obtain ⟨v, hv, q⟩ := sr.dat h1
    obtain ⟨u, hu, q2⟩ := sr.dat h2
    cases q2
    rw [asInts_eq e] at q
    cases q with
    | lst g l1 =>
      have := l1.ints; subst this
      intro p hp
      have ex0 : Ex c.H0 H := fun a o h => sr.keep a o h fun m => by have m : a ∈ c.tl := m; rw [hc] at m; cases m
      refine ⟨_, hv, .inl ⟨_, _, rfl, SqL.of (Ex.new hp _ _ (Fz.le _ _ g)), fun l hl => ?_⟩⟩
      have hpl : p ≠ l := fun z => by rw [← z, upd_same] at hl; cases hl
      have hHl : H l = none := by rw [upd_ne (fun z => hpl z.symm)] at hl; exact hl
      refine ⟨_, hu, by rw [upd_ne hpl, upd_same], [(.inr "cells", .ref l), (.inr "mixed", .int n), (.inr (if dr = true then "draws" else "turn"), .int 0)], rfl, by show 3 ≤ 15; decide, ?_⟩
      rw [kt_keys (by cases dr <;> simp)]
      refine k p l _ (fun a o h => ?_) (sr.fresh0 hp) (sr.fresh0 hHl) ⟨upd_same, ?_, hpl⟩
      · have h := ex0 a o h
        rw [upd_ne (ne_of_none h hp), upd_ne (ne_of_none h hHl), upd_ne (ne_of_none h hp)]
        exact h
      · rw [upd_ne (fun z => hpl z.symm), upd_same, ← List.map_reverse]
  · cases he
section
variable {P : Program} {w : World} {K : PySem.W.Frag} {mg : Str → Option Value} {base : Heap} {x qual : Str} {st : Stmt} {f : Addr} {fd : FuncData} {N ps : List Str} {k : Nat}
theorem fn_new (F : Fun K x qual st f fd) (S : FnScope N ps (defScope st)) (m : MS) (i j : Nat) (dr : Bool)
    (hbody : ∀ (cdv : Value) (A : Around) (outer : List Env) (s : Shared) (H : Hp) (E : XK), Room k (A.deeper (envOfC qual (defScope st) s.heap.objs.size f cdv)) → (A.deeper (envOfC qual (defScope st) s.heap.objs.size f cdv)).guards = some [] →
      PSL (cxOf CX0 P w K mg base N qual (defScope st) f cdv A outer s H E).nox (defBody st) m (tNew K i j (if dr = true then "draws" else "turn"))) : FnG P w K mg base CX0 (k + 1) f fd ps (spN K ps.length (runN N.length m i j dr)) := by
  refine fnG_of F S (fun vs H Q E h => ?_) fun cdv A outer s H vs Q E hr hg h => ?_
  · obtain ⟨_, _, _, e, _⟩ := h
    exact e
  · obtain ⟨T, ds, dk, e, t, r, hf, q⟩ := h
    refine ⟨_, (hbody cdv A outer s H E hr hg).nox, ?_⟩
    have hpl : ps.length ≤ N.length := by have := congrArg List.length S.pre; rw [List.length_take] at this; omega
    simp only [runN, Option.bind_eq_some_iff] at hf
    obtain ⟨r0, hm, he⟩ := hf
    cases r0 with
    | nx ρ' => exact ⟨_, T, _, _, _, sr_start (by rw [e]; exact hpl) t r, hm, fun S' own' σ' H' _ s' => new_dk rfl s' he fun d l H'' ex h1 h2 hD => q d l H'' ex h1 h2 hD⟩
    | _ => cases he
end
def mSetDk (i : Nat) (f : List D → Option Dk) (ma : MA) : MS := fun ρ => (ma ρ).bind fun p => (f p.1).bind fun s => if plainAt p.2 i = true then some (.nx (p.2.set i (.dk s))) else none
theorem SR.ownsDk {K : PySem.W.Frag} {c : Cn} {S : List Addr} {own : Nat → List Addr} {σ : L2.St} {H H' : Hp} {ρ : List Cell} {i : Nat} {da la : Addr} {s : Dk} (r : SR K c S own σ H ρ) (hp : plainAt ρ i = true) (ex : Ex H H') (h1 : H da = none) (h2 : H la = none) (hD : DkAt H' da la s) :
    SR K c (da :: la :: S) (fun j => if j = i then [da, la] else own j) (σ.set i (some (.ref da))) H' (ρ.set i (.dk s)) ∧ Ex (Fz S H) (Fz (da :: la :: S) H') := by
  have hi := plainAt_lt hp
  have hoi := r.plain hp
  have n1 : da ∉ S := r.new h1
  have n2 : la ∉ S := r.new h2
  have fz : Ex (Fz S H) (Fz (da :: la :: S) H') := fun a o h => by
    have g := Fz.le a o h
    have n : a ∉ S := fun m => by rw [Fz.own m] at h; cases h
    rw [Fz.out]
    · exact ex a o g
    · intro m
      rcases List.mem_cons.mp m with e | m
      · rw [e, h1] at g; cases g
      · rcases List.mem_cons.mp m with e | m
        · rw [e, h2] at g; cases g
        · exact n m
  refine ⟨⟨by rw [List.length_set, List.length_set]; exact r.len, fun j x h => ?_, fun j k n a h => ?_, fun j a h => ?_, fun a m => List.mem_cons_of_mem _ (List.mem_cons_of_mem _ (r.sub a m)), fun a m => ?_, r.trk0, fun a o h n => ex a o (r.keep a o h n), r.tS, fun l n => ?_⟩, fz⟩
  · by_cases e : j = i
    · subst e
      rw [List.getElem?_set_self hi] at h
      cases h
      exact ⟨da, la, if_pos rfl, by rw [List.getElem?_set_self (by rw [r.len]; exact hi)]; rfl, hD⟩
    · rw [List.getElem?_set_ne (fun z => e z.symm)] at h ⊢
      simp only [if_neg e]
      have q := r.cell j x h
      cases x with
      | no => exact q
      | d y => obtain ⟨u, v, e1, z⟩ := q; exact ⟨u, v, e1, z.mono fz⟩
      | ol ds => obtain ⟨a, xs, e1, e2, e3, z⟩ := q; exact ⟨a, xs, e1, e2, ex _ _ e3, z.mono fz⟩
      | od ds => obtain ⟨a, xs, e1, e2, e3, z⟩ := q; exact ⟨a, xs, e1, e2, ex _ _ e3, z.mono fz⟩
      | dk s => obtain ⟨a, b, e1, e2, e3, e4, e5⟩ := q; exact ⟨a, b, e1, e2, ex _ _ e3, ex _ _ e4, e5⟩
  · have nin : ∀ j a, a ∈ own j → a ≠ da ∧ a ≠ la := fun j a m => ⟨fun z => n1 (z ▸ (r.ownS j a m).1), fun z => n2 (z ▸ (r.ownS j a m).1)⟩
    by_cases e : j = i
    · simp only [if_pos e] at h
      have e2 : k ≠ i := fun z => n (e.trans z.symm)
      simp only [if_neg e2]
      intro m
      have := nin k a m
      simp only [List.mem_cons, List.not_mem_nil, or_false] at h
      rcases h with z | z
      · exact this.1 z
      · exact this.2 z
    · simp only [if_neg e] at h
      by_cases e2 : k = i
      · simp only [if_pos e2]
        intro m
        have := nin j a h
        simp only [List.mem_cons, List.not_mem_nil, or_false] at m
        rcases m with z | z
        · exact this.1 z
        · exact this.2 z
      · simp only [if_neg e2]; exact r.apart j k n a h
  · by_cases e : j = i
    · simp only [if_pos e] at h
      simp only [List.mem_cons, List.not_mem_nil, or_false] at h
      rcases h with rfl | rfl
      · exact ⟨List.mem_cons_self, .inr (r.fresh0 h1)⟩
      · exact ⟨List.mem_cons_of_mem _ List.mem_cons_self, .inr (r.fresh0 h2)⟩
    · simp only [if_neg e] at h
      exact ⟨List.mem_cons_of_mem _ (List.mem_cons_of_mem _ (r.ownS j a h).1), (r.ownS j a h).2⟩
  · rcases List.mem_cons.mp m with rfl | m
    · rw [hD.1]; rfl
    · rcases List.mem_cons.mp m with rfl | m
      · rw [hD.2.1]; rfl
      · have := r.trk a m
        cases q : H a with
        | none => rw [q] at this; cases this
        | some o => rw [ex a o q]; rfl
  · have := r.tdk l n
    by_cases e : 0 = i
    · rw [e, hoi] at this; exact absurd this.symm n
    · simp only [if_neg e]; exact this
section
variable {X : Cx} {k n i : Nat} {f : Addr} {fd : FuncData} {ps : List Str} {x y : Str} {p py cpos pos : Pos} {e : Expr} {es : List Expr} {ma : MA} {g : List D → Option Dk}
theorem psm_setDk (h : Hk X k) (F : FnG X.prog X.w X.K X.mg X.base CX0 k f fd ps (spN X.K n g)) (hg : Gl X x) (hm : X.mg x = some (.ref f)) (hk : PySem.W.keepIn X.K (.ref f) = true) (hb : Bd fd ps n [] (List.range n)) (hn : Fix ma n)
    (ha : PAM X (e :: es) ma) (hN : X.N.Nodup) (hi : X.N[i]? = some y) (hx : Loc X.env.scope y) (hdb : (x == ("__debug__" : Str)) = false := by decide) (he : starEach (e :: es) X.env = (false, eval e X.env) :: starEach es X.env := by rfl) (hpl : (backTo cpos (starEach es X.env)).any (·.1) = false := by rfl)
    (hs : swapsWith (.Call (.Name x p) (e :: es) [] cpos) (some (.Name y py)) pos.line X.env = pure false := by rfl) (hf : X.fn y = true ∨ X.env.scope.names.lookup y = some .local := by first | exact .inl rfl | exact .inr rfl | assumption) :
    PSM X (.Assign [.Name y py] (.Call (.Name x p) (e :: es) [] cpos) pos) (mSetDk i g ma) := PS.to (ps_set hN hi hx (pe_callG (E := XF) F h.room h.gd hg hm hk hb pass0 ha hdb he hpl) hs hf) fun D σ H q => by
  obtain ⟨c, S, own, ρ, r, sr, hm, q⟩ := q
  simp only [mSetDk, Option.bind_eq_some_iff] at hm
  obtain ⟨⟨ds, ρ1⟩, h1, s, h2, h3⟩ := hm
  split at h3
  · rename_i hp
    cases h3
    refine ⟨c, S, own, ρ, ds, ρ1, sr, h1, fun vs H1 e1 s1 q1 => ?_⟩
    have hl : vs.length = n := by rw [q1.length]; exact hn _ _ _ h1
    refine ⟨hl, rfl, ?_⟩
    rw [List.append_nil, ← hl, pick_range, hl]
    refine ⟨S, ds, s, hl, s1.trk, q1, h2, fun d l H' ex g1 g2 hD => ?_⟩
    obtain ⟨s2, fz⟩ := s1.ownsDk hp ex g1 g2 hD
    exact q _ _ _ H' (e1.trans fz) s2
  · cases h3
end
end TL

namespace TL
open PySem L2
open PyProof.Rows (AllBare)

/-! ### the law's own call -/
/-- the heap that a call of the law begins with: the script and nothing else -/
structure Beg (K : PySem.W.Frag) (t : Shared) (a : Addr) (us : List Value) (ms : List Int) (G : Hp) : Prop where
  only : Only G
  seq : SqL K G a (ms.map V.int)
  one : ∀ b u, G b = some u → b = a
  nok : (∃ u, G a = some u) → K.lookup a = none
theorem begin_hp {P : Program} {w : World} {K : PySem.W.Frag} {t : Shared} {a : Addr} {us : List Value} {ms : List Int} (hin : K.In t.heap) (hob : t.heap.get? a = some { cls := .type "list", data := .seq us.toArray }) (hi : PyProof.Rows.IntsAre us ms) (hz : ms.length ≤ sizeLine) :
    ∃ G : Hp, Beg K t a us ms G ∧ HOk P w G t.heap := by
  have hv := vals_ints hi
  have hlen : us.length ≤ sizeLine := by rw [hi.length]; exact hz
  cases hq : K.lookup a with
  | some ob =>
    have h2 := hin a ob hq
    rw [hob] at h2
    cases h2
    refine ⟨fun _ => none, ⟨fun _ => .inl rfl, .inr ⟨_, us.toArray, _, hq, rfl, rfl, rfl, ?_, ?_⟩, fun b u z => (by cases z), fun ⟨u, z⟩ => (by cases z)⟩, fun b u z => (by cases z)⟩
    · rw [List.size_toArray]; exact hlen
    · simpa using hv
  | none =>
    let ob : Obj := { cls := .type "list", data := .seq us.toArray }
    let G : Hp := fun b => if b = a then some (.frz ob (.lst (ms.map V.int))) else none
    have ga : G a = some (.frz ob (.lst (ms.map V.int))) := if_pos rfl
    have go : ∀ b, b ≠ a → G b = none := fun b n => if_neg n
    refine ⟨G, ⟨fun b => ?_, .inl (.inr ⟨ob, ga⟩), fun b u z => ?_, fun _ => hq⟩, fun b u z => ?_⟩
    · by_cases e : b = a
      · subst e; exact .inr ⟨_, _, ga⟩
      · exact .inl (go b e)
    · by_cases e : b = a
      · exact e
      · rw [go b e] at z; cases z
    · by_cases e : b = a
      · subst e
        rw [ga] at z
        cases z
        exact ⟨hob, by rw [List.length_map]; exact hz, us, _, hv, hob⟩
      · rw [go b e] at z; cases z
theorem law_runs {P : Program} {w : World} {K : PySem.W.Frag} {mg mb : Str → Option Value} {k : Nat} {fa a : Addr} {fd : FuncData} {y : Str} {sp : Sp} {t : Shared} {us : List Value} {ms : List Int}
    (hin : K.In t.heap) (n1 : t.heap.Ns mainGlobals mg) (n2 : t.heap.Ns builtinsNs mb) (n3 : ∀ z : Str, z ≠ "__name__" → mb z = bootBuiltins z) (n4 : t.heap.NoLimit) (n5 : t.gens = #[])
    (hob : t.heap.get? a = some { cls := .type "list", data := .seq us.toArray }) (hi : PyProof.Rows.IntsAre us ms) (hz : ms.length ≤ sizeLine) (hr : Room k callerA)
    (F : ∀ bs : Heap, K.In bs → bs.Ns mainGlobals mg → FnG P w K mg bs CX0 k fa fd [y] sp) (hb : ∀ (z : Shared) (v : Value), BindsTo z fd ⟨[v], []⟩ [(y, v)])
    (hs : ∀ G : Hp, Only G → SqL K G a (ms.map V.int) → sp [.ref a] G (fun v _ => v = .bl true) XF) :
    codeAny (model P w) callerA (.call (.ref fa) ⟨[.ref a], []⟩) (fun r z => r = .ok (.ret (.bool true)) ∧ OldK t.heap z.heap ∧ z.os = t.os ∧ AllBare z.gens) t := by
  obtain ⟨G, B, hok⟩ := begin_hp (P := P) (w := w) hin hob hi hz
  let bs := hidT t.heap G
  have keep : ∀ {b : Addr} {o : Obj}, t.heap.get? b = some o → G b = none → bs.get? b = some o := fun h n => hidT_get h n
  have free : ∀ {b : Addr} {o : Obj} {es : Array DictEntry} {ep : Nat}, t.heap.get? b = some o → o.data = .dict es ep → G b = none := fun {b o es ep} h hd => by
    cases hg : G b with
    | none => rfl
    | some u =>
      have := B.one b u hg
      subst this
      rw [hob] at h
      cases h
      exact nomatch (show Data.seq us.toArray _ = Data.dict es ep from hd)
  have ns : ∀ {b : Addr} {m : Str → Option Value}, t.heap.Ns b m → bs.Ns b m := fun ⟨o, es, ep, h, hd, hr⟩ => ⟨o, es, ep, keep h (free h hd), hd, hr⟩
  have hinb : K.In bs := fun b o h => keep (hin b o h) (by
    cases hg : G b with
    | none => rfl
    | some u =>
      have e := B.one b u hg
      subst e
      rw [B.nok ⟨u, hg⟩] at h
      cases h)
  obtain ⟨mc, l1, l2⟩ := n4
  have hM : Mod K mg bs := ⟨hinb, ns n1, ⟨mb, ns n2, n3⟩, mc, ns l1, l2⟩
  have hE : Env0 P w K mg bs callerA [] t G := ⟨rfl, hM, fun b o h => of_hidT h, Nat.le_of_eq (hidT_size _ _), trivial, fun b m => (nomatch (show b ∈ ([] : List Addr) from m)), hok, .of_eq n5⟩
  refine codeAny_mono ((F bs hinb (ns n1)).go callerA [] t G ⟨[.ref a], []⟩ [.ref a] [.ref a] _ _ hr rfl hE (hb t (.ref a)) (.cons rfl .nil) (hs G B.only B.seq)) fun r z q => ?_
  match r, q with
  | .error e, q => exact q.elim
  | .ok .next, q => exact q.elim
  | .ok .brk, q => exact q.elim
  | .ok .cont, q => exact q.elim
  | .ok (.ret u), q =>
    obtain ⟨v, G', q1, q2, q3, q4, q5, q6⟩ := q
    have q6 : v = .bl true := q6
    subst q6
    have : u = Value.bool true := q5
    subst this
    refine ⟨rfl, OldK.of_keep fun b o h => ?_, q1, q2⟩
    cases hg : G b with
    | none => exact q3.keep b o h hg (fun m => nomatch (show b ∈ ([] : List Addr) from m)) (fun m => nomatch m)
    | some u =>
      rcases B.only b with e | ⟨ob, xs, e⟩
      · rw [hg] at e; cases e
      · have e2 := q3.frzs b ob _ e
        obtain ⟨a1, _⟩ := hok b _ e
        obtain ⟨a2, _⟩ := q4 b _ e2
        rw [h] at a1
        cases a1
        exact a2
/-- the goal behind k_head and k_fill, from the law's mirror -/
theorem walkG {l : PySem.W.OpenLaw} {n k : Nat} {q : Program} {loose : List Str} {XP : (Str → Option Value) → Heap → Prop} {YP : World → Heap → Prop} {d : DefRec} {K : Params → PySem.W.Frag} {y : Str} {f : List D → Option D}
    (hn : l.most = some n) (hn2 : n ≤ sizeLine) (hdf : d.params.defaults = []) (hr : Room k callerA) (hY : ∀ (w : World) (h : Heap), YP w h → (K w.params).In h)
    (F : ∀ (w : World) (mg : Str → Option Value) (fa : Addr) (h : Heap), (K w.params).In h → h.Ns mainGlobals mg → mg d.name = some (.ref fa) →
      ∃ fd : FuncData, (∀ (z : Shared) (v : Value), BindsTo z fd ⟨[v], []⟩ [(y, v)]) ∧ ∀ bs : Heap, (K w.params).In bs → bs.Ns mainGlobals mg → FnG l.prog w (K w.params) mg bs CX0 k fa fd [y] (spP (K w.params) 1 f))
    (hf : ∀ ms : List Int, ms.length ≤ n → f [.scr ms] = some (.bl true)) : PySem.W.WalkO q loose XP YP l.row.toRowW d [] (fun f vs => PySem.call f vs) := by
  refine Att.attach_call hn hdf fun w s0 t mg mb fa o pm cd doc a us ms G Y ho hd hcd hmg hob hints hlen hg => ?_
  have hin := hY w _ Y
  obtain ⟨fd, hb, hF⟩ := F w mg fa _ hin G.T.g hmg
  refine law_runs hin G.T.g G.T.b G.T.builtins G.T.nolimit hg hob hints (Nat.le_trans hlen hn2) hr hF hb fun H hO hS => ?_
  refine ⟨[], [.scr ms], .bl true, rfl, ?_, .cons (.scr ?_) .nil, hf ms hlen, fun v H' _ r => ?_⟩
  · intro b m; cases m
  · have : Fz [] H = H := funext fun b => Fz.out (fun m => nomatch m)
    rw [this]; exact hS
  · cases r; rfl
end TL

namespace TL
open PySem L2

section
variable {X : Cx} {e : Expr} {x : Str} {px p2 p3 p4 apos cpos pos : Pos} {me : ME} {i j n : Nat} {k : Str}
theorem pem_dkGet (hu : X.A.units + 64 < cLine) (hv : PE X (.Name x px) (tVar i)) : PEM X (.Subscript (.Name x px) (.Constant (.str k) n p2) pos) (mDkGet i k) :=
  PE.to (pe_dget (by omega) hv pe_str (fun _ _ => rfl)) fun _ _ _ q => em_dkGet q
theorem ptm_dkHas (hu : X.A.units + 64 < cLine) (hv : PE X (.Name x px) (tVar i)) : PTM X (.Compare (.Subscript (.Name x px) (.Constant (.str "cells") n p2) p3) [.NotEq] [.List [] p4] pos) (mDkHas i) :=
  PT.to (pt_cmpR (op_neP hu) (pe_dget (by omega) hv pe_str (fun _ _ => rfl)) (pem_lst pam_nil) (nomark _)) fun _ _ _ q => em_dkHas q
theorem pem_dkPop (hu : X.A.units + 64 < cLine) (hv : PE X (.Name x px) (tVar i))
    (hbase : attributeBase (.Subscript (.Name x px) (.Constant (.str "cells") n p2) pos) "pop" X.env (eval (.Subscript (.Name x px) (.Constant (.str "cells") n p2) pos) X.env) = eval (.Subscript (.Name x px) (.Constant (.str "cells") n p2) pos) X.env := by rfl) (hline : (apos.endLine == cpos.line) = true := by rfl) :
    PEM X (.Call (.Attribute (.Subscript (.Name x px) (.Constant (.str "cells") n p2) pos) "pop" apos) [] [] cpos) (mDkPop i) :=
  PE.to (pe_bm0 PySem.F.plainAttrs_list PySem.F.slot_list_pop PySem.F.type_list_pop mt_pop (pe_dget (by omega) hv pe_str (fun _ _ => rfl)) hbase hline) fun _ _ _ q => em_dkPop q
theorem psm_dkSet (hu : X.A.units + 64 < cLine) (hv : PE X (.Name x px) (tVar i)) (he : PEM X e me) (hs : swapsWith e (some (.Subscript (.Name x px) (.Constant (.str k) n p2) p3)) pos.line X.env = pure false := by rfl) :
    PSM X (.Assign [.Subscript (.Name x px) (.Constant (.str k) n p2) p3] e pos) (mDkSet i k me) :=
  PS.to (ps_dput (by omega) hv pe_str he hs) fun _ _ _ q => sm_dkSet q
theorem psm_dkPush (hu : X.A.units + 64 < cLine) (hv : PE X (.Name x px) (tVar i)) (he : PEM X e me)
    (hbase : attributeBase (.Subscript (.Name x px) (.Constant (.str "cells") n p2) p3) "append" X.env (eval (.Subscript (.Name x px) (.Constant (.str "cells") n p2) p3) X.env) = eval (.Subscript (.Name x px) (.Constant (.str "cells") n p2) p3) X.env := by rfl)
    (hfew : ((backTo cpos (starEach [e] X.env)).all (fun x => !x.1) && (backToKw cpos (keywordEach [] X.env)).all (fun x => x.1.isSome)
      && decide ([e].length + ([] : List Keyword).length + (if ([] : List Keyword).isEmpty then 0 else 1) < 30)) = true := by rfl)
    (hline : (apos.endLine == cpos.line) = true := by rfl) (hs : starEach [e] X.env = (false, eval e X.env) :: starEach [] X.env := by rfl) (hplain : (backTo cpos (starEach [] X.env)).any (·.1) = false := by rfl)
    (hw : swapsWith (.Call (.Attribute (.Subscript (.Name x px) (.Constant (.str "cells") n p2) p3) "append" apos) [e] [] cpos) none pos.line X.env = pure false := by rfl) :
    PSM X (.Expr (.Call (.Attribute (.Subscript (.Name x px) (.Constant (.str "cells") n p2) p3) "append" apos) [e] [] cpos) pos) (mDkPush i me) :=
  PS.to (ps_expr (pe_bm PySem.F.plainAttrs_list PySem.F.slot_list_append PySem.F.type_list_append mt_append (pe_dget (by omega) hv pe_str (fun _ _ => rfl)) (pa_cons he pa_nil hs) hbase hfew hline hs hplain) hw) fun _ _ _ q => sm_dkPush q
theorem ps_new {y : Str} {py p5 p6 p7 p8 p9 p10 : Pos} {n1 n2 n3 n4 n5 : Nat} {kt : Str} (hv : PE X (.Name x px) (tVar i)) (hw : PE X (.Name y py) (tVar j)) :
    PS X (.Return (some (.Dict [some (.Constant (.str "cells") n1 p2), some (.Constant (.str "mixed") n2 p3), some (.Constant (.str kt) n3 p4)]
      [.Subscript (.Name x px) (.Slice none none (some (.UnaryOp .USub (.Constant (.int 1) n4 p5) p6)) p7) p8, .Name y py, .Constant (.int 0) n5 p9] p10)) pos) (tNew X.K i j kt) :=
  ps_ret (pe_disp (pps_cons pe_str (pe_revA hv) (pps_cons pe_str hw (pps_cons pe_str pe_int pps_nil))) rfl rfl (by intro z; cases z) (by show 3 ≤ 15; decide))
end
/-- a def of the module and its name -/
structure At (K : PySem.W.Frag) (mg : Str → Option Value) (x : Str) (f : Addr) : Prop where
  mg : mg x = some (.ref f)
  kp : PySem.W.keepIn K (.ref f) = true
end TL

namespace TL
open PySem L2

/-! ### mirrors are worked out -/
def isP : Cell → Bool
  | .d _ => true
  | .no => true
  | _ => false
theorem plainAt_eq (ρ : List Cell) (i : Nat) : plainAt ρ i = match ρ[i]? with
    | some c => isP c
    | none => false := by
  unfold plainAt
  cases ρ[i]? with
  | none => rfl
  | some c => cases c <;> rfl
@[simp] theorem isP_d (d : D) : isP (.d d) = true := rfl
@[simp] theorem isP_no : isP .no = true := rfl
theorem wipeC_one (ρ : List Cell) (i : Nat) : wipeC ρ [i] = ρ.set i .no := rfl
theorem lcGo_pure {f : MG} {mt : MT} {me : ME} {vs : List Nat} {ρ : List Cell} (p : D → Bool) (e : D → D) : ∀ (ds : List D), (∀ d ∈ ds, ∃ ρ1, f d ρ = some ρ1 ∧ mt ρ1 = some (p d, ρ1) ∧ (p d = true → me ρ1 = some (e d, ρ1)) ∧ wipeC ρ1 vs = ρ) →
    lcGo f mt me vs ds ρ = some ((ds.filter p).map e, ρ)
  | [], _ => rfl
  | d :: ds, h => by
    obtain ⟨ρ1, h1, h2, h3, h4⟩ := h d List.mem_cons_self
    have ih := lcGo_pure p e ds fun x hx => h x (List.mem_cons_of_mem _ hx)
    simp only [lcGo, h1, h2, Option.bind_some]
    by_cases hp : p d = true
    · rw [if_pos hp, h3 hp]
      simp only [Option.bind_some, h4, ih, Option.map_some, List.filter_cons, hp, if_true, List.map_cons]
    · rw [if_neg hp, h4, ih, List.filter_cons, if_neg hp]
/-- a block whose turns change what they go by: Iv holds ahead of each turn -/
theorem lcGo_inv {f : MG} {mt : MT} {me : ME} {vs : List Nat} (Iv : Nat → List Cell → Prop) (Pd : D → Prop) : ∀ (ds : List D) (k : Nat) (ρ : List Cell), Iv k ρ → (∀ i d, ds[i]? = some d → ∀ ρ, Iv (k + i) ρ → ∃ ρ1 b ρ2, f d ρ = some ρ1 ∧ mt ρ1 = some (b, ρ2) ∧ (b = false → Iv (k + i + 1) (wipeC ρ2 vs)) ∧ (b = true → ∃ x ρ3, me ρ2 = some (x, ρ3) ∧ Pd x ∧ Iv (k + i + 1) (wipeC ρ3 vs))) →
    ∃ out ρ', lcGo f mt me vs ds ρ = some (out, ρ') ∧ Iv (k + ds.length) ρ' ∧ (∀ x ∈ out, Pd x) ∧ out.length ≤ ds.length
  | [], k, ρ, h0, _ => ⟨[], ρ, rfl, h0, (fun x hx => by cases hx), Nat.le_refl _⟩
  | d :: ds, k, ρ, h0, h => by
    obtain ⟨ρ1, b, ρ2, h1, h2, h3, h4⟩ := h 0 d rfl ρ h0
    have next : ∀ ρ, Iv (k + 1) ρ → ∃ out ρ', lcGo f mt me vs ds ρ = some (out, ρ') ∧ Iv (k + 1 + ds.length) ρ' ∧ (∀ x ∈ out, Pd x) ∧ out.length ≤ ds.length := fun ρ hρ =>
      lcGo_inv Iv Pd ds (k + 1) ρ hρ fun i x hx ρ hi => by
        have := h (i + 1) x (by simpa using hx) ρ (by rw [show k + (i + 1) = k + 1 + i by omega]; exact hi)
        rw [show k + (i + 1) = k + 1 + i by omega] at this
        exact this
    have hl : k + (d :: ds).length = k + 1 + ds.length := by rw [List.length_cons]; omega
    cases b with
    | false =>
      obtain ⟨out, ρ', e1, e2, e3, e4⟩ := next _ (h3 rfl)
      refine ⟨out, ρ', ?_, hl ▸ e2, e3, by rw [List.length_cons]; omega⟩
      simp only [lcGo, h1, h2, Option.bind_some, Bool.false_eq_true, if_false, e1]
    | true =>
      obtain ⟨x, ρ3, g1, g2, g3⟩ := h4 rfl
      obtain ⟨out, ρ', e1, e2, e3, e4⟩ := next _ g3
      refine ⟨x :: out, ρ', ?_, hl ▸ e2, fun y hy => ?_, by rw [List.length_cons, List.length_cons]; omega⟩
      · simp only [lcGo, h1, h2, Option.bind_some, if_true, g1, e1, Option.map_some]
      · rcases List.mem_cons.mp hy with rfl | hy
        · exact g2
        · exact e3 y hy
theorem forGo_inv {f : MG} {body : MS} (Iv : Nat → List Cell → Prop) : ∀ (ds : List D) (k : Nat) (ρ : List Cell), Iv k ρ → (∀ i d, ds[i]? = some d → ∀ ρ, Iv (k + i) ρ → ∃ ρ1 ρ2, f d ρ = some ρ1 ∧ body ρ1 = some (.nx ρ2) ∧ Iv (k + i + 1) ρ2) →
    ∃ ρ', forGo f body ds ρ = some (.nx ρ') ∧ Iv (k + ds.length) ρ'
  | [], k, ρ, h0, _ => ⟨ρ, rfl, h0⟩
  | d :: ds, k, ρ, h0, h => by
    obtain ⟨ρ1, ρ2, h1, h2, h3⟩ := h 0 d rfl ρ h0
    obtain ⟨ρ', e1, e2⟩ := forGo_inv Iv ds (k + 1) ρ2 h3 fun i x hx ρ hi => by
      have := h (i + 1) x (by simpa using hx) ρ (by rw [show k + (i + 1) = k + 1 + i by omega]; exact hi)
      rw [show k + (i + 1) = k + 1 + i by omega] at this
      exact this
    refine ⟨ρ', ?_, ?_⟩
    · simp only [forGo, h1, h2, Option.bind_some, e1]
    · rw [List.length_cons, show k + (ds.length + 1) = k + 1 + ds.length by omega]; exact e2
/-! ### data that are texts, numbers, bools -/
theorem dLt_str (a b : Str) : dLt (.str a) (.str b) = some (.bl (decide (a.cps.toList < b.cps.toList))) := by
  unfold dLt cmpP fOrd
  simp only [D.py, Option.bind_some]
  rw [if_pos (by show 0 ≤ 64; omega)]
  simp [PySem.W.alike, PySem.W.dataLt_str]
theorem dLt_int (a b : Int) : dLt (.int a) (.int b) = some (.bl (decide (a < b))) := by
  unfold dLt cmpP fOrd
  simp only [D.py, Option.bind_some]
  rw [if_pos (by show 0 ≤ 64; omega)]
  simp [PySem.W.alike, PySem.W.dataLt_int]
theorem dGe_int (a b : Int) : dGe (.int a) (.int b) = some (.bl (decide (b ≤ a))) := by
  unfold dGe cmpP fOrd
  simp only [D.py, Option.bind_some]
  rw [if_pos (by show 0 ≤ 64; omega)]
  simp only [PySem.W.alike, PySem.W.dataLt_int, if_true, Option.map_some]
  by_cases h : b ≤ a
  · rw [decide_eq_true h, decide_eq_false (by omega)]; rfl
  · rw [decide_eq_false h, decide_eq_true (by omega)]; rfl
theorem dLe_int (a b : Int) : dLe (.int a) (.int b) = some (.bl (decide (a ≤ b))) := by
  unfold dLe cmpP fOrd
  simp only [D.py, Option.bind_some]
  rw [if_pos (by show 0 ≤ 64; omega)]
  simp only [PySem.W.alike, PySem.W.dataLt_int, if_true, Option.map_some]
  by_cases h : a ≤ b
  · rw [decide_eq_true h, decide_eq_false (by omega)]; rfl
  · rw [decide_eq_false h, decide_eq_true (by omega)]; rfl
theorem dEq_int (a b : Int) : dEq (.int a) (.int b) = some (.bl (decide (a = b))) := by
  unfold dEq cmpP fEq
  simp only [D.py, Option.bind_some]
  rw [if_pos (by show 0 ≤ 64; omega)]
  simp [PyData.plain, PyData.eqv]
  rfl
theorem dEq_str (a b : Str) : dEq (.str a) (.str b) = some (.bl (a == b)) := by
  unfold dEq cmpP fEq
  simp only [D.py, Option.bind_some]
  rw [if_pos (by show 0 ≤ 64; omega)]
  simp [PyData.plain, PyData.eqv]
theorem dNe_str (a b : Str) : dNe (.str a) (.str b) = some (.bl (!(a == b))) := by
  unfold dNe cmpP fNe
  simp only [D.py, Option.bind_some]
  rw [if_pos (by show 0 ≤ 64; omega)]
  simp [PyData.plain, PyData.eqv]
theorem str_beq_self (a : Str) : (a == a) = true := by
  rw [beq_iff_eq]
theorem pys_strs : ∀ l : List Str, D.pys (l.map D.str) = some (l.map PyData.str)
  | [] => rfl
  | a :: l => by simp only [List.map_cons, D.pys, D.py, Option.bind_some, pys_strs l, Option.map_some]
theorem plainAll_strs (l : List Str) : PyData.plainAll (l.map PyData.str) = true := by
  induction l with
  | nil => rfl
  | cons a l ih => simp [PyData.plainAll, PyData.plain, ih]
theorem depthAll_strs (l : List Str) : PyData.depthAll (l.map PyData.str) = 0 := by
  induction l with
  | nil => rfl
  | cons a l ih => simp [PyData.depthAll, PyData.depth, ih]
theorem plainAll_ints (l : List Int) : PyData.plainAll (l.map PyData.int) = true := by
  induction l with
  | nil => rfl
  | cons a l ih => simp [PyData.plainAll, PyData.plain, ih]
theorem depthAll_ints (l : List Int) : PyData.depthAll (l.map PyData.int) = 0 := by
  induction l with
  | nil => rfl
  | cons a l ih => simp [PyData.depthAll, PyData.depth, ih]
theorem eqvAll_strs : ∀ l m : List Str, PyData.eqvAll (l.map PyData.str) (m.map PyData.str) = decide (l = m)
  | [], [] => rfl
  | [], b :: m => by simp [PyData.eqvAll]
  | a :: l, [] => by simp [PyData.eqvAll]
  | a :: l, b :: m => by
    simp only [List.map_cons, PyData.eqvAll, PyData.eqv, eqvAll_strs l m, List.cons.injEq, Bool.decide_and]
    by_cases h : a = b
    · subst h; simp
    · rw [decide_eq_false h, Bool.false_and]
      have : (a == b) = false := by rw [beq_eq_false_iff_ne]; exact h
      rw [this, Bool.false_and]
theorem eqvAll_ints : ∀ l m : List Int, PyData.eqvAll (l.map PyData.int) (m.map PyData.int) = decide (l = m)
  | [], [] => rfl
  | [], b :: m => by simp [PyData.eqvAll]
  | a :: l, [] => by simp [PyData.eqvAll]
  | a :: l, b :: m => by
    simp only [List.map_cons, PyData.eqvAll, PyData.eqv, eqvAll_ints l m, List.cons.injEq, Bool.decide_and]
    by_cases h : a = b
    · subst h; simp
    · rw [decide_eq_false h, Bool.false_and]
      have : (a == b) = false := by rw [beq_eq_false_iff_ne]; exact h
      rw [this, Bool.false_and]
theorem dEq_strs (l m : List Str) : dEq (.lst (l.map D.str)) (.lst (m.map D.str)) = some (.bl (decide (l = m))) := by
  unfold dEq cmpP fEq
  simp only [D.py, pys_strs, Option.map_some, Option.bind_some]
  rw [if_pos (by show PyData.depthAll _ + 1 ≤ 64; rw [depthAll_strs]; omega), if_pos ⟨plainAll_strs l, plainAll_strs m⟩]
  simp only [Option.map_some, PyData.eqv, eqvAll_strs]
theorem dNe_strs (l m : List Str) : dNe (.lst (l.map D.str)) (.lst (m.map D.str)) = some (.bl (!decide (l = m))) := by
  unfold dNe cmpP fNe
  simp only [D.py, pys_strs, Option.map_some, Option.bind_some]
  rw [if_pos (by show PyData.depthAll _ + 1 ≤ 64; rw [depthAll_strs]; omega), if_pos ⟨plainAll_strs l, plainAll_strs m⟩]
  simp only [Option.map_some, PyData.eqv, eqvAll_strs]
theorem dEq_ints (l m : List Int) : dEq (.lst (l.map D.int)) (.lst (m.map D.int)) = some (.bl (decide (l = m))) := by
  unfold dEq cmpP fEq
  simp only [D.py, pys_ints, Option.map_some, Option.bind_some]
  rw [if_pos (by show PyData.depthAll _ + 1 ≤ 64; rw [depthAll_ints]; omega), if_pos ⟨plainAll_ints l, plainAll_ints m⟩]
  simp only [Option.map_some, PyData.eqv, eqvAll_ints]
theorem strIn_one (c : Nat) (x : Str) : strIn ⟨#[c]⟩ x = decide (c ∈ x.cps.toList) := by
  unfold strIn
  exact PySem.StrLaws.found_one x c
/-! ### types -/
theorem kit_NoneType_str : kitB "NoneType" "str" = some false := by decide +kernel
theorem kit_bool_str : kitB "bool" "str" = some false := by decide +kernel
theorem kit_int_str : kitB "int" "str" = some false := by decide +kernel
theorem kit_str_str : kitB "str" "str" = some true := by decide +kernel
theorem kit_tuple_str : kitB "tuple" "str" = some false := by decide +kernel
theorem kit_list_str : kitB "list" "str" = some false := by decide +kernel
theorem kit_dict_str : kitB "dict" "str" = some false := by decide +kernel
theorem kit_NoneType_int : kitB "NoneType" "int" = some false := by decide +kernel
theorem kit_bool_int : kitB "bool" "int" = some true := by decide +kernel
theorem kit_int_int : kitB "int" "int" = some true := by decide +kernel
theorem kit_str_int : kitB "str" "int" = some false := by decide +kernel
theorem kit_tuple_int : kitB "tuple" "int" = some false := by decide +kernel
theorem kit_list_int : kitB "list" "int" = some false := by decide +kernel
theorem kit_dict_int : kitB "dict" "int" = some false := by decide +kernel
theorem kit_NoneType_bool : kitB "NoneType" "bool" = some false := by decide +kernel
theorem kit_bool_bool : kitB "bool" "bool" = some true := by decide +kernel
theorem kit_int_bool : kitB "int" "bool" = some false := by decide +kernel
theorem kit_str_bool : kitB "str" "bool" = some false := by decide +kernel
theorem kit_tuple_bool : kitB "tuple" "bool" = some false := by decide +kernel
theorem kit_list_bool : kitB "list" "bool" = some false := by decide +kernel
theorem kit_dict_bool : kitB "dict" "bool" = some false := by decide +kernel
theorem kit_NoneType_tuple : kitB "NoneType" "tuple" = some false := by decide +kernel
theorem kit_bool_tuple : kitB "bool" "tuple" = some false := by decide +kernel
theorem kit_int_tuple : kitB "int" "tuple" = some false := by decide +kernel
theorem kit_str_tuple : kitB "str" "tuple" = some false := by decide +kernel
theorem kit_tuple_tuple : kitB "tuple" "tuple" = some true := by decide +kernel
theorem kit_list_tuple : kitB "list" "tuple" = some false := by decide +kernel
theorem kit_dict_tuple : kitB "dict" "tuple" = some false := by decide +kernel
theorem kit_NoneType_list : kitB "NoneType" "list" = some false := by decide +kernel
theorem kit_bool_list : kitB "bool" "list" = some false := by decide +kernel
theorem kit_int_list : kitB "int" "list" = some false := by decide +kernel
theorem kit_str_list : kitB "str" "list" = some false := by decide +kernel
theorem kit_tuple_list : kitB "tuple" "list" = some false := by decide +kernel
theorem kit_list_list : kitB "list" "list" = some true := by decide +kernel
theorem kit_dict_list : kitB "dict" "list" = some false := by decide +kernel
theorem kit_NoneType_dict : kitB "NoneType" "dict" = some false := by decide +kernel
theorem kit_bool_dict : kitB "bool" "dict" = some false := by decide +kernel
theorem kit_int_dict : kitB "int" "dict" = some false := by decide +kernel
theorem kit_str_dict : kitB "str" "dict" = some false := by decide +kernel
theorem kit_tuple_dict : kitB "tuple" "dict" = some false := by decide +kernel
theorem kit_list_dict : kitB "list" "dict" = some false := by decide +kernel
theorem kit_dict_dict : kitB "dict" "dict" = some true := by decide +kernel
theorem lcGo_map {α : Type} {f : MG} {mt : MT} {me : ME} {vs : List Nat} {ρ : List Cell} (emb : α → D) (p : α → Bool) (e : α → D) (l : List α) (h : ∀ a ∈ l, ∃ ρ1, f (emb a) ρ = some ρ1 ∧ mt ρ1 = some (p a, ρ1) ∧ (p a = true → me ρ1 = some (e a, ρ1)) ∧ wipeC ρ1 vs = ρ) :
    lcGo f mt me vs (l.map emb) ρ = some ((l.filter p).map e, ρ) := by
  induction l with
  | nil => rfl
  | cons d ds ih =>
    obtain ⟨ρ1, h1, h2, h3, h4⟩ := h d List.mem_cons_self
    have ih := ih fun x hx => h x (List.mem_cons_of_mem _ hx)
    simp only [List.map_cons, lcGo, h1, h2, Option.bind_some]
    by_cases hp : p d = true
    · rw [if_pos hp, h3 hp]
      simp only [Option.bind_some, h4, ih, Option.map_some, List.filter_cons, hp, if_true, List.map_cons]
    · rw [if_neg hp, h4, ih, List.filter_cons, if_neg hp]
theorem asBls_mapf {α : Type} (q : α → Bool) : ∀ l : List α, asBls (l.map fun a => D.bl (q a)) = some (l.map q)
  | [] => rfl
  | a :: l => by simp only [List.map_cons, asBls, asBls_mapf q l, Option.map_some]
theorem asStrs_mapf {α : Type} (q : α → Str) : ∀ l : List α, asStrs (l.map fun a => D.str (q a)) = some (l.map q)
  | [] => rfl
  | a :: l => by simp only [List.map_cons, asStrs, asStrs_mapf q l, Option.map_some]
theorem len_cps (x : Str) : x.length = x.cps.toList.length := by simp [Str.length]
def one1 (c : Nat) : Str := ⟨#[c]⟩
theorem signs_eq (x : Str) : signs x = x.cps.toList.map fun c => .str (one1 c) := rfl
theorem one1_cps (c : Nat) : (one1 c).cps.toList = [c] := rfl
theorem strIn_one1 (c : Nat) (x : Str) : strIn (one1 c) x = decide (c ∈ x.cps.toList) := strIn_one c x
theorem lt_one (a b : Nat) : (([a] : List Nat) < [b]) = (a < b) := by
  rw [eq_iff_iff]
  constructor
  · intro h
    cases h with
    | rel h => exact h
    | cons h => cases h
  · intro h; exact .rel h
theorem lcGo_mapT {α : Type} {f : MG} {mt : MT} {me : ME} {vs : List Nat} {ρ : List Cell} (emb : α → D) (e : α → D) (l : List α) (h : ∀ a ∈ l, ∃ ρ1, f (emb a) ρ = some ρ1 ∧ mt ρ1 = some (true, ρ1) ∧ me ρ1 = some (e a, ρ1) ∧ wipeC ρ1 vs = ρ) :
    lcGo f mt me vs (l.map emb) ρ = some (l.map e, ρ) := by
  have := lcGo_map (f := f) (mt := mt) (me := me) (vs := vs) (ρ := ρ) emb (fun _ => true) e l fun a ha => by
    obtain ⟨ρ1, h1, h2, h3, h4⟩ := h a ha
    exact ⟨ρ1, h1, h2, fun _ => h3, h4⟩
  rw [this, List.filter_eq_self.mpr fun _ _ => rfl]
/-- a text of its letters -/
def Tx (l : List Nat) : Str := ⟨l.toArray⟩
theorem Tx_cps (l : List Nat) : (Tx l).cps.toList = l := rfl
theorem Tx_len (l : List Nat) : (Tx l).length = l.length := rfl
theorem Tx_signs (l : List Nat) : signs (Tx l) = l.map fun c => .str (Tx [c]) := rfl
theorem Tx_inj {a b : List Nat} : Tx a = Tx b ↔ a = b := ⟨fun h => by have := congrArg (fun x => x.cps.toList) h; exact this, fun h => by rw [h]⟩
theorem Tx_beq (a b : List Nat) : (Tx a == Tx b) = decide (a = b) := by
  by_cases h : a = b
  · subst h; simp
  · rw [decide_eq_false h, beq_eq_false_iff_ne]
    exact fun z => h (Tx_inj.mp z)
theorem Tx_app (a b : List Nat) : Tx a ++ Tx b = Tx (a ++ b) := by
  refine PySem.W.str_of_cps ?_
  show (Tx a ++ Tx b).cps.toList = a ++ b
  have : (Tx a ++ Tx b).cps = (Tx a).cps ++ (Tx b).cps := rfl
  rw [this, Array.toList_append]; rfl
theorem Tx_rev (a : List Nat) : revS (Tx a) = Tx a.reverse := PySem.W.str_of_cps (by rw [revS_list]; rfl)
theorem strIn_Tx (c : Nat) (l : List Nat) : strIn (Tx [c]) (Tx l) = decide (c ∈ l) := strIn_one c (Tx l)
theorem dLt_Tx (a b : List Nat) : dLt (.str (Tx a)) (.str (Tx b)) = some (.bl (decide (a < b))) := dLt_str _ _
theorem dEq_nil_strs {α : Type} (q : α → Str) (l : List α) : dEq (.lst (l.map fun a => D.str (q a))) (.lst []) = some (.bl l.isEmpty) := by
  have := dEq_strs (l.map q) []
  rw [List.map_map] at this
  rw [show (List.map (fun a => D.str (q a)) l) = List.map (D.str ∘ q) l from rfl, show (D.lst []) = D.lst (List.map D.str []) from rfl, this]
  cases l <;> simp
theorem dNe_nil_strs {α : Type} (q : α → Str) (l : List α) : dNe (.lst (l.map fun a => D.str (q a))) (.lst []) = some (.bl (!l.isEmpty)) := by
  have := dNe_strs (l.map q) []
  rw [List.map_map] at this
  rw [show (List.map (fun a => D.str (q a)) l) = List.map (D.str ∘ q) l from rfl, show (D.lst []) = D.lst (List.map D.str []) from rfl, this]
  cases l <;> simp
theorem dEq_nil_ints {α : Type} (q : α → Int) (l : List α) : dEq (.lst (l.map fun a => D.int (q a))) (.lst []) = some (.bl l.isEmpty) := by
  have := dEq_ints (l.map q) []
  rw [List.map_map] at this
  rw [show (List.map (fun a => D.int (q a)) l) = List.map (D.int ∘ q) l from rfl, show (D.lst []) = D.lst (List.map D.int []) from rfl, this]
  cases l <;> simp
theorem filter_empty {α : Type} (p : α → Bool) (l : List α) : (l.filter fun a => !p a).isEmpty = l.all p := by
  induction l with
  | nil => rfl
  | cons a l ih =>
    rw [List.filter_cons, List.all_cons]
    cases h : p a <;> simp [ih]
/-! ### step by step -/
section
variable {ρ ρ1 ρ2 ρ3 : List Cell} {a b d : D} {ds es : List D} {ma mb : ME} {mr : MA} {ta tb : MT} {s u : MS} {k : Bool}
theorem ev_var {i : Nat} (h : ρ[i]? = some (.d d)) : mVar i ρ = some (d, ρ) := by unfold mVar; rw [h]
theorem ev_c : mC d ρ = some (d, ρ) := rfl
theorem ev_nil : mNil ρ = some ([], ρ) := rfl
theorem ev_cons (h1 : ma ρ = some (a, ρ1)) (h2 : mr ρ1 = some (ds, ρ2)) : mCons ma mr ρ = some (a :: ds, ρ2) := by
  simp only [mCons, h1, h2, Option.bind_some]
theorem ev_bin {f : D → D → Option D} (h1 : ma ρ = some (a, ρ1)) (h2 : mb ρ1 = some (b, ρ2)) (h3 : f a b = some d) : mBin f ma mb ρ = some (d, ρ2) := by
  simp only [mBin, h1, h2, h3, Option.bind_some, Option.map_some]
theorem ev_un {f : D → Option D} (h1 : ma ρ = some (a, ρ1)) (h3 : f a = some d) : mUn f ma ρ = some (d, ρ1) := by
  simp only [mUn, h1, h3, Option.bind_some, Option.map_some]
theorem ev_app {f : List D → Option D} (h1 : mr ρ = some (ds, ρ1)) (h3 : f ds = some d) : mApp f mr ρ = some (d, ρ1) := by
  simp only [mApp, h1, h3, Option.bind_some, Option.map_some]
theorem ev_test (h1 : ma ρ = some (.bl k, ρ1)) : mTest ma ρ = some (k, ρ1) := by
  simp only [mTest, h1, Option.bind_some]
theorem ev_not (h1 : ta ρ = some (k, ρ1)) : mNotT ta ρ = some (!k, ρ1) := by
  simp only [mNotT, h1, Option.map_some]
theorem ev_notV (h1 : ma ρ = some (.bl k, ρ1)) : mNotV ma ρ = some (.bl (!k), ρ1) := by
  simp only [mNotV, h1, Option.bind_some]
theorem ev_andT (h1 : ta ρ = some (true, ρ1)) : mAndT ta tb ρ = tb ρ1 := by simp only [mAndT, h1, Option.bind_some, if_true]
theorem ev_andF (h1 : ta ρ = some (false, ρ1)) : mAndT ta tb ρ = some (false, ρ1) := by simp only [mAndT, h1, Option.bind_some, Bool.false_eq_true, if_false]
theorem ev_orT (h1 : ta ρ = some (true, ρ1)) : mOrT ta tb ρ = some (true, ρ1) := by simp only [mOrT, h1, Option.bind_some, if_true]
theorem ev_orF (h1 : ta ρ = some (false, ρ1)) : mOrT ta tb ρ = tb ρ1 := by simp only [mOrT, h1, Option.bind_some, Bool.false_eq_true, if_false]
theorem ev_seq (h1 : s ρ = some (.nx ρ1)) : mSeq s u ρ = u ρ1 := by simp only [mSeq, h1, Option.bind_some]
theorem ev_seqR {x : D} (h1 : s ρ = some (.rt x ρ1)) : mSeq s u ρ = some (.rt x ρ1) := by simp only [mSeq, h1, Option.bind_some]
theorem ev_ret (h1 : ma ρ = some (d, ρ1)) : mRet ma ρ = some (.rt d ρ1) := by simp only [mRet, h1, Option.map_some]
theorem ev_ifT (h1 : ta ρ = some (true, ρ1)) : mIfS ta s u ρ = s ρ1 := by simp only [mIfS, h1, Option.bind_some, if_true]
theorem ev_ifF (h1 : ta ρ = some (false, ρ1)) : mIfS ta s u ρ = u ρ1 := by simp only [mIfS, h1, Option.bind_some, Bool.false_eq_true, if_false]
theorem ev_skip : mSkip ρ = some (.nx ρ) := rfl
theorem ev_set {i : Nat} (h1 : ma ρ = some (d, ρ1)) (h2 : plainAt ρ1 i = true) : mAsg ma (gmName i) ρ = some (.nx (ρ1.set i (.d d))) := by
  simp only [mAsg, gmName, h1, Option.bind_some, if_pos h2, Option.map_some]
theorem ev_par {i j : Nat} (h1 : mr ρ = some ([a, b], ρ1)) (h2 : plainAt ρ1 i = true) (h3 : plainAt (ρ1.set i (.d a)) j = true) : mPar i j mr ρ = some (.nx ((ρ1.set i (.d a)).set j (.d b))) := by
  simp only [mPar, gmName, h1, Option.bind_some, if_pos h2, if_pos h3, Option.map_some]
theorem ev_items (h1 : ma ρ = some (a, ρ1)) (h2 : dItems a = some ds) : mItems ma ρ = some (ds, ρ1) := by simp only [mItems, h1, h2, Option.bind_some, Option.map_some]
theorem ev_range (h1 : mr ρ = some (es, ρ1)) (h2 : dRange es = some ds) : mRange mr ρ = some (ds, ρ1) := by simp only [mRange, h1, h2, Option.bind_some, Option.map_some]
theorem ev_lc {mi : MI} {f : MG} {mt : MT} {vs : List Nat} (h1 : mi ρ = some (ds, ρ1)) (h2 : plainC ρ1 vs = true) (h3 : lcGo f mt ma vs ds (wipeC ρ1 vs) = some (es, ρ2)) (h4 : es.length ≤ sizeLine) : mLc mi f mt ma vs ρ = some (.lst es, backC ρ1 ρ2 vs) := by
  simp only [mLc, h1, h3, Option.bind_some, if_pos h2, if_pos h4]
theorem ev_for {mi : MI} {f : MG} {r : Res} (h1 : mi ρ = some (ds, ρ1)) (h2 : forGo f s ds ρ1 = some r) : mFor mi f s ρ = some r := by
  simp only [mFor, h1, h2, Option.bind_some]
theorem ev_callP {f : List D → Option D} {pm : List Nat} {mk : MA} (h1 : mr ρ = some (ds, ρ1)) (h2 : mk ρ1 = some (es, ρ2)) (h3 : f (pm.map fun i => (ds ++ es).getD i .non) = some d) : mCallP f pm mr mk ρ = some (d, ρ2) := by
  simp only [mCallP, h1, h2, h3, Option.bind_some, Option.map_some]
theorem ev_callD {i : Nat} {f : Dk → List D → Option (D × Dk)} {k0 k1 k2 : Dk} (h0 : ρ[i]? = some (.dk k0)) (h1 : mr ρ = some (ds, ρ1)) (h2 : ρ1[i]? = some (.dk k1)) (h3 : f k1 ds = some (d, k2)) : mCallD i f mr ρ = some (d, ρ1.set i (.dk k2)) := by
  simp only [mCallD, h0, h1, h2, h3, Option.bind_some, Option.map_some]
theorem ev_runP {N : Nat} {m : MS} (h : m (ds.map Cell.d ++ List.replicate (N - ds.length) .no) = some (.rt d ρ)) : runP N m ds = some d := by unfold runP; rw [h]
theorem ev_runD {N : Nat} {m : MS} {k0 k1 : Dk} (h : m (.dk k0 :: ds.map Cell.d ++ List.replicate (N - (ds.length + 1)) .no) = some (.rt d (.dk k1 :: ρ))) : runD N m k0 ds = some (d, k1) := by unfold runD; rw [h]
end
end TL

namespace TL
open PySem L2

/-! ### the deck's draws -/
section
variable {ρ ρ1 : List Cell} {i : Nat} {k : Str} {s k0 : Dk} {n : Int} {me : ME}
theorem ev_dkGet (h : ρ[i]? = some (.dk s)) (e : s.get k = some n) : mDkGet i k ρ = some (.int n, ρ) := by
  unfold mDkGet; rw [h]; simp only [e, Option.map_some]
theorem ev_dkSet (h0 : ρ[i]? = some (.dk k0)) (h1 : me ρ = some (.int n, ρ1)) (h2 : ρ1[i]? = some (.dk s)) (hk : k = s.kt) : mDkSet i k me ρ = some (.nx (ρ1.set i (.dk { s with turn := n }))) := by
  unfold mDkSet; rw [h0]; simp only [h1, h2, Option.bind_some, if_pos hk]
theorem ev_dkHas (h : ρ[i]? = some (.dk s)) : mDkHas i ρ = some (!s.cells.isEmpty, ρ) := by
  unfold mDkHas; rw [h]
theorem ev_dkPop (h : ρ[i]? = some (.dk s)) (e : s.cells.getLast? = some n) : mDkPop i ρ = some (.int n, ρ.set i (.dk { s with cells := s.cells.dropLast })) := by
  unfold mDkPop; rw [h]; simp only [e, Option.map_some]
theorem ev_dkPush (h0 : ρ[i]? = some (.dk k0)) (h1 : me ρ = some (.int n, ρ1)) (h2 : ρ1[i]? = some (.dk s)) (hk : s.cells.length < sizeLine) : mDkPush i me ρ = some (.nx (ρ1.set i (.dk { s with cells := s.cells ++ [n] }))) := by
  unfold mDkPush; rw [h0]; simp only [h1, h2, Option.bind_some, if_pos hk]
end
theorem log2_small {n : Nat} (h : n < 2 ^ 400000) : n.log2 < 400000 := by
  by_cases h0 : n = 0
  · subst h0; simp
  · exact (Nat.log2_lt h0).mpr h
theorem mul_ok {a b : Int} (ha : a.natAbs.log2 < 400000) (hb : b.natAbs.log2 < 400000) : dMulA (.int a) (.int b) = some (.int (a * b)) := by
  have : mulOk a b = true := by unfold mulOk; exact decide_eq_true (by omega)
  simp only [dMulA, this, if_true]
theorem lg {a : Int} (h : a.natAbs < 2 ^ 200) : a.natAbs.log2 < 400000 := by
  by_cases h0 : a.natAbs = 0
  · rw [h0]; decide
  · exact Nat.lt_trans ((Nat.log2_lt h0).mpr h) (by decide)
theorem mod_ok {a b : Int} (h : 0 < b) : dMod (.int a) (.int b) = some (.int (a % b)) := if_pos h
theorem fdiv_ok {a b : Int} (h : 0 < b) (h2 : b.natAbs < 2 ^ 200) : dFdiv (.int a) (.int b) = some (.int (a / b)) := if_pos ⟨h, by
  by_cases h0 : b.natAbs = 0
  · rw [h0]; decide
  · exact Nat.lt_trans ((Nat.log2_lt h0).mpr h2) (by decide)⟩
theorem int_ok {a : Int} : dInt [.int a] = some (.int a) := rfl
theorem add_ok {a b : Int} : dAdd (.int a) (.int b) = some (.int (a + b)) := rfl
/-- the deck is in order, n draws may follow -/
structure Fine (s : Dk) (n : Nat) : Prop where
  cells : s.cells.length ≤ 63
  m0 : 0 ≤ s.mixed
  m1 : s.mixed < 2 ^ 40
  t0 : 0 ≤ s.turn
  t1 : s.turn + n ≤ 2 ^ 40
theorem Fine.le {s : Dk} {n m : Nat} (h : Fine s n) (l : m ≤ n) : Fine s m := ⟨h.cells, h.m0, h.m1, h.t0, by have := h.t1; omega⟩
/-- a draw below many, and the deck behind it -/
structure Drew (s s' : Dk) : Prop where
  cells : s'.cells.length ≤ s.cells.length
  mixed : s'.mixed = s.mixed
  turn : s'.turn = s.turn + 1
  dr : s'.dr = s.dr
theorem Drew.fine {s s' : Dk} {n : Nat} (h : Drew s s') (f : Fine s (n + 1)) : Fine s' n :=
  ⟨Nat.le_trans h.cells f.cells, by rw [h.mixed]; exact f.m0, by rw [h.mixed]; exact f.m1, by have := f.t0; rw [h.turn]; omega, by have := f.t1; rw [h.turn]; omega⟩
/-- the law's draw, of the form with "turn" -/
noncomputable def drawA (c1 c2 : Int) : MS := (mSeq (mDkSet 0 "turn" (mBin dAdd (mDkGet 0 "turn") (mC (.int 1)))) (mSeq (mAsg (mBin dAdd (mDkGet 0 "mixed") (mBin dMulA (mBin dMulA (mC (.int c1)) (mDkGet 0 "turn")) (mDkGet 0 "turn"))) (gmName 2)) (mSeq (mIfS (mDkHas 0) (mSeq (mAsg (mDkPop 0) (gmName 3)) (mSeq (mIfS (mTest (mBin dGe (mVar 3) (mBin dPow (mC (.int 10)) (mC (.int 18))))) (mSeq (mDkPush 0 (mBin dFdiv (mVar 3) (mVar 1))) (mRet (mBin dMod (mApp dInt (mCons (mVar 3) mNil)) (mVar 1)))) mSkip) (mAsg (mBin dAdd (mVar 2) (mApp dInt (mCons (mVar 3) mNil))) (gmName 2)))) mSkip) (mSeq (mAsg (mBin dMod (mBin dMulA (mApp dInt (mCons (mBin dAdd (mBin dMod (mApp dInt (mCons (mVar 2) mNil)) (mC (.int 2147483579))) (mC (.int c2))) mNil)) (mC (.int 48271))) (mC (.int 2147483647))) (gmName 2)) (mSeq (mAsg (mBin dMod (mApp dInt (mCons (mBin dAdd (mBin dAdd (mBin dMulA (mVar 2) (mVar 2)) (mBin dMulA (mC (.int 69621)) (mDkGet 0 "turn"))) (mC (.int 29))) mNil)) (mC (.int 2147483563))) (gmName 2)) (mRet (mBin dMod (mBin dFdiv (mBin dMod (mApp dInt (mCons (mBin dMulA (mVar 2) (mC (.int 40692))) mNil)) (mC (.int 2147483587))) (mC (.int 64))) (mVar 1))))))))
theorem get_turn {s : Dk} (h : s.dr = false) : s.get "turn" = some s.turn := by
  unfold Dk.get Dk.kt
  rw [h]; rfl
theorem get_mixed {s : Dk} : s.get "mixed" = some s.mixed := by
  unfold Dk.get
  rw [if_pos rfl]
theorem kt_turn {s : Dk} (h : s.dr = false) : ("turn" : Str) = s.kt := by
  unfold Dk.kt
  rw [h]; rfl
/-- the figures' end -/
theorem draw_tail {c2 many F : Int} {s : Dk} {c : Cell} (hd : s.dr = false) (hc : 0 ≤ c2 ∧ c2 < 2 ^ 40) (hm : 0 < many) (t0 : 0 ≤ s.turn) (t1 : s.turn ≤ 2 ^ 41) : ∃ r ρ, 0 ≤ r ∧ r < many ∧
    (mSeq (mAsg (mBin dMod (mBin dMulA (mApp dInt (mCons (mBin dAdd (mBin dMod (mApp dInt (mCons (mVar 2) mNil)) (mC (.int 2147483579))) (mC (.int c2))) mNil)) (mC (.int 48271))) (mC (.int 2147483647))) (gmName 2)) (mSeq (mAsg (mBin dMod (mApp dInt (mCons (mBin dAdd (mBin dAdd (mBin dMulA (mVar 2) (mVar 2)) (mBin dMulA (mC (.int 69621)) (mDkGet 0 "turn"))) (mC (.int 29))) mNil)) (mC (.int 2147483563))) (gmName 2)) (mRet (mBin dMod (mBin dFdiv (mBin dMod (mApp dInt (mCons (mBin dMulA (mVar 2) (mC (.int 40692))) mNil)) (mC (.int 2147483587))) (mC (.int 64))) (mVar 1))))) [.dk s, .d (.int many), .d (.int F), c] = some (.rt (.int r) (.dk s :: ρ)) := by
  have b1 := Int.emod_nonneg F (b := 2147483579) (by decide)
  have b2 := Int.emod_lt_of_pos F (b := 2147483579) (by decide)
  generalize hg1 : (F % 2147483579 + c2) * 48271 % 2147483647 = F1
  have b3 : 0 ≤ F1 := by rw [← hg1]; exact Int.emod_nonneg _ (by decide)
  have b4 : F1 < 2147483647 := by rw [← hg1]; exact Int.emod_lt_of_pos _ (by decide)
  generalize hg2 : (F1 * F1 + 69621 * s.turn + 29) % 2147483563 = F2
  have b5 : 0 ≤ F2 := by rw [← hg2]; exact Int.emod_nonneg _ (by decide)
  have b6 : F2 < 2147483563 := by rw [← hg2]; exact Int.emod_lt_of_pos _ (by decide)
  have s1 : (mAsg (mBin dMod (mBin dMulA (mApp dInt (mCons (mBin dAdd (mBin dMod (mApp dInt (mCons (mVar 2) mNil)) (mC (.int 2147483579))) (mC (.int c2))) mNil)) (mC (.int 48271))) (mC (.int 2147483647))) (gmName 2)) [.dk s, .d (.int many), .d (.int F), c] = some (.nx [.dk s, .d (.int many), .d (.int F1), c]) := by
    rw [ev_set (d := .int F1) (ev_bin (ev_bin (ev_app (ev_cons (ev_bin (ev_bin (ev_app (ev_cons (ev_var rfl) ev_nil) int_ok) ev_c (mod_ok (by decide))) ev_c add_ok) ev_nil) int_ok) ev_c (mul_ok (lg (by omega)) (lg (by decide)))) ev_c (by rw [mod_ok (by decide), hg1])) rfl]
    rfl
  have s2 : (mAsg (mBin dMod (mApp dInt (mCons (mBin dAdd (mBin dAdd (mBin dMulA (mVar 2) (mVar 2)) (mBin dMulA (mC (.int 69621)) (mDkGet 0 "turn"))) (mC (.int 29))) mNil)) (mC (.int 2147483563))) (gmName 2)) [.dk s, .d (.int many), .d (.int F1), c] = some (.nx [.dk s, .d (.int many), .d (.int F2), c]) := by
    rw [ev_set (d := .int F2) (ev_bin (ev_app (ev_cons (ev_bin (ev_bin (ev_bin (ev_var rfl) (ev_var rfl) (mul_ok (lg (by omega)) (lg (by omega)))) (ev_bin ev_c (ev_dkGet rfl (get_turn hd)) (mul_ok (lg (by decide)) (lg (by omega)))) add_ok) ev_c add_ok) ev_nil) int_ok) ev_c (by rw [mod_ok (by decide), hg2])) rfl]
    rfl
  refine ⟨F2 * 40692 % 2147483587 / 64 % many, [.d (.int many), .d (.int F2), c], Int.emod_nonneg _ (by omega), Int.emod_lt_of_pos _ hm, ?_⟩
  rw [ev_seq s1, ev_seq s2]
  exact ev_ret (ev_bin (ev_bin (ev_bin (ev_app (ev_cons (ev_bin (ev_var rfl) ev_c (mul_ok (lg (by omega)) (lg (by decide)))) ev_nil) int_ok) ev_c (mod_ok (by decide))) ev_c (fdiv_ok (by decide) (by decide))) (ev_var rfl) (mod_ok hm))
theorem draw_spec {c1 c2 many : Int} {s : Dk} {n : Nat} (hd : s.dr = false) (h1 : 0 ≤ c1 ∧ c1 < 2 ^ 40) (h2 : 0 ≤ c2 ∧ c2 < 2 ^ 40) (hm : 0 < many) (hm2 : many < 2 ^ 40) (hf : Fine s (n + 1)) :
    ∃ r s', runD 4 (drawA c1 c2) s [.int many] = some (.int r, s') ∧ 0 ≤ r ∧ r < many ∧ Drew s s' := by
  obtain ⟨k1, k2, k3, k4, k5⟩ := hf
  let s1 : Dk := { s with turn := s.turn + 1 }
  let F : Int := s.mixed + c1 * (s.turn + 1) * (s.turn + 1)
  have hd1 : s1.dr = false := hd
  have e1 : (mDkSet 0 "turn" (mBin dAdd (mDkGet 0 "turn") (mC (.int 1)))) [.dk s, .d (.int many), .no, .no] = some (.nx [.dk s1, .d (.int many), .no, .no]) :=
    ev_dkSet rfl (ev_bin (ev_dkGet rfl (get_turn hd)) ev_c add_ok) rfl (kt_turn hd)
  have hq : (c1 * (s.turn + 1)).natAbs < 2 ^ 200 := by
    have a1 : c1.natAbs < 2 ^ 40 := by omega
    have a2 : (s.turn + 1).natAbs < 2 ^ 42 := by omega
    rw [Int.natAbs_mul]
    exact Nat.lt_of_lt_of_le (Nat.mul_lt_mul'' a1 a2) (by decide)
  have e2 : (mAsg (mBin dAdd (mDkGet 0 "mixed") (mBin dMulA (mBin dMulA (mC (.int c1)) (mDkGet 0 "turn")) (mDkGet 0 "turn"))) (gmName 2)) [.dk s1, .d (.int many), .no, .no] = some (.nx [.dk s1, .d (.int many), .d (.int F), .no]) := by
    rw [ev_set (d := .int F) (ev_bin (ev_dkGet (s := s1) rfl get_mixed) (ev_bin (ev_bin ev_c (ev_dkGet rfl (get_turn hd1)) (mul_ok (lg (by omega)) (lg (by show (s.turn + 1).natAbs < _; omega)))) (ev_dkGet rfl (get_turn hd1)) (mul_ok (lg hq) (lg (by show (s.turn + 1).natAbs < _; omega)))) add_ok) rfl]
    rfl
  have fin : ∀ {r : Int} {s' : Dk} {ρ : List Cell}, drawA c1 c2 [.dk s, .d (.int many), .no, .no] = some (.rt (.int r) (.dk s' :: ρ)) → runD 4 (drawA c1 c2) s [.int many] = some (.int r, s') := fun h => ev_runD h
  by_cases hc : s.cells = []
  · have e3 : mDkHas 0 [.dk s1, .d (.int many), .d (.int F), .no] = some (false, [.dk s1, .d (.int many), .d (.int F), .no]) := by
      rw [ev_dkHas (s := s1) rfl]
      show some (!s.cells.isEmpty, _) = _
      rw [hc]; rfl
    obtain ⟨r, ρ, r0, r1, e4⟩ := draw_tail (c := .no) (F := F) hd1 h2 hm (by show 0 ≤ s.turn + 1; omega) (by show s.turn + 1 ≤ _; omega)
    refine ⟨r, s1, fin (ρ := ρ) ?_, r0, r1, Nat.le_refl _, rfl, rfl, rfl⟩
    unfold drawA
    rw [ev_seq e1, ev_seq e2, ev_seq ((ev_ifF e3).trans ev_skip)]
    exact e4
  · obtain ⟨x, hx⟩ : ∃ x, s.cells.getLast? = some x := by
      cases h : s.cells.getLast? with
      | none => exact absurd (List.getLast?_eq_none_iff.mp h) hc
      | some x => exact ⟨x, rfl⟩
    let s2 : Dk := { s1 with cells := s.cells.dropLast }
    have hl : s.cells.dropLast.length = s.cells.length - 1 := List.length_dropLast
    have hl2 : 0 < s.cells.length := List.length_pos_iff.mpr hc
    have e3 : mDkHas 0 [.dk s1, .d (.int many), .d (.int F), .no] = some (true, [.dk s1, .d (.int many), .d (.int F), .no]) := by
      rw [ev_dkHas (s := s1) rfl]
      show some (!s.cells.isEmpty, _) = _
      cases hs : s.cells with
      | nil => exact absurd hs hc
      | cons a l => rfl
    have e5 : (mAsg (mDkPop 0) (gmName 3)) [.dk s1, .d (.int many), .d (.int F), .no] = some (.nx [.dk s2, .d (.int many), .d (.int F), .d (.int x)]) := by
      rw [ev_set (ev_dkPop (s := s1) rfl hx) rfl]; rfl
    by_cases hb : (10 : Int) ^ 18 ≤ x
    · let s3 : Dk := { s2 with cells := s.cells.dropLast ++ [x / many] }
      have e6 : mTest (mBin dGe (mVar 3) (mBin dPow (mC (.int 10)) (mC (.int 18)))) [.dk s2, .d (.int many), .d (.int F), .d (.int x)] = some (true, [.dk s2, .d (.int many), .d (.int F), .d (.int x)]) :=
        ev_test (ev_bin (ev_var rfl) (ev_bin ev_c ev_c (d := .int ((10 : Int) ^ 18)) (by rfl)) (by rw [dGe_int, decide_eq_true hb]))
      have e7 : mDkPush 0 (mBin dFdiv (mVar 3) (mVar 1)) [.dk s2, .d (.int many), .d (.int F), .d (.int x)] = some (.nx [.dk s3, .d (.int many), .d (.int F), .d (.int x)]) :=
        ev_dkPush (s := s2) (k0 := s2) rfl (ev_bin (ev_var rfl) (ev_var rfl) (fdiv_ok hm (by omega))) rfl (by show s.cells.dropLast.length < sizeLine; exact Nat.lt_of_lt_of_le (show s.cells.dropLast.length < 64 by omega) (by decide))
      refine ⟨x % many, s3, fin (ρ := [.d (.int many), .d (.int F), .d (.int x)]) ?_, Int.emod_nonneg _ (by omega), Int.emod_lt_of_pos _ hm, by show (s.cells.dropLast ++ [x / many]).length ≤ _; rw [List.length_append, hl, List.length_singleton]; omega, rfl, rfl, rfl⟩
      unfold drawA
      rw [ev_seq e1, ev_seq e2]
      refine ev_seqR ?_
      rw [ev_ifT e3, ev_seq e5]
      refine ev_seqR ?_
      rw [ev_ifT e6, ev_seq e7]
      exact ev_ret (ev_bin (ev_app (ev_cons (ev_var rfl) ev_nil) int_ok) (ev_var rfl) (mod_ok hm))
    · have e6 : mTest (mBin dGe (mVar 3) (mBin dPow (mC (.int 10)) (mC (.int 18)))) [.dk s2, .d (.int many), .d (.int F), .d (.int x)] = some (false, [.dk s2, .d (.int many), .d (.int F), .d (.int x)]) :=
        ev_test (ev_bin (ev_var rfl) (ev_bin ev_c ev_c (d := .int ((10 : Int) ^ 18)) (by rfl)) (by rw [dGe_int, decide_eq_false hb]))
      have e7 : (mAsg (mBin dAdd (mVar 2) (mApp dInt (mCons (mVar 3) mNil))) (gmName 2)) [.dk s2, .d (.int many), .d (.int F), .d (.int x)] = some (.nx [.dk s2, .d (.int many), .d (.int (F + x)), .d (.int x)]) := by
        rw [ev_set (ev_bin (ev_var rfl) (ev_app (ev_cons (ev_var rfl) ev_nil) int_ok) add_ok) rfl]; rfl
      obtain ⟨r, ρ, r0, r1, e4⟩ := draw_tail (s := s2) (c := .d (.int x)) (F := F + x) hd h2 hm (by show 0 ≤ s.turn + 1; omega) (by show s.turn + 1 ≤ _; omega)
      refine ⟨r, s2, fin (ρ := ρ) ?_, r0, r1, by show s.cells.dropLast.length ≤ _; rw [hl]; omega, rfl, rfl, rfl⟩
      unfold drawA
      rw [ev_seq e1, ev_seq e2]
      have : mIfS (mDkHas 0) (mSeq (mAsg (mDkPop 0) (gmName 3)) (mSeq (mIfS (mTest (mBin dGe (mVar 3) (mBin dPow (mC (.int 10)) (mC (.int 18))))) (mSeq (mDkPush 0 (mBin dFdiv (mVar 3) (mVar 1))) (mRet (mBin dMod (mApp dInt (mCons (mVar 3) mNil)) (mVar 1)))) mSkip) (mAsg (mBin dAdd (mVar 2) (mApp dInt (mCons (mVar 3) mNil))) (gmName 2)))) mSkip [.dk s1, .d (.int many), .d (.int F), .no] = some (.nx [.dk s2, .d (.int many), .d (.int (F + x)), .d (.int x)]) := by
        rw [ev_ifT e3, ev_seq e5, ev_seq ((ev_ifF e6).trans ev_skip)]
        exact e7
      rw [ev_seq this]
      exact e4
end TL

namespace TL
open PySem L2

theorem glue_nil : ∀ (parts : List Str) (acc : Array Nat), (parts.foldl (fun acc p => acc ++ (Tx []).cps ++ p.cps) acc).toList = acc.toList ++ (parts.map (·.cps.toList)).flatten
  | [], acc => by simp
  | p :: ps, acc => by
    rw [List.foldl_cons, glue_nil ps, List.map_cons, List.flatten_cons, Array.toList_append, Array.toList_append, Tx_cps, List.append_nil, List.append_assoc]
theorem join_cat (parts : List Str) : Txt.join (Tx []) parts = Tx (parts.map (·.cps.toList)).flatten := by
  refine PySem.W.str_of_cps ?_
  rw [Tx_cps]
  unfold Txt.join Builtin.Str.glued
  show ((parts.drop 1).foldl (fun acc p => acc ++ (Tx []).cps ++ p.cps) (parts.headD Str.empty).cps).toList = _
  rw [glue_nil]
  cases parts with
  | nil => rfl
  | cons p ps => rfl
theorem empty_Tx : ("" : Str) = Tx [] := rfl
theorem join_signs (p : List Nat) (h : p.length ≤ 100000) : dJoin (.str "") (.lst (p.map fun c => .str (Tx [c]))) = some (.str (Tx p)) := by
  have e : Txt.join (Tx []) (p.map fun c => Tx [c]) = Tx p := by
    rw [join_cat, List.map_map]
    congr 1
    induction p with
    | nil => rfl
    | cons a p ih => rw [List.map_cons, List.flatten_cons, ih (by rw [List.length_cons] at h; omega)]; rfl
  have l : ((p.map fun c => Tx [c]).map (·.length)).sum = p.length := by
    clear e h
    induction p with
    | nil => rfl
    | cons a p ih => rw [List.map_cons, List.map_cons, List.sum_cons, ih, List.length_cons, Tx_len]; simp only [List.length_singleton]; omega
  rw [empty_Tx]
  simp only [dJoin]
  rw [asStrs_mapf, Option.bind_some, l, e, if_pos (by rw [Tx_len]; simp only [List.length_nil, Nat.mul_zero]; omega)]
/-- a draw function -/
def Draws (fd : Dk → List D → Option (D × Dk)) (dr : Bool) : Prop := ∀ (s : Dk) (n : Nat) (many : Int), s.dr = dr → Fine s (n + 1) → 0 < many → many < 2 ^ 40 → ∃ r s', fd s [.int many] = some (.int r, s') ∧ 0 ≤ r ∧ r < many ∧ Drew s s'
noncomputable def pickM (fd : Dk → List D → Option (D × Dk)) : MS := (mRet (mBin dItemA (mVar 1) (mCallD 0 fd (mCons (mApp dLen (mCons (mVar 1) mNil)) mNil))))
theorem item_nat {ds : List D} {r : Int} (h0 : 0 ≤ r) (h1 : r < ds.length) : ∃ d, dItemA (.lst ds) (.int r) = some d ∧ ds[r.toNat]? = some d := by
  have hl : r.toNat < ds.length := by omega
  have e : ((r.toNat : Nat) : Int) = r := Int.toNat_of_nonneg h0
  have := atI_nat (xs := ds) (j := r.toNat) (v := ds[r.toNat]) (List.getElem?_eq_getElem hl)
  rw [e] at this
  exact ⟨_, this, List.getElem?_eq_getElem hl⟩
theorem pick_spec {fd : Dk → List D → Option (D × Dk)} {dr : Bool} (hf : Draws fd dr) {s : Dk} {n : Nat} {ds : List D} (hd : s.dr = dr) (h : Fine s (n + 1)) (h0 : ds ≠ []) (h1 : ds.length < 2 ^ 40) : ∃ d s', runD 2 (pickM fd) s [.lst ds] = some (d, s') ∧ d ∈ ds ∧ Drew s s' := by
  have hl : 0 < ds.length := List.length_pos_iff.mpr h0
  obtain ⟨r, s', e, r0, r1, hs⟩ := hf s n ds.length hd h (by omega) (by omega)
  obtain ⟨d, e2, e3⟩ := item_nat r0 r1
  refine ⟨d, s', ev_runD (ρ := [.d (.lst ds)]) (ev_ret (ev_bin (ev_var rfl) (ev_callD (k0 := s) rfl (ev_cons (ev_app (ev_cons (ev_var rfl) ev_nil) rfl) ev_nil) rfl e) e2)), List.mem_of_getElem? e3, hs⟩
theorem pick_str {fd : Dk → List D → Option (D × Dk)} {dr : Bool} (hf : Draws fd dr) {s : Dk} {n : Nat} {l : List Nat} (hd : s.dr = dr) (h : Fine s (n + 1)) (h0 : l ≠ []) (h1 : l.length ≤ 100000) : ∃ c s', runD 2 (pickM fd) s [.str (Tx l)] = some (.str (Tx [c]), s') ∧ c ∈ l ∧ Drew s s' := by
  have hl : 0 < l.length := List.length_pos_iff.mpr h0
  have hz : l.length ≤ sizeLine := Nat.le_trans h1 (by decide)
  obtain ⟨r, s', e, r0, r1, hs⟩ := hf s n l.length hd h (by omega) (by omega)
  have hr : r.toNat < l.length := by omega
  have er : ((r.toNat : Nat) : Int) = r := Int.toNat_of_nonneg r0
  have := atI_nat (xs := l) (j := r.toNat) (v := l[r.toNat]) (List.getElem?_eq_getElem hr)
  rw [er] at this
  have e2 : dItemA (.str (Tx l)) (.int r) = some (.str (Tx [l[r.toNat]])) := by
    show (if (Tx l).length ≤ sizeLine then (atI (Tx l).cps.toList r).map (fun c => D.str ⟨#[c]⟩) else none) = _
    rw [if_pos (by rw [Tx_len]; exact hz), Tx_cps, this]; rfl
  have e3 : dLen [.str (Tx l)] = some (.int l.length) := if_pos hz
  exact ⟨_, s', ev_runD (ρ := [.d (.str (Tx l))]) (ev_ret (ev_bin (ev_var rfl) (ev_callD (k0 := s) rfl (ev_cons (ev_app (ev_cons (ev_var rfl) ev_nil) e3) ev_nil) rfl e) e2)), List.getElem_mem hr, hs⟩
/-- what is drawn sign by sign -/
theorem texts_of {l : List Nat} : ∀ {out : List D}, (∀ x ∈ out, ∃ c ∈ l, x = .str (Tx [c])) → ∃ p : List Nat, out = p.map (fun c => .str (Tx [c])) ∧ ∀ c ∈ p, c ∈ l
  | [], _ => ⟨[], rfl, fun c h => by cases h⟩
  | x :: out, h => by
    obtain ⟨p, rfl, hp⟩ := texts_of fun y hy => h y (List.mem_cons_of_mem _ hy)
    obtain ⟨c, hc, rfl⟩ := h x List.mem_cons_self
    exact ⟨c :: p, rfl, fun d hd => (List.mem_cons.mp hd).elim (fun e => e ▸ hc) (hp d)⟩
noncomputable def pageM (fd fp : Dk → List D → Option (D × Dk)) : MS := (mRet (mBin dJoin (mC (.str "")) (mLc (mRange (mCons (mCallD 0 fd (mCons (mBin dAdd (mVar 2) (mC (.int 1))) mNil)) mNil)) (gmName 3) mYes (mCallD 0 fp (mCons (mVar 1) mNil)) [3])))
/-- behind k draws or fewer -/
structure After (s s' : Dk) (n : Nat) : Prop where
  fine : Fine s' n
  dr : s'.dr = s.dr
theorem page_spec {fd : Dk → List D → Option (D × Dk)} {dr : Bool} (hf : Draws fd dr) {s : Dk} {n most : Nat} {l : List Nat} (hd : s.dr = dr) (h : Fine s (n + most + 2)) (h0 : l ≠ []) (h1 : l.length ≤ 100000) (hm : most ≤ 1000) :
    ∃ p s', runD 4 (pageM fd (runD 2 (pickM fd))) s [.str (Tx l), .int most] = some (.str (Tx p), s') ∧ (∀ c ∈ p, c ∈ l) ∧ p.length ≤ most ∧ Fine s' n ∧ s'.dr = dr := by
  obtain ⟨r, s1, e, r0, r1, hs⟩ := hf s (n + most + 1) (most + 1) hd h (by omega) (by omega)
  have f1 : Fine s1 (n + most + 1) := hs.fine h
  have hd1 : s1.dr = dr := hs.dr.trans hd
  have hrange : dRange [.int r] = some ((List.range r.toNat).map fun i : Nat => .int (0 + (i : Int))) := by
    show (if _ then _ else _) = _
    rw [if_pos (by omega)]; rfl
  obtain ⟨out, ρ', g1, g2, g3, g4⟩ := lcGo_inv (f := gmName 3) (mt := mYes) (me := mCallD 0 (runD 2 (pickM fd)) (mCons (mVar 1) mNil)) (vs := [3]) (fun k ρ => ∃ s', ρ = [.dk s', .d (.str (Tx l)), .d (.int most), .no] ∧ k ≤ r.toNat ∧ Fine s' (n + (r.toNat - k)) ∧ s'.dr = dr) (fun x => ∃ c ∈ l, x = .str (Tx [c]))
    ((List.range r.toNat).map fun i : Nat => .int (0 + (i : Int))) 0 [.dk s1, .d (.str (Tx l)), .d (.int most), .no] ⟨s1, rfl, Nat.zero_le _, f1.le (by omega), hd1⟩ (fun i d hi ρ hI => by
      obtain ⟨s2, rfl, hk, f2, hd2⟩ := hI
      have hi := (List.getElem?_eq_some_iff.mp hi).1
      simp only [List.length_map, List.length_range] at hi
      obtain ⟨c, s3, e3, hc, hs3⟩ := pick_str hf (s := s2) (n := n + (r.toNat - (i + 1))) (l := l) hd2 (f2.le (by omega)) h0 h1
      refine ⟨[.dk s2, .d (.str (Tx l)), .d (.int most), .d d], true, _, rfl, rfl, fun z => (by cases z), fun _ => ⟨.str (Tx [c]), [.dk s3, .d (.str (Tx l)), .d (.int most), .d d], ev_callD (k0 := s2) rfl (ev_cons (ev_var rfl) ev_nil) rfl e3, ⟨c, hc, rfl⟩, s3, rfl, by omega, (hs3.fine (n := n + (r.toNat - (i + 1))) (f2.le (by omega))).le (by omega), hs3.dr.trans hd2⟩⟩)
  obtain ⟨s2, rfl, _, f2, hd2⟩ := g2
  obtain ⟨p, rfl, hp⟩ := texts_of g3
  simp only [List.length_map, List.length_range] at g4
  have hpl : p.length ≤ most := by omega
  refine ⟨p, s2, ev_runD (ρ := [.d (.str (Tx l)), .d (.int most), .no]) (ev_ret (ev_bin ev_c (ev_lc (ρ1 := [.dk s1, .d (.str (Tx l)), .d (.int most), .no]) (ev_range (ev_cons (ev_callD (k0 := s) rfl (ev_cons (ev_bin (ev_var rfl) ev_c add_ok) ev_nil) rfl e) ev_nil) hrange) rfl g1 ?_) (join_signs p (by omega)))), hp, hpl, f2.le (by omega), hd2⟩
  rw [List.length_map]
  exact Nat.le_trans hpl (Nat.le_trans hm (by decide))
end TL

namespace TL
open PySem L2

theorem lc2Go_map {α β : Type} {f f1 : MG} {mt mt1 : MT} {mi1 : MI} {me : ME} {vs vs1 : List Nat} {ρ : List Cell} (emb : α → D) (emb1 : β → D) (inn : α → List β) (e : α → β → D) (l : List α)
    (h : ∀ a ∈ l, ∃ ρ1, f (emb a) ρ = some ρ1 ∧ mt ρ1 = some (true, ρ1) ∧ mi1 ρ1 = some ((inn a).map emb1, ρ1) ∧ lcGo f1 mt1 me vs1 ((inn a).map emb1) (wipeC ρ1 vs1) = some ((inn a).map (e a), wipeC ρ1 vs1) ∧ wipeC (wipeC ρ1 vs1) vs = ρ) :
    lc2Go f mt mi1 f1 mt1 me vs vs1 (l.map emb) ρ = some (l.flatMap fun a => (inn a).map (e a), ρ) := by
  induction l with
  | nil => rfl
  | cons a l ih =>
    obtain ⟨ρ1, h1, h2, h3, h4, h5⟩ := h a List.mem_cons_self
    have ih := ih fun x hx => h x (List.mem_cons_of_mem _ hx)
    simp only [List.map_cons, lc2Go, h1, h2, h3, h4, h5, ih, Option.bind_some, if_true, Option.map_some, List.flatMap_cons]
section
variable {ρ ρ1 ρ2 : List Cell} {ds es : List D} {me : ME}
theorem ev_lc2 {mi mi1 : MI} {f f1 : MG} {mt mt1 : MT} {vs vs1 : List Nat} (h1 : mi ρ = some (ds, ρ1)) (h2 : plainC ρ1 vs = true) (h3 : lc2Go f mt mi1 f1 mt1 me vs vs1 ds (wipeC ρ1 vs) = some (es, ρ2)) (h4 : es.length ≤ sizeLine) : mLc2 mi f mt mi1 f1 mt1 me vs vs1 ρ = some (.lst es, backC ρ1 ρ2 vs) := by
  simp only [mLc2, h1, h3, Option.bind_some, if_pos h2, if_pos h4]
theorem ev_own {i : Nat} {m : MN} (h1 : m ρ = some (ds, ρ1)) (h2 : plainAt ρ1 i = true) : mOwn i m ρ = some (.nx (ρ1.set i (.ol ds))) := by
  simp only [mOwn, h1, Option.bind_some, if_pos h2]
theorem ev_ext {i : Nat} {ds0 ds1 : List D} (h0 : ρ[i]? = some (.ol ds0)) (h1 : me ρ = some (.lst es, ρ1)) (h2 : ρ1[i]? = some (.ol ds1)) (h3 : ds1.length + es.length ≤ sizeLine) : mExt i me ρ = some (.nx (ρ1.set i (.ol (ds1 ++ es)))) := by
  simp only [mExt, h0, h1, h2, Option.bind_some, if_pos h3]
theorem ev_frz {i : Nat} (h0 : ρ[i]? = some (.ol ds)) : mFrz i ρ = some (.nx (ρ.set i (.d (.lst ds)))) := by
  simp only [mFrz, h0]
end
/-- all texts of k letters of l -/
def lv (l : List Nat) : Nat → List (List Nat)
  | 0 => [[]]
  | k + 1 => (lv l k).flatMap fun p => l.map fun c => p ++ [c]
def lvs (l : List Nat) (k : Nat) : List (List Nat) := (List.range (k + 1)).flatMap (lv l)
theorem flat_len {α β : Type} {n : Nat} (f : α → List β) : ∀ xs : List α, (∀ x ∈ xs, (f x).length = n) → (xs.flatMap f).length = xs.length * n
  | [], _ => by simp
  | x :: xs, h => by
    rw [List.flatMap_cons, List.length_append, flat_len f xs fun y hy => h y (List.mem_cons_of_mem _ hy), h x List.mem_cons_self, List.length_cons, Nat.succ_mul, Nat.add_comm]
theorem lv_len (l : List Nat) : ∀ k, (lv l k).length = l.length ^ k
  | 0 => rfl
  | k + 1 => by
    rw [lv, flat_len (n := l.length) _ _ fun p _ => by rw [List.length_map], lv_len l k, Nat.pow_succ]
theorem lvs_succ (l : List Nat) (k : Nat) : lvs l (k + 1) = lvs l k ++ lv l (k + 1) := by
  unfold lvs
  rw [List.range_succ, List.flatMap_append]
  simp
theorem lv_size (l : List Nat) : ∀ k, ∀ p ∈ lv l k, p.length = k
  | 0, p, h => by rw [lv, List.mem_singleton] at h; rw [h]; rfl
  | k + 1, p, h => by
    rw [lv, List.mem_flatMap] at h
    obtain ⟨q, hq, h⟩ := h
    obtain ⟨c, _, rfl⟩ := List.mem_map.mp h
    rw [List.length_append, lv_size l k q hq]; rfl
abbrev tx (p : List Nat) : D := .str (Tx p)
theorem add_Tx {a b : List Nat} (h : a.length + b.length ≤ 100000) : dAdd (tx a) (tx b) = some (tx (a ++ b)) := by
  show (if (Tx a).length + (Tx b).length ≤ sizeLine then some (D.str (Tx a ++ Tx b)) else none) = _
  rw [if_pos (by rw [Tx_len, Tx_len]; exact Nat.le_trans h (by decide)), Tx_app]
theorem add_lst {a b : List D} (h : a.length + b.length ≤ sizeLine) : dAdd (.lst a) (.lst b) = some (.lst (a ++ b)) := if_pos h
theorem range_n (n : Nat) (h : n ≤ 100000) : dRange [.int (n : Int)] = some ((List.range n).map fun i : Nat => .int (0 + (i : Int))) := by
  have e : ((n : Int)).toNat = n := by omega
  simp only [dRange, e]
  rw [if_pos (by omega)]; rfl
/-! ### the law's own pages -/
noncomputable def pagesM : MS := (mSeq (mPar 2 3 (mCons (mApp dLst (mCons (mC (.str "")) mNil)) (mCons (mApp dLst (mCons (mC (.str "")) mNil)) mNil))) (mSeq (mFor (mRange (mCons (mVar 1) mNil)) (gmName 4) (mSeq (mOwn 5 (mNLst mNil)) (mSeq (mFor (mItems (mVar 3)) (gmName 6) (mExt 5 (mLc (mItems (mVar 0)) (gmName 7) mYes (mBin dAdd (mVar 6) (mVar 7)) [7]))) (mSeq (mFrz 5) (mPar 2 3 (mCons (mBin dAdd (mVar 2) (mVar 5)) (mCons (mVar 5) mNil))))))) (mRet (mVar 2))))
theorem pages_spec {l : List Nat} {most : Nat} (hl : l.length ≤ 1000) (hm : most ≤ 1000) (hs : ∀ j, j ≤ most → (lvs l j).length ≤ 100000) : runP 8 pagesM [.str (Tx l), .int most] = some (.lst ((lvs l most).map tx)) := by
  have big : (100000 : Nat) ≤ sizeLine := by decide
  have hrange := range_n most (by omega)
  have s1 : (mPar 2 3 (mCons (mApp dLst (mCons (mC (.str "")) mNil)) (mCons (mApp dLst (mCons (mC (.str "")) mNil)) mNil))) [.d (tx l), .d (.int most), .no, .no, .no, .no, .no, .no] = some (.nx [.d (tx l), .d (.int most), .d (.lst ((lvs l 0).map tx)), .d (.lst ((lv l 0).map tx)), .no, .no, .no, .no]) := by
    rw [ev_par (ev_cons (ev_app (ev_cons ev_c ev_nil) rfl) (ev_cons (ev_app (ev_cons ev_c ev_nil) rfl) ev_nil)) rfl rfl]
    rfl
  obtain ⟨ρ', g1, g2⟩ := forGo_inv (f := gmName 4) (body := (mSeq (mOwn 5 (mNLst mNil)) (mSeq (mFor (mItems (mVar 3)) (gmName 6) (mExt 5 (mLc (mItems (mVar 0)) (gmName 7) mYes (mBin dAdd (mVar 6) (mVar 7)) [7]))) (mSeq (mFrz 5) (mPar 2 3 (mCons (mBin dAdd (mVar 2) (mVar 5)) (mCons (mVar 5) mNil)))))))
    (fun j ρ => ∃ c4 c5 c6, isP c4 = true ∧ isP c5 = true ∧ isP c6 = true ∧ j ≤ most ∧ ρ = [.d (tx l), .d (.int most), .d (.lst ((lvs l j).map tx)), .d (.lst ((lv l j).map tx)), c4, c5, c6, .no])
    ((List.range most).map fun i : Nat => .int (0 + (i : Int))) 0 _ ⟨.no, .no, .no, rfl, rfl, rfl, Nat.zero_le _, rfl⟩ (fun j d hj ρ hI => by
      rw [Nat.zero_add] at hI ⊢
      obtain ⟨c4, c5, c6, p4, p5, p6, _, rfl⟩ := hI
      have hj := (List.getElem?_eq_some_iff.mp hj).1
      simp only [List.length_map, List.length_range] at hj
      have hsz := hs (j + 1) hj
      rw [lvs_succ, List.length_append] at hsz
      let R : List D → Cell → List Cell := fun acc c => [.d (tx l), .d (.int most), .d (.lst ((lvs l j).map tx)), .d (.lst ((lv l j).map tx)), .d d, .ol acc, c, .no]
      have t1 : mOwn 5 (mNLst mNil) [.d (tx l), .d (.int most), .d (.lst ((lvs l j).map tx)), .d (.lst ((lv l j).map tx)), .d d, c5, c6, .no] = some (.nx (R [] c6)) := by
        rw [ev_own (ds := []) (ρ1 := [.d (tx l), .d (.int most), .d (.lst ((lvs l j).map tx)), .d (.lst ((lv l j).map tx)), .d d, c5, c6, .no]) rfl (by rw [plainAt_eq]; exact p5)]
        rfl
      obtain ⟨ρ2, q1, q2⟩ := forGo_inv (f := gmName 6) (body := (mExt 5 (mLc (mItems (mVar 0)) (gmName 7) mYes (mBin dAdd (mVar 6) (mVar 7)) [7])))
        (fun i ρ => ∃ c, isP c = true ∧ i ≤ (lv l j).length ∧ ρ = R ((((lv l j).take i).flatMap fun p => l.map fun c => p ++ [c]).map tx) c) ((lv l j).map tx) 0 (R [] c6) ⟨c6, p6, Nat.zero_le _, rfl⟩ (fun i x hi ρ hI => by
          rw [Nat.zero_add] at hI ⊢
          obtain ⟨c, pc, _, rfl⟩ := hI
          have hi' := (List.getElem?_eq_some_iff.mp hi).1
          rw [List.length_map] at hi'
          rw [List.getElem?_map, List.getElem?_eq_getElem hi'] at hi
          cases hi
          generalize hp : (lv l j)[i] = p
          have hpm : p ∈ lv l j := hp ▸ List.getElem_mem hi'
          have hpl : p.length = j := lv_size l j p hpm
          have lc := lcGo_mapT (f := gmName 7) (mt := mYes) (me := mBin dAdd (mVar 6) (mVar 7)) (vs := [7]) (ρ := R ((((lv l j).take i).flatMap fun p => l.map fun c => p ++ [c]).map tx) (.d (tx p))) (fun c => tx [c]) (fun c => tx (p ++ [c])) l (fun c hc =>
            ⟨(R ((((lv l j).take i).flatMap fun p => l.map fun c => p ++ [c]).map tx) (.d (tx p))).set 7 (.d (tx [c])), rfl, rfl, ev_bin (ev_var rfl) (ev_var rfl) (add_Tx (by rw [hpl]; simp only [List.length_singleton]; omega)), rfl⟩)
          have lc2 : mLc (mItems (mVar 0)) (gmName 7) mYes (mBin dAdd (mVar 6) (mVar 7)) [7] (R ((((lv l j).take i).flatMap fun p => l.map fun c => p ++ [c]).map tx) (.d (tx p))) = some (.lst (l.map fun c => tx (p ++ [c])), R ((((lv l j).take i).flatMap fun p => l.map fun c => p ++ [c]).map tx) (.d (tx p))) :=
            ev_lc (ρ1 := R ((((lv l j).take i).flatMap fun p => l.map fun c => p ++ [c]).map tx) (.d (tx p))) (ρ2 := R ((((lv l j).take i).flatMap fun p => l.map fun c => p ++ [c]).map tx) (.d (tx p))) (vs := [7]) (ds := l.map fun c => tx [c]) (es := l.map fun c => tx (p ++ [c])) (ev_items (a := tx l) (ev_var rfl) rfl) rfl lc (by rw [List.length_map]; omega)
          have hlen : (((lv l j).take i).flatMap fun p => l.map fun c => p ++ [c]).length + l.length ≤ sizeLine := by
            rw [flat_len (n := l.length) _ _ fun p _ => by rw [List.length_map], List.length_take, Nat.min_eq_left (Nat.le_of_lt hi'), ← Nat.succ_mul]
            change (i + 1) * l.length ≤ sizeLine
            have h1 : (i + 1) * l.length ≤ (lv l j).length * l.length := Nat.mul_le_mul_right _ hi'
            have h2 : (lv l (j + 1)).length = (lv l j).length * l.length := by rw [lv, flat_len (n := l.length) _ _ fun p _ => by rw [List.length_map]]
            omega
          refine ⟨R ((((lv l j).take i).flatMap fun p => l.map fun c => p ++ [c]).map tx) (.d (tx p)), R ((((lv l j).take (i + 1)).flatMap fun p => l.map fun c => p ++ [c]).map tx) (.d (tx p)), ?_, ?_, .d (tx p), rfl, hi', rfl⟩
          · show gmName 6 (tx p) (R _ c) = _
            unfold gmName
            rw [if_pos (by rw [plainAt_eq]; exact pc)]; rfl
          · rw [ev_ext rfl lc2 rfl (by rw [List.length_map, List.length_map]; exact hlen)]
            rw [List.take_add_one, List.getElem?_eq_getElem hi', hp, List.flatMap_append, List.map_append]
            simp only [Option.toList_some, List.flatMap_cons, List.flatMap_nil, List.append_nil, List.map_map]
            rfl)
      obtain ⟨c, pc, _, rfl⟩ := q2
      rw [Nat.zero_add, List.length_map, List.take_length] at q1
      have t2 : mFor (mItems (mVar 3)) (gmName 6) (mExt 5 (mLc (mItems (mVar 0)) (gmName 7) mYes (mBin dAdd (mVar 6) (mVar 7)) [7])) (R [] c6) = some (.nx (R ((lv l (j + 1)).map tx) c)) := ev_for (ev_items (ev_var rfl) rfl) q1
      refine ⟨[.d (tx l), .d (.int most), .d (.lst ((lvs l j).map tx)), .d (.lst ((lv l j).map tx)), .d d, c5, c6, .no], [.d (tx l), .d (.int most), .d (.lst ((lvs l (j + 1)).map tx)), .d (.lst ((lv l (j + 1)).map tx)), .d d, .d (.lst ((lv l (j + 1)).map tx)), c, .no], ?_, ?_, .d d, _, c, rfl, rfl, pc, hj, rfl⟩
      · unfold gmName
        rw [if_pos (by rw [plainAt_eq]; exact p4)]; rfl
      · rw [ev_seq t1, ev_seq t2, ev_seq (ev_frz rfl)]
        rw [ev_par (ev_cons (ev_bin (ev_var rfl) (ev_var rfl) (add_lst (by rw [List.length_map, List.length_map]; omega))) (ev_cons (ev_var rfl) ev_nil)) rfl rfl]
        rw [lvs_succ, List.map_append]
        rfl)
  obtain ⟨c4, c5, c6, _, _, _, _, rfl⟩ := g2
  rw [Nat.zero_add, List.length_map, List.length_range] at g1
  have h : ∃ ρ, pagesM [.d (tx l), .d (.int most), .no, .no, .no, .no, .no, .no] = some (.rt (.lst ((lvs l most).map tx)) ρ) := by
    unfold pagesM
    rw [ev_seq s1, ev_seq (ev_for (ev_range (ev_cons (ev_var rfl) ev_nil) hrange) g1)]
    exact ⟨_, ev_ret (ev_var rfl)⟩
  obtain ⟨ρ, h⟩ := h
  exact ev_runP h
end TL

namespace TL
open PySem L2

/-! ### what repr shows is not too long -/
/-- shown in n signs at most, nested k deep at most -/
def Shw (d : D) (k n : Nat) : Prop := ∃ p, d.py = some p ∧ p.showable = true ∧ p.hasDict = false ∧ p.depth ≤ k ∧ p.shown.length ≤ n
theorem Shw.le {d : D} {k n k' n' : Nat} (h : Shw d k n) (a : k ≤ k') (b : n ≤ n') : Shw d k' n' := by
  obtain ⟨p, h1, h2, h3, h4, h5⟩ := h
  exact ⟨p, h1, h2, h3, Nat.le_trans h4 a, Nat.le_trans h5 b⟩
theorem Shw.repr {d : D} {k n : Nat} (h : Shw d k n) (a : k ≤ 60) (b : n ≤ 10000000) : ∃ t, dRepr [d] = some (.str t) := by
  obtain ⟨p, h1, h2, h3, h4, h5⟩ := h
  have hs : shows d p = true := by
    unfold shows
    simp only [h2, h3, Bool.true_and, Bool.and_eq_true, decide_eq_true_eq, Bool.not_false, Bool.true_or, and_true]
    exact ⟨Nat.le_trans h5 (Nat.le_trans b (by decide)), by omega⟩
  refine ⟨p.shown, ?_⟩
  show (d.py.bind fun p => if shows d p = true then some (D.str p.shown) else none) = _
  rw [h1, Option.bind_some, if_pos hs]
theorem shw_str {l : List Nat} (h : ∀ c ∈ l, c < 1114112) : Shw (tx l) 0 (10 * l.length + 2) :=
  ⟨_, rfl, rfl, rfl, Nat.le_refl _, by
    show (PyData.shown (.str (Tx l))).length ≤ _
    simp only [PyData.shown]
    have := PySem.StrLaws.reprText_len (Tx l) (fun c hc => Nat.lt_of_lt_of_le (h c hc) (by decide))
    rw [Tx_len] at this
    exact this⟩
theorem shw_bl (b : Bool) : Shw (.bl b) 0 5 := ⟨_, rfl, rfl, rfl, Nat.le_refl _, by cases b <;> decide⟩
theorem shw_non : Shw .non 0 4 := ⟨_, rfl, rfl, rfl, Nat.le_refl _, by decide⟩
theorem textFrom_le : ∀ (ts : List Str) (k : Nat) (acc : Str), (PySem.textFrom k acc ts).length ≤ acc.length + (ts.map fun t => t.length + 2).sum
  | [], k, acc => by simp [PySem.textFrom]
  | t :: ts, k, acc => by
    have ih := textFrom_le ts (k + 1) (acc ++ (if k > 0 then ", " else "" : String) ++ t)
    rw [PySem.textFrom]
    rw [PySem.strLen_append, PySem.strLen_append] at ih
    rw [List.map_cons, List.sum_cons]
    have : ((if k > 0 then ", " else "" : String) : Str).length ≤ 2 := by split <;> decide
    omega
theorem sum_le {n : Nat} : ∀ (ts : List Str), (∀ t ∈ ts, t.length ≤ n) → (ts.map fun t => t.length + 2).sum ≤ ts.length * (n + 2)
  | [], _ => by simp
  | t :: ts, h => by
    have ih := sum_le ts fun x hx => h x (List.mem_cons_of_mem _ hx)
    have := h t List.mem_cons_self
    rw [List.map_cons, List.sum_cons, List.length_cons, Nat.succ_mul]
    omega
theorem shw_all {k n : Nat} : ∀ {ds : List D}, (∀ d ∈ ds, Shw d k n) → ∃ ps, D.pys ds = some ps ∧ PyData.showableAll ps = true ∧ PyData.hasDictAll ps = false ∧ PyData.depthAll ps ≤ k ∧ (∀ t ∈ PyData.shownAll ps, t.length ≤ n) ∧ (PyData.shownAll ps).length = ds.length
  | [], _ => ⟨[], rfl, rfl, rfl, Nat.zero_le _, (fun t h => by cases h), rfl⟩
  | d :: ds, h => by
    obtain ⟨p, h1, h2, h3, h4, h5⟩ := h d List.mem_cons_self
    obtain ⟨ps, g1, g2, g3, g4, g5, g6⟩ := shw_all fun x hx => h x (List.mem_cons_of_mem _ hx)
    refine ⟨p :: ps, ?_, ?_, ?_, ?_, ?_, ?_⟩
    · simp only [D.pys, h1, g1, Option.bind_some, Option.map_some]
    · simp only [PyData.showableAll, h2, g2, Bool.and_self]
    · simp only [PyData.hasDictAll, h3, g3, Bool.or_self]
    · simp only [PyData.depthAll]; omega
    · intro t ht
      simp only [PyData.shownAll] at ht
      rcases List.mem_cons.mp ht with rfl | ht
      · exact h5
      · exact g5 t ht
    · simp only [PyData.shownAll, List.length_cons, g6]
theorem shw_lst {k n : Nat} {ds : List D} (h : ∀ d ∈ ds, Shw d k n) : Shw (.lst ds) (k + 1) (ds.length * (n + 2) + 2) := by
  obtain ⟨ps, g1, g2, g3, g4, g5, g6⟩ := shw_all h
  refine ⟨.list ps, ?_, ?_, ?_, ?_, ?_⟩
  · simp only [D.py, g1, Option.map_some]
  · simp only [PyData.showable, g2]
  · simp only [PyData.hasDict, g3]
  · simp only [PyData.depth]; omega
  · simp only [PyData.shown, PySem.listText]
    rw [PySem.strLen_append]
    have a := textFrom_le (PyData.shownAll ps) 0 "["
    have b := sum_le _ g5
    rw [g6] at b
    have c1 : ("[" : Str).length = 1 := by decide
    have c2 : ("]" : Str).length = 1 := by decide
    rw [c1] at a
    rw [c2]
    omega
theorem shw_tup {k n : Nat} {ds : List D} (h : ∀ d ∈ ds, Shw d k n) : Shw (.tup ds) (k + 1) (ds.length * (n + 2) + 3) := by
  obtain ⟨ps, g1, g2, g3, g4, g5, g6⟩ := shw_all h
  refine ⟨.tuple ps, ?_, ?_, ?_, ?_, ?_⟩
  · simp only [D.py, g1, Option.map_some]
  · simp only [PyData.showable, g2]
  · simp only [PyData.hasDict, g3]
  · simp only [PyData.depth]; omega
  · simp only [PyData.shown, PySem.tupleText]
    rw [PySem.strLen_append, PySem.strLen_append]
    have b := sum_le _ g5
    rw [g6] at b
    have c1 : ("(" : Str).length = 1 := by decide
    have c2 : ((if ((PyData.shownAll ps).length == 1) = true then ",)" else ")" : String) : Str).length ≤ 2 := by split <;> decide
    have c3 : (Str.join ", " (PyData.shownAll ps)).length ≤ ((PyData.shownAll ps).map fun t => t.length + 2).sum := by
      by_cases e : PyData.shownAll ps = []
      · rw [e]; exact Nat.zero_le _
      · have := PySem.join_length_add _ e
        have e2 : PySem.piled (PyData.shownAll ps) = ((PyData.shownAll ps).map fun t => t.length + 2).sum := rfl
        omega
    rw [c1]
    omega
theorem dNe_same (t : Str) : dNe (.str t) (.str t) = some (.bl false) := by rw [dNe_str, str_beq_self]; rfl
theorem ev_callQ {ρ ρ1 ρ2 : List Cell} {ds es xs : List D} {d : D} {mr mk : MA} {f : List D → Option D} {pm : List Nat} (h1 : mr ρ = some (ds, ρ1)) (h2 : mk ρ1 = some (es, ρ2)) (hx : (pm.map fun i => (ds ++ es).getD i .non) = xs) (h3 : f xs = some d) : mCallP f pm mr mk ρ = some (d, ρ2) :=
  ev_callP h1 h2 (by rw [hx]; exact h3)
end TL

namespace Lk01
open PySem L2 TL
set_option maxHeartbeats 4000000
def top (i : Nat) : Stmt := PySem.Challenge.pw_tallyhouse_k01_digits_tickets_and_rolls.main.body.getD i (.Pass ⟨0, 0, 0, 0⟩)
structure Txt (mg : Str → Option Value) : Prop where
  g_all : mg "all" = none
  g_int : mg "int" = none
  g_isinstance : mg "isinstance" = none
  g_len : mg "len" = none
  g_list : mg "list" = none
  g_range : mg "range" = none
  g_repr : mg "repr" = none
  g_str : mg "str" = none
  g_tuple : mg "tuple" = none
  g_zip : mg "zip" = none
section
variable {P : Program} {w : World} {K : PySem.W.Frag} {mg : Str → Option Value} {base : Heap}
/-! is_ascending -/
noncomputable def m_is_ascending : MS := (mRet (mApp dAll (mCons (mLc (mZip (mCons (mVar 0) (mCons (mSlice (mVar 0) (mPart (mC (.int 1))) mNoPart) mNil))) (gmTup (gmCons (gmName 1) (gmCons (gmName 2) gmNil)) 2) mYes (mBin dLt (mVar 1) (mVar 2)) [1, 2]) mNil)))
theorem s_is_ascending : FnScope ["things", "one", "other"] ["things"] (defScope (top 1)) := ⟨rfl, rfl, rfl, by decide +kernel, rfl, by decide +kernel, by decide +kernel⟩
noncomputable def f_is_ascending : List D → Option D := runP 3 m_is_ascending
theorem bd_is_ascending_1 {f : Addr} {fd : FuncData} (F : Fun K "is_ascending" "is_ascending" (top 1) f fd) : Bd fd ["things"] 1 [] ([0]) := by
  obtain ⟨oc, od, kV, doc, pm, an, cdv, ct, osl, rfl, lk, hcd⟩ := F.ex
  exact ⟨fun s us ws h1 h2 => match us, ws, h1, h2 with | [v0], [], _, _ => .of_eq rfl⟩
theorem ok_is_ascending {f : Addr} {fd : FuncData} (F : Fun K "is_ascending" "is_ascending" (top 1) f fd) (T : Txt mg) :
    FnG P w K mg base CX0 1 f fd ["things"] (spP K 1 f_is_ascending) := by
  refine fn_pure (k := 0) F s_is_ascending m_is_ascending (fun cdv A outer s H E hr hg => ?_)
  have S := s_is_ascending
  have hU := hr.units
  have hU1 := hu_of hr
  exact (psm_one (psm_ret (pem_callB (cr_all rfl) rc_all rfl T.g_all (by rfl) (pam_cons (pem_lc (own := [("one", 1), ("other", 2)]) rfl S.nd (pim_zip rfl T.g_zip (pam_cons (pem_var 0 (pv 0)) (pam_cons (pem_slice (pem_var 0 (pv 0)) (pom_some pem_int) pom_none) pam_nil))) (by show blkC ["things", "one", "other"] (defScope (top 1)) _ _ = true; decide +kernel) (fun _ _ _ _ _ => (pg_tup rfl (pgs_cons (pg_name (i := 1) S.nd rfl (Or.inl rfl)) (pgs_cons (pg_name (i := 2) S.nd rfl (Or.inl rfl)) pgs_nil)))) (gm_tup (gm_cons (gm_name 1) (gm_cons (gm_name 2) gm_nil))) (by decide) (fun _ _ _ _ _ => ptms_nil) (fun _ _ _ _ _ => (pem_cmp (op_ltP hU) ro_cmp (nomark _) (pem_var 1 (pv 1)) (pem_var 2 (pv 2))))) pam_nil))))
/-! are_digits -/
noncomputable def m_are_digits : MS := (mSeq (mIfS (mOrT (mNotT (mTest (mUn (dIsi "str") (mVar 0)))) (mTest (mBin dEq (mApp dLen (mCons (mVar 0) mNil)) (mC (.int 0))))) (mRet (mC (.bl false))) mSkip) (mRet (mAndV (mApp dAll (mCons (mLc (mItems (mVar 0)) (gmName 1) mYes (mBin dIn (mVar 1) (mC (.str "0123456789"))) [1]) mNil)) (mCallP f_is_ascending [0] (mCons (mVar 0) mNil) mNil))))
theorem s_are_digits : FnScope ["thing", "sign"] ["thing"] (defScope (top 2)) := ⟨rfl, rfl, rfl, by decide +kernel, rfl, by decide +kernel, by decide +kernel⟩
noncomputable def f_are_digits : List D → Option D := runP 2 m_are_digits
theorem bd_are_digits_0_thing {f : Addr} {fd : FuncData} (F : Fun K "are_digits" "are_digits" (top 2) f fd) : Bd fd ["thing"] 0 ["thing"] ([0]) := by
  obtain ⟨oc, od, kV, doc, pm, an, cdv, ct, osl, rfl, lk, hcd⟩ := F.ex
  exact ⟨fun s us ws h1 h2 => match us, ws, h1, h2 with | [], [z0], _, _ => .of_eq rfl⟩
theorem bd_are_digits_1 {f : Addr} {fd : FuncData} (F : Fun K "are_digits" "are_digits" (top 2) f fd) : Bd fd ["thing"] 1 [] ([0]) := by
  obtain ⟨oc, od, kV, doc, pm, an, cdv, ct, osl, rfl, lk, hcd⟩ := F.ex
  exact ⟨fun s us ws h1 h2 => match us, ws, h1, h2 with | [v0], [], _, _ => .of_eq rfl⟩
theorem ok_are_digits {f : Addr} {fd : FuncData} (F : Fun K "are_digits" "are_digits" (top 2) f fd) (T : Txt mg) {a_is_ascending : Addr} {d_is_ascending : FuncData} (A_is_ascending : At K mg "is_ascending" a_is_ascending) (F_is_ascending : Fun K "is_ascending" "is_ascending" (top 1) a_is_ascending d_is_ascending) (G_is_ascending : FnG P w K mg base CX0 1 a_is_ascending d_is_ascending ["things"] (spP K 1 f_is_ascending)) :
    FnG P w K mg base CX0 2 f fd ["thing"] (spP K 1 f_are_digits) := by
  have b_is_ascending_1 := bd_is_ascending_1 F_is_ascending
  refine fn_pure (k := 1) F s_are_digits m_are_digits (fun cdv A outer s H E hr hg => ?_)
  have S := s_are_digits
  have hU := hr.units
  have hU1 := hu_of hr
  exact (psm_seq (psm_if (ptm_w (pwm_or (ptm_not (ptm_val (pem_isi rfl T.g_isinstance rfl T.g_str (by rfl) (pem_var 0 (pv 0))))) (pwm_or1 (ptm_cmp (op_eqP hU) ro_cmp (nomark _) (pem_callB call_lenA rc_len rfl T.g_len (by rfl) (pam_cons (pem_var 0 (pv 0)) pam_nil)) pem_int)))) (psm_one (psm_ret pem_bl)) psm_nil) (psm_one (psm_ret (pem_and (pem_callB (cr_all rfl) rc_all rfl T.g_all (by rfl) (pam_cons (pem_lc (own := [("sign", 1)]) rfl S.nd (pim_items (pem_var 0 (pv 0))) (by show blkC ["thing", "sign"] (defScope (top 2)) _ _ = true; decide +kernel) (fun _ _ _ _ _ => (pg_name (i := 1) S.nd rfl (Or.inl rfl))) (gm_name 1) (by decide) (fun _ _ _ _ _ => ptms_nil) (fun _ _ _ _ _ => (pem_cmp op_in_str ro_in (by with_unfolding_all rfl) (pem_var 1 (pv 1)) pem_str))) pam_nil)) (pem_one (pem_callP ⟨hr.mono (by decide), hg⟩ G_is_ascending rfl A_is_ascending.mg A_is_ascending.kp b_is_ascending_1 (fix_cons fix_nil) (by decide) rfl (pam_cons (pem_var 0 (pv 0)) pam_nil)))))))
/-! is_ticket -/
noncomputable def m_is_ticket : MS := (mRet (mAndV (mUn (dIsi "str") (mVar 1)) (mApp dAll (mCons (mLc (mItems (mVar 1)) (gmName 2) mYes (mBin dIn (mVar 2) (mVar 0)) [2]) mNil))))
theorem s_is_ticket : FnScope ["digits", "thing", "sign"] ["digits", "thing"] (defScope (top 3)) := ⟨rfl, rfl, rfl, by decide +kernel, rfl, by decide +kernel, by decide +kernel⟩
noncomputable def f_is_ticket : List D → Option D := runP 3 m_is_ticket
theorem bd_is_ticket_0_thing_digits {f : Addr} {fd : FuncData} (F : Fun K "is_ticket" "is_ticket" (top 3) f fd) : Bd fd ["digits", "thing"] 0 ["thing", "digits"] ([1, 0]) := by
  obtain ⟨oc, od, kV, doc, pm, an, cdv, ct, osl, rfl, lk, hcd⟩ := F.ex
  exact ⟨fun s us ws h1 h2 => match us, ws, h1, h2 with | [], [z0, z1], _, _ => .of_eq rfl⟩
theorem bd_is_ticket_2 {f : Addr} {fd : FuncData} (F : Fun K "is_ticket" "is_ticket" (top 3) f fd) : Bd fd ["digits", "thing"] 2 [] ([0, 1]) := by
  obtain ⟨oc, od, kV, doc, pm, an, cdv, ct, osl, rfl, lk, hcd⟩ := F.ex
  exact ⟨fun s us ws h1 h2 => match us, ws, h1, h2 with | [v0, v1], [], _, _ => .of_eq rfl⟩
theorem ok_is_ticket {f : Addr} {fd : FuncData} (F : Fun K "is_ticket" "is_ticket" (top 3) f fd) (T : Txt mg) :
    FnG P w K mg base CX0 1 f fd ["digits", "thing"] (spP K 2 f_is_ticket) := by
  refine fn_pure (k := 0) F s_is_ticket m_is_ticket (fun cdv A outer s H E hr hg => ?_)
  have S := s_is_ticket
  have hU := hr.units
  have hU1 := hu_of hr
  exact (psm_one (psm_ret (pem_and (pem_isi rfl T.g_isinstance rfl T.g_str (by rfl) (pem_var 1 (pv 1))) (pem_one (pem_callB (cr_all rfl) rc_all rfl T.g_all (by rfl) (pam_cons (pem_lc (own := [("sign", 2)]) rfl S.nd (pim_items (pem_var 1 (pv 1))) (by show blkC ["digits", "thing", "sign"] (defScope (top 3)) _ _ = true; decide +kernel) (fun _ _ _ _ _ => (pg_name (i := 2) S.nd rfl (Or.inl rfl))) (gm_name 2) (by decide) (fun _ _ _ _ _ => ptms_nil) (fun _ _ _ _ _ => (pem_cmp op_in_str ro_in (by with_unfolding_all rfl) (pem_var 2 (pv 2)) (pem_var 0 (pv 0))))) pam_nil))))))
/-! roll -/
noncomputable def m_roll : MS := (mSeq (mAsg (mApp dLst (mCons (mC (.str "")) mNil)) (gmName 2)) (mSeq (mFor (mRange (mCons (mVar 1) mNil)) (gmName 3) (mAsg (mLc2 (mItems (mVar 2)) (gmName 4) mYes (mItems (mVar 0)) (gmName 5) mYes (mBin dAdd (mVar 4) (mVar 5)) [4, 5] [5]) (gmName 2))) (mRet (mApp dTuple (mCons (mVar 2) mNil)))))
theorem s_roll : FnScope ["digits", "length", "tickets", "_", "ticket", "digit"] ["digits", "length"] (defScope (top 4)) := ⟨rfl, rfl, rfl, by decide +kernel, rfl, by decide +kernel, by decide +kernel⟩
noncomputable def f_roll : List D → Option D := runP 6 m_roll
theorem bd_roll_0_length_digits {f : Addr} {fd : FuncData} (F : Fun K "roll" "roll" (top 4) f fd) : Bd fd ["digits", "length"] 0 ["length", "digits"] ([1, 0]) := by
  obtain ⟨oc, od, kV, doc, pm, an, cdv, ct, osl, rfl, lk, hcd⟩ := F.ex
  exact ⟨fun s us ws h1 h2 => match us, ws, h1, h2 with | [], [z0, z1], _, _ => .of_eq rfl⟩
theorem bd_roll_2 {f : Addr} {fd : FuncData} (F : Fun K "roll" "roll" (top 4) f fd) : Bd fd ["digits", "length"] 2 [] ([0, 1]) := by
  obtain ⟨oc, od, kV, doc, pm, an, cdv, ct, osl, rfl, lk, hcd⟩ := F.ex
  exact ⟨fun s us ws h1 h2 => match us, ws, h1, h2 with | [v0, v1], [], _, _ => .of_eq rfl⟩
theorem ok_roll {f : Addr} {fd : FuncData} (F : Fun K "roll" "roll" (top 4) f fd) (T : Txt mg) :
    FnG P w K mg base CX0 1 f fd ["digits", "length"] (spP K 2 f_roll) := by
  refine fn_pure (k := 0) F s_roll m_roll (fun cdv A outer s H E hr hg => ?_)
  have S := s_roll
  have hU := hr.units
  have hU1 := hu_of hr
  exact (psm_seq (psm_set (i := 2) S.nd rfl (Or.inl rfl) (pem_lst (pam_cons pem_str pam_nil))) (psm_seq (psm_for PassesOwn.never rfl (pim_range1 rfl T.g_range (pam_cons (pem_var 1 (pv 1)) pam_nil) (fun _ _ _ h => fix_cons fix_nil _ _ _ h)) (pg_name (i := 3) S.nd rfl (Or.inl rfl)) (gm_name 3) (psm_one (psm_setLc2 (i := 2) (own := [("ticket", 4), ("digit", 5)]) (vs1 := [5]) rfl S.nd rfl rfl (sw_true rfl rfl rfl (by decide +kernel)) (pim_items (pem_var 2 (pv 2))) (by show blkC ["digits", "length", "tickets", "_", "ticket", "digit"] (defScope (top 4)) _ _ = true; decide +kernel) (by decide) (fun _ _ _ _ _ => (pg_name (i := 4) S.nd rfl (Or.inl rfl))) (gm_name 4) (by decide) (fun _ _ _ _ _ => ptms_nil) (fun _ _ _ _ _ => (pim_items (pem_var 0 (pv 0)))) (fun _ _ _ _ _ => (pg_name (i := 5) S.nd rfl (Or.inl rfl))) (gm_name 5) (by decide) (fun _ _ _ _ _ => ptms_nil) (fun _ _ _ _ _ => (pem_op op_addA ro_add (pem_var 4 (pv 4)) (pem_var 5 (pv 5))))))) (psm_one (psm_ret (pem_callTy (call_tupleA rfl) rc_tuple rfl T.g_tuple (by rfl) (pam_cons (pem_var 2 (pv 2)) pam_nil))))))
/-! is_ahead -/
noncomputable def m_is_ahead : MS := (mRet (mBin dLt (mApp dTup (mCons (mApp dLen (mCons (mVar 0) mNil)) (mCons (mVar 0) mNil))) (mApp dTup (mCons (mApp dLen (mCons (mVar 1) mNil)) (mCons (mVar 1) mNil)))))
theorem s_is_ahead : FnScope ["one", "other"] ["one", "other"] (defScope (top 5)) := ⟨rfl, rfl, rfl, by decide +kernel, rfl, by decide +kernel, by decide +kernel⟩
noncomputable def f_is_ahead : List D → Option D := runP 2 m_is_ahead
theorem bd_is_ahead_0_other_one {f : Addr} {fd : FuncData} (F : Fun K "is_ahead" "is_ahead" (top 5) f fd) : Bd fd ["one", "other"] 0 ["other", "one"] ([1, 0]) := by
  obtain ⟨oc, od, kV, doc, pm, an, cdv, ct, osl, rfl, lk, hcd⟩ := F.ex
  exact ⟨fun s us ws h1 h2 => match us, ws, h1, h2 with | [], [z0, z1], _, _ => .of_eq rfl⟩
theorem bd_is_ahead_2 {f : Addr} {fd : FuncData} (F : Fun K "is_ahead" "is_ahead" (top 5) f fd) : Bd fd ["one", "other"] 2 [] ([0, 1]) := by
  obtain ⟨oc, od, kV, doc, pm, an, cdv, ct, osl, rfl, lk, hcd⟩ := F.ex
  exact ⟨fun s us ws h1 h2 => match us, ws, h1, h2 with | [v0, v1], [], _, _ => .of_eq rfl⟩
theorem ok_is_ahead {f : Addr} {fd : FuncData} (F : Fun K "is_ahead" "is_ahead" (top 5) f fd) (T : Txt mg) :
    FnG P w K mg base CX0 1 f fd ["one", "other"] (spP K 2 f_is_ahead) := by
  refine fn_pure (k := 0) F s_is_ahead m_is_ahead (fun cdv A outer s H E hr hg => ?_)
  have S := s_is_ahead
  have hU := hr.units
  have hU1 := hu_of hr
  exact (psm_one (psm_ret (pem_cmp (op_ltP hU) ro_cmp (nomark _) (pem_tup (pam_cons (pem_callB call_lenA rc_len rfl T.g_len (by rfl) (pam_cons (pem_var 0 (pv 0)) pam_nil)) (pam_cons (pem_var 0 (pv 0)) pam_nil))) (pem_tup (pam_cons (pem_callB call_lenA rc_len rfl T.g_len (by rfl) (pam_cons (pem_var 1 (pv 1)) pam_nil)) (pam_cons (pem_var 1 (pv 1)) pam_nil))))))
/-! _law_deck -/
noncomputable def m__law_deck : MS := (mSeq (mPar 1 2 (mCons (mApp dList (mCons (mSlice (mVar 0) mNoPart (mPart (mC (.int 63)))) mNil)) (mCons (mC (.int 10870010)) mNil))) (mSeq (mFor (mItems (mVar 1)) (gmName 3) (mAsg (mBin dMod (mApp dInt (mCons (mBin dAdd (mBin dAdd (mBin dMulA (mVar 2) (mC (.int 39373))) (mBin dMod (mApp dInt (mCons (mVar 3) mNil)) (mC (.int 2147483629)))) (mC (.int 223))) mNil)) (mC (.int 2147483587))) (gmName 2))) mSkip))
theorem s__law_deck : FnScope ["_law_script", "_law_cells", "_law_mixed", "_law_cell"] ["_law_script"] (defScope (top 7)) := ⟨rfl, rfl, rfl, by decide +kernel, rfl, by decide +kernel, by decide +kernel⟩
noncomputable def f__law_deck : List D → Option Dk := runN 4 m__law_deck 1 2 false
theorem bd__law_deck {f : Addr} {fd : FuncData} (F : Fun K "_law_deck" "_law_deck" (top 7) f fd) : Bd fd ["_law_script"] 1 [] (List.range 1) := by
  obtain ⟨oc, od, kV, doc, pm, an, cdv, ct, osl, rfl, lk, hcd⟩ := F.ex
  exact ⟨fun s us ws h1 h2 => match us, ws, h1, h2 with | [v0], [], _, _ => .of_eq rfl⟩
theorem ok__law_deck {f : Addr} {fd : FuncData} (F : Fun K "_law_deck" "_law_deck" (top 7) f fd) (T : Txt mg) :
    FnG P w K mg base CX0 1 f fd ["_law_script"] (spN K 1 f__law_deck) := by
  refine fn_new (k := 0) F s__law_deck m__law_deck 1 2 false (fun cdv A outer s H E hr hg => ?_)
  have S := s__law_deck
  have hU := hr.units
  have hU1 := hu_of hr
  exact (psl_cons (psm_par rfl S.nd (i := 1) (j := 2) rfl rfl (by decide) rfl rfl (pam_cons (pem_callTy (call_listA rfl) rc_list rfl T.g_list (by rfl) (pam_cons (pem_slice (pem_var 0 (pv 0)) pom_none (pom_some pem_int)) pam_nil)) (pam_cons pem_int pam_nil)) rfl) (psl_cons (psm_for PassesOwn.never rfl (pim_items (pem_var 1 (pv 1))) (pg_name (i := 3) S.nd rfl (Or.inl rfl)) (gm_name 3) (psm_one (psm_set (i := 2) S.nd rfl (Or.inl rfl) (pem_op op_mod ro_mod (pem_callTy call_intA rc_int rfl T.g_int (by rfl) (pam_cons (pem_op op_addA ro_add (pem_op op_addA ro_add (pem_op op_mulA ro_mulA (pem_var 2 (pv 2)) pem_int) (pem_op op_mod ro_mod (pem_callTy call_intA rc_int rfl T.g_int (by rfl) (pam_cons (pem_var 3 (pv 3)) pam_nil)) pem_int)) pem_int) pam_nil)) pem_int)))) (psl_one (ps_new (pv 1) (pv 2)))))
/-! _law_draw -/
noncomputable def m__law_draw : MS := (mSeq (mDkSet 0 "turn" (mBin dAdd (mDkGet 0 "turn") (mC (.int 1)))) (mSeq (mAsg (mBin dAdd (mDkGet 0 "mixed") (mBin dMulA (mBin dMulA (mC (.int 60223)) (mDkGet 0 "turn")) (mDkGet 0 "turn"))) (gmName 2)) (mSeq (mIfS (mDkHas 0) (mSeq (mAsg (mDkPop 0) (gmName 3)) (mSeq (mIfS (mTest (mBin dGe (mVar 3) (mBin dPow (mC (.int 10)) (mC (.int 18))))) (mSeq (mDkPush 0 (mBin dFdiv (mVar 3) (mVar 1))) (mRet (mBin dMod (mApp dInt (mCons (mVar 3) mNil)) (mVar 1)))) mSkip) (mAsg (mBin dAdd (mVar 2) (mApp dInt (mCons (mVar 3) mNil))) (gmName 2)))) mSkip) (mSeq (mAsg (mBin dMod (mBin dMulA (mApp dInt (mCons (mBin dAdd (mBin dMod (mApp dInt (mCons (mVar 2) mNil)) (mC (.int 2147483579))) (mC (.int 223))) mNil)) (mC (.int 48271))) (mC (.int 2147483647))) (gmName 2)) (mSeq (mAsg (mBin dMod (mApp dInt (mCons (mBin dAdd (mBin dAdd (mBin dMulA (mVar 2) (mVar 2)) (mBin dMulA (mC (.int 69621)) (mDkGet 0 "turn"))) (mC (.int 29))) mNil)) (mC (.int 2147483563))) (gmName 2)) (mRet (mBin dMod (mBin dFdiv (mBin dMod (mApp dInt (mCons (mBin dMulA (mVar 2) (mC (.int 40692))) mNil)) (mC (.int 2147483587))) (mC (.int 64))) (mVar 1))))))))
theorem s__law_draw : FnScope ["_law_deck_here", "_law_many", "_law_figure", "_law_cell"] ["_law_deck_here", "_law_many"] (defScope (top 8)) := ⟨rfl, rfl, rfl, by decide +kernel, rfl, by decide +kernel, by decide +kernel⟩
noncomputable def f__law_draw : Dk → List D → Option (D × Dk) := runD 4 m__law_draw
theorem bd__law_draw {f : Addr} {fd : FuncData} (F : Fun K "_law_draw" "_law_draw" (top 8) f fd) : Bd fd ["_law_deck_here", "_law_many"] 2 [] (List.range 2) := by
  obtain ⟨oc, od, kV, doc, pm, an, cdv, ct, osl, rfl, lk, hcd⟩ := F.ex
  exact ⟨fun s us ws h1 h2 => match us, ws, h1, h2 with | [v0, v1], [], _, _ => .of_eq rfl⟩
theorem ok__law_draw {f : Addr} {fd : FuncData} (F : Fun K "_law_draw" "_law_draw" (top 8) f fd) (T : Txt mg) :
    FnG P w K mg base CX0 1 f fd ["_law_deck_here", "_law_many"] (spD K 2 f__law_draw) := by
  refine fn_deck (k := 0) F s__law_draw m__law_draw (fun cdv A outer s H E hr hg => ?_)
  have S := s__law_draw
  have hU := hr.units
  have hU1 := hu_of hr
  exact (psm_seq (psm_dkSet hU (pv 0) (pem_op op_addA ro_add (pem_dkGet hU (pv 0)) pem_int)) (psm_seq (psm_set (i := 2) S.nd rfl (Or.inl rfl) (pem_op op_addA ro_add (pem_dkGet hU (pv 0)) (pem_op op_mulA ro_mulA (pem_op op_mulA ro_mulA pem_int (pem_dkGet hU (pv 0))) (pem_dkGet hU (pv 0))))) (psm_seq (psm_if (ptm_dkHas hU (pv 0)) (psm_seq (psm_set (i := 3) S.nd rfl (Or.inl rfl) (pem_dkPop hU (pv 0))) (psm_seq (psm_if (ptm_cmp (op_geP hU) ro_cmp (nomark _) (pem_var 3 (pv 3)) (pem_op op_pow ro_pow pem_int pem_int)) (psm_seq (psm_dkPush hU (pv 0) (pem_op op_fdivW ro_fdiv (pem_var 3 (pv 3)) (pem_var 1 (pv 1)))) (psm_one (psm_ret (pem_op op_mod ro_mod (pem_callTy call_intA rc_int rfl T.g_int (by rfl) (pam_cons (pem_var 3 (pv 3)) pam_nil)) (pem_var 1 (pv 1)))))) psm_nil) (psm_one (psm_set (i := 2) S.nd rfl (Or.inl rfl) (pem_op op_addA ro_add (pem_var 2 (pv 2)) (pem_callTy call_intA rc_int rfl T.g_int (by rfl) (pam_cons (pem_var 3 (pv 3)) pam_nil))))))) psm_nil) (psm_seq (psm_set (i := 2) S.nd rfl (Or.inl rfl) (pem_op op_mod ro_mod (pem_op op_mulA ro_mulA (pem_callTy call_intA rc_int rfl T.g_int (by rfl) (pam_cons (pem_op op_addA ro_add (pem_op op_mod ro_mod (pem_callTy call_intA rc_int rfl T.g_int (by rfl) (pam_cons (pem_var 2 (pv 2)) pam_nil)) pem_int) pem_int) pam_nil)) pem_int) pem_int)) (psm_seq (psm_set (i := 2) S.nd rfl (Or.inl rfl) (pem_op op_mod ro_mod (pem_callTy call_intA rc_int rfl T.g_int (by rfl) (pam_cons (pem_op op_addA ro_add (pem_op op_addA ro_add (pem_op op_mulA ro_mulA (pem_var 2 (pv 2)) (pem_var 2 (pv 2))) (pem_op op_mulA ro_mulA pem_int (pem_dkGet hU (pv 0)))) pem_int) pam_nil)) pem_int)) (psm_one (psm_ret (pem_op op_mod ro_mod (pem_op op_fdivW ro_fdiv (pem_op op_mod ro_mod (pem_callTy call_intA rc_int rfl T.g_int (by rfl) (pam_cons (pem_op op_mulA ro_mulA (pem_var 2 (pv 2)) pem_int) pam_nil)) pem_int) pem_int) (pem_var 1 (pv 1))))))))))
/-! _law_pick -/
noncomputable def m__law_pick : MS := (mRet (mBin dItemA (mVar 1) (mCallD 0 f__law_draw (mCons (mApp dLen (mCons (mVar 1) mNil)) mNil))))
theorem s__law_pick : FnScope ["_law_deck_here", "_law_some_here"] ["_law_deck_here", "_law_some_here"] (defScope (top 9)) := ⟨rfl, rfl, rfl, by decide +kernel, rfl, by decide +kernel, by decide +kernel⟩
noncomputable def f__law_pick : Dk → List D → Option (D × Dk) := runD 2 m__law_pick
theorem bd__law_pick {f : Addr} {fd : FuncData} (F : Fun K "_law_pick" "_law_pick" (top 9) f fd) : Bd fd ["_law_deck_here", "_law_some_here"] 2 [] (List.range 2) := by
  obtain ⟨oc, od, kV, doc, pm, an, cdv, ct, osl, rfl, lk, hcd⟩ := F.ex
  exact ⟨fun s us ws h1 h2 => match us, ws, h1, h2 with | [v0, v1], [], _, _ => .of_eq rfl⟩
theorem ok__law_pick {f : Addr} {fd : FuncData} (F : Fun K "_law_pick" "_law_pick" (top 9) f fd) (T : Txt mg) {a__law_draw : Addr} {d__law_draw : FuncData} (A__law_draw : At K mg "_law_draw" a__law_draw) (F__law_draw : Fun K "_law_draw" "_law_draw" (top 8) a__law_draw d__law_draw) (G__law_draw : FnG P w K mg base CX0 1 a__law_draw d__law_draw ["_law_deck_here", "_law_many"] (spD K 2 f__law_draw)) :
    FnG P w K mg base CX0 2 f fd ["_law_deck_here", "_law_some_here"] (spD K 2 f__law_pick) := by
  have b__law_draw := bd__law_draw F__law_draw
  refine fn_deck (k := 1) F s__law_pick m__law_pick (fun cdv A outer s H E hr hg => ?_)
  have S := s__law_pick
  have hU := hr.units
  have hU1 := hu_of hr
  exact (psm_one (psm_ret (pem_itemA hU1 (pem_var 1 (pv 1)) (pem_callD (i := 0) ⟨hr.mono (by decide), hg⟩ G__law_draw rfl A__law_draw.mg A__law_draw.kp b__law_draw (fix_cons fix_nil) rfl (pv 0) (pam_cons (pem_callB call_lenA rc_len rfl T.g_len (by rfl) (pam_cons (pem_var 1 (pv 1)) pam_nil)) pam_nil)) (fun _ _ => rfl))))
/-! _law_pages -/
noncomputable def m__law_pages : MS := (mSeq (mPar 2 3 (mCons (mApp dLst (mCons (mC (.str "")) mNil)) (mCons (mApp dLst (mCons (mC (.str "")) mNil)) mNil))) (mSeq (mFor (mRange (mCons (mVar 1) mNil)) (gmName 4) (mSeq (mOwn 5 (mNLst mNil)) (mSeq (mFor (mItems (mVar 3)) (gmName 6) (mExt 5 (mLc (mItems (mVar 0)) (gmName 7) mYes (mBin dAdd (mVar 6) (mVar 7)) [7]))) (mSeq (mFrz 5) (mPar 2 3 (mCons (mBin dAdd (mVar 2) (mVar 5)) (mCons (mVar 5) mNil))))))) (mRet (mVar 2))))
theorem s__law_pages : FnScope ["_law_signs", "_law_most", "_law_found", "_law_last", "_law_turn", "_law_longer", "_law_page_here", "_law_sign"] ["_law_signs", "_law_most"] (defScope (top 10)) := ⟨rfl, rfl, rfl, by decide +kernel, rfl, by decide +kernel, by decide +kernel⟩
noncomputable def f__law_pages : List D → Option D := runP 8 m__law_pages
theorem bd__law_pages_2 {f : Addr} {fd : FuncData} (F : Fun K "_law_pages" "_law_pages" (top 10) f fd) : Bd fd ["_law_signs", "_law_most"] 2 [] ([0, 1]) := by
  obtain ⟨oc, od, kV, doc, pm, an, cdv, ct, osl, rfl, lk, hcd⟩ := F.ex
  exact ⟨fun s us ws h1 h2 => match us, ws, h1, h2 with | [v0, v1], [], _, _ => .of_eq rfl⟩
theorem ok__law_pages {f : Addr} {fd : FuncData} (F : Fun K "_law_pages" "_law_pages" (top 10) f fd) (T : Txt mg) :
    FnG P w K mg base CX0 1 f fd ["_law_signs", "_law_most"] (spP K 2 f__law_pages) := by
  refine fn_pure (k := 0) F s__law_pages m__law_pages (fun cdv A outer s H E hr hg => ?_)
  have S := s__law_pages
  have hU := hr.units
  have hU1 := hu_of hr
  exact (psm_seq (psm_par rfl S.nd (i := 2) (j := 3) rfl rfl (by decide) rfl rfl (pam_cons (pem_lst (pam_cons pem_str pam_nil)) (pam_cons (pem_lst (pam_cons pem_str pam_nil)) pam_nil)) rfl) (psm_seq (psm_for PassesOwn.never rfl (pim_range1 rfl T.g_range (pam_cons (pem_var 1 (pv 1)) pam_nil) (fun _ _ _ h => fix_cons fix_nil _ _ _ h)) (pg_name (i := 4) S.nd rfl (Or.inl rfl)) (gm_name 4) (psm_seq (psm_own (i := 5) S.nd rfl (Or.inl rfl) (pen_lst pam_nil)) (psm_seq (psm_for PassesOwn.never rfl (pim_items (pem_var 3 (pv 3))) (pg_name (i := 6) S.nd rfl (Or.inr rfl)) (gm_name 6) (psm_one (psm_ext (i := 5) (pv 5) (pem_lc (own := [("_law_sign", 7)]) rfl S.nd (pim_items (pem_var 0 (pv 0))) (by show blkC ["_law_signs", "_law_most", "_law_found", "_law_last", "_law_turn", "_law_longer", "_law_page_here", "_law_sign"] (defScope (top 10)) _ _ = true; decide +kernel) (fun _ _ _ _ _ => (pg_name (i := 7) S.nd rfl (Or.inl rfl))) (gm_name 7) (by decide) (fun _ _ _ _ _ => ptms_nil) (fun _ _ _ _ _ => (pem_op op_addA ro_add (pem_var 6 (pv 6)) (pem_var 7 (pv 7)))))))) (psm_one (psm_frz (i := 5) (psm_par rfl S.nd (i := 2) (j := 3) rfl rfl (by decide) rfl rfl (pam_cons (pem_op op_addA ro_add (pem_var 2 (pv 2)) (pem_var 5 (pv 5))) (pam_cons (pem_var 5 (pv 5)) pam_nil)) rfl)))))) (psm_one (psm_ret (pem_var 2 (pv 2))))))
/-! _law_page -/
noncomputable def m__law_page : MS := (mRet (mBin dJoin (mC (.str "")) (mLc (mRange (mCons (mCallD 0 f__law_draw (mCons (mBin dAdd (mVar 2) (mC (.int 1))) mNil)) mNil)) (gmName 3) mYes (mCallD 0 f__law_pick (mCons (mVar 1) mNil)) [3])))
theorem s__law_page : FnScope ["_law_deck_here", "_law_signs", "_law_most", "_law_k"] ["_law_deck_here", "_law_signs", "_law_most"] (defScope (top 11)) := ⟨rfl, rfl, rfl, by decide +kernel, rfl, by decide +kernel, by decide +kernel⟩
noncomputable def f__law_page : Dk → List D → Option (D × Dk) := runD 4 m__law_page
theorem bd__law_page {f : Addr} {fd : FuncData} (F : Fun K "_law_page" "_law_page" (top 11) f fd) : Bd fd ["_law_deck_here", "_law_signs", "_law_most"] 3 [] (List.range 3) := by
  obtain ⟨oc, od, kV, doc, pm, an, cdv, ct, osl, rfl, lk, hcd⟩ := F.ex
  exact ⟨fun s us ws h1 h2 => match us, ws, h1, h2 with | [v0, v1, v2], [], _, _ => .of_eq rfl⟩
theorem ok__law_page {f : Addr} {fd : FuncData} (F : Fun K "_law_page" "_law_page" (top 11) f fd) (T : Txt mg) {a__law_draw : Addr} {d__law_draw : FuncData} (A__law_draw : At K mg "_law_draw" a__law_draw) (F__law_draw : Fun K "_law_draw" "_law_draw" (top 8) a__law_draw d__law_draw) (G__law_draw : FnG P w K mg base CX0 1 a__law_draw d__law_draw ["_law_deck_here", "_law_many"] (spD K 2 f__law_draw)) {a__law_pick : Addr} {d__law_pick : FuncData} (A__law_pick : At K mg "_law_pick" a__law_pick) (F__law_pick : Fun K "_law_pick" "_law_pick" (top 9) a__law_pick d__law_pick) (G__law_pick : FnG P w K mg base CX0 2 a__law_pick d__law_pick ["_law_deck_here", "_law_some_here"] (spD K 2 f__law_pick)) :
    FnG P w K mg base CX0 3 f fd ["_law_deck_here", "_law_signs", "_law_most"] (spD K 3 f__law_page) := by
  have b__law_draw := bd__law_draw F__law_draw
  have b__law_pick := bd__law_pick F__law_pick
  refine fn_deck (k := 2) F s__law_page m__law_page (fun cdv A outer s H E hr hg => ?_)
  have S := s__law_page
  have hU := hr.units
  have hU1 := hu_of hr
  exact (psm_one (psm_ret (pem_join pem_str (pem_lc (own := [("_law_k", 3)]) rfl S.nd (pim_range1 rfl T.g_range (pam_cons (pem_callD (i := 0) ⟨hr.mono (by decide), hg⟩ G__law_draw rfl A__law_draw.mg A__law_draw.kp b__law_draw (fix_cons fix_nil) rfl (pv 0) (pam_cons (pem_op op_addA ro_add (pem_var 2 (pv 2)) pem_int) pam_nil)) pam_nil) (fun _ _ _ h => fix_cons fix_nil _ _ _ h)) (by show blkC ["_law_deck_here", "_law_signs", "_law_most", "_law_k"] (defScope (top 11)) _ _ = true; decide +kernel) (fun _ _ _ _ _ => (pg_name (i := 3) S.nd rfl (Or.inl rfl))) (gm_name 3) (by decide) (fun _ _ _ _ _ => ptms_nil) (fun _ _ _ _ _ => (pem_callD (i := 0) ⟨hr.mono (by decide), hg⟩ G__law_pick rfl A__law_pick.mg A__law_pick.kp b__law_pick (fix_cons fix_nil) rfl (pv 0) (pam_cons (pem_var 1 (pv 1)) pam_nil)))))))
/-! _law_some -/
noncomputable def m__law_some : MS := (mSeq (mAsg (mApp dLst (mCons (mC (.str "0")) (mCons (mC (.str "9")) (mCons (mC (.str "01")) (mCons (mC (.str "0123456789")) (mCons (mC (.str "19")) (mCons (mC (.str "357")) (mCons (mC (.str "10")) (mCons (mC (.str "00")) (mCons (mC (.str "011")) (mCons (mC (.str "")) (mCons (mC (.str "a")) (mCons (mC (.str "0a")) (mCons (mC (.str "-1")) (mCons (mC (.str " 1")) (mCons (mC (.str "1 ")) (mCons (mC (.str "0,1")) (mCons (mC .non) mNil)))))))))))))))))) (gmName 1)) (mSeq (mAsg (mBin dAdd (mVar 1) (mApp dLst (mCons (mC (.bl true)) (mCons (mApp dTup mNil) (mCons (mApp dLst mNil) (mCons (mApp dLst (mCons (mC (.str "0")) mNil)) (mCons (mApp dTup (mCons (mC (.str "0")) (mCons (mC (.str "1")) mNil))) (mCons mDict0 (mCons (mDisp [((mC (.str "0")), (mC (.int 1)))]) (mCons (mBin dPow (mC (.int 10)) (mC (.int 39))) (mCons (mC (.str "0\n")) (mCons (mC (.str "123456789")) (mCons (mC (.str "9876543210")) (mCons (mBin dMulA (mC (.str "x")) (mC (.int 40))) mNil)))))))))))))) (gmName 1)) (mSeq (mAsg (mBin dJoin (mC (.str "")) (mLc (mItems (mC (.str "0123456789"))) (gmName 3) (mTest (mBin dEq (mCallD 0 f__law_draw (mCons (mC (.int 2)) mNil)) (mC (.int 0)))) (mVar 3) [3])) (gmName 2)) (mRet (mBin dAdd (mLc (mRange (mCons (mC (.int 6)) mNil)) (gmName 4) mYes (mCallD 0 f__law_pick (mCons (mVar 1) mNil)) [4]) (mApp dLst (mCons (mVar 2) (mCons (mUn dRev (mVar 2)) (mCons (mBin dAdd (mVar 2) (mSlice (mVar 2) (mPart (mUn dNeg (mC (.int 1)))) mNoPart)) mNil)))))))))
theorem s__law_some : FnScope ["_law_deck_here", "_law_some_here", "_law_signs", "_law_sign", "_law_k"] ["_law_deck_here"] (defScope (top 12)) := ⟨rfl, rfl, rfl, by decide +kernel, rfl, by decide +kernel, by decide +kernel⟩
noncomputable def f__law_some : Dk → List D → Option (D × Dk) := runD 5 m__law_some
theorem bd__law_some {f : Addr} {fd : FuncData} (F : Fun K "_law_some" "_law_some" (top 12) f fd) : Bd fd ["_law_deck_here"] 1 [] (List.range 1) := by
  obtain ⟨oc, od, kV, doc, pm, an, cdv, ct, osl, rfl, lk, hcd⟩ := F.ex
  exact ⟨fun s us ws h1 h2 => match us, ws, h1, h2 with | [v0], [], _, _ => .of_eq rfl⟩
theorem ok__law_some {f : Addr} {fd : FuncData} (F : Fun K "_law_some" "_law_some" (top 12) f fd) (T : Txt mg) {a__law_draw : Addr} {d__law_draw : FuncData} (A__law_draw : At K mg "_law_draw" a__law_draw) (F__law_draw : Fun K "_law_draw" "_law_draw" (top 8) a__law_draw d__law_draw) (G__law_draw : FnG P w K mg base CX0 1 a__law_draw d__law_draw ["_law_deck_here", "_law_many"] (spD K 2 f__law_draw)) {a__law_pick : Addr} {d__law_pick : FuncData} (A__law_pick : At K mg "_law_pick" a__law_pick) (F__law_pick : Fun K "_law_pick" "_law_pick" (top 9) a__law_pick d__law_pick) (G__law_pick : FnG P w K mg base CX0 2 a__law_pick d__law_pick ["_law_deck_here", "_law_some_here"] (spD K 2 f__law_pick)) :
    FnG P w K mg base CX0 3 f fd ["_law_deck_here"] (spD K 1 f__law_some) := by
  have b__law_draw := bd__law_draw F__law_draw
  have b__law_pick := bd__law_pick F__law_pick
  refine fn_deck (k := 2) F s__law_some m__law_some (fun cdv A outer s H E hr hg => ?_)
  have S := s__law_some
  have hU := hr.units
  have hU1 := hu_of hr
  exact (psm_seq (psm_set (i := 1) S.nd rfl (Or.inr rfl) (pem_lst (pam_cons pem_str (pam_cons pem_str (pam_cons pem_str (pam_cons pem_str (pam_cons pem_str (pam_cons pem_str (pam_cons pem_str (pam_cons pem_str (pam_cons pem_str (pam_cons pem_str (pam_cons pem_str (pam_cons pem_str (pam_cons pem_str (pam_cons pem_str (pam_cons pem_str (pam_cons pem_str (pam_cons pem_non pam_nil))))))))))))))))))) (psm_seq (psm_set (i := 1) S.nd rfl (Or.inr rfl) (pem_op op_addA ro_add (pem_var 1 (pv 1)) (pem_lst (pam_cons pem_bl (pam_cons (pem_tup pam_nil) (pam_cons (pem_lst pam_nil) (pam_cons (pem_lst (pam_cons pem_str pam_nil)) (pam_cons (pem_tup (pam_cons pem_str (pam_cons pem_str pam_nil))) (pam_cons pem_dict0 (pam_cons (pem_disp (ms := [((mC (.str "0")), (mC (.int 1)))]) (ppm_cons pem_str pem_int ppm_nil) rfl rfl (by intro z; cases z) (by show 1 ≤ 15; decide)) (pam_cons (pem_op op_pow ro_pow pem_int pem_int) (pam_cons pem_str (pam_cons pem_str (pam_cons pem_str (pam_cons (pem_op op_mulA ro_mulA pem_str pem_int) pam_nil))))))))))))))) (psm_seq (psm_set (i := 2) S.nd rfl (Or.inl rfl) (pem_join pem_str (pem_lc (own := [("_law_sign", 3)]) rfl S.nd (pim_items pem_str) (by show blkC ["_law_deck_here", "_law_some_here", "_law_signs", "_law_sign", "_law_k"] (defScope (top 12)) _ _ = true; decide +kernel) (fun _ _ _ _ _ => (pg_name (i := 3) S.nd rfl (Or.inl rfl))) (gm_name 3) (by decide) (fun _ _ _ _ _ => (ptms_one (ptm_cmp (op_eqP hU) ro_cmp (nomark _) (pem_callD (i := 0) ⟨hr.mono (by decide), hg⟩ G__law_draw rfl A__law_draw.mg A__law_draw.kp b__law_draw (fix_cons fix_nil) rfl (pv 0) (pam_cons pem_int pam_nil)) pem_int))) (fun _ _ _ _ _ => (pem_var 3 (pv 3)))))) (psm_one (psm_ret (pem_op op_addA ro_add (pem_lc (own := [("_law_k", 4)]) rfl S.nd (pim_range1 rfl T.g_range (pam_cons pem_int pam_nil) (fun _ _ _ h => fix_cons fix_nil _ _ _ h)) (by show blkC ["_law_deck_here", "_law_some_here", "_law_signs", "_law_sign", "_law_k"] (defScope (top 12)) _ _ = true; decide +kernel) (fun _ _ _ _ _ => (pg_name (i := 4) S.nd rfl (Or.inl rfl))) (gm_name 4) (by decide) (fun _ _ _ _ _ => ptms_nil) (fun _ _ _ _ _ => (pem_callD (i := 0) ⟨hr.mono (by decide), hg⟩ G__law_pick rfl A__law_pick.mg A__law_pick.kp b__law_pick (fix_cons fix_nil) rfl (pv 0) (pam_cons (pem_var 1 (pv 1)) pam_nil)))) (pem_lst (pam_cons (pem_var 2 (pv 2)) (pam_cons (pem_rev (pem_var 2 (pv 2))) (pam_cons (pem_op op_addA ro_add (pem_var 2 (pv 2)) (pem_slice (pem_var 2 (pv 2)) (pom_some (pem_un un_neg ru_neg pem_int)) pom_none)) pam_nil))))))))))
/-! _law_are_signs -/
noncomputable def m__law_are_signs : MS := (mSeq (mIfS (mOrT (mNotT (mTest (mUn (dIsi "str") (mVar 0)))) (mOrT (mNotT (mTest (mChain dLe dLe (mC (.int 1)) (mApp dLen (mCons (mVar 0) mNil)) (mC (.int 10))))) (mTest (mBin dNe (mLc (mItems (mVar 0)) (gmName 1) (mTest (mBin dNotIn (mVar 1) (mC (.str "0123456789")))) (mVar 1) [1]) (mApp dLst mNil))))) (mRet (mC (.bl false))) mSkip) (mRet (mBin dEq (mLc (mRange (mCons (mC (.int 1)) (mCons (mApp dLen (mCons (mVar 0) mNil)) mNil))) (gmName 2) (mNotT (mTest (mBin dLt (mBin dItemA (mVar 0) (mBin dSub (mVar 2) (mC (.int 1)))) (mBin dItemA (mVar 0) (mVar 2))))) (mVar 2) [2]) (mApp dLst mNil))))
theorem s__law_are_signs : FnScope ["_law_it", "_law_sign", "_law_k"] ["_law_it"] (defScope (top 13)) := ⟨rfl, rfl, rfl, by decide +kernel, rfl, by decide +kernel, by decide +kernel⟩
noncomputable def f__law_are_signs : List D → Option D := runP 3 m__law_are_signs
theorem bd__law_are_signs_1 {f : Addr} {fd : FuncData} (F : Fun K "_law_are_signs" "_law_are_signs" (top 13) f fd) : Bd fd ["_law_it"] 1 [] ([0]) := by
  obtain ⟨oc, od, kV, doc, pm, an, cdv, ct, osl, rfl, lk, hcd⟩ := F.ex
  exact ⟨fun s us ws h1 h2 => match us, ws, h1, h2 with | [v0], [], _, _ => .of_eq rfl⟩
theorem ok__law_are_signs {f : Addr} {fd : FuncData} (F : Fun K "_law_are_signs" "_law_are_signs" (top 13) f fd) (T : Txt mg) :
    FnG P w K mg base CX0 1 f fd ["_law_it"] (spP K 1 f__law_are_signs) := by
  refine fn_pure (k := 0) F s__law_are_signs m__law_are_signs (fun cdv A outer s H E hr hg => ?_)
  have S := s__law_are_signs
  have hU := hr.units
  have hU1 := hu_of hr
  exact (psm_seq (psm_if (ptm_w (pwm_or (ptm_not (ptm_val (pem_isi rfl T.g_isinstance rfl T.g_str (by rfl) (pem_var 0 (pv 0))))) (pwm_or (ptm_not (ptm_chain ro_cmp ro_cmp (pt_chain (op_leP hU) (op_leP hU) pem_int (pem_callB call_lenA rc_len rfl T.g_len (by rfl) (pam_cons (pem_var 0 (pv 0)) pam_nil)) pem_int))) (pwm_or1 (ptm_cmp (op_neP hU) ro_cmp (nomark _) (pem_lc (own := [("_law_sign", 1)]) rfl S.nd (pim_items (pem_var 0 (pv 0))) (by show blkC ["_law_it", "_law_sign", "_law_k"] (defScope (top 13)) _ _ = true; decide +kernel) (fun _ _ _ _ _ => (pg_name (i := 1) S.nd rfl (Or.inl rfl))) (gm_name 1) (by decide) (fun _ _ _ _ _ => (ptms_one (ptm_cmp op_notIn_str ro_notIn (by with_unfolding_all rfl) (pem_var 1 (pv 1)) pem_str))) (fun _ _ _ _ _ => (pem_var 1 (pv 1)))) (pem_lst pam_nil)))))) (psm_one (psm_ret pem_bl)) psm_nil) (psm_one (psm_ret (pem_cmp (op_eqP hU) ro_cmp (nomark _) (pem_lc (own := [("_law_k", 2)]) rfl S.nd (pim_range2 rfl T.g_range (pam_cons pem_int (pam_cons (pem_callB call_lenA rc_len rfl T.g_len (by rfl) (pam_cons (pem_var 0 (pv 0)) pam_nil)) pam_nil)) (fun _ _ _ h => fix_cons (fix_cons fix_nil) _ _ _ h)) (by show blkC ["_law_it", "_law_sign", "_law_k"] (defScope (top 13)) _ _ = true; decide +kernel) (fun _ _ _ _ _ => (pg_name (i := 2) S.nd rfl (Or.inl rfl))) (gm_name 2) (by decide) (fun _ _ _ _ _ => (ptms_one (ptm_not (ptm_cmp (op_ltP hU) ro_cmp (nomark _) (pem_itemA hU1 (pem_var 0 (pv 0)) (pem_op op_sub ro_sub (pem_var 2 (pv 2)) pem_int) (fun _ _ => rfl)) (pem_itemA hU1 (pem_var 0 (pv 0)) (pem_var 2 (pv 2)) (fun _ _ => rfl)))))) (fun _ _ _ _ _ => (pem_var 2 (pv 2)))) (pem_lst pam_nil)))))
/-! _law_is_page -/
noncomputable def m__law_is_page : MS := (mRet (mAndV (mUn (dIsi "str") (mVar 1)) (mBin dEq (mLc (mItems (mVar 1)) (gmName 2) (mTest (mBin dNotIn (mVar 2) (mVar 0))) (mVar 2) [2]) (mApp dLst mNil))))
theorem s__law_is_page : FnScope ["_law_signs", "_law_it", "_law_sign"] ["_law_signs", "_law_it"] (defScope (top 14)) := ⟨rfl, rfl, rfl, by decide +kernel, rfl, by decide +kernel, by decide +kernel⟩
noncomputable def f__law_is_page : List D → Option D := runP 3 m__law_is_page
theorem bd__law_is_page_2 {f : Addr} {fd : FuncData} (F : Fun K "_law_is_page" "_law_is_page" (top 14) f fd) : Bd fd ["_law_signs", "_law_it"] 2 [] ([0, 1]) := by
  obtain ⟨oc, od, kV, doc, pm, an, cdv, ct, osl, rfl, lk, hcd⟩ := F.ex
  exact ⟨fun s us ws h1 h2 => match us, ws, h1, h2 with | [v0, v1], [], _, _ => .of_eq rfl⟩
theorem ok__law_is_page {f : Addr} {fd : FuncData} (F : Fun K "_law_is_page" "_law_is_page" (top 14) f fd) (T : Txt mg) :
    FnG P w K mg base CX0 1 f fd ["_law_signs", "_law_it"] (spP K 2 f__law_is_page) := by
  refine fn_pure (k := 0) F s__law_is_page m__law_is_page (fun cdv A outer s H E hr hg => ?_)
  have S := s__law_is_page
  have hU := hr.units
  have hU1 := hu_of hr
  exact (psm_one (psm_ret (pem_and (pem_isi rfl T.g_isinstance rfl T.g_str (by rfl) (pem_var 1 (pv 1))) (pem_one (pem_cmp (op_eqP hU) ro_cmp (nomark _) (pem_lc (own := [("_law_sign", 2)]) rfl S.nd (pim_items (pem_var 1 (pv 1))) (by show blkC ["_law_signs", "_law_it", "_law_sign"] (defScope (top 14)) _ _ = true; decide +kernel) (fun _ _ _ _ _ => (pg_name (i := 2) S.nd rfl (Or.inl rfl))) (gm_name 2) (by decide) (fun _ _ _ _ _ => (ptms_one (ptm_cmp op_notIn_str ro_notIn (by with_unfolding_all rfl) (pem_var 2 (pv 2)) (pem_var 0 (pv 0))))) (fun _ _ _ _ _ => (pem_var 2 (pv 2)))) (pem_lst pam_nil))))))
/-! _law_tickets_right -/
noncomputable def m__law_tickets_right : MS := (mSeq (mAsg (mCallD 0 f__law_page (mCons (mVar 1) (mCons (mC (.int 30)) mNil))) (gmName 2)) (mSeq (mAsg (mApp dLst (mCons (mVar 2) (mCons (mC (.str "")) (mCons (mBin dAdd (mVar 2) (mC (.str "x"))) (mCons (mBin dAdd (mC (.str " ")) (mVar 2)) (mCons (mBin dAdd (mVar 2) (mC (.str "0"))) (mCons (mBin dAdd (mVar 2) (mC (.str "7"))) (mCons (mC .non) (mCons (mC (.int 0)) (mCons (mApp dTup (mCons (mVar 2) mNil)) (mCons (mApp dLst (mCons (mVar 2) mNil)) (mCons (mC (.bl true)) (mCons mDict0 (mCons (mC (.str "\n")) mNil)))))))))))))) (gmName 3)) (mSeq (mFor (mItems (mBin dAdd (mVar 3) (mApp dLst (mCons (mApp dList (mCons (mVar 2) mNil)) mNil)))) (gmName 4) (mSeq (mPar 5 6 (mCons (mApp dRepr (mCons (mVar 4) mNil)) (mCons (mCallP f__law_is_page [0, 1] (mCons (mVar 1) (mCons (mVar 4) mNil)) mNil) mNil))) (mSeq (mAsg (mApp dLst (mCons (mCallP f_is_ticket [0, 1] (mCons (mVar 1) (mCons (mVar 4) mNil)) mNil) (mCons (mCallP f_is_ticket [1, 0] mNil (mCons (mVar 4) (mCons (mVar 1) mNil))) mNil))) (gmName 7)) (mIfS (mOrT (mTest (mBin dNe (mApp dRepr (mCons (mVar 7) mNil)) (mApp dRepr (mCons (mApp dLst (mCons (mVar 6) (mCons (mVar 6) mNil))) mNil)))) (mTest (mBin dNe (mApp dRepr (mCons (mVar 4) mNil)) (mVar 5)))) (mRet (mC (.bl false))) mSkip)))) (mRet (mC (.bl true))))))
theorem s__law_tickets_right : FnScope ["_law_deck_here", "_law_signs", "_law_page_here", "_law_some_here", "_law_it", "_law_was", "_law_due", "_law_told"] ["_law_deck_here", "_law_signs"] (defScope (top 15)) := ⟨rfl, rfl, rfl, by decide +kernel, rfl, by decide +kernel, by decide +kernel⟩
noncomputable def f__law_tickets_right : Dk → List D → Option (D × Dk) := runD 8 m__law_tickets_right
theorem bd__law_tickets_right {f : Addr} {fd : FuncData} (F : Fun K "_law_tickets_right" "_law_tickets_right" (top 15) f fd) : Bd fd ["_law_deck_here", "_law_signs"] 2 [] (List.range 2) := by
  obtain ⟨oc, od, kV, doc, pm, an, cdv, ct, osl, rfl, lk, hcd⟩ := F.ex
  exact ⟨fun s us ws h1 h2 => match us, ws, h1, h2 with | [v0, v1], [], _, _ => .of_eq rfl⟩
theorem ok__law_tickets_right {f : Addr} {fd : FuncData} (F : Fun K "_law_tickets_right" "_law_tickets_right" (top 15) f fd) (T : Txt mg) {a__law_is_page : Addr} {d__law_is_page : FuncData} (A__law_is_page : At K mg "_law_is_page" a__law_is_page) (F__law_is_page : Fun K "_law_is_page" "_law_is_page" (top 14) a__law_is_page d__law_is_page) (G__law_is_page : FnG P w K mg base CX0 1 a__law_is_page d__law_is_page ["_law_signs", "_law_it"] (spP K 2 f__law_is_page)) {a__law_page : Addr} {d__law_page : FuncData} (A__law_page : At K mg "_law_page" a__law_page) (F__law_page : Fun K "_law_page" "_law_page" (top 11) a__law_page d__law_page) (G__law_page : FnG P w K mg base CX0 3 a__law_page d__law_page ["_law_deck_here", "_law_signs", "_law_most"] (spD K 3 f__law_page)) {a_is_ticket : Addr} {d_is_ticket : FuncData} (A_is_ticket : At K mg "is_ticket" a_is_ticket) (F_is_ticket : Fun K "is_ticket" "is_ticket" (top 3) a_is_ticket d_is_ticket) (G_is_ticket : FnG P w K mg base CX0 1 a_is_ticket d_is_ticket ["digits", "thing"] (spP K 2 f_is_ticket)) :
    FnG P w K mg base CX0 4 f fd ["_law_deck_here", "_law_signs"] (spD K 2 f__law_tickets_right) := by
  have b__law_is_page_2 := bd__law_is_page_2 F__law_is_page
  have b__law_page := bd__law_page F__law_page
  have b_is_ticket_0_thing_digits := bd_is_ticket_0_thing_digits F_is_ticket
  have b_is_ticket_2 := bd_is_ticket_2 F_is_ticket
  refine fn_deck (k := 3) F s__law_tickets_right m__law_tickets_right (fun cdv A outer s H E hr hg => ?_)
  have S := s__law_tickets_right
  have hU := hr.units
  have hU1 := hu_of hr
  exact (psm_seq (psm_set (i := 2) S.nd rfl (Or.inl rfl) (pem_callD (i := 0) ⟨hr.mono (by decide), hg⟩ G__law_page rfl A__law_page.mg A__law_page.kp b__law_page (fix_cons (fix_cons fix_nil)) rfl (pv 0) (pam_cons (pem_var 1 (pv 1)) (pam_cons pem_int pam_nil)))) (psm_seq (psm_set (i := 3) S.nd rfl (Or.inl rfl) (pem_lst (pam_cons (pem_var 2 (pv 2)) (pam_cons pem_str (pam_cons (pem_op op_addA ro_add (pem_var 2 (pv 2)) pem_str) (pam_cons (pem_op op_addA ro_add pem_str (pem_var 2 (pv 2))) (pam_cons (pem_op op_addA ro_add (pem_var 2 (pv 2)) pem_str) (pam_cons (pem_op op_addA ro_add (pem_var 2 (pv 2)) pem_str) (pam_cons pem_non (pam_cons pem_int (pam_cons (pem_tup (pam_cons (pem_var 2 (pv 2)) pam_nil)) (pam_cons (pem_lst (pam_cons (pem_var 2 (pv 2)) pam_nil)) (pam_cons pem_bl (pam_cons pem_dict0 (pam_cons pem_str pam_nil))))))))))))))) (psm_seq (psm_for PassesOwn.never rfl (pim_items (pem_op op_addA ro_add (pem_var 3 (pv 3)) (pem_lst (pam_cons (pem_callTy (call_listA rfl) rc_list rfl T.g_list (by rfl) (pam_cons (pem_var 2 (pv 2)) pam_nil)) pam_nil)))) (pg_name (i := 4) S.nd rfl (Or.inl rfl)) (gm_name 4) (psm_seq (psm_par rfl S.nd (i := 5) (j := 6) rfl rfl (by decide) rfl rfl (pam_cons (pem_callB (call_reprP hg hU) rc_repr rfl T.g_repr (by rfl) (pam_cons (pem_var 4 (pv 4)) pam_nil)) (pam_cons (pem_callP ⟨hr.mono (by decide), hg⟩ G__law_is_page rfl A__law_is_page.mg A__law_is_page.kp b__law_is_page_2 (fix_cons (fix_cons fix_nil)) (by decide) rfl (pam_cons (pem_var 1 (pv 1)) (pam_cons (pem_var 4 (pv 4)) pam_nil))) pam_nil)) rfl) (psm_seq (psm_set (i := 7) S.nd rfl (Or.inl rfl) (pem_lst (pam_cons (pem_callP ⟨hr.mono (by decide), hg⟩ G_is_ticket rfl A_is_ticket.mg A_is_ticket.kp b_is_ticket_2 (fix_cons (fix_cons fix_nil)) (by decide) rfl (pam_cons (pem_var 1 (pv 1)) (pam_cons (pem_var 4 (pv 4)) pam_nil))) (pam_cons (pem_callPK0 ⟨hr.mono (by decide), hg⟩ G_is_ticket rfl A_is_ticket.mg A_is_ticket.kp b_is_ticket_0_thing_digits (fix_cons (fix_cons fix_nil)) (by decide) rfl (pkm_cons (pem_var 4 (pv 4)) (pkm_cons (pem_var 1 (pv 1)) pkm_nil))) pam_nil)))) (psm_one (psm_if (ptm_w (pwm_or (ptm_cmp (op_neP hU) ro_cmp (nomark _) (pem_callB (call_reprP hg hU) rc_repr rfl T.g_repr (by rfl) (pam_cons (pem_var 7 (pv 7)) pam_nil)) (pem_callB (call_reprP hg hU) rc_repr rfl T.g_repr (by rfl) (pam_cons (pem_lst (pam_cons (pem_var 6 (pv 6)) (pam_cons (pem_var 6 (pv 6)) pam_nil))) pam_nil))) (pwm_or1 (ptm_cmp (op_neP hU) ro_cmp (nomark _) (pem_callB (call_reprP hg hU) rc_repr rfl T.g_repr (by rfl) (pam_cons (pem_var 4 (pv 4)) pam_nil)) (pem_var 5 (pv 5)))))) (psm_one (psm_ret pem_bl)) psm_nil))))) (psm_one (psm_ret pem_bl)))))
/-! _law_rolls_right -/
noncomputable def m__law_rolls_right : MS := (mSeq (mAsg (mCallP f__law_pages [0, 1] (mCons (mVar 1) (mCons (mC (.int 3)) mNil)) mNil) (gmName 2)) (mSeq (mFor (mRange (mCons (mC (.int 4)) mNil)) (gmName 3) (mSeq (mAsg (mApp dTuple (mCons (mLc (mItems (mVar 2)) (gmName 9) (mTest (mBin dEq (mApp dLen (mCons (mVar 9) mNil)) (mVar 3))) (mVar 9) [9]) mNil)) (gmName 5)) (mIfS (mTest (mBin dNe (mApp dRepr (mCons (mApp dLst (mCons (mCallP f_roll [0, 1] (mCons (mVar 1) (mCons (mVar 3) mNil)) mNil) (mCons (mCallP f_roll [1, 0] mNil (mCons (mVar 3) (mCons (mVar 1) mNil))) mNil))) mNil)) (mApp dRepr (mCons (mApp dLst (mCons (mVar 5) (mCons (mVar 5) mNil))) mNil)))) (mRet (mC (.bl false))) mSkip))) (mSeq (mFor (mRange (mCons (mC (.int 8)) mNil)) (gmName 4) (mSeq (mPar 6 7 (mCons (mCallD 0 f__law_pick (mCons (mVar 2) mNil)) (mCons (mCallD 0 f__law_pick (mCons (mVar 2) mNil)) mNil))) (mSeq (mAsg (mBin dLt (mBin dIndex (mVar 2) (mVar 6)) (mBin dIndex (mVar 2) (mVar 7))) (gmName 5)) (mSeq (mAsg (mApp dLst (mCons (mCallP f_is_ahead [0, 1] (mCons (mVar 6) (mCons (mVar 7) mNil)) mNil) (mCons (mCallP f_is_ahead [1, 0] mNil (mCons (mVar 7) (mCons (mVar 6) mNil))) (mCons (mCallP f_is_ahead [0, 1] (mCons (mVar 6) (mCons (mVar 6) mNil)) mNil) mNil)))) (gmName 8)) (mIfS (mTest (mBin dNe (mApp dRepr (mCons (mVar 8) mNil)) (mApp dRepr (mCons (mApp dLst (mCons (mVar 5) (mCons (mVar 5) (mCons (mC (.bl false)) mNil)))) mNil)))) (mRet (mC (.bl false))) mSkip))))) (mRet (mC (.bl true))))))
theorem s__law_rolls_right : FnScope ["_law_deck_here", "_law_signs", "_law_every", "_law_size", "_law_turn", "_law_due", "_law_near", "_law_far", "_law_told", "_law_page_here"] ["_law_deck_here", "_law_signs"] (defScope (top 16)) := ⟨rfl, rfl, rfl, by decide +kernel, rfl, by decide +kernel, by decide +kernel⟩
noncomputable def f__law_rolls_right : Dk → List D → Option (D × Dk) := runD 10 m__law_rolls_right
theorem bd__law_rolls_right {f : Addr} {fd : FuncData} (F : Fun K "_law_rolls_right" "_law_rolls_right" (top 16) f fd) : Bd fd ["_law_deck_here", "_law_signs"] 2 [] (List.range 2) := by
  obtain ⟨oc, od, kV, doc, pm, an, cdv, ct, osl, rfl, lk, hcd⟩ := F.ex
  exact ⟨fun s us ws h1 h2 => match us, ws, h1, h2 with | [v0, v1], [], _, _ => .of_eq rfl⟩
theorem ok__law_rolls_right {f : Addr} {fd : FuncData} (F : Fun K "_law_rolls_right" "_law_rolls_right" (top 16) f fd) (T : Txt mg) {a__law_pages : Addr} {d__law_pages : FuncData} (A__law_pages : At K mg "_law_pages" a__law_pages) (F__law_pages : Fun K "_law_pages" "_law_pages" (top 10) a__law_pages d__law_pages) (G__law_pages : FnG P w K mg base CX0 1 a__law_pages d__law_pages ["_law_signs", "_law_most"] (spP K 2 f__law_pages)) {a__law_pick : Addr} {d__law_pick : FuncData} (A__law_pick : At K mg "_law_pick" a__law_pick) (F__law_pick : Fun K "_law_pick" "_law_pick" (top 9) a__law_pick d__law_pick) (G__law_pick : FnG P w K mg base CX0 2 a__law_pick d__law_pick ["_law_deck_here", "_law_some_here"] (spD K 2 f__law_pick)) {a_is_ahead : Addr} {d_is_ahead : FuncData} (A_is_ahead : At K mg "is_ahead" a_is_ahead) (F_is_ahead : Fun K "is_ahead" "is_ahead" (top 5) a_is_ahead d_is_ahead) (G_is_ahead : FnG P w K mg base CX0 1 a_is_ahead d_is_ahead ["one", "other"] (spP K 2 f_is_ahead)) {a_roll : Addr} {d_roll : FuncData} (A_roll : At K mg "roll" a_roll) (F_roll : Fun K "roll" "roll" (top 4) a_roll d_roll) (G_roll : FnG P w K mg base CX0 1 a_roll d_roll ["digits", "length"] (spP K 2 f_roll)) :
    FnG P w K mg base CX0 3 f fd ["_law_deck_here", "_law_signs"] (spD K 2 f__law_rolls_right) := by
  have b__law_pages_2 := bd__law_pages_2 F__law_pages
  have b__law_pick := bd__law_pick F__law_pick
  have b_is_ahead_0_other_one := bd_is_ahead_0_other_one F_is_ahead
  have b_is_ahead_2 := bd_is_ahead_2 F_is_ahead
  have b_roll_0_length_digits := bd_roll_0_length_digits F_roll
  have b_roll_2 := bd_roll_2 F_roll
  refine fn_deck (k := 2) F s__law_rolls_right m__law_rolls_right (fun cdv A outer s H E hr hg => ?_)
  have S := s__law_rolls_right
  have hU := hr.units
  have hU1 := hu_of hr
  exact (psm_seq (psm_set (i := 2) S.nd rfl (Or.inl rfl) (pem_callP ⟨hr.mono (by decide), hg⟩ G__law_pages rfl A__law_pages.mg A__law_pages.kp b__law_pages_2 (fix_cons (fix_cons fix_nil)) (by decide) rfl (pam_cons (pem_var 1 (pv 1)) (pam_cons pem_int pam_nil)))) (psm_seq (psm_for PassesOwn.never rfl (pim_range1 rfl T.g_range (pam_cons pem_int pam_nil) (fun _ _ _ h => fix_cons fix_nil _ _ _ h)) (pg_name (i := 3) S.nd rfl (Or.inr rfl)) (gm_name 3) (psm_seq (psm_set (i := 5) S.nd rfl (Or.inl rfl) (pem_callTy (call_tupleA rfl) rc_tuple rfl T.g_tuple (by rfl) (pam_cons (pem_lc (own := [("_law_page_here", 9)]) rfl S.nd (pim_items (pem_var 2 (pv 2))) (by show blkC ["_law_deck_here", "_law_signs", "_law_every", "_law_size", "_law_turn", "_law_due", "_law_near", "_law_far", "_law_told", "_law_page_here"] (defScope (top 16)) _ _ = true; decide +kernel) (fun _ _ _ _ _ => (pg_name (i := 9) S.nd rfl (Or.inl rfl))) (gm_name 9) (by decide) (fun _ _ _ _ _ => (ptms_one (ptm_cmp (op_eqP hU) ro_cmp (nomark _) (pem_callB call_lenA rc_len rfl T.g_len (by rfl) (pam_cons (pem_var 9 (pv 9)) pam_nil)) (pem_var 3 (pv 3))))) (fun _ _ _ _ _ => (pem_var 9 (pv 9)))) pam_nil))) (psm_one (psm_if (ptm_cmp (op_neP hU) ro_cmp (nomark _) (pem_callB (call_reprP hg hU) rc_repr rfl T.g_repr (by rfl) (pam_cons (pem_lst (pam_cons (pem_callP ⟨hr.mono (by decide), hg⟩ G_roll rfl A_roll.mg A_roll.kp b_roll_2 (fix_cons (fix_cons fix_nil)) (by decide) rfl (pam_cons (pem_var 1 (pv 1)) (pam_cons (pem_var 3 (pv 3)) pam_nil))) (pam_cons (pem_callPK0 ⟨hr.mono (by decide), hg⟩ G_roll rfl A_roll.mg A_roll.kp b_roll_0_length_digits (fix_cons (fix_cons fix_nil)) (by decide) rfl (pkm_cons (pem_var 3 (pv 3)) (pkm_cons (pem_var 1 (pv 1)) pkm_nil))) pam_nil))) pam_nil)) (pem_callB (call_reprP hg hU) rc_repr rfl T.g_repr (by rfl) (pam_cons (pem_lst (pam_cons (pem_var 5 (pv 5)) (pam_cons (pem_var 5 (pv 5)) pam_nil))) pam_nil))) (psm_one (psm_ret pem_bl)) psm_nil)))) (psm_seq (psm_for PassesOwn.never rfl (pim_range1 rfl T.g_range (pam_cons pem_int pam_nil) (fun _ _ _ h => fix_cons fix_nil _ _ _ h)) (pg_name (i := 4) S.nd rfl (Or.inl rfl)) (gm_name 4) (psm_seq (psm_par rfl S.nd (i := 6) (j := 7) rfl rfl (by decide) rfl rfl (pam_cons (pem_callD (i := 0) ⟨hr.mono (by decide), hg⟩ G__law_pick rfl A__law_pick.mg A__law_pick.kp b__law_pick (fix_cons fix_nil) rfl (pv 0) (pam_cons (pem_var 2 (pv 2)) pam_nil)) (pam_cons (pem_callD (i := 0) ⟨hr.mono (by decide), hg⟩ G__law_pick rfl A__law_pick.mg A__law_pick.kp b__law_pick (fix_cons fix_nil) rfl (pv 0) (pam_cons (pem_var 2 (pv 2)) pam_nil)) pam_nil)) rfl) (psm_seq (psm_set (i := 5) S.nd rfl (Or.inl rfl) (pem_cmp (op_ltP hU) ro_cmp (nomark _) (pem_index (pem_var 2 (pv 2)) (pem_var 6 (pv 6))) (pem_index (pem_var 2 (pv 2)) (pem_var 7 (pv 7))))) (psm_seq (psm_set (i := 8) S.nd rfl (Or.inl rfl) (pem_lst (pam_cons (pem_callP ⟨hr.mono (by decide), hg⟩ G_is_ahead rfl A_is_ahead.mg A_is_ahead.kp b_is_ahead_2 (fix_cons (fix_cons fix_nil)) (by decide) rfl (pam_cons (pem_var 6 (pv 6)) (pam_cons (pem_var 7 (pv 7)) pam_nil))) (pam_cons (pem_callPK0 ⟨hr.mono (by decide), hg⟩ G_is_ahead rfl A_is_ahead.mg A_is_ahead.kp b_is_ahead_0_other_one (fix_cons (fix_cons fix_nil)) (by decide) rfl (pkm_cons (pem_var 7 (pv 7)) (pkm_cons (pem_var 6 (pv 6)) pkm_nil))) (pam_cons (pem_callP ⟨hr.mono (by decide), hg⟩ G_is_ahead rfl A_is_ahead.mg A_is_ahead.kp b_is_ahead_2 (fix_cons (fix_cons fix_nil)) (by decide) rfl (pam_cons (pem_var 6 (pv 6)) (pam_cons (pem_var 6 (pv 6)) pam_nil))) pam_nil))))) (psm_one (psm_if (ptm_cmp (op_neP hU) ro_cmp (nomark _) (pem_callB (call_reprP hg hU) rc_repr rfl T.g_repr (by rfl) (pam_cons (pem_var 8 (pv 8)) pam_nil)) (pem_callB (call_reprP hg hU) rc_repr rfl T.g_repr (by rfl) (pam_cons (pem_lst (pam_cons (pem_var 5 (pv 5)) (pam_cons (pem_var 5 (pv 5)) (pam_cons pem_bl pam_nil)))) pam_nil))) (psm_one (psm_ret pem_bl)) psm_nil)))))) (psm_one (psm_ret pem_bl)))))
/-! law -/
noncomputable def m_law : MS := (mSeq (mSetDk 1 f__law_deck (mCons (mVar 0) mNil)) (mSeq (mFor (mItems (mCallD 1 f__law_some mNil)) (gmName 2) (mSeq (mPar 5 6 (mCons (mApp dRepr (mCons (mVar 2) mNil)) (mCons (mCallP f__law_are_signs [0] (mCons (mVar 2) mNil) mNil) mNil))) (mIfS (mOrT (mTest (mBin dNe (mApp dRepr (mCons (mApp dLst (mCons (mCallP f_are_digits [0] (mCons (mVar 2) mNil) mNil) (mCons (mCallP f_are_digits [0] mNil (mCons (mVar 2) mNil)) mNil))) mNil)) (mApp dRepr (mCons (mApp dLst (mCons (mVar 6) (mCons (mVar 6) mNil))) mNil)))) (mTest (mBin dNe (mApp dRepr (mCons (mVar 2) mNil)) (mVar 5)))) (mRet (mC (.bl false))) mSkip))) (mSeq (mFor (mItems (mApp dTup (mCons (mCallD 1 f__law_pick (mCons (mApp dLst (mCons (mC (.str "01")) (mCons (mC (.str "0")) (mCons (mC (.str "9")) (mCons (mC (.str "38")) (mCons (mC (.str "012")) mNil)))))) mNil)) (mCons (mCallD 1 f__law_pick (mCons (mApp dLst (mCons (mC (.str "012")) (mCons (mC (.str "1357")) (mCons (mC (.str "0123456789")) (mCons (mC (.str "48")) mNil))))) mNil)) mNil)))) (gmName 3) (mIfS (mOrT (mNotT (mTest (mCallD 1 f__law_tickets_right (mCons (mVar 3) mNil)))) (mAndT (mTest (mBin dLt (mApp dLen (mCons (mVar 3) mNil)) (mC (.int 10)))) (mNotT (mTest (mCallD 1 f__law_rolls_right (mCons (mVar 3) mNil)))))) (mRet (mC (.bl false))) mSkip)) (mSeq (mAsg (mCallD 1 f__law_pick (mCons (mApp dLst (mCons (mApp dTup (mCons (mC (.str "0123456789")) (mCons (mC (.int 3)) mNil))) (mCons (mApp dTup (mCons (mC (.str "01")) (mCons (mC (.int 9)) mNil))) (mCons (mApp dTup (mCons (mC (.str "012")) (mCons (mC (.int 6)) mNil))) mNil)))) mNil)) (gmTup (gmCons (gmName 3) (gmCons (gmName 4) gmNil)) 2)) (mRet (mBin dEq (mApp dList (mCons (mCallP f_roll [0, 1] (mCons (mVar 3) (mCons (mVar 4) mNil)) mNil) mNil)) (mLc (mItems (mCallP f__law_pages [0, 1] (mCons (mVar 3) (mCons (mVar 4) mNil)) mNil)) (gmName 7) (mTest (mBin dEq (mApp dLen (mCons (mVar 7) mNil)) (mVar 4))) (mVar 7) [7])))))))
theorem s_law : FnScope ["_law_script", "_law_deck_here", "_law_it", "_law_signs", "_law_size", "_law_was", "_law_due", "_law_page_here"] ["_law_script"] (defScope (top 17)) := ⟨rfl, rfl, rfl, by decide +kernel, rfl, by decide +kernel, by decide +kernel⟩
noncomputable def f_law : List D → Option D := runP 8 m_law
theorem ok_law {f : Addr} {fd : FuncData} (F : Fun K "law" "law" (top 17) f fd) (T : Txt mg) {a__law_are_signs : Addr} {d__law_are_signs : FuncData} (A__law_are_signs : At K mg "_law_are_signs" a__law_are_signs) (F__law_are_signs : Fun K "_law_are_signs" "_law_are_signs" (top 13) a__law_are_signs d__law_are_signs) (G__law_are_signs : FnG P w K mg base CX0 1 a__law_are_signs d__law_are_signs ["_law_it"] (spP K 1 f__law_are_signs)) {a__law_deck : Addr} {d__law_deck : FuncData} (A__law_deck : At K mg "_law_deck" a__law_deck) (F__law_deck : Fun K "_law_deck" "_law_deck" (top 7) a__law_deck d__law_deck) (G__law_deck : FnG P w K mg base CX0 1 a__law_deck d__law_deck ["_law_script"] (spN K 1 f__law_deck)) {a__law_pages : Addr} {d__law_pages : FuncData} (A__law_pages : At K mg "_law_pages" a__law_pages) (F__law_pages : Fun K "_law_pages" "_law_pages" (top 10) a__law_pages d__law_pages) (G__law_pages : FnG P w K mg base CX0 1 a__law_pages d__law_pages ["_law_signs", "_law_most"] (spP K 2 f__law_pages)) {a__law_pick : Addr} {d__law_pick : FuncData} (A__law_pick : At K mg "_law_pick" a__law_pick) (F__law_pick : Fun K "_law_pick" "_law_pick" (top 9) a__law_pick d__law_pick) (G__law_pick : FnG P w K mg base CX0 2 a__law_pick d__law_pick ["_law_deck_here", "_law_some_here"] (spD K 2 f__law_pick)) {a__law_rolls_right : Addr} {d__law_rolls_right : FuncData} (A__law_rolls_right : At K mg "_law_rolls_right" a__law_rolls_right) (F__law_rolls_right : Fun K "_law_rolls_right" "_law_rolls_right" (top 16) a__law_rolls_right d__law_rolls_right) (G__law_rolls_right : FnG P w K mg base CX0 3 a__law_rolls_right d__law_rolls_right ["_law_deck_here", "_law_signs"] (spD K 2 f__law_rolls_right)) {a__law_some : Addr} {d__law_some : FuncData} (A__law_some : At K mg "_law_some" a__law_some) (F__law_some : Fun K "_law_some" "_law_some" (top 12) a__law_some d__law_some) (G__law_some : FnG P w K mg base CX0 3 a__law_some d__law_some ["_law_deck_here"] (spD K 1 f__law_some)) {a__law_tickets_right : Addr} {d__law_tickets_right : FuncData} (A__law_tickets_right : At K mg "_law_tickets_right" a__law_tickets_right) (F__law_tickets_right : Fun K "_law_tickets_right" "_law_tickets_right" (top 15) a__law_tickets_right d__law_tickets_right) (G__law_tickets_right : FnG P w K mg base CX0 4 a__law_tickets_right d__law_tickets_right ["_law_deck_here", "_law_signs"] (spD K 2 f__law_tickets_right)) {a_are_digits : Addr} {d_are_digits : FuncData} (A_are_digits : At K mg "are_digits" a_are_digits) (F_are_digits : Fun K "are_digits" "are_digits" (top 2) a_are_digits d_are_digits) (G_are_digits : FnG P w K mg base CX0 2 a_are_digits d_are_digits ["thing"] (spP K 1 f_are_digits)) {a_roll : Addr} {d_roll : FuncData} (A_roll : At K mg "roll" a_roll) (F_roll : Fun K "roll" "roll" (top 4) a_roll d_roll) (G_roll : FnG P w K mg base CX0 1 a_roll d_roll ["digits", "length"] (spP K 2 f_roll)) :
    FnG P w K mg base CX0 5 f fd ["_law_script"] (spP K 1 f_law) := by
  have b__law_are_signs_1 := bd__law_are_signs_1 F__law_are_signs
  have b__law_deck := bd__law_deck F__law_deck
  have b__law_pages_2 := bd__law_pages_2 F__law_pages
  have b__law_pick := bd__law_pick F__law_pick
  have b__law_rolls_right := bd__law_rolls_right F__law_rolls_right
  have b__law_some := bd__law_some F__law_some
  have b__law_tickets_right := bd__law_tickets_right F__law_tickets_right
  have b_are_digits_0_thing := bd_are_digits_0_thing F_are_digits
  have b_are_digits_1 := bd_are_digits_1 F_are_digits
  have b_roll_0_length_digits := bd_roll_0_length_digits F_roll
  have b_roll_2 := bd_roll_2 F_roll
  refine fn_pure (k := 4) F s_law m_law (fun cdv A outer s H E hr hg => ?_)
  have S := s_law
  have hU := hr.units
  have hU1 := hu_of hr
  exact (psm_seq (psm_setDk (i := 1) ⟨hr.mono (by decide), hg⟩ G__law_deck rfl A__law_deck.mg A__law_deck.kp b__law_deck (fix_cons fix_nil) (pam_cons (pem_var 0 (pv 0)) pam_nil) S.nd rfl (Or.inl rfl)) (psm_seq (psm_for PassesOwn.never rfl (pim_items (pem_callD (i := 1) ⟨hr.mono (by decide), hg⟩ G__law_some rfl A__law_some.mg A__law_some.kp b__law_some fix_nil rfl (pv 1) pam_nil)) (pg_name (i := 2) S.nd rfl (Or.inl rfl)) (gm_name 2) (psm_seq (psm_par rfl S.nd (i := 5) (j := 6) rfl rfl (by decide) rfl rfl (pam_cons (pem_callB (call_reprP hg hU) rc_repr rfl T.g_repr (by rfl) (pam_cons (pem_var 2 (pv 2)) pam_nil)) (pam_cons (pem_callP ⟨hr.mono (by decide), hg⟩ G__law_are_signs rfl A__law_are_signs.mg A__law_are_signs.kp b__law_are_signs_1 (fix_cons fix_nil) (by decide) rfl (pam_cons (pem_var 2 (pv 2)) pam_nil)) pam_nil)) rfl) (psm_one (psm_if (ptm_w (pwm_or (ptm_cmp (op_neP hU) ro_cmp (nomark _) (pem_callB (call_reprP hg hU) rc_repr rfl T.g_repr (by rfl) (pam_cons (pem_lst (pam_cons (pem_callP ⟨hr.mono (by decide), hg⟩ G_are_digits rfl A_are_digits.mg A_are_digits.kp b_are_digits_1 (fix_cons fix_nil) (by decide) rfl (pam_cons (pem_var 2 (pv 2)) pam_nil)) (pam_cons (pem_callPK0 ⟨hr.mono (by decide), hg⟩ G_are_digits rfl A_are_digits.mg A_are_digits.kp b_are_digits_0_thing (fix_cons fix_nil) (by decide) rfl (pkm_cons (pem_var 2 (pv 2)) pkm_nil)) pam_nil))) pam_nil)) (pem_callB (call_reprP hg hU) rc_repr rfl T.g_repr (by rfl) (pam_cons (pem_lst (pam_cons (pem_var 6 (pv 6)) (pam_cons (pem_var 6 (pv 6)) pam_nil))) pam_nil))) (pwm_or1 (ptm_cmp (op_neP hU) ro_cmp (nomark _) (pem_callB (call_reprP hg hU) rc_repr rfl T.g_repr (by rfl) (pam_cons (pem_var 2 (pv 2)) pam_nil)) (pem_var 5 (pv 5)))))) (psm_one (psm_ret pem_bl)) psm_nil)))) (psm_seq (psm_for PassesOwn.never rfl (pim_items (pem_tup (pam_cons (pem_callD (i := 1) ⟨hr.mono (by decide), hg⟩ G__law_pick rfl A__law_pick.mg A__law_pick.kp b__law_pick (fix_cons fix_nil) rfl (pv 1) (pam_cons (pem_lst (pam_cons pem_str (pam_cons pem_str (pam_cons pem_str (pam_cons pem_str (pam_cons pem_str pam_nil)))))) pam_nil)) (pam_cons (pem_callD (i := 1) ⟨hr.mono (by decide), hg⟩ G__law_pick rfl A__law_pick.mg A__law_pick.kp b__law_pick (fix_cons fix_nil) rfl (pv 1) (pam_cons (pem_lst (pam_cons pem_str (pam_cons pem_str (pam_cons pem_str (pam_cons pem_str pam_nil))))) pam_nil)) pam_nil)))) (pg_name (i := 3) S.nd rfl (Or.inl rfl)) (gm_name 3) (psm_one (psm_if (ptm_w (pwm_or (ptm_not (ptm_val (pem_callD (i := 1) ⟨hr.mono (by decide), hg⟩ G__law_tickets_right rfl A__law_tickets_right.mg A__law_tickets_right.kp b__law_tickets_right (fix_cons fix_nil) rfl (pv 1) (pam_cons (pem_var 3 (pv 3)) pam_nil)))) (pwm_or1 (ptm_w (pwm_and (ptm_cmp (op_ltP hU) ro_cmp (nomark _) (pem_callB call_lenA rc_len rfl T.g_len (by rfl) (pam_cons (pem_var 3 (pv 3)) pam_nil)) pem_int) (pwm_and1 (ptm_not (ptm_val (pem_callD (i := 1) ⟨hr.mono (by decide), hg⟩ G__law_rolls_right rfl A__law_rolls_right.mg A__law_rolls_right.kp b__law_rolls_right (fix_cons fix_nil) rfl (pv 1) (pam_cons (pem_var 3 (pv 3)) pam_nil)))))))))) (psm_one (psm_ret pem_bl)) psm_nil))) (psm_seq (psm_asg (pem_callD (i := 1) ⟨hr.mono (by decide), hg⟩ G__law_pick rfl A__law_pick.mg A__law_pick.kp b__law_pick (fix_cons fix_nil) rfl (pv 1) (pam_cons (pem_lst (pam_cons (pem_tup (pam_cons pem_str (pam_cons pem_int pam_nil))) (pam_cons (pem_tup (pam_cons pem_str (pam_cons pem_int pam_nil))) (pam_cons (pem_tup (pam_cons pem_str (pam_cons pem_int pam_nil))) pam_nil)))) pam_nil)) (pg_tup rfl (pgs_cons (pg_name (i := 3) S.nd rfl (Or.inl rfl)) (pgs_cons (pg_name (i := 4) S.nd rfl (Or.inr rfl)) pgs_nil))) (gm_tup (gm_cons (gm_name 3) (gm_cons (gm_name 4) gm_nil)))) (psm_one (psm_ret (pem_cmp (op_eqP hU) ro_cmp (nomark _) (pem_callTy (call_listA rfl) rc_list rfl T.g_list (by rfl) (pam_cons (pem_callP ⟨hr.mono (by decide), hg⟩ G_roll rfl A_roll.mg A_roll.kp b_roll_2 (fix_cons (fix_cons fix_nil)) (by decide) rfl (pam_cons (pem_var 3 (pv 3)) (pam_cons (pem_var 4 (pv 4)) pam_nil))) pam_nil)) (pem_lc (own := [("_law_page_here", 7)]) rfl S.nd (pim_items (pem_callP ⟨hr.mono (by decide), hg⟩ G__law_pages rfl A__law_pages.mg A__law_pages.kp b__law_pages_2 (fix_cons (fix_cons fix_nil)) (by decide) rfl (pam_cons (pem_var 3 (pv 3)) (pam_cons (pem_var 4 (pv 4)) pam_nil)))) (by show blkC ["_law_script", "_law_deck_here", "_law_it", "_law_signs", "_law_size", "_law_was", "_law_due", "_law_page_here"] (defScope (top 17)) _ _ = true; decide +kernel) (fun _ _ _ _ _ => (pg_name (i := 7) S.nd rfl (Or.inl rfl))) (gm_name 7) (by decide) (fun _ _ _ _ _ => (ptms_one (ptm_cmp (op_eqP hU) ro_cmp (nomark _) (pem_callB call_lenA rc_len rfl T.g_len (by rfl) (pam_cons (pem_var 7 (pv 7)) pam_nil)) (pem_var 4 (pv 4))))) (fun _ _ _ _ _ => (pem_var 7 (pv 7)))))))))))
theorem all_mk {h : Heap} {fa : Addr} (X : K.In h) (G : h.Ns mainGlobals mg) (hfa : mg "law" = some (.ref fa))
    {a__law_are_signs : Addr} {oc__law_are_signs kV__law_are_signs dc__law_are_signs pm__law_are_signs cd__law_are_signs ct__law_are_signs : Value} {od__law_are_signs an__law_are_signs : Option Addr} {sl__law_are_signs : Array (Option Value)}
    (n__law_are_signs : PySem.W.nsIn K mainGlobals "_law_are_signs" = some (some (.ref a__law_are_signs)))
    (l__law_are_signs : K.lookup a__law_are_signs = some ⟨oc__law_are_signs, od__law_are_signs, .func (PySem.W.fnOf "_law_are_signs" "_law_are_signs" (defArgs (top 13)) (defBody (top 13)) (defScope (top 13)) .none kV__law_are_signs dc__law_are_signs pm__law_are_signs an__law_are_signs cd__law_are_signs ct__law_are_signs), sl__law_are_signs⟩)
    (c__law_are_signs : PySem.W.codeIn K cd__law_are_signs "_law_are_signs" = true) (k__law_are_signs : PySem.W.keepIn K (.ref a__law_are_signs) = true)
    {a__law_deck : Addr} {oc__law_deck kV__law_deck dc__law_deck pm__law_deck cd__law_deck ct__law_deck : Value} {od__law_deck an__law_deck : Option Addr} {sl__law_deck : Array (Option Value)}
    (n__law_deck : PySem.W.nsIn K mainGlobals "_law_deck" = some (some (.ref a__law_deck)))
    (l__law_deck : K.lookup a__law_deck = some ⟨oc__law_deck, od__law_deck, .func (PySem.W.fnOf "_law_deck" "_law_deck" (defArgs (top 7)) (defBody (top 7)) (defScope (top 7)) .none kV__law_deck dc__law_deck pm__law_deck an__law_deck cd__law_deck ct__law_deck), sl__law_deck⟩)
    (c__law_deck : PySem.W.codeIn K cd__law_deck "_law_deck" = true) (k__law_deck : PySem.W.keepIn K (.ref a__law_deck) = true)
    {a__law_pages : Addr} {oc__law_pages kV__law_pages dc__law_pages pm__law_pages cd__law_pages ct__law_pages : Value} {od__law_pages an__law_pages : Option Addr} {sl__law_pages : Array (Option Value)}
    (n__law_pages : PySem.W.nsIn K mainGlobals "_law_pages" = some (some (.ref a__law_pages)))
    (l__law_pages : K.lookup a__law_pages = some ⟨oc__law_pages, od__law_pages, .func (PySem.W.fnOf "_law_pages" "_law_pages" (defArgs (top 10)) (defBody (top 10)) (defScope (top 10)) .none kV__law_pages dc__law_pages pm__law_pages an__law_pages cd__law_pages ct__law_pages), sl__law_pages⟩)
    (c__law_pages : PySem.W.codeIn K cd__law_pages "_law_pages" = true) (k__law_pages : PySem.W.keepIn K (.ref a__law_pages) = true)
    {a__law_draw : Addr} {oc__law_draw kV__law_draw dc__law_draw pm__law_draw cd__law_draw ct__law_draw : Value} {od__law_draw an__law_draw : Option Addr} {sl__law_draw : Array (Option Value)}
    (n__law_draw : PySem.W.nsIn K mainGlobals "_law_draw" = some (some (.ref a__law_draw)))
    (l__law_draw : K.lookup a__law_draw = some ⟨oc__law_draw, od__law_draw, .func (PySem.W.fnOf "_law_draw" "_law_draw" (defArgs (top 8)) (defBody (top 8)) (defScope (top 8)) .none kV__law_draw dc__law_draw pm__law_draw an__law_draw cd__law_draw ct__law_draw), sl__law_draw⟩)
    (c__law_draw : PySem.W.codeIn K cd__law_draw "_law_draw" = true) (k__law_draw : PySem.W.keepIn K (.ref a__law_draw) = true)
    {a__law_pick : Addr} {oc__law_pick kV__law_pick dc__law_pick pm__law_pick cd__law_pick ct__law_pick : Value} {od__law_pick an__law_pick : Option Addr} {sl__law_pick : Array (Option Value)}
    (n__law_pick : PySem.W.nsIn K mainGlobals "_law_pick" = some (some (.ref a__law_pick)))
    (l__law_pick : K.lookup a__law_pick = some ⟨oc__law_pick, od__law_pick, .func (PySem.W.fnOf "_law_pick" "_law_pick" (defArgs (top 9)) (defBody (top 9)) (defScope (top 9)) .none kV__law_pick dc__law_pick pm__law_pick an__law_pick cd__law_pick ct__law_pick), sl__law_pick⟩)
    (c__law_pick : PySem.W.codeIn K cd__law_pick "_law_pick" = true) (k__law_pick : PySem.W.keepIn K (.ref a__law_pick) = true)
    {a_is_ahead : Addr} {oc_is_ahead kV_is_ahead dc_is_ahead pm_is_ahead cd_is_ahead ct_is_ahead : Value} {od_is_ahead an_is_ahead : Option Addr} {sl_is_ahead : Array (Option Value)}
    (n_is_ahead : PySem.W.nsIn K mainGlobals "is_ahead" = some (some (.ref a_is_ahead)))
    (l_is_ahead : K.lookup a_is_ahead = some ⟨oc_is_ahead, od_is_ahead, .func (PySem.W.fnOf "is_ahead" "is_ahead" (defArgs (top 5)) (defBody (top 5)) (defScope (top 5)) .none kV_is_ahead dc_is_ahead pm_is_ahead an_is_ahead cd_is_ahead ct_is_ahead), sl_is_ahead⟩)
    (c_is_ahead : PySem.W.codeIn K cd_is_ahead "is_ahead" = true) (k_is_ahead : PySem.W.keepIn K (.ref a_is_ahead) = true)
    {a_roll : Addr} {oc_roll kV_roll dc_roll pm_roll cd_roll ct_roll : Value} {od_roll an_roll : Option Addr} {sl_roll : Array (Option Value)}
    (n_roll : PySem.W.nsIn K mainGlobals "roll" = some (some (.ref a_roll)))
    (l_roll : K.lookup a_roll = some ⟨oc_roll, od_roll, .func (PySem.W.fnOf "roll" "roll" (defArgs (top 4)) (defBody (top 4)) (defScope (top 4)) .none kV_roll dc_roll pm_roll an_roll cd_roll ct_roll), sl_roll⟩)
    (c_roll : PySem.W.codeIn K cd_roll "roll" = true) (k_roll : PySem.W.keepIn K (.ref a_roll) = true)
    {a__law_rolls_right : Addr} {oc__law_rolls_right kV__law_rolls_right dc__law_rolls_right pm__law_rolls_right cd__law_rolls_right ct__law_rolls_right : Value} {od__law_rolls_right an__law_rolls_right : Option Addr} {sl__law_rolls_right : Array (Option Value)}
    (n__law_rolls_right : PySem.W.nsIn K mainGlobals "_law_rolls_right" = some (some (.ref a__law_rolls_right)))
    (l__law_rolls_right : K.lookup a__law_rolls_right = some ⟨oc__law_rolls_right, od__law_rolls_right, .func (PySem.W.fnOf "_law_rolls_right" "_law_rolls_right" (defArgs (top 16)) (defBody (top 16)) (defScope (top 16)) .none kV__law_rolls_right dc__law_rolls_right pm__law_rolls_right an__law_rolls_right cd__law_rolls_right ct__law_rolls_right), sl__law_rolls_right⟩)
    (c__law_rolls_right : PySem.W.codeIn K cd__law_rolls_right "_law_rolls_right" = true) (k__law_rolls_right : PySem.W.keepIn K (.ref a__law_rolls_right) = true)
    {a__law_some : Addr} {oc__law_some kV__law_some dc__law_some pm__law_some cd__law_some ct__law_some : Value} {od__law_some an__law_some : Option Addr} {sl__law_some : Array (Option Value)}
    (n__law_some : PySem.W.nsIn K mainGlobals "_law_some" = some (some (.ref a__law_some)))
    (l__law_some : K.lookup a__law_some = some ⟨oc__law_some, od__law_some, .func (PySem.W.fnOf "_law_some" "_law_some" (defArgs (top 12)) (defBody (top 12)) (defScope (top 12)) .none kV__law_some dc__law_some pm__law_some an__law_some cd__law_some ct__law_some), sl__law_some⟩)
    (c__law_some : PySem.W.codeIn K cd__law_some "_law_some" = true) (k__law_some : PySem.W.keepIn K (.ref a__law_some) = true)
    {a__law_is_page : Addr} {oc__law_is_page kV__law_is_page dc__law_is_page pm__law_is_page cd__law_is_page ct__law_is_page : Value} {od__law_is_page an__law_is_page : Option Addr} {sl__law_is_page : Array (Option Value)}
    (n__law_is_page : PySem.W.nsIn K mainGlobals "_law_is_page" = some (some (.ref a__law_is_page)))
    (l__law_is_page : K.lookup a__law_is_page = some ⟨oc__law_is_page, od__law_is_page, .func (PySem.W.fnOf "_law_is_page" "_law_is_page" (defArgs (top 14)) (defBody (top 14)) (defScope (top 14)) .none kV__law_is_page dc__law_is_page pm__law_is_page an__law_is_page cd__law_is_page ct__law_is_page), sl__law_is_page⟩)
    (c__law_is_page : PySem.W.codeIn K cd__law_is_page "_law_is_page" = true) (k__law_is_page : PySem.W.keepIn K (.ref a__law_is_page) = true)
    {a__law_page : Addr} {oc__law_page kV__law_page dc__law_page pm__law_page cd__law_page ct__law_page : Value} {od__law_page an__law_page : Option Addr} {sl__law_page : Array (Option Value)}
    (n__law_page : PySem.W.nsIn K mainGlobals "_law_page" = some (some (.ref a__law_page)))
    (l__law_page : K.lookup a__law_page = some ⟨oc__law_page, od__law_page, .func (PySem.W.fnOf "_law_page" "_law_page" (defArgs (top 11)) (defBody (top 11)) (defScope (top 11)) .none kV__law_page dc__law_page pm__law_page an__law_page cd__law_page ct__law_page), sl__law_page⟩)
    (c__law_page : PySem.W.codeIn K cd__law_page "_law_page" = true) (k__law_page : PySem.W.keepIn K (.ref a__law_page) = true)
    {a_is_ticket : Addr} {oc_is_ticket kV_is_ticket dc_is_ticket pm_is_ticket cd_is_ticket ct_is_ticket : Value} {od_is_ticket an_is_ticket : Option Addr} {sl_is_ticket : Array (Option Value)}
    (n_is_ticket : PySem.W.nsIn K mainGlobals "is_ticket" = some (some (.ref a_is_ticket)))
    (l_is_ticket : K.lookup a_is_ticket = some ⟨oc_is_ticket, od_is_ticket, .func (PySem.W.fnOf "is_ticket" "is_ticket" (defArgs (top 3)) (defBody (top 3)) (defScope (top 3)) .none kV_is_ticket dc_is_ticket pm_is_ticket an_is_ticket cd_is_ticket ct_is_ticket), sl_is_ticket⟩)
    (c_is_ticket : PySem.W.codeIn K cd_is_ticket "is_ticket" = true) (k_is_ticket : PySem.W.keepIn K (.ref a_is_ticket) = true)
    {a__law_tickets_right : Addr} {oc__law_tickets_right kV__law_tickets_right dc__law_tickets_right pm__law_tickets_right cd__law_tickets_right ct__law_tickets_right : Value} {od__law_tickets_right an__law_tickets_right : Option Addr} {sl__law_tickets_right : Array (Option Value)}
    (n__law_tickets_right : PySem.W.nsIn K mainGlobals "_law_tickets_right" = some (some (.ref a__law_tickets_right)))
    (l__law_tickets_right : K.lookup a__law_tickets_right = some ⟨oc__law_tickets_right, od__law_tickets_right, .func (PySem.W.fnOf "_law_tickets_right" "_law_tickets_right" (defArgs (top 15)) (defBody (top 15)) (defScope (top 15)) .none kV__law_tickets_right dc__law_tickets_right pm__law_tickets_right an__law_tickets_right cd__law_tickets_right ct__law_tickets_right), sl__law_tickets_right⟩)
    (c__law_tickets_right : PySem.W.codeIn K cd__law_tickets_right "_law_tickets_right" = true) (k__law_tickets_right : PySem.W.keepIn K (.ref a__law_tickets_right) = true)
    {a_is_ascending : Addr} {oc_is_ascending kV_is_ascending dc_is_ascending pm_is_ascending cd_is_ascending ct_is_ascending : Value} {od_is_ascending an_is_ascending : Option Addr} {sl_is_ascending : Array (Option Value)}
    (n_is_ascending : PySem.W.nsIn K mainGlobals "is_ascending" = some (some (.ref a_is_ascending)))
    (l_is_ascending : K.lookup a_is_ascending = some ⟨oc_is_ascending, od_is_ascending, .func (PySem.W.fnOf "is_ascending" "is_ascending" (defArgs (top 1)) (defBody (top 1)) (defScope (top 1)) .none kV_is_ascending dc_is_ascending pm_is_ascending an_is_ascending cd_is_ascending ct_is_ascending), sl_is_ascending⟩)
    (c_is_ascending : PySem.W.codeIn K cd_is_ascending "is_ascending" = true) (k_is_ascending : PySem.W.keepIn K (.ref a_is_ascending) = true)
    {a_are_digits : Addr} {oc_are_digits kV_are_digits dc_are_digits pm_are_digits cd_are_digits ct_are_digits : Value} {od_are_digits an_are_digits : Option Addr} {sl_are_digits : Array (Option Value)}
    (n_are_digits : PySem.W.nsIn K mainGlobals "are_digits" = some (some (.ref a_are_digits)))
    (l_are_digits : K.lookup a_are_digits = some ⟨oc_are_digits, od_are_digits, .func (PySem.W.fnOf "are_digits" "are_digits" (defArgs (top 2)) (defBody (top 2)) (defScope (top 2)) .none kV_are_digits dc_are_digits pm_are_digits an_are_digits cd_are_digits ct_are_digits), sl_are_digits⟩)
    (c_are_digits : PySem.W.codeIn K cd_are_digits "are_digits" = true) (k_are_digits : PySem.W.keepIn K (.ref a_are_digits) = true)
    {a_law : Addr} {oc_law kV_law dc_law pm_law cd_law ct_law : Value} {od_law an_law : Option Addr} {sl_law : Array (Option Value)}
    (n_law : PySem.W.nsIn K mainGlobals "law" = some (some (.ref a_law)))
    (l_law : K.lookup a_law = some ⟨oc_law, od_law, .func (PySem.W.fnOf "law" "law" (defArgs (top 17)) (defBody (top 17)) (defScope (top 17)) .none kV_law dc_law pm_law an_law cd_law ct_law), sl_law⟩)
    (c_law : PySem.W.codeIn K cd_law "law" = true) (k_law : PySem.W.keepIn K (.ref a_law) = true)
    (z_all : PySem.W.nsIn K mainGlobals "all" = some none)
    (z_int : PySem.W.nsIn K mainGlobals "int" = some none)
    (z_isinstance : PySem.W.nsIn K mainGlobals "isinstance" = some none)
    (z_len : PySem.W.nsIn K mainGlobals "len" = some none)
    (z_list : PySem.W.nsIn K mainGlobals "list" = some none)
    (z_range : PySem.W.nsIn K mainGlobals "range" = some none)
    (z_repr : PySem.W.nsIn K mainGlobals "repr" = some none)
    (z_str : PySem.W.nsIn K mainGlobals "str" = some none)
    (z_tuple : PySem.W.nsIn K mainGlobals "tuple" = some none)
    (z_zip : PySem.W.nsIn K mainGlobals "zip" = some none)
    : ∃ fd : FuncData, (∀ (z : Shared) (v : Value), BindsTo z fd ⟨[v], []⟩ [("_law_script", v)]) ∧ ∀ bs : Heap, K.In bs → bs.Ns mainGlobals mg → FnG P w K mg bs CX0 5 fa fd ["_law_script"] (spP K 1 f_law) := by
  have e := hfa.symm.trans (PySem.W.mg_of X G n_law)
  cases e
  have T : Txt mg := ⟨PySem.W.mg_none_of X G z_all, PySem.W.mg_none_of X G z_int, PySem.W.mg_none_of X G z_isinstance, PySem.W.mg_none_of X G z_len, PySem.W.mg_none_of X G z_list, PySem.W.mg_none_of X G z_range, PySem.W.mg_none_of X G z_repr, PySem.W.mg_none_of X G z_str, PySem.W.mg_none_of X G z_tuple, PySem.W.mg_none_of X G z_zip⟩
  have F__law_are_signs := fun_mk (st := top 13) l__law_are_signs c__law_are_signs k__law_are_signs
  have F__law_deck := fun_mk (st := top 7) l__law_deck c__law_deck k__law_deck
  have F__law_pages := fun_mk (st := top 10) l__law_pages c__law_pages k__law_pages
  have F__law_draw := fun_mk (st := top 8) l__law_draw c__law_draw k__law_draw
  have F__law_pick := fun_mk (st := top 9) l__law_pick c__law_pick k__law_pick
  have F_is_ahead := fun_mk (st := top 5) l_is_ahead c_is_ahead k_is_ahead
  have F_roll := fun_mk (st := top 4) l_roll c_roll k_roll
  have F__law_rolls_right := fun_mk (st := top 16) l__law_rolls_right c__law_rolls_right k__law_rolls_right
  have F__law_some := fun_mk (st := top 12) l__law_some c__law_some k__law_some
  have F__law_is_page := fun_mk (st := top 14) l__law_is_page c__law_is_page k__law_is_page
  have F__law_page := fun_mk (st := top 11) l__law_page c__law_page k__law_page
  have F_is_ticket := fun_mk (st := top 3) l_is_ticket c_is_ticket k_is_ticket
  have F__law_tickets_right := fun_mk (st := top 15) l__law_tickets_right c__law_tickets_right k__law_tickets_right
  have F_is_ascending := fun_mk (st := top 1) l_is_ascending c_is_ascending k_is_ascending
  have F_are_digits := fun_mk (st := top 2) l_are_digits c_are_digits k_are_digits
  have F_law := fun_mk (st := top 17) l_law c_law k_law
  have A__law_are_signs : At K mg "_law_are_signs" a__law_are_signs := ⟨PySem.W.mg_of X G n__law_are_signs, k__law_are_signs⟩
  have A__law_deck : At K mg "_law_deck" a__law_deck := ⟨PySem.W.mg_of X G n__law_deck, k__law_deck⟩
  have A__law_pages : At K mg "_law_pages" a__law_pages := ⟨PySem.W.mg_of X G n__law_pages, k__law_pages⟩
  have A__law_draw : At K mg "_law_draw" a__law_draw := ⟨PySem.W.mg_of X G n__law_draw, k__law_draw⟩
  have A__law_pick : At K mg "_law_pick" a__law_pick := ⟨PySem.W.mg_of X G n__law_pick, k__law_pick⟩
  have A_is_ahead : At K mg "is_ahead" a_is_ahead := ⟨PySem.W.mg_of X G n_is_ahead, k_is_ahead⟩
  have A_roll : At K mg "roll" a_roll := ⟨PySem.W.mg_of X G n_roll, k_roll⟩
  have A__law_rolls_right : At K mg "_law_rolls_right" a__law_rolls_right := ⟨PySem.W.mg_of X G n__law_rolls_right, k__law_rolls_right⟩
  have A__law_some : At K mg "_law_some" a__law_some := ⟨PySem.W.mg_of X G n__law_some, k__law_some⟩
  have A__law_is_page : At K mg "_law_is_page" a__law_is_page := ⟨PySem.W.mg_of X G n__law_is_page, k__law_is_page⟩
  have A__law_page : At K mg "_law_page" a__law_page := ⟨PySem.W.mg_of X G n__law_page, k__law_page⟩
  have A_is_ticket : At K mg "is_ticket" a_is_ticket := ⟨PySem.W.mg_of X G n_is_ticket, k_is_ticket⟩
  have A__law_tickets_right : At K mg "_law_tickets_right" a__law_tickets_right := ⟨PySem.W.mg_of X G n__law_tickets_right, k__law_tickets_right⟩
  have A_is_ascending : At K mg "is_ascending" a_is_ascending := ⟨PySem.W.mg_of X G n_is_ascending, k_is_ascending⟩
  have A_are_digits : At K mg "are_digits" a_are_digits := ⟨PySem.W.mg_of X G n_are_digits, k_are_digits⟩
  refine ⟨PySem.W.fnOf "law" "law" (defArgs (top 17)) (defBody (top 17)) (defScope (top 17)) .none kV_law dc_law pm_law an_law cd_law ct_law, fun z v => .of_eq rfl, fun bs _ _ => ?_⟩
  have G__law_are_signs := ok__law_are_signs (P := P) (w := w) (base := bs) F__law_are_signs T
  have G__law_deck := ok__law_deck (P := P) (w := w) (base := bs) F__law_deck T
  have G__law_pages := ok__law_pages (P := P) (w := w) (base := bs) F__law_pages T
  have G__law_draw := ok__law_draw (P := P) (w := w) (base := bs) F__law_draw T
  have G__law_pick := ok__law_pick (P := P) (w := w) (base := bs) F__law_pick T A__law_draw F__law_draw G__law_draw
  have G_is_ahead := ok_is_ahead (P := P) (w := w) (base := bs) F_is_ahead T
  have G_roll := ok_roll (P := P) (w := w) (base := bs) F_roll T
  have G__law_rolls_right := ok__law_rolls_right (P := P) (w := w) (base := bs) F__law_rolls_right T A__law_pages F__law_pages G__law_pages A__law_pick F__law_pick G__law_pick A_is_ahead F_is_ahead G_is_ahead A_roll F_roll G_roll
  have G__law_some := ok__law_some (P := P) (w := w) (base := bs) F__law_some T A__law_draw F__law_draw G__law_draw A__law_pick F__law_pick G__law_pick
  have G__law_is_page := ok__law_is_page (P := P) (w := w) (base := bs) F__law_is_page T
  have G__law_page := ok__law_page (P := P) (w := w) (base := bs) F__law_page T A__law_draw F__law_draw G__law_draw A__law_pick F__law_pick G__law_pick
  have G_is_ticket := ok_is_ticket (P := P) (w := w) (base := bs) F_is_ticket T
  have G__law_tickets_right := ok__law_tickets_right (P := P) (w := w) (base := bs) F__law_tickets_right T A__law_is_page F__law_is_page G__law_is_page A__law_page F__law_page G__law_page A_is_ticket F_is_ticket G_is_ticket
  have G_is_ascending := ok_is_ascending (P := P) (w := w) (base := bs) F_is_ascending T
  have G_are_digits := ok_are_digits (P := P) (w := w) (base := bs) F_are_digits T A_is_ascending F_is_ascending G_is_ascending
  exact ok_law F_law T A__law_are_signs F__law_are_signs G__law_are_signs A__law_deck F__law_deck G__law_deck A__law_pages F__law_pages G__law_pages A__law_pick F__law_pick G__law_pick A__law_rolls_right F__law_rolls_right G__law_rolls_right A__law_some F__law_some G__law_some A__law_tickets_right F__law_tickets_right G__law_tickets_right A_are_digits F_are_digits G_are_digits A_roll F_roll G_roll
end
end Lk01

namespace Lk01
open PySem L2 TL
def digs : List Nat := [48, 49, 50, 51, 52, 53, 54, 55, 56, 57]
theorem digs_eq : ("0123456789" : Str) = Tx digs := by decide +kernel
/-- a text of the letters l -/
def isT (l s : List Nat) : Bool := s.all fun c => decide (c ∈ l)
theorem sz : (100000 : Nat) ≤ sizeLine := by decide
theorem dAll_isT (g x : List Nat) : dAll [.lst (x.map fun c => .bl (decide (c ∈ g)))] = some (.bl (isT g x)) := by
  simp only [dAll, one, dAll1, asBls_mapf, Option.map_some, List.all_map, isT]
  rfl
theorem len_T {x : List Nat} (h : x.length ≤ sizeLine) : dLen [.str (Tx x)] = some (.int x.length) := if_pos h
theorem range1 (n : Nat) (h : n ≤ 1000) : dRange [.int 1, .int (n : Int)] = some ((List.range (n - 1)).map fun i : Nat => .int (1 + (i : Int))) := by
  have e : ((n : Int) - 1).toNat = n - 1 := by omega
  simp only [dRange, e]
  rw [if_pos (by omega)]; rfl
theorem f_is_ticket_str (g x : List Nat) (hx : x.length ≤ 1000) : f_is_ticket [.str (Tx g), .str (Tx x)] = some (.bl (isT g x)) := by
  have h := lcGo_mapT (f := gmName 2) (mt := mYes) (me := mBin dIn (mVar 2) (mVar 0)) (vs := [2]) (ρ := [.d (.str (Tx g)), .d (.str (Tx x)), .no]) (fun c => .str (Tx [c])) (fun c => .bl (decide (c ∈ g))) x (fun c hc =>
      ⟨[.d (.str (Tx g)), .d (.str (Tx x)), .d (.str (Tx [c]))], by simp [mVar, mC, mBin, mUn, mNil, mCons, mApp, mTest, mAndT, mOrT, mNotT, mIfE, mAndV, mOrV, mNotV, mChain, mSeq, mSkip, mRet, mRetN, mIfS, mDrop, mAsg, gmName, plainAt_eq, gmNil, gmCons, gmTup, mItems, mRange, mFor, mLc, mLc2, wipeC, backC, plainC, mYes, mPar, mCallP, mCallD, dLt_Tx, dLt_int, dGe_int, dLe_int, dEq_int, dEq_str, dNe_str, strIn_Tx, Tx_len, Tx_beq, Tx_app, kit_NoneType_str, kit_bool_str, kit_int_str, kit_str_str, kit_tuple_str, kit_list_str, kit_dict_str, dIsi, dTy, dItems, Tx_signs], rfl, by simp [mVar, mC, mBin, mUn, mNil, mCons, mApp, mTest, mAndT, mOrT, mNotT, mIfE, mAndV, mOrV, mNotV, mChain, mSeq, mSkip, mRet, mRetN, mIfS, mDrop, mAsg, gmName, plainAt_eq, gmNil, gmCons, gmTup, mItems, mRange, mFor, mLc, mLc2, wipeC, backC, plainC, mYes, mPar, mCallP, mCallD, dLt_Tx, dLt_int, dGe_int, dLe_int, dEq_int, dEq_str, dNe_str, strIn_Tx, Tx_len, Tx_beq, Tx_app, kit_NoneType_str, kit_bool_str, kit_int_str, kit_str_str, kit_tuple_str, kit_list_str, kit_dict_str, dIsi, dTy, dItems, Tx_signs, dIn], by simp [mVar, mC, mBin, mUn, mNil, mCons, mApp, mTest, mAndT, mOrT, mNotT, mIfE, mAndV, mOrV, mNotV, mChain, mSeq, mSkip, mRet, mRetN, mIfS, mDrop, mAsg, gmName, plainAt_eq, gmNil, gmCons, gmTup, mItems, mRange, mFor, mLc, mLc2, wipeC, backC, plainC, mYes, mPar, mCallP, mCallD, dLt_Tx, dLt_int, dGe_int, dLe_int, dEq_int, dEq_str, dNe_str, strIn_Tx, Tx_len, Tx_beq, Tx_app, kit_NoneType_str, kit_bool_str, kit_int_str, kit_str_str, kit_tuple_str, kit_list_str, kit_dict_str, dIsi, dTy, dItems, Tx_signs]⟩)
  have := sz
  have hz : x.length ≤ sizeLine := by omega
  simp only [f_is_ticket, runP, m_is_ticket]
  simp [mVar, mC, mBin, mUn, mNil, mCons, mApp, mTest, mAndT, mOrT, mNotT, mIfE, mAndV, mOrV, mNotV, mChain, mSeq, mSkip, mRet, mRetN, mIfS, mDrop, mAsg, gmName, plainAt_eq, gmNil, gmCons, gmTup, mItems, mRange, mFor, mLc, mLc2, wipeC, backC, plainC, mYes, mPar, mCallP, mCallD, dLt_Tx, dLt_int, dGe_int, dLe_int, dEq_int, dEq_str, dNe_str, strIn_Tx, Tx_len, Tx_beq, Tx_app, kit_NoneType_str, kit_bool_str, kit_int_str, kit_str_str, kit_tuple_str, kit_list_str, kit_dict_str, dIsi, dTy, dItems, Tx_signs, h, hz, dAll_isT]
theorem f_is_ticket_no (g : Str) (d : D) (h : dTy d ≠ none) (h2 : dTy d ≠ some "str") : f_is_ticket [.str g, d] = some (.bl false) := by
  simp only [f_is_ticket, runP, m_is_ticket]
  cases d <;> first | (exact absurd rfl h2) | (exact absurd rfl h) | simp [mVar, mC, mBin, mUn, mNil, mCons, mApp, mTest, mAndT, mOrT, mNotT, mIfE, mAndV, mOrV, mNotV, mChain, mSeq, mSkip, mRet, mRetN, mIfS, mDrop, mAsg, gmName, plainAt_eq, gmNil, gmCons, gmTup, mItems, mRange, mFor, mLc, mLc2, wipeC, backC, plainC, mYes, mPar, mCallP, mCallD, dLt_Tx, dLt_int, dGe_int, dLe_int, dEq_int, dEq_str, dNe_str, strIn_Tx, Tx_len, Tx_beq, Tx_app, kit_NoneType_str, kit_bool_str, kit_int_str, kit_str_str, kit_tuple_str, kit_list_str, kit_dict_str, dIsi, dTy, dItems, Tx_signs]
theorem f__law_is_page_str (g x : List Nat) (hx : x.length ≤ 1000) : f__law_is_page [.str (Tx g), .str (Tx x)] = some (.bl (isT g x)) := by
  have h := lcGo_map (f := gmName 2) (mt := mTest (mBin dNotIn (mVar 2) (mVar 0))) (me := mVar 2) (vs := [2]) (ρ := [.d (.str (Tx g)), .d (.str (Tx x)), .no]) (fun c => .str (Tx [c])) (fun c => !decide (c ∈ g)) (fun c => .str (Tx [c])) x (fun c hc =>
      ⟨[.d (.str (Tx g)), .d (.str (Tx x)), .d (.str (Tx [c]))], by simp [mVar, mC, mBin, mUn, mNil, mCons, mApp, mTest, mAndT, mOrT, mNotT, mIfE, mAndV, mOrV, mNotV, mChain, mSeq, mSkip, mRet, mRetN, mIfS, mDrop, mAsg, gmName, plainAt_eq, gmNil, gmCons, gmTup, mItems, mRange, mFor, mLc, mLc2, wipeC, backC, plainC, mYes, mPar, mCallP, mCallD, dLt_Tx, dLt_int, dGe_int, dLe_int, dEq_int, dEq_str, dNe_str, strIn_Tx, Tx_len, Tx_beq, Tx_app, kit_NoneType_str, kit_bool_str, kit_int_str, kit_str_str, kit_tuple_str, kit_list_str, kit_dict_str, dIsi, dTy, dItems, Tx_signs], by simp [mVar, mC, mBin, mUn, mNil, mCons, mApp, mTest, mAndT, mOrT, mNotT, mIfE, mAndV, mOrV, mNotV, mChain, mSeq, mSkip, mRet, mRetN, mIfS, mDrop, mAsg, gmName, plainAt_eq, gmNil, gmCons, gmTup, mItems, mRange, mFor, mLc, mLc2, wipeC, backC, plainC, mYes, mPar, mCallP, mCallD, dLt_Tx, dLt_int, dGe_int, dLe_int, dEq_int, dEq_str, dNe_str, strIn_Tx, Tx_len, Tx_beq, Tx_app, kit_NoneType_str, kit_bool_str, kit_int_str, kit_str_str, kit_tuple_str, kit_list_str, kit_dict_str, dIsi, dTy, dItems, Tx_signs, dNotIn], by simp [mVar, mC, mBin, mUn, mNil, mCons, mApp, mTest, mAndT, mOrT, mNotT, mIfE, mAndV, mOrV, mNotV, mChain, mSeq, mSkip, mRet, mRetN, mIfS, mDrop, mAsg, gmName, plainAt_eq, gmNil, gmCons, gmTup, mItems, mRange, mFor, mLc, mLc2, wipeC, backC, plainC, mYes, mPar, mCallP, mCallD, dLt_Tx, dLt_int, dGe_int, dLe_int, dEq_int, dEq_str, dNe_str, strIn_Tx, Tx_len, Tx_beq, Tx_app, kit_NoneType_str, kit_bool_str, kit_int_str, kit_str_str, kit_tuple_str, kit_list_str, kit_dict_str, dIsi, dTy, dItems, Tx_signs], by simp [mVar, mC, mBin, mUn, mNil, mCons, mApp, mTest, mAndT, mOrT, mNotT, mIfE, mAndV, mOrV, mNotV, mChain, mSeq, mSkip, mRet, mRetN, mIfS, mDrop, mAsg, gmName, plainAt_eq, gmNil, gmCons, gmTup, mItems, mRange, mFor, mLc, mLc2, wipeC, backC, plainC, mYes, mPar, mCallP, mCallD, dLt_Tx, dLt_int, dGe_int, dLe_int, dEq_int, dEq_str, dNe_str, strIn_Tx, Tx_len, Tx_beq, Tx_app, kit_NoneType_str, kit_bool_str, kit_int_str, kit_str_str, kit_tuple_str, kit_list_str, kit_dict_str, dIsi, dTy, dItems, Tx_signs]⟩)
  have := sz
  have hl := List.length_filter_le (fun c => !decide (c ∈ g)) x
  have hz : (x.filter fun c => !decide (c ∈ g)).length ≤ sizeLine := by omega
  simp only [f__law_is_page, runP, m__law_is_page]
  simp [mVar, mC, mBin, mUn, mNil, mCons, mApp, mTest, mAndT, mOrT, mNotT, mIfE, mAndV, mOrV, mNotV, mChain, mSeq, mSkip, mRet, mRetN, mIfS, mDrop, mAsg, gmName, plainAt_eq, gmNil, gmCons, gmTup, mItems, mRange, mFor, mLc, mLc2, wipeC, backC, plainC, mYes, mPar, mCallP, mCallD, dLt_Tx, dLt_int, dGe_int, dLe_int, dEq_int, dEq_str, dNe_str, strIn_Tx, Tx_len, Tx_beq, Tx_app, kit_NoneType_str, kit_bool_str, kit_int_str, kit_str_str, kit_tuple_str, kit_list_str, kit_dict_str, dIsi, dTy, dItems, Tx_signs, h, hz, dLst, dEq_nil_strs, filter_empty, isT]
theorem f__law_is_page_no (g : Str) (d : D) (h : dTy d ≠ none) (h2 : dTy d ≠ some "str") : f__law_is_page [.str g, d] = some (.bl false) := by
  simp only [f__law_is_page, runP, m__law_is_page]
  cases d <;> first | (exact absurd rfl h2) | (exact absurd rfl h) | simp [mVar, mC, mBin, mUn, mNil, mCons, mApp, mTest, mAndT, mOrT, mNotT, mIfE, mAndV, mOrV, mNotV, mChain, mSeq, mSkip, mRet, mRetN, mIfS, mDrop, mAsg, gmName, plainAt_eq, gmNil, gmCons, gmTup, mItems, mRange, mFor, mLc, mLc2, wipeC, backC, plainC, mYes, mPar, mCallP, mCallD, dLt_Tx, dLt_int, dGe_int, dLe_int, dEq_int, dEq_str, dNe_str, strIn_Tx, Tx_len, Tx_beq, Tx_app, kit_NoneType_str, kit_bool_str, kit_int_str, kit_str_str, kit_tuple_str, kit_list_str, kit_dict_str, dIsi, dTy, dItems, Tx_signs]
/-- ascending -/
def up : List Nat → Bool
  | a :: b :: l => decide (a < b) && up (b :: l)
  | _ => true
theorem sliceT (x : List Nat) (h : x.length ≤ 1000) : dSlice (.str (Tx x)) (some 1) none = some (.str (Tx x.tail)) := by
  have := sz
  have e : cutS (Tx x) (some 1) none = Tx x.tail := by
    unfold cutS
    show (⟨_⟩ : Str) = ⟨_⟩
    congr 1
    have e1 : HT.sIx (Tx x).length 0 (some 1) = min 1 x.length := HT.sIx_nat _ _ 1
    have e2 : HT.sIx (Tx x).length (Tx x).length none = x.length := rfl
    rw [e1, e2, Tx_cps]
    cases x with
    | nil => rfl
    | cons a l =>
      have : min 1 (a :: l).length = 1 := by rw [List.length_cons]; omega
      rw [this, List.drop_one, List.tail_cons, List.length_cons, Nat.add_sub_cancel, List.take_length]
  show (if (Tx x).length ≤ sizeLine then some (D.str (cutS (Tx x) (some 1) none)) else none) = _
  rw [if_pos (by rw [Tx_len]; omega), e]
theorem zip_up : ∀ x : List Nat, ((List.zip x x.tail).all fun p => decide (p.1 < p.2)) = up x
  | [] => rfl
  | [_] => rfl
  | a :: b :: l => by
    have := zip_up (b :: l)
    simp only [List.tail_cons, List.zip_cons_cons, List.all_cons, up] at this ⊢
    rw [this]
theorem f_is_ascending_str (x : List Nat) (hx : x.length ≤ 1000) : f_is_ascending [.str (Tx x)] = some (.bl (up x)) := by
  have h := lcGo_mapT (f := gmTup (gmCons (gmName 1) (gmCons (gmName 2) gmNil)) 2) (mt := mYes) (me := mBin dLt (mVar 1) (mVar 2)) (vs := [1, 2]) (ρ := [.d (.str (Tx x)), .no, .no]) (fun p : Nat × Nat => .tup [.str (Tx [p.1]), .str (Tx [p.2])]) (fun p => .bl (decide (p.1 < p.2))) (List.zip x x.tail) (fun p hp =>
      ⟨[.d (.str (Tx x)), .d (.str (Tx [p.1])), .d (.str (Tx [p.2]))], by simp [mVar, mC, mBin, mUn, mNil, mCons, mApp, mTest, mAndT, mOrT, mNotT, mIfE, mAndV, mOrV, mNotV, mChain, mSeq, mSkip, mRet, mRetN, mIfS, mDrop, mAsg, gmName, plainAt_eq, gmNil, gmCons, gmTup, mItems, mRange, mFor, mLc, mLc2, wipeC, backC, plainC, mYes, mPar, mCallP, mCallD, dLt_Tx, dLt_int, dGe_int, dLe_int, dEq_int, dEq_str, dNe_str, strIn_Tx, Tx_len, Tx_beq, Tx_app, kit_NoneType_str, kit_bool_str, kit_int_str, kit_str_str, kit_tuple_str, kit_list_str, kit_dict_str, dIsi, dTy, dItems, Tx_signs], rfl, by simp [mVar, mC, mBin, mUn, mNil, mCons, mApp, mTest, mAndT, mOrT, mNotT, mIfE, mAndV, mOrV, mNotV, mChain, mSeq, mSkip, mRet, mRetN, mIfS, mDrop, mAsg, gmName, plainAt_eq, gmNil, gmCons, gmTup, mItems, mRange, mFor, mLc, mLc2, wipeC, backC, plainC, mYes, mPar, mCallP, mCallD, dLt_Tx, dLt_int, dGe_int, dLe_int, dEq_int, dEq_str, dNe_str, strIn_Tx, Tx_len, Tx_beq, Tx_app, kit_NoneType_str, kit_bool_str, kit_int_str, kit_str_str, kit_tuple_str, kit_list_str, kit_dict_str, dIsi, dTy, dItems, Tx_signs, lt_one], by simp [mVar, mC, mBin, mUn, mNil, mCons, mApp, mTest, mAndT, mOrT, mNotT, mIfE, mAndV, mOrV, mNotV, mChain, mSeq, mSkip, mRet, mRetN, mIfS, mDrop, mAsg, gmName, plainAt_eq, gmNil, gmCons, gmTup, mItems, mRange, mFor, mLc, mLc2, wipeC, backC, plainC, mYes, mPar, mCallP, mCallD, dLt_Tx, dLt_int, dGe_int, dLe_int, dEq_int, dEq_str, dNe_str, strIn_Tx, Tx_len, Tx_beq, Tx_app, kit_NoneType_str, kit_bool_str, kit_int_str, kit_str_str, kit_tuple_str, kit_list_str, kit_dict_str, dIsi, dTy, dItems, Tx_signs]⟩)
  have hq : List.zipWith (fun a b => D.tup [a, b]) (x.map fun c => .str (Tx [c])) (x.map fun c => .str (Tx [c])).tail = (List.zip x x.tail).map fun p : Nat × Nat => D.tup [.str (Tx [p.1]), .str (Tx [p.2])] := by
    rw [← List.map_tail, List.zipWith_map, List.zip, List.map_zipWith]
  have := sz
  have hz : (List.zip x x.tail).length ≤ sizeLine := by rw [List.length_zip]; omega
  simp only [f_is_ascending, runP, m_is_ascending]
  have hz1 : x.length ≤ sizeLine + 1 := by omega
  simp [mVar, mC, mBin, mUn, mNil, mCons, mApp, mTest, mAndT, mOrT, mNotT, mIfE, mAndV, mOrV, mNotV, mChain, mSeq, mSkip, mRet, mRetN, mIfS, mDrop, mAsg, gmName, plainAt_eq, gmNil, gmCons, gmTup, mItems, mRange, mFor, mLc, mLc2, wipeC, backC, plainC, mYes, mPar, mCallP, mCallD, dLt_Tx, dLt_int, dGe_int, dLe_int, dEq_int, dEq_str, dNe_str, strIn_Tx, Tx_len, Tx_beq, Tx_app, kit_NoneType_str, kit_bool_str, kit_int_str, kit_str_str, kit_tuple_str, kit_list_str, kit_dict_str, dIsi, dTy, dItems, Tx_signs, mSlice, mPart, mNoPart, sliceT x hx, mZip, dZip, hq, h, hz1, dAll, one, dAll1, asBls_mapf, List.all_map]
  exact zip_up x
/-- what are_digits tells -/
def dg (x : List Nat) : Bool := !x.isEmpty && isT digs x && up x
theorem f_are_digits_str (x : List Nat) (hx : x.length ≤ 1000) : f_are_digits [.str (Tx x)] = some (.bl (dg x)) := by
  have h := lcGo_mapT (f := gmName 1) (mt := mYes) (me := mBin dIn (mVar 1) (mC (.str "0123456789"))) (vs := [1]) (ρ := [.d (.str (Tx x)), .no]) (fun c => .str (Tx [c])) (fun c => .bl (decide (c ∈ digs))) x (fun c hc =>
      ⟨[.d (.str (Tx x)), .d (.str (Tx [c]))], by simp [mVar, mC, mBin, mUn, mNil, mCons, mApp, mTest, mAndT, mOrT, mNotT, mIfE, mAndV, mOrV, mNotV, mChain, mSeq, mSkip, mRet, mRetN, mIfS, mDrop, mAsg, gmName, plainAt_eq, gmNil, gmCons, gmTup, mItems, mRange, mFor, mLc, mLc2, wipeC, backC, plainC, mYes, mPar, mCallP, mCallD, dLt_Tx, dLt_int, dGe_int, dLe_int, dEq_int, dEq_str, dNe_str, strIn_Tx, Tx_len, Tx_beq, Tx_app, kit_NoneType_str, kit_bool_str, kit_int_str, kit_str_str, kit_tuple_str, kit_list_str, kit_dict_str, dIsi, dTy, dItems, Tx_signs], rfl, by simp [mVar, mC, mBin, mUn, mNil, mCons, mApp, mTest, mAndT, mOrT, mNotT, mIfE, mAndV, mOrV, mNotV, mChain, mSeq, mSkip, mRet, mRetN, mIfS, mDrop, mAsg, gmName, plainAt_eq, gmNil, gmCons, gmTup, mItems, mRange, mFor, mLc, mLc2, wipeC, backC, plainC, mYes, mPar, mCallP, mCallD, dLt_Tx, dLt_int, dGe_int, dLe_int, dEq_int, dEq_str, dNe_str, strIn_Tx, Tx_len, Tx_beq, Tx_app, kit_NoneType_str, kit_bool_str, kit_int_str, kit_str_str, kit_tuple_str, kit_list_str, kit_dict_str, dIsi, dTy, dItems, Tx_signs, dIn, digs_eq], by simp [mVar, mC, mBin, mUn, mNil, mCons, mApp, mTest, mAndT, mOrT, mNotT, mIfE, mAndV, mOrV, mNotV, mChain, mSeq, mSkip, mRet, mRetN, mIfS, mDrop, mAsg, gmName, plainAt_eq, gmNil, gmCons, gmTup, mItems, mRange, mFor, mLc, mLc2, wipeC, backC, plainC, mYes, mPar, mCallP, mCallD, dLt_Tx, dLt_int, dGe_int, dLe_int, dEq_int, dEq_str, dNe_str, strIn_Tx, Tx_len, Tx_beq, Tx_app, kit_NoneType_str, kit_bool_str, kit_int_str, kit_str_str, kit_tuple_str, kit_list_str, kit_dict_str, dIsi, dTy, dItems, Tx_signs]⟩)
  have := sz
  have hz : x.length ≤ sizeLine := by omega
  have hu := f_is_ascending_str x hx
  simp only [f_are_digits, runP, m_are_digits]
  by_cases h0 : x = []
  · subst h0; simp [mVar, mC, mBin, mUn, mNil, mCons, mApp, mTest, mAndT, mOrT, mNotT, mIfE, mAndV, mOrV, mNotV, mChain, mSeq, mSkip, mRet, mRetN, mIfS, mDrop, mAsg, gmName, plainAt_eq, gmNil, gmCons, gmTup, mItems, mRange, mFor, mLc, mLc2, wipeC, backC, plainC, mYes, mPar, mCallP, mCallD, dLt_Tx, dLt_int, dGe_int, dLe_int, dEq_int, dEq_str, dNe_str, strIn_Tx, Tx_len, Tx_beq, Tx_app, kit_NoneType_str, kit_bool_str, kit_int_str, kit_str_str, kit_tuple_str, kit_list_str, kit_dict_str, dIsi, dTy, dItems, Tx_signs, dLen, one, dLen1, dg]
  · have hl : ¬ ((x.length : Int) = 0) := by
      have := List.length_pos_iff.mpr h0
      omega
    simp [mVar, mC, mBin, mUn, mNil, mCons, mApp, mTest, mAndT, mOrT, mNotT, mIfE, mAndV, mOrV, mNotV, mChain, mSeq, mSkip, mRet, mRetN, mIfS, mDrop, mAsg, gmName, plainAt_eq, gmNil, gmCons, gmTup, mItems, mRange, mFor, mLc, mLc2, wipeC, backC, plainC, mYes, mPar, mCallP, mCallD, dLt_Tx, dLt_int, dGe_int, dLe_int, dEq_int, dEq_str, dNe_str, strIn_Tx, Tx_len, Tx_beq, Tx_app, kit_NoneType_str, kit_bool_str, kit_int_str, kit_str_str, kit_tuple_str, kit_list_str, kit_dict_str, dIsi, dTy, dItems, Tx_signs, dLen, one, dLen1, h, hz, dAll_isT, hu, dg, h0]
    cases isT digs x <;> simp [mVar, mC, mBin, mUn, mNil, mCons, mApp, mTest, mAndT, mOrT, mNotT, mIfE, mAndV, mOrV, mNotV, mChain, mSeq, mSkip, mRet, mRetN, mIfS, mDrop, mAsg, gmName, plainAt_eq, gmNil, gmCons, gmTup, mItems, mRange, mFor, mLc, mLc2, wipeC, backC, plainC, mYes, mPar, mCallP, mCallD, dLt_Tx, dLt_int, dGe_int, dLe_int, dEq_int, dEq_str, dNe_str, strIn_Tx, Tx_len, Tx_beq, Tx_app, kit_NoneType_str, kit_bool_str, kit_int_str, kit_str_str, kit_tuple_str, kit_list_str, kit_dict_str, dIsi, dTy, dItems, Tx_signs, h0]
theorem f_are_digits_no (d : D) (h : dTy d ≠ none) (h2 : dTy d ≠ some "str") : f_are_digits [d] = some (.bl false) := by
  simp only [f_are_digits, runP, m_are_digits]
  cases d <;> first | (exact absurd rfl h2) | (exact absurd rfl h) | simp [mVar, mC, mBin, mUn, mNil, mCons, mApp, mTest, mAndT, mOrT, mNotT, mIfE, mAndV, mOrV, mNotV, mChain, mSeq, mSkip, mRet, mRetN, mIfS, mDrop, mAsg, gmName, plainAt_eq, gmNil, gmCons, gmTup, mItems, mRange, mFor, mLc, mLc2, wipeC, backC, plainC, mYes, mPar, mCallP, mCallD, dLt_Tx, dLt_int, dGe_int, dLe_int, dEq_int, dEq_str, dNe_str, strIn_Tx, Tx_len, Tx_beq, Tx_app, kit_NoneType_str, kit_bool_str, kit_int_str, kit_str_str, kit_tuple_str, kit_list_str, kit_dict_str, dIsi, dTy, dItems, Tx_signs]
/-- what the law asks of them -/
def dg2 (x : List Nat) : Bool := decide (1 ≤ x.length) && decide (x.length ≤ 10) && isT digs x && up x
theorem up_range : ∀ x : List Nat, ((List.range (x.length - 1)).all fun i => decide (x.getD i 0 < x.getD (i + 1) 0)) = up x
  | [] => rfl
  | [_] => rfl
  | a :: b :: l => by
    have ih := up_range (b :: l)
    have e : (a :: b :: l).length - 1 = (b :: l).length - 1 + 1 := by simp [mVar, mC, mBin, mUn, mNil, mCons, mApp, mTest, mAndT, mOrT, mNotT, mIfE, mAndV, mOrV, mNotV, mChain, mSeq, mSkip, mRet, mRetN, mIfS, mDrop, mAsg, gmName, plainAt_eq, gmNil, gmCons, gmTup, mItems, mRange, mFor, mLc, mLc2, wipeC, backC, plainC, mYes, mPar, mCallP, mCallD, dLt_Tx, dLt_int, dGe_int, dLe_int, dEq_int, dEq_str, dNe_str, strIn_Tx, Tx_len, Tx_beq, Tx_app, kit_NoneType_str, kit_bool_str, kit_int_str, kit_str_str, kit_tuple_str, kit_list_str, kit_dict_str, dIsi, dTy, dItems, Tx_signs]
    rw [e, List.range_succ_eq_map, List.all_cons, List.all_map, up, ← ih]
    rfl
theorem up_len : ∀ (l : List Nat) (a : Nat), up (a :: l) = true → (∀ c ∈ a :: l, c ≤ 57) → a + l.length ≤ 57
  | [], a, _, h => h a List.mem_cons_self
  | b :: l, a, h1, h2 => by
    simp only [up, Bool.and_eq_true, decide_eq_true_eq] at h1
    have := up_len l b h1.2 fun c hc => h2 c (List.mem_cons_of_mem _ hc)
    rw [List.length_cons]; omega
theorem dg_eq (x : List Nat) : dg x = dg2 x := by
  unfold dg dg2
  cases x with
  | nil => rfl
  | cons a l =>
    by_cases h : (isT digs (a :: l) && up (a :: l)) = true
    · rw [Bool.and_eq_true] at h
      have hd : ∀ c ∈ a :: l, c ∈ digs := fun c hc => by
        have := List.all_eq_true.mp h.1 c hc
        simpa using this
      have h57 : ∀ c ∈ digs, 48 ≤ c ∧ c ≤ 57 := by decide
      have := up_len l a h.2 fun c hc => (h57 c (hd c hc)).2
      have := (h57 a (hd a List.mem_cons_self)).1
      have hl : (a :: l).length ≤ 10 := by rw [List.length_cons]; omega
      rw [h.1, h.2, decide_eq_true hl]
      simp [mVar, mC, mBin, mUn, mNil, mCons, mApp, mTest, mAndT, mOrT, mNotT, mIfE, mAndV, mOrV, mNotV, mChain, mSeq, mSkip, mRet, mRetN, mIfS, mDrop, mAsg, gmName, plainAt_eq, gmNil, gmCons, gmTup, mItems, mRange, mFor, mLc, mLc2, wipeC, backC, plainC, mYes, mPar, mCallP, mCallD, dLt_Tx, dLt_int, dGe_int, dLe_int, dEq_int, dEq_str, dNe_str, strIn_Tx, Tx_len, Tx_beq, Tx_app, kit_NoneType_str, kit_bool_str, kit_int_str, kit_str_str, kit_tuple_str, kit_list_str, kit_dict_str, dIsi, dTy, dItems, Tx_signs]
    · have h := Bool.not_eq_true _ ▸ h
      rw [Bool.and_assoc, h, Bool.and_assoc, h]
      simp [mVar, mC, mBin, mUn, mNil, mCons, mApp, mTest, mAndT, mOrT, mNotT, mIfE, mAndV, mOrV, mNotV, mChain, mSeq, mSkip, mRet, mRetN, mIfS, mDrop, mAsg, gmName, plainAt_eq, gmNil, gmCons, gmTup, mItems, mRange, mFor, mLc, mLc2, wipeC, backC, plainC, mYes, mPar, mCallP, mCallD, dLt_Tx, dLt_int, dGe_int, dLe_int, dEq_int, dEq_str, dNe_str, strIn_Tx, Tx_len, Tx_beq, Tx_app, kit_NoneType_str, kit_bool_str, kit_int_str, kit_str_str, kit_tuple_str, kit_list_str, kit_dict_str, dIsi, dTy, dItems, Tx_signs]
def ltAt (x : List Nat) (i : Nat) : Bool := decide (x.getD i 0 < x.getD (i + 1) 0)
theorem signs_h2 (x : List Nat) (hx : x.length ≤ 1000) : lcGo (gmName 2) (mNotT (mTest (mBin dLt (mBin dItemA (mVar 0) (mBin dSub (mVar 2) (mC (.int 1)))) (mBin dItemA (mVar 0) (mVar 2))))) (mVar 2) [2] ((List.range (x.length - 1)).map fun i : Nat => .int (1 + (i : Int))) [.d (.str (Tx x)), .no, .no] =
    some (((List.range (x.length - 1)).filter fun i => !ltAt x i).map fun i : Nat => .int (1 + (i : Int)), [.d (.str (Tx x)), .no, .no]) := by
  exact lcGo_map (f := gmName 2) (mt := mNotT (mTest (mBin dLt (mBin dItemA (mVar 0) (mBin dSub (mVar 2) (mC (.int 1)))) (mBin dItemA (mVar 0) (mVar 2))))) (me := mVar 2) (vs := [2]) (ρ := [.d (.str (Tx x)), .no, .no]) (fun i : Nat => .int (1 + (i : Int))) (fun i => !ltAt x i) (fun i : Nat => .int (1 + (i : Int))) (List.range (x.length - 1)) (fun i hi => by
    have hi := List.mem_range.mp hi
    have i1 : i < x.length := by omega
    have i2 : i + 1 < x.length := by omega
    have hs : x.length ≤ sizeLine := by have := sz; omega
    have g1 : dItemA (.str (Tx x)) (.int (1 + (i : Int) - 1)) = some (.str (Tx [x.getD i 0])) := by
      have e : (1 + (i : Int) - 1) = (i : Nat) := by omega
      have := atI_nat (xs := x) (j := i) (v := x.getD i 0) (by rw [List.getElem?_eq_getElem i1, List.getD_eq_getElem?_getD, List.getElem?_eq_getElem i1]; rfl)
      rw [e]
      simp only [dItemA, dItem]
      rw [if_pos (by rw [Tx_len]; exact hs), Tx_cps, this]; rfl
    have g2 : dItemA (.str (Tx x)) (.int (1 + (i : Int))) = some (.str (Tx [x.getD (i + 1) 0])) := by
      have e : (1 + (i : Int)) = ((i + 1 : Nat) : Int) := by omega
      have := atI_nat (xs := x) (j := i + 1) (v := x.getD (i + 1) 0) (by rw [List.getElem?_eq_getElem i2, List.getD_eq_getElem?_getD, List.getElem?_eq_getElem i2]; rfl)
      rw [e]
      simp only [dItemA, dItem]
      rw [if_pos (by rw [Tx_len]; exact hs), Tx_cps, this]; rfl
    exact ⟨[.d (.str (Tx x)), .no, .d (.int (1 + (i : Int)))], by simp [mVar, mC, mBin, mUn, mNil, mCons, mApp, mTest, mAndT, mOrT, mNotT, mIfE, mAndV, mOrV, mNotV, mChain, mSeq, mSkip, mRet, mRetN, mIfS, mDrop, mAsg, gmName, plainAt_eq, gmNil, gmCons, gmTup, mItems, mRange, mFor, mLc, mLc2, wipeC, backC, plainC, mYes, mPar, mCallP, mCallD, dLt_Tx, dLt_int, dGe_int, dLe_int, dEq_int, dEq_str, dNe_str, strIn_Tx, Tx_len, Tx_beq, Tx_app, kit_NoneType_str, kit_bool_str, kit_int_str, kit_str_str, kit_tuple_str, kit_list_str, kit_dict_str, dIsi, dTy, dItems, Tx_signs], by simp only [mNotT, mTest, mBin, mVar, mC, dSub]; simp [mVar, mC, mBin, mUn, mNil, mCons, mApp, mTest, mAndT, mOrT, mNotT, mIfE, mAndV, mOrV, mNotV, mChain, mSeq, mSkip, mRet, mRetN, mIfS, mDrop, mAsg, gmName, plainAt_eq, gmNil, gmCons, gmTup, mItems, mRange, mFor, mLc, mLc2, wipeC, backC, plainC, mYes, mPar, mCallP, mCallD, dLt_Tx, dLt_int, dGe_int, dLe_int, dEq_int, dEq_str, dNe_str, strIn_Tx, Tx_len, Tx_beq, Tx_app, kit_NoneType_str, kit_bool_str, kit_int_str, kit_str_str, kit_tuple_str, kit_list_str, kit_dict_str, dIsi, dTy, dItems, Tx_signs, g1, g2, lt_one, ltAt], by simp [mVar, mC, mBin, mUn, mNil, mCons, mApp, mTest, mAndT, mOrT, mNotT, mIfE, mAndV, mOrV, mNotV, mChain, mSeq, mSkip, mRet, mRetN, mIfS, mDrop, mAsg, gmName, plainAt_eq, gmNil, gmCons, gmTup, mItems, mRange, mFor, mLc, mLc2, wipeC, backC, plainC, mYes, mPar, mCallP, mCallD, dLt_Tx, dLt_int, dGe_int, dLe_int, dEq_int, dEq_str, dNe_str, strIn_Tx, Tx_len, Tx_beq, Tx_app, kit_NoneType_str, kit_bool_str, kit_int_str, kit_str_str, kit_tuple_str, kit_list_str, kit_dict_str, dIsi, dTy, dItems, Tx_signs], by simp [mVar, mC, mBin, mUn, mNil, mCons, mApp, mTest, mAndT, mOrT, mNotT, mIfE, mAndV, mOrV, mNotV, mChain, mSeq, mSkip, mRet, mRetN, mIfS, mDrop, mAsg, gmName, plainAt_eq, gmNil, gmCons, gmTup, mItems, mRange, mFor, mLc, mLc2, wipeC, backC, plainC, mYes, mPar, mCallP, mCallD, dLt_Tx, dLt_int, dGe_int, dLe_int, dEq_int, dEq_str, dNe_str, strIn_Tx, Tx_len, Tx_beq, Tx_app, kit_NoneType_str, kit_bool_str, kit_int_str, kit_str_str, kit_tuple_str, kit_list_str, kit_dict_str, dIsi, dTy, dItems, Tx_signs]⟩)
theorem signs_p2 (x : List Nat) (hx : x.length ≤ 1000) : (mRet (mBin dEq (mLc (mRange (mCons (mC (.int 1)) (mCons (mApp dLen (mCons (mVar 0) mNil)) mNil))) (gmName 2) (mNotT (mTest (mBin dLt (mBin dItemA (mVar 0) (mBin dSub (mVar 2) (mC (.int 1)))) (mBin dItemA (mVar 0) (mVar 2))))) (mVar 2) [2]) (mApp dLst mNil))) [.d (.str (Tx x)), .no, .no] = some (.rt (.bl (up x)) [.d (.str (Tx x)), .no, .no]) := by
  have h2 := signs_h2 x hx
  have := sz
  have hl2 := List.length_filter_le (fun i => !ltAt x i) (List.range (x.length - 1))
  rw [List.length_range] at hl2
  have hz2 : ((List.range (x.length - 1)).filter fun i => !ltAt x i).length ≤ sizeLine := by omega
  have hzx : x.length ≤ sizeLine := by omega
  have hf : ((List.range (x.length - 1)).filter fun i => !ltAt x i).isEmpty = up x := by rw [filter_empty]; exact up_range x
  have e1 : mRange (mCons (mC (.int 1)) (mCons (mApp dLen (mCons (mVar 0) mNil)) mNil)) [.d (.str (Tx x)), .no, .no] = some (((List.range (x.length - 1)).map fun i : Nat => .int (1 + (i : Int))), [.d (.str (Tx x)), .no, .no]) :=
    ev_range (ev_cons ev_c (ev_cons (ev_app (ev_cons (ev_var rfl) ev_nil) (len_T hzx)) ev_nil)) (range1 _ hx)
  have e2 := ev_lc (mt := mNotT (mTest (mBin dLt (mBin dItemA (mVar 0) (mBin dSub (mVar 2) (mC (.int 1)))) (mBin dItemA (mVar 0) (mVar 2))))) (ma := mVar 2) (f := gmName 2) (vs := [2]) e1 (by simp [mVar, mC, mBin, mUn, mNil, mCons, mApp, mTest, mAndT, mOrT, mNotT, mIfE, mAndV, mOrV, mNotV, mChain, mSeq, mSkip, mRet, mRetN, mIfS, mDrop, mAsg, gmName, plainAt_eq, gmNil, gmCons, gmTup, mItems, mRange, mFor, mLc, mLc2, wipeC, backC, plainC, mYes, mPar, mCallP, mCallD, dLt_Tx, dLt_int, dGe_int, dLe_int, dEq_int, dEq_str, dNe_str, strIn_Tx, Tx_len, Tx_beq, Tx_app, kit_NoneType_str, kit_bool_str, kit_int_str, kit_str_str, kit_tuple_str, kit_list_str, kit_dict_str, dIsi, dTy, dItems, Tx_signs]) h2 (by rw [List.length_map]; exact hz2)
  refine ev_ret (ev_bin e2 (ev_app ev_nil rfl) ?_)
  rw [dEq_nil_ints, hf]
theorem signs_p1 (x : List Nat) (hx : x.length ≤ 1000) (a1 : 1 ≤ x.length) (a2 : x.length ≤ 10) (b : Bool) (hT : isT digs x = b) : (mIfS (mOrT (mNotT (mTest (mUn (dIsi "str") (mVar 0)))) (mOrT (mNotT (mTest (mChain dLe dLe (mC (.int 1)) (mApp dLen (mCons (mVar 0) mNil)) (mC (.int 10))))) (mTest (mBin dNe (mLc (mItems (mVar 0)) (gmName 1) (mTest (mBin dNotIn (mVar 1) (mC (.str "0123456789")))) (mVar 1) [1]) (mApp dLst mNil))))) (mRet (mC (.bl false))) mSkip) [.d (.str (Tx x)), .no, .no] = if b = true then some (.nx [.d (.str (Tx x)), .no, .no]) else some (.rt (.bl false) [.d (.str (Tx x)), .no, .no]) := by
  have h1 := lcGo_map (f := gmName 1) (mt := mTest (mBin dNotIn (mVar 1) (mC (.str "0123456789")))) (me := mVar 1) (vs := [1]) (ρ := [.d (.str (Tx x)), .no, .no]) (fun c => .str (Tx [c])) (fun c => !decide (c ∈ digs)) (fun c => .str (Tx [c])) x (fun c hc =>
      ⟨[.d (.str (Tx x)), .d (.str (Tx [c])), .no], by simp [mVar, mC, mBin, mUn, mNil, mCons, mApp, mTest, mAndT, mOrT, mNotT, mIfE, mAndV, mOrV, mNotV, mChain, mSeq, mSkip, mRet, mRetN, mIfS, mDrop, mAsg, gmName, plainAt_eq, gmNil, gmCons, gmTup, mItems, mRange, mFor, mLc, mLc2, wipeC, backC, plainC, mYes, mPar, mCallP, mCallD, dLt_Tx, dLt_int, dGe_int, dLe_int, dEq_int, dEq_str, dNe_str, strIn_Tx, Tx_len, Tx_beq, Tx_app, kit_NoneType_str, kit_bool_str, kit_int_str, kit_str_str, kit_tuple_str, kit_list_str, kit_dict_str, dIsi, dTy, dItems, Tx_signs], by simp [mVar, mC, mBin, mUn, mNil, mCons, mApp, mTest, mAndT, mOrT, mNotT, mIfE, mAndV, mOrV, mNotV, mChain, mSeq, mSkip, mRet, mRetN, mIfS, mDrop, mAsg, gmName, plainAt_eq, gmNil, gmCons, gmTup, mItems, mRange, mFor, mLc, mLc2, wipeC, backC, plainC, mYes, mPar, mCallP, mCallD, dLt_Tx, dLt_int, dGe_int, dLe_int, dEq_int, dEq_str, dNe_str, strIn_Tx, Tx_len, Tx_beq, Tx_app, kit_NoneType_str, kit_bool_str, kit_int_str, kit_str_str, kit_tuple_str, kit_list_str, kit_dict_str, dIsi, dTy, dItems, Tx_signs, dNotIn, digs_eq], by simp [mVar, mC, mBin, mUn, mNil, mCons, mApp, mTest, mAndT, mOrT, mNotT, mIfE, mAndV, mOrV, mNotV, mChain, mSeq, mSkip, mRet, mRetN, mIfS, mDrop, mAsg, gmName, plainAt_eq, gmNil, gmCons, gmTup, mItems, mRange, mFor, mLc, mLc2, wipeC, backC, plainC, mYes, mPar, mCallP, mCallD, dLt_Tx, dLt_int, dGe_int, dLe_int, dEq_int, dEq_str, dNe_str, strIn_Tx, Tx_len, Tx_beq, Tx_app, kit_NoneType_str, kit_bool_str, kit_int_str, kit_str_str, kit_tuple_str, kit_list_str, kit_dict_str, dIsi, dTy, dItems, Tx_signs], by simp [mVar, mC, mBin, mUn, mNil, mCons, mApp, mTest, mAndT, mOrT, mNotT, mIfE, mAndV, mOrV, mNotV, mChain, mSeq, mSkip, mRet, mRetN, mIfS, mDrop, mAsg, gmName, plainAt_eq, gmNil, gmCons, gmTup, mItems, mRange, mFor, mLc, mLc2, wipeC, backC, plainC, mYes, mPar, mCallP, mCallD, dLt_Tx, dLt_int, dGe_int, dLe_int, dEq_int, dEq_str, dNe_str, strIn_Tx, Tx_len, Tx_beq, Tx_app, kit_NoneType_str, kit_bool_str, kit_int_str, kit_str_str, kit_tuple_str, kit_list_str, kit_dict_str, dIsi, dTy, dItems, Tx_signs]⟩)
  have := sz
  have hl := List.length_filter_le (fun c => !decide (c ∈ digs)) x
  have hz : (x.filter fun c => !decide (c ∈ digs)).length ≤ sizeLine := by omega
  have hzx : x.length ≤ sizeLine := by omega
  have hT2 : (x.filter fun c => !decide (c ∈ digs)).isEmpty = b := by rw [filter_empty]; exact hT
  have t1 : mTest (mUn (dIsi "str") (mVar 0)) [.d (.str (Tx x)), .no, .no] = some (true, [.d (.str (Tx x)), .no, .no]) := ev_test (ev_un (ev_var rfl) (by simp [mVar, mC, mBin, mUn, mNil, mCons, mApp, mTest, mAndT, mOrT, mNotT, mIfE, mAndV, mOrV, mNotV, mChain, mSeq, mSkip, mRet, mRetN, mIfS, mDrop, mAsg, gmName, plainAt_eq, gmNil, gmCons, gmTup, mItems, mRange, mFor, mLc, mLc2, wipeC, backC, plainC, mYes, mPar, mCallP, mCallD, dLt_Tx, dLt_int, dGe_int, dLe_int, dEq_int, dEq_str, dNe_str, strIn_Tx, Tx_len, Tx_beq, Tx_app, kit_NoneType_str, kit_bool_str, kit_int_str, kit_str_str, kit_tuple_str, kit_list_str, kit_dict_str, dIsi, dTy, dItems, Tx_signs]))
  have t2 : mTest (mChain dLe dLe (mC (.int 1)) (mApp dLen (mCons (mVar 0) mNil)) (mC (.int 10))) [.d (.str (Tx x)), .no, .no] = some (true, [.d (.str (Tx x)), .no, .no]) := by
    have e : mApp dLen (mCons (mVar 0) mNil) [.d (.str (Tx x)), .no, .no] = some (.int x.length, [.d (.str (Tx x)), .no, .no]) := ev_app (ev_cons (ev_var rfl) ev_nil) (len_T hzx)
    have i1 : (1 : Int) ≤ x.length := by omega
    have i2 : (x.length : Int) ≤ 10 := by omega
    simp only [mTest, mChain, mC, e, Option.bind_some, dLe_int, decide_eq_true i1, decide_eq_true i2, if_true, Option.map_some]
  have t3 : mTest (mBin dNe (mLc (mItems (mVar 0)) (gmName 1) (mTest (mBin dNotIn (mVar 1) (mC (.str "0123456789")))) (mVar 1) [1]) (mApp dLst mNil)) [.d (.str (Tx x)), .no, .no] = some (!b, [.d (.str (Tx x)), .no, .no]) :=
    ev_test (ev_bin (ev_lc (ev_items (ev_var rfl) (by simp only [dItems, Tx_signs])) (by simp [mVar, mC, mBin, mUn, mNil, mCons, mApp, mTest, mAndT, mOrT, mNotT, mIfE, mAndV, mOrV, mNotV, mChain, mSeq, mSkip, mRet, mRetN, mIfS, mDrop, mAsg, gmName, plainAt_eq, gmNil, gmCons, gmTup, mItems, mRange, mFor, mLc, mLc2, wipeC, backC, plainC, mYes, mPar, mCallP, mCallD, dLt_Tx, dLt_int, dGe_int, dLe_int, dEq_int, dEq_str, dNe_str, strIn_Tx, Tx_len, Tx_beq, Tx_app, kit_NoneType_str, kit_bool_str, kit_int_str, kit_str_str, kit_tuple_str, kit_list_str, kit_dict_str, dIsi, dTy, dItems, Tx_signs]) h1 (by rw [List.length_map]; exact hz)) (ev_app ev_nil rfl) (by rw [dNe_nil_strs, hT2]))
  cases b with
  | true => rw [ev_ifF ((ev_orF (ev_not t1)).trans ((ev_orF (ev_not t2)).trans t3))]; rfl
  | false => rw [ev_ifT ((ev_orF (ev_not t1)).trans ((ev_orF (ev_not t2)).trans t3))]; rfl
theorem signs_p0 (x : List Nat) (hx : x.length ≤ 1000) (h : ¬ (1 ≤ x.length ∧ x.length ≤ 10)) : (mIfS (mOrT (mNotT (mTest (mUn (dIsi "str") (mVar 0)))) (mOrT (mNotT (mTest (mChain dLe dLe (mC (.int 1)) (mApp dLen (mCons (mVar 0) mNil)) (mC (.int 10))))) (mTest (mBin dNe (mLc (mItems (mVar 0)) (gmName 1) (mTest (mBin dNotIn (mVar 1) (mC (.str "0123456789")))) (mVar 1) [1]) (mApp dLst mNil))))) (mRet (mC (.bl false))) mSkip) [.d (.str (Tx x)), .no, .no] = some (.rt (.bl false) [.d (.str (Tx x)), .no, .no]) := by
  have := sz
  have hzx : x.length ≤ sizeLine := by omega
  have t1 : mTest (mUn (dIsi "str") (mVar 0)) [.d (.str (Tx x)), .no, .no] = some (true, [.d (.str (Tx x)), .no, .no]) := ev_test (ev_un (ev_var rfl) (by simp [mVar, mC, mBin, mUn, mNil, mCons, mApp, mTest, mAndT, mOrT, mNotT, mIfE, mAndV, mOrV, mNotV, mChain, mSeq, mSkip, mRet, mRetN, mIfS, mDrop, mAsg, gmName, plainAt_eq, gmNil, gmCons, gmTup, mItems, mRange, mFor, mLc, mLc2, wipeC, backC, plainC, mYes, mPar, mCallP, mCallD, dLt_Tx, dLt_int, dGe_int, dLe_int, dEq_int, dEq_str, dNe_str, strIn_Tx, Tx_len, Tx_beq, Tx_app, kit_NoneType_str, kit_bool_str, kit_int_str, kit_str_str, kit_tuple_str, kit_list_str, kit_dict_str, dIsi, dTy, dItems, Tx_signs]))
  have t2 : mTest (mChain dLe dLe (mC (.int 1)) (mApp dLen (mCons (mVar 0) mNil)) (mC (.int 10))) [.d (.str (Tx x)), .no, .no] = some (false, [.d (.str (Tx x)), .no, .no]) := by
    have e : mApp dLen (mCons (mVar 0) mNil) [.d (.str (Tx x)), .no, .no] = some (.int x.length, [.d (.str (Tx x)), .no, .no]) := ev_app (ev_cons (ev_var rfl) ev_nil) (len_T hzx)
    by_cases i1 : (1 : Int) ≤ x.length
    · have i2 : ¬ (x.length : Int) ≤ 10 := by omega
      simp only [mTest, mChain, mC, e, Option.bind_some, dLe_int, decide_eq_true i1, decide_eq_false i2, if_true, Option.map_some]
    · simp only [mTest, mChain, mC, e, Option.bind_some, dLe_int, decide_eq_false i1, Bool.false_eq_true, if_false]
  rw [ev_ifT ((ev_orF (ev_not t1)).trans (ev_orT (ev_not t2)))]; rfl
theorem f__law_are_signs_str (x : List Nat) (hx : x.length ≤ 1000) : f__law_are_signs [.str (Tx x)] = some (.bl (dg2 x)) := by
  refine ev_runP (ρ := [.d (.str (Tx x)), .no, .no]) ?_
  show m__law_are_signs [.d (.str (Tx x)), .no, .no] = _
  unfold m__law_are_signs
  by_cases h : 1 ≤ x.length ∧ x.length ≤ 10
  · have p1 := signs_p1 x hx h.1 h.2 _ rfl
    by_cases hT : isT digs x = true
    · rw [if_pos hT] at p1
      rw [ev_seq p1, signs_p2 x hx]
      unfold dg2
      rw [decide_eq_true h.1, decide_eq_true h.2, hT]; rfl
    · rw [if_neg hT] at p1
      rw [ev_seqR p1]
      unfold dg2
      rw [show isT digs x = false by simpa using hT, Bool.and_false]; rfl
  · rw [ev_seqR (signs_p0 x hx h)]
    unfold dg2
    by_cases h1 : 1 ≤ x.length
    · rw [decide_eq_false (fun z => h ⟨h1, z⟩), Bool.and_false]; rfl
    · rw [decide_eq_false h1]; rfl
theorem f__law_are_signs_no (d : D) (h : dTy d ≠ none) (h2 : dTy d ≠ some "str") : f__law_are_signs [d] = some (.bl false) := by
  simp only [f__law_are_signs, runP, m__law_are_signs]
  cases d <;> first | (exact absurd rfl h2) | (exact absurd rfl h) | simp [mVar, mC, mBin, mUn, mNil, mCons, mApp, mTest, mAndT, mOrT, mNotT, mIfE, mAndV, mOrV, mNotV, mChain, mSeq, mSkip, mRet, mRetN, mIfS, mDrop, mAsg, gmName, plainAt_eq, gmNil, gmCons, gmTup, mItems, mRange, mFor, mLc, mLc2, wipeC, backC, plainC, mYes, mPar, mCallP, mCallD, dLt_Tx, dLt_int, dGe_int, dLe_int, dEq_int, dEq_str, dNe_str, strIn_Tx, Tx_len, Tx_beq, Tx_app, kit_NoneType_str, kit_bool_str, kit_int_str, kit_str_str, kit_tuple_str, kit_list_str, kit_dict_str, dIsi, dTy, dItems, Tx_signs]
end Lk01

namespace Lk01
open PySem L2 TL
theorem f_roll_spec {l : List Nat} {most : Nat} (hl : l.length ≤ 1000) (hm : most ≤ 1000) (hs : ∀ j, j ≤ most → (lv l j).length ≤ 100000) : f_roll [.str (Tx l), .int most] = some (.tup ((lv l most).map tx)) := by
  have big : (100000 : Nat) ≤ sizeLine := by decide
  have hrange := range_n most (by omega)
  have s1 : (mAsg (mApp dLst (mCons (mC (.str "")) mNil)) (gmName 2)) [.d (tx l), .d (.int most), .no, .no, .no, .no] = some (.nx [.d (tx l), .d (.int most), .d (.lst ((lv l 0).map tx)), .no, .no, .no]) := by
    rw [ev_set (ev_app (ev_cons ev_c ev_nil) rfl) rfl]; rfl
  obtain ⟨ρ', g1, g2⟩ := forGo_inv (f := gmName 3) (body := (mAsg (mLc2 (mItems (mVar 2)) (gmName 4) mYes (mItems (mVar 0)) (gmName 5) mYes (mBin dAdd (mVar 4) (mVar 5)) [4, 5] [5]) (gmName 2)))
    (fun j ρ => ∃ c, isP c = true ∧ j ≤ most ∧ ρ = [.d (tx l), .d (.int most), .d (.lst ((lv l j).map tx)), c, .no, .no])
    ((List.range most).map fun i : Nat => .int (0 + (i : Int))) 0 _ ⟨.no, rfl, Nat.zero_le _, rfl⟩ (fun j d hj ρ hI => by
      rw [Nat.zero_add] at hI ⊢
      obtain ⟨c, pc, _, rfl⟩ := hI
      have hj := (List.getElem?_eq_some_iff.mp hj).1
      simp only [List.length_map, List.length_range] at hj
      have hsz := hs (j + 1) hj
      have lc := lc2Go_map (f := gmName 4) (mt := mYes) (mi1 := mItems (mVar 0)) (f1 := gmName 5) (mt1 := mYes) (me := mBin dAdd (mVar 4) (mVar 5)) (vs := [4, 5]) (vs1 := [5]) (ρ := [.d (tx l), .d (.int most), .d (.lst ((lv l j).map tx)), .d d, .no, .no]) tx (fun c : Nat => tx [c]) (fun _ => l) (fun p c => tx (p ++ [c])) (lv l j) (fun p hp => by
        have hpl : p.length = j := lv_size l j p hp
        refine ⟨[.d (tx l), .d (.int most), .d (.lst ((lv l j).map tx)), .d d, .d (tx p), .no], rfl, rfl, ev_items (a := tx l) (ev_var rfl) rfl, ?_, rfl⟩
        exact lcGo_mapT (fun c : Nat => tx [c]) (fun c => tx (p ++ [c])) l fun c hc => ⟨[.d (tx l), .d (.int most), .d (.lst ((lv l j).map tx)), .d d, .d (tx p), .d (tx [c])], rfl, rfl, ev_bin (ev_var rfl) (ev_var rfl) (add_Tx (by rw [hpl]; simp only [List.length_singleton]; omega)), rfl⟩)
      have hfl : ((lv l j).flatMap fun p => l.map fun c => tx (p ++ [c])) = (lv l (j + 1)).map tx := by
        rw [lv, List.map_flatMap]
        simp only [List.map_map]
        rfl
      rw [hfl] at lc
      refine ⟨[.d (tx l), .d (.int most), .d (.lst ((lv l j).map tx)), .d d, .no, .no], [.d (tx l), .d (.int most), .d (.lst ((lv l (j + 1)).map tx)), .d d, .no, .no], ?_, ?_, .d d, rfl, hj, rfl⟩
      · unfold gmName
        rw [if_pos (by rw [plainAt_eq]; exact pc)]; rfl
      · rw [ev_set (ev_lc2 (ρ1 := [.d (tx l), .d (.int most), .d (.lst ((lv l j).map tx)), .d d, .no, .no]) (ev_items (ev_var rfl) rfl) rfl lc (by rw [List.length_map]; omega)) rfl]; rfl)
  obtain ⟨c, _, _, rfl⟩ := g2
  rw [Nat.zero_add, List.length_map, List.length_range] at g1
  have h : ∃ ρ, m_roll [.d (tx l), .d (.int most), .no, .no, .no, .no] = some (.rt (.tup ((lv l most).map tx)) ρ) := by
    unfold m_roll
    rw [ev_seq s1, ev_seq (ev_for (ev_range (ev_cons (ev_var rfl) ev_nil) hrange) g1)]
    exact ⟨_, ev_ret (ev_app (ev_cons (ev_var rfl) ev_nil) rfl)⟩
  obtain ⟨ρ, h⟩ := h
  exact ev_runP h
theorem f_pages_spec {l : List Nat} {most : Nat} (hl : l.length ≤ 1000) (hm : most ≤ 1000) (hs : ∀ j, j ≤ most → (lvs l j).length ≤ 100000) : f__law_pages [.str (Tx l), .int most] = some (.lst ((lvs l most).map tx)) := pages_spec hl hm hs
theorem draws : Draws f__law_draw false := fun s n many hd hf h0 h1 => draw_spec (c1 := 60223) (c2 := 223) hd (by decide) (by decide) h0 h1 hf
theorem f_page_spec {s : Dk} {n most : Nat} {l : List Nat} (hd : s.dr = false) (h : Fine s (n + most + 2)) (h0 : l ≠ []) (h1 : l.length ≤ 100000) (hm : most ≤ 1000) :
    ∃ p s', f__law_page s [.str (Tx l), .int most] = some (.str (Tx p), s') ∧ (∀ c ∈ p, c ∈ l) ∧ p.length ≤ most ∧ Fine s' n ∧ s'.dr = false := page_spec draws hd h h0 h1 hm
theorem f_pick_spec {s : Dk} {n : Nat} {ds : List D} (hd : s.dr = false) (h : Fine s (n + 1)) (h0 : ds ≠ []) (h1 : ds.length < 2 ^ 40) : ∃ d s', f__law_pick s [.lst ds] = some (d, s') ∧ d ∈ ds ∧ Fine s' n ∧ s'.dr = false := by
  obtain ⟨d, s', e, m, q⟩ := pick_spec draws hd h h0 h1
  exact ⟨d, s', e, m, q.fine h, q.dr.trans hd⟩
/-- ahead: shorter, or as long and earlier -/
def ah (a b : List Nat) : Bool := decide (a.length < b.length) || (decide (a.length = b.length) && decide (a < b))
theorem f_is_ahead_spec {a b : List Nat} (ha : a.length ≤ 1000) (hb : b.length ≤ 1000) : f_is_ahead [tx a, tx b] = some (.bl (ah a b)) := by
  have big : (100000 : Nat) ≤ sizeLine := by decide
  have h : dLt (.tup [.int a.length, tx a]) (.tup [.int b.length, tx b]) = some (.bl (ah a b)) := by
    have e : PySem.W.dataLt (.tuple [.int a.length, .str (Tx a)]) (.tuple [.int b.length, .str (Tx b)]) = ah a b := by
      rw [PySem.W.dataLt_pair (by simp [PySem.W.alike]) (by simp [PySem.W.alike]), PySem.W.dataLt_int, PySem.W.dataLt_str]
      simp only [PyData.eqv, Tx_beq, Tx_cps, ah]
      by_cases h1 : a.length = b.length
      · by_cases h2 : a = b
        · subst h2; simp
        · by_cases h3 : a < b <;> simp [h1, h2, h3]
      · have : ¬ ((a.length : Int) = b.length) := by omega
        simp [h1, this]
    unfold dLt cmpP fOrd
    simp only [D.py, D.pys, Option.bind_some, Option.map_some]
    rw [if_pos (by show max 0 (max 0 0) + 1 ≤ 64; decide)]
    simp [PySem.W.alike, PySem.W.alikeAll, e]
  exact ev_runP (ρ := [.d (tx a), .d (tx b)]) (ev_ret (ev_bin (ev_app (ev_cons (ev_app (ev_cons (ev_var rfl) ev_nil) (len_T (by omega))) (ev_cons (ev_var rfl) ev_nil)) rfl) (ev_app (ev_cons (ev_app (ev_cons (ev_var rfl) ev_nil) (len_T (by omega))) (ev_cons (ev_var rfl) ev_nil)) rfl) h))
/-! ### the order of the pages -/
theorem lt_snoc : ∀ (p : List Nat) {c d : Nat}, c < d → p ++ [c] < p ++ [d]
  | [], c, d, h => .rel h
  | a :: p, c, d, h => .cons (lt_snoc p h)
theorem lt_app : ∀ {p q : List Nat}, p < q → p.length = q.length → ∀ x y : List Nat, p ++ x < q ++ y
  | [], [], h, _, _, _ => by cases h
  | [], _ :: _, _, e, _, _ => by cases e
  | _ :: _, [], _, e, _, _ => by cases e
  | a :: p, b :: q, h, e, x, y => by
    cases h with
    | rel h => exact .rel h
    | cons h => exact .cons (lt_app h (by simpa using e) x y)
theorem up_pair : ∀ {l : List Nat}, up l = true → l.Pairwise (· < ·)
  | [], _ => .nil
  | [a], _ => List.pairwise_singleton _ _
  | a :: b :: l, h => by
    simp only [up, Bool.and_eq_true, decide_eq_true_eq] at h
    have ih := up_pair h.2
    refine .cons (fun x hx => ?_) ih
    rcases List.mem_cons.mp hx with rfl | hx
    · exact h.1
    · exact Nat.lt_trans h.1 (List.rel_of_pairwise_cons ih hx)
theorem lv_pair {l : List Nat} (h : up l = true) : ∀ k, (lv l k).Pairwise (· < ·)
  | 0 => List.pairwise_singleton _ _
  | k + 1 => by
    rw [lv, List.pairwise_flatMap]
    refine ⟨fun p _ => ?_, ?_⟩
    · rw [List.pairwise_map]
      exact (up_pair h).imp fun hcd => lt_snoc p hcd
    · refine List.Pairwise.imp_of_mem (fun {p q} hp hq hpq x hx y hy => ?_) (lv_pair h k)
      obtain ⟨c, _, rfl⟩ := List.mem_map.mp hx
      obtain ⟨d, _, rfl⟩ := List.mem_map.mp hy
      exact lt_app hpq ((lv_size l k p hp).trans (lv_size l k q hq).symm) [c] [d]
theorem lvs_pair {l : List Nat} (h : up l = true) (k : Nat) : (lvs l k).Pairwise fun a b => ah a b = true := by
  unfold lvs
  rw [List.pairwise_flatMap]
  refine ⟨fun j _ => List.Pairwise.imp_of_mem (fun {p q} hp hq hpq => ?_) (lv_pair h j), List.Pairwise.imp (fun {i j} hij p hp q hq => ?_) List.pairwise_lt_range⟩
  · have e := (lv_size l j p hp).trans (lv_size l j q hq).symm
    simp [ah, e, hpq]
  · have e1 := lv_size l i p hp
    have e2 := lv_size l j q hq
    have : p.length < q.length := by omega
    simp [ah, this]
theorem ah_self (a : List Nat) : ah a a = false := by
  simp [ah, List.lt_irrefl]
theorem ah_asym {a b : List Nat} (h : ah a b = true) : ah b a = false := by
  simp only [ah, Bool.or_eq_true, Bool.and_eq_true, decide_eq_true_eq] at h
  simp only [ah, Bool.or_eq_false_iff, Bool.and_eq_false_iff, decide_eq_false_iff_not]
  rcases h with h | ⟨h1, h2⟩
  · exact ⟨by omega, .inl (by omega)⟩
  · exact ⟨by omega, .inr (fun z => List.lt_irrefl _ (List.lt_trans h2 z))⟩
theorem idx_spec {L : List (List Nat)} (hp : L.Pairwise fun a b => ah a b = true) {a : List Nat} (ha : a ∈ L) : ∃ i : Nat, L[i]? = some a ∧ dIndex (.lst (L.map tx)) (tx a) = some (.int (i : Int)) := by
  obtain ⟨i, hi, rfl⟩ := List.mem_iff_getElem.mp ha
  refine ⟨i, List.getElem?_eq_getElem hi, ?_⟩
  have e : (L.map Tx).findIdx? (· == Tx L[i]) = some i := by
    rw [List.findIdx?_eq_some_iff_getElem]
    refine ⟨by rw [List.length_map]; exact hi, by simp, fun j hj => ?_⟩
    have hjl : j < L.length := Nat.lt_trans hj hi
    rw [List.getElem_map, Tx_beq]
    have hr := List.pairwise_iff_getElem.mp hp j i hjl hi hj
    simp only [decide_eq_true_eq]
    intro z
    rw [z, ah_self] at hr
    cases hr
  show ((asStrs (L.map tx)).bind fun ys => (ys.findIdx? (· == Tx L[i])).map fun i => D.int (i : Nat)) = _
  rw [show L.map tx = L.map (fun a => D.str (Tx a)) from rfl, asStrs_mapf, Option.bind_some, e]
  rfl
theorem idx_lt {L : List (List Nat)} (hp : L.Pairwise fun a b => ah a b = true) {a b : List Nat} {i j : Nat} (ha : L[i]? = some a) (hb : L[j]? = some b) : decide ((i : Int) < (j : Int)) = ah a b := by
  obtain ⟨hi, rfl⟩ := List.getElem?_eq_some_iff.mp ha
  obtain ⟨hj, rfl⟩ := List.getElem?_eq_some_iff.mp hb
  rcases Nat.lt_trichotomy i j with h | h | h
  · rw [List.pairwise_iff_getElem.mp hp i j hi hj h, decide_eq_true (by omega)]
  · subst h; rw [ah_self, decide_eq_false (by omega)]
  · rw [ah_asym (List.pairwise_iff_getElem.mp hp j i hj hi h), decide_eq_false (by omega)]
end Lk01

namespace Lk01
open PySem L2 TL
theorem lvs_le (l : List Nat) : ∀ k, ∀ p ∈ lvs l k, p.length ≤ k := fun k p h => by
  unfold lvs at h
  obtain ⟨i, hi, h⟩ := List.mem_flatMap.mp h
  have := lv_size l i p h
  have := List.mem_range.mp hi
  omega
theorem lvs_filter (l : List Nat) (j : Nat) : ∀ k, j ≤ k → ((lvs l k).filter fun p => decide (p.length = j)) = lv l j
  | 0, h => by
    have : j = 0 := by omega
    subst this
    rfl
  | k + 1, h => by
    rw [lvs_succ, List.filter_append]
    by_cases e : j = k + 1
    · subst e
      rw [List.filter_eq_nil_iff.mpr fun p hp => by have := lvs_le l k p hp; simp; omega, List.nil_append, List.filter_eq_self.mpr fun p hp => by simp [lv_size l _ p hp]]
    · rw [lvs_filter l j k (by omega), List.filter_eq_nil_iff.mpr fun p hp => by have := lv_size l _ p hp; simp; omega, List.append_nil]
theorem lv_mem {l : List Nat} : ∀ {k : Nat} {p : List Nat}, p ∈ lv l k → ∀ c ∈ p, c ∈ l
  | 0, p, h, c, hc => by rw [lv, List.mem_singleton] at h; subst h; cases hc
  | k + 1, p, h, c, hc => by
    rw [lv, List.mem_flatMap] at h
    obtain ⟨q, hq, h⟩ := h
    obtain ⟨d, hd, rfl⟩ := List.mem_map.mp h
    rcases List.mem_append.mp hc with hc | hc
    · exact lv_mem hq c hc
    · rw [List.mem_singleton.mp hc]; exact hd
theorem pow3 {n : Nat} (h : n ≤ 9) : ∀ j, j ≤ 3 → n ^ j ≤ 729 := fun j hj => by
  have a : n ^ j ≤ 9 ^ j := Nat.pow_le_pow_left h j
  have b : (9 : Nat) ^ j ≤ 9 ^ 3 := Nat.pow_le_pow_right (by decide) hj
  exact Nat.le_trans a (Nat.le_trans b (by decide))
theorem lvs_small {l : List Nat} (h : l.length ≤ 9) : ∀ j, j ≤ 3 → (lvs l j).length ≤ 1 + j * 729
  | 0, _ => Nat.le_refl 1
  | j + 1, hj => by
    have ih := lvs_small h j (by omega)
    have := pow3 h (j + 1) hj
    rw [lvs_succ, List.length_append, lv_len]
    omega
/-- the rolls, size by size -/
theorem rolls_body1 {s : Dk} {l : List Nat} {j : Nat} {c5 : Cell} (hl : l.length ≤ 9) (hj : j ≤ 3) (hc : ∀ c ∈ l, c < 1114112) (p5 : isP c5 = true) :
    (mSeq (mAsg (mApp dTuple (mCons (mLc (mItems (mVar 2)) (gmName 9) (mTest (mBin dEq (mApp dLen (mCons (mVar 9) mNil)) (mVar 3))) (mVar 9) [9]) mNil)) (gmName 5)) (mIfS (mTest (mBin dNe (mApp dRepr (mCons (mApp dLst (mCons (mCallP f_roll [0, 1] (mCons (mVar 1) (mCons (mVar 3) mNil)) mNil) (mCons (mCallP f_roll [1, 0] mNil (mCons (mVar 3) (mCons (mVar 1) mNil))) mNil))) mNil)) (mApp dRepr (mCons (mApp dLst (mCons (mVar 5) (mCons (mVar 5) mNil))) mNil)))) (mRet (mC (.bl false))) mSkip))
      [.dk s, .d (tx l), .d (.lst ((lvs l 3).map tx)), .d (.int (0 + (j : Int))), .no, c5, .no, .no, .no, .no] = some (.nx [.dk s, .d (tx l), .d (.lst ((lvs l 3).map tx)), .d (.int (0 + (j : Int))), .no, .d (.tup ((lv l j).map tx)), .no, .no, .no, .no]) := by
  have big : (100000 : Nat) ≤ sizeLine := by decide
  let ρ : Cell → List Cell := fun c => [.dk s, .d (tx l), .d (.lst ((lvs l 3).map tx)), .d (.int (0 + (j : Int))), .no, c, .no, .no, .no, .no]
  have hsz := lvs_small hl 3 (by decide)
  have hlv : (lv l j).length ≤ 729 := by rw [lv_len]; exact pow3 hl j hj
  have lc := lcGo_map (f := gmName 9) (mt := mTest (mBin dEq (mApp dLen (mCons (mVar 9) mNil)) (mVar 3))) (me := mVar 9) (vs := [9]) (ρ := ρ c5) tx (fun p => decide (p.length = j)) tx (lvs l 3) (fun p hp => by
    have hpl := lvs_le l 3 p hp
    refine ⟨(ρ c5).set 9 (.d (tx p)), rfl, ev_test (ev_bin (ev_app (ev_cons (ev_var rfl) ev_nil) (len_T (by omega))) (ev_var rfl) ?_), fun _ => ev_var rfl, rfl⟩
    rw [dEq_int]
    have e : (((p.length : Int) = 0 + (j : Int)) : Prop) = (p.length = j) := by rw [eq_iff_iff]; omega
    simp only [e])
  rw [lvs_filter l j 3 hj] at lc
  have e1 : mLc (mItems (mVar 2)) (gmName 9) (mTest (mBin dEq (mApp dLen (mCons (mVar 9) mNil)) (mVar 3))) (mVar 9) [9] (ρ c5) = some (.lst ((lv l j).map tx), ρ c5) :=
    ev_lc (ρ1 := ρ c5) (ρ2 := ρ c5) (ev_items (ev_var rfl) rfl) rfl lc (by rw [List.length_map]; omega)
  have e2 : (mAsg (mApp dTuple (mCons (mLc (mItems (mVar 2)) (gmName 9) (mTest (mBin dEq (mApp dLen (mCons (mVar 9) mNil)) (mVar 3))) (mVar 9) [9]) mNil)) (gmName 5)) (ρ c5) = some (.nx (ρ (.d (.tup ((lv l j).map tx))))) := by
    rw [ev_set (ev_app (ev_cons e1 ev_nil) rfl) (by rw [plainAt_eq]; exact p5)]; rfl
  have hr : f_roll [.str (Tx l), .int (0 + (j : Int))] = some (.tup ((lv l j).map tx)) := by
    rw [Int.zero_add]
    exact f_roll_spec (by omega) (by omega) fun i hi => by rw [lv_len]; have := pow3 hl i (by omega); omega
  obtain ⟨t, ht⟩ := Shw.repr (shw_lst (ds := [.tup ((lv l j).map tx), .tup ((lv l j).map tx)]) (k := 1) (n := 40000) (fun d hd => by
    have : d = .tup ((lv l j).map tx) := by simpa using hd
    subst this
    refine (shw_tup (k := 0) (n := 42) fun d hd => ?_).le (by omega) (by rw [List.length_map]; omega)
    obtain ⟨p, hp, rfl⟩ := List.mem_map.mp hd
    exact (shw_str fun c hcp => hc c (lv_mem hp c hcp)).le (by omega) (by rw [lv_size l j p hp]; omega))) (by omega) (by simp)
  show _ = some (Res.nx (ρ (.d (.tup ((lv l j).map tx)))))
  rw [ev_seq e2]
  refine (ev_ifF (ev_test (ev_bin (ev_app (ev_cons (ev_app (ev_cons (ev_callQ (xs := [tx l, .int (0 + (j : Int))]) (ev_cons (ev_var rfl) (ev_cons (ev_var rfl) ev_nil)) ev_nil rfl hr) (ev_cons (ev_callQ (xs := [tx l, .int (0 + (j : Int))]) ev_nil (ev_cons (ev_var rfl) (ev_cons (ev_var rfl) ev_nil)) rfl hr) ev_nil)) rfl) ev_nil) ht) (ev_app (ev_cons (ev_app (ev_cons (ev_var rfl) (ev_cons (ev_var rfl) ev_nil)) rfl) ev_nil) ht) (dNe_same t)))).trans ev_skip
theorem rolls_body2 {s : Dk} {n : Nat} {l : List Nat} {c3 c4 c5 c6 c7 c8 : Cell} (hl : l.length ≤ 9) (hu : up l = true) (hd : s.dr = false) (hf : Fine s (n + 2)) (p5 : isP c5 = true) (p6 : isP c6 = true) (p7 : isP c7 = true) (p8 : isP c8 = true) :
    ∃ s' x5 x6 x7 x8, Fine s' n ∧ s'.dr = false ∧ (mSeq (mPar 6 7 (mCons (mCallD 0 f__law_pick (mCons (mVar 2) mNil)) (mCons (mCallD 0 f__law_pick (mCons (mVar 2) mNil)) mNil))) (mSeq (mAsg (mBin dLt (mBin dIndex (mVar 2) (mVar 6)) (mBin dIndex (mVar 2) (mVar 7))) (gmName 5)) (mSeq (mAsg (mApp dLst (mCons (mCallP f_is_ahead [0, 1] (mCons (mVar 6) (mCons (mVar 7) mNil)) mNil) (mCons (mCallP f_is_ahead [1, 0] mNil (mCons (mVar 7) (mCons (mVar 6) mNil))) (mCons (mCallP f_is_ahead [0, 1] (mCons (mVar 6) (mCons (mVar 6) mNil)) mNil) mNil)))) (gmName 8)) (mIfS (mTest (mBin dNe (mApp dRepr (mCons (mVar 8) mNil)) (mApp dRepr (mCons (mApp dLst (mCons (mVar 5) (mCons (mVar 5) (mCons (mC (.bl false)) mNil)))) mNil)))) (mRet (mC (.bl false))) mSkip))))
      [.dk s, .d (tx l), .d (.lst ((lvs l 3).map tx)), c3, c4, c5, c6, c7, c8, .no] = some (.nx [.dk s', .d (tx l), .d (.lst ((lvs l 3).map tx)), c3, c4, .d x5, .d x6, .d x7, .d x8, .no]) := by
  have hsz := lvs_small hl 3 (by decide)
  have hne : (lvs l 3).map tx ≠ [] := by
    intro e
    have e := List.map_eq_nil_iff.mp e
    have : ([] : List Nat) ∈ lvs l 3 := by
      unfold lvs
      exact List.mem_flatMap.mpr ⟨0, by simp, by simp [lv]⟩
    rw [e] at this; cases this
  have hlen : ((lvs l 3).map tx).length < 2 ^ 40 := by rw [List.length_map]; omega
  obtain ⟨d1, s1, e1, m1, f1, q1⟩ := f_pick_spec hd (n := n + 1) hf hne hlen
  obtain ⟨d2, s2, e2, m2, f2, q2⟩ := f_pick_spec q1 (n := n) f1 hne hlen
  obtain ⟨a, ha, rfl⟩ := List.mem_map.mp m1
  obtain ⟨b, hb, rfl⟩ := List.mem_map.mp m2
  obtain ⟨i, hi, i1⟩ := idx_spec (lvs_pair hu 3) ha
  obtain ⟨j, hj, j1⟩ := idx_spec (lvs_pair hu 3) hb
  have la := lvs_le l 3 a ha
  have lb := lvs_le l 3 b hb
  have g1 : (mPar 6 7 (mCons (mCallD 0 f__law_pick (mCons (mVar 2) mNil)) (mCons (mCallD 0 f__law_pick (mCons (mVar 2) mNil)) mNil))) [.dk s, .d (tx l), .d (.lst ((lvs l 3).map tx)), c3, c4, c5, c6, c7, c8, .no] = some (.nx [.dk s2, .d (tx l), .d (.lst ((lvs l 3).map tx)), c3, c4, c5, .d (tx a), .d (tx b), c8, .no]) := by
    rw [ev_par (ρ1 := [.dk s2, .d (tx l), .d (.lst ((lvs l 3).map tx)), c3, c4, c5, c6, c7, c8, .no]) (ev_cons (ev_callD (k0 := s) rfl (ev_cons (ev_var rfl) ev_nil) rfl e1) (ev_cons (ev_callD (k0 := s1) rfl (ev_cons (ev_var rfl) ev_nil) rfl e2) ev_nil)) (by rw [plainAt_eq]; exact p6) (by rw [plainAt_eq]; exact p7)]
    rfl
  have g2 : (mAsg (mBin dLt (mBin dIndex (mVar 2) (mVar 6)) (mBin dIndex (mVar 2) (mVar 7))) (gmName 5)) [.dk s2, .d (tx l), .d (.lst ((lvs l 3).map tx)), c3, c4, c5, .d (tx a), .d (tx b), c8, .no] = some (.nx [.dk s2, .d (tx l), .d (.lst ((lvs l 3).map tx)), c3, c4, .d (.bl (ah a b)), .d (tx a), .d (tx b), c8, .no]) := by
    rw [ev_set (d := .bl (ah a b)) (ev_bin (ev_bin (ev_var rfl) (ev_var rfl) i1) (ev_bin (ev_var rfl) (ev_var rfl) j1) (by rw [dLt_int, idx_lt (lvs_pair hu 3) hi hj])) (by rw [plainAt_eq]; exact p5)]
    rfl
  have g3 : (mAsg (mApp dLst (mCons (mCallP f_is_ahead [0, 1] (mCons (mVar 6) (mCons (mVar 7) mNil)) mNil) (mCons (mCallP f_is_ahead [1, 0] mNil (mCons (mVar 7) (mCons (mVar 6) mNil))) (mCons (mCallP f_is_ahead [0, 1] (mCons (mVar 6) (mCons (mVar 6) mNil)) mNil) mNil)))) (gmName 8)) [.dk s2, .d (tx l), .d (.lst ((lvs l 3).map tx)), c3, c4, .d (.bl (ah a b)), .d (tx a), .d (tx b), c8, .no] = some (.nx [.dk s2, .d (tx l), .d (.lst ((lvs l 3).map tx)), c3, c4, .d (.bl (ah a b)), .d (tx a), .d (tx b), .d (.lst [.bl (ah a b), .bl (ah a b), .bl false]), .no]) := by
    have h1 := f_is_ahead_spec (a := a) (b := b) (by omega) (by omega)
    have h2 := f_is_ahead_spec (a := a) (b := a) (by omega) (by omega)
    rw [ah_self] at h2
    rw [ev_set (d := .lst [.bl (ah a b), .bl (ah a b), .bl false]) (ev_app (ev_cons (ev_callQ (xs := [tx a, tx b]) (ev_cons (ev_var rfl) (ev_cons (ev_var rfl) ev_nil)) ev_nil rfl h1) (ev_cons (ev_callQ (xs := [tx a, tx b]) ev_nil (ev_cons (ev_var rfl) (ev_cons (ev_var rfl) ev_nil)) rfl h1) (ev_cons (ev_callQ (xs := [tx a, tx a]) (ev_cons (ev_var rfl) (ev_cons (ev_var rfl) ev_nil)) ev_nil rfl h2) ev_nil))) rfl) (by rw [plainAt_eq]; exact p8)]
    rfl
  obtain ⟨t, ht⟩ := Shw.repr (shw_lst (ds := [.bl (ah a b), .bl (ah a b), .bl false]) (k := 0) (n := 5) (fun d hd => by
    have : ∃ x, d = .bl x := by
      simp only [List.mem_cons, List.not_mem_nil, or_false] at hd
      rcases hd with h | h | h <;> exact ⟨_, h⟩
    obtain ⟨x, rfl⟩ := this
    exact shw_bl x)) (by omega) (by simp)
  refine ⟨s2, .bl (ah a b), tx a, tx b, .lst [.bl (ah a b), .bl (ah a b), .bl false], f2, q2, ?_⟩
  rw [ev_seq g1, ev_seq g2, ev_seq g3]
  exact (ev_ifF (ev_test (ev_bin (ev_app (ev_cons (ev_var rfl) ev_nil) ht) (ev_app (ev_cons (ev_app (ev_cons (ev_var rfl) (ev_cons (ev_var rfl) (ev_cons ev_c ev_nil))) rfl) ev_nil) ht) (dNe_same t)))).trans ev_skip
theorem rolls_spec {s : Dk} {n : Nat} {l : List Nat} (hl : l.length ≤ 9) (hu : up l = true) (hc : ∀ c ∈ l, c < 1114112) (hd : s.dr = false) (hf : Fine s (n + 16)) : ∃ s', f__law_rolls_right s [tx l] = some (.bl true, s') ∧ Fine s' n ∧ s'.dr = false := by
  have hsz := lvs_small hl 3 (by decide)
  have e0 : f__law_pages [.str (Tx l), .int ((3 : Nat) : Int)] = some (.lst ((lvs l 3).map tx)) := f_pages_spec (by omega) (by omega) fun j hj => by have := lvs_small hl j hj; omega
  have s1 : (mAsg (mCallP f__law_pages [0, 1] (mCons (mVar 1) (mCons (mC (.int 3)) mNil)) mNil) (gmName 2)) [.dk s, .d (tx l), .no, .no, .no, .no, .no, .no, .no, .no] = some (.nx [.dk s, .d (tx l), .d (.lst ((lvs l 3).map tx)), .no, .no, .no, .no, .no, .no, .no]) := by
    rw [ev_set (ev_callQ (xs := [tx l, .int ((3 : Nat) : Int)]) (ev_cons (ev_var rfl) (ev_cons ev_c ev_nil)) ev_nil rfl e0) rfl]; rfl
  obtain ⟨ρ1, g1, g2⟩ := forGo_inv (f := gmName 3) (body := _)
    (fun j ρ => ∃ c3 c5, isP c3 = true ∧ isP c5 = true ∧ j ≤ 4 ∧ ρ = [.dk s, .d (tx l), .d (.lst ((lvs l 3).map tx)), c3, .no, c5, .no, .no, .no, .no]) ((List.range 4).map fun i : Nat => .int (0 + (i : Int))) 0 _ ⟨.no, .no, rfl, rfl, Nat.zero_le _, rfl⟩ (fun j d hj ρ hI => by
      rw [Nat.zero_add] at hI ⊢
      obtain ⟨c3, c5, p3, p5, _, rfl⟩ := hI
      have hj' := (List.getElem?_eq_some_iff.mp hj).1
      simp only [List.length_map, List.length_range] at hj'
      rw [List.getElem?_map, List.getElem?_range hj'] at hj
      cases hj
      refine ⟨[.dk s, .d (tx l), .d (.lst ((lvs l 3).map tx)), .d (.int (0 + (j : Int))), .no, c5, .no, .no, .no, .no], _, ?_, rolls_body1 hl (by omega) hc p5, _, _, rfl, rfl, hj', rfl⟩
      unfold gmName
      rw [if_pos (by rw [plainAt_eq]; exact p3)]; rfl)
  obtain ⟨c3, c5, p3, p5, _, rfl⟩ := g2
  obtain ⟨ρ2, k1, k2⟩ := forGo_inv (f := gmName 4) (body := _)
    (fun j ρ => ∃ s' c4 c5 c6 c7 c8, isP c4 = true ∧ isP c5 = true ∧ isP c6 = true ∧ isP c7 = true ∧ isP c8 = true ∧ j ≤ 8 ∧ Fine s' (n + 2 * (8 - j)) ∧ s'.dr = false ∧ ρ = [.dk s', .d (tx l), .d (.lst ((lvs l 3).map tx)), c3, c4, c5, c6, c7, c8, .no]) ((List.range 8).map fun i : Nat => .int (0 + (i : Int))) 0 _ ⟨s, .no, c5, .no, .no, .no, rfl, p5, rfl, rfl, rfl, Nat.zero_le _, hf, hd, rfl⟩ (fun j d hj ρ hI => by
      rw [Nat.zero_add] at hI ⊢
      obtain ⟨s', c4, c5, c6, c7, c8, p4, p5, p6, p7, p8, _, f', d', rfl⟩ := hI
      have hj' := (List.getElem?_eq_some_iff.mp hj).1
      simp only [List.length_map, List.length_range] at hj'
      obtain ⟨s2, x5, x6, x7, x8, f2, d2, e2⟩ := rolls_body2 (c3 := c3) (c4 := .d d) (n := n + 2 * (8 - (j + 1))) hl hu d' (f'.le (by omega)) p5 p6 p7 p8
      refine ⟨[.dk s', .d (tx l), .d (.lst ((lvs l 3).map tx)), c3, .d d, c5, c6, c7, c8, .no], _, ?_, e2, s2, _, _, _, _, _, rfl, rfl, rfl, rfl, rfl, hj', f2, d2, rfl⟩
      unfold gmName
      rw [if_pos (by rw [plainAt_eq]; exact p4)]; rfl)
  obtain ⟨s2, c4, c5', c6, c7, c8, _, _, _, _, _, _, f2, d2, rfl⟩ := k2
  have r4 : dRange [.int 4] = some ((List.range 4).map fun i : Nat => .int (0 + (i : Int))) := range_n 4 (by omega)
  have r8 : dRange [.int 8] = some ((List.range 8).map fun i : Nat => .int (0 + (i : Int))) := range_n 8 (by omega)
  refine ⟨s2, ?_, f2.le (by omega), d2⟩
  have h : ∃ ρ, m__law_rolls_right [.dk s, .d (tx l), .no, .no, .no, .no, .no, .no, .no, .no] = some (.rt (.bl true) (.dk s2 :: ρ)) := by
    unfold m__law_rolls_right
    rw [ev_seq s1, ev_seq (ev_for (ev_range (ev_cons ev_c ev_nil) r4) g1), ev_seq (ev_for (ev_range (ev_cons ev_c ev_nil) r8) k1)]
    exact ⟨_, ev_ret ev_c⟩
  obtain ⟨ρ, h⟩ := h
  exact ev_runD h
end Lk01

namespace Lk01
open PySem L2 TL
theorem repr_of {d : D} {p : PyData} (h1 : d.py = some p) (h2 : shows d p = true) : ∃ t, dRepr [d] = some (.str t) := by
  refine ⟨p.shown, ?_⟩
  show (d.py.bind fun p => if shows d p = true then some (D.str p.shown) else none) = _
  rw [h1, Option.bind_some, if_pos h2]
theorem ev_dict0 {ρ : List Cell} : mDict0 ρ = some (.dct [], ρ) := rfl
/-- what is asked of a thing among tickets -/
def Gd (l : List Nat) (d : D) : Prop := (∃ b, f_is_ticket [tx l, d] = some (.bl b) ∧ f__law_is_page [tx l, d] = some (.bl b)) ∧ ∃ t, dRepr [d] = some (.str t)
theorem gd_str (l : List Nat) {q : List Nat} (h : q.length ≤ 1000) (hc : ∀ c ∈ q, c < 1114112) : Gd l (tx q) :=
  ⟨⟨_, f_is_ticket_str l q h, f__law_is_page_str l q h⟩, (shw_str hc).repr (by omega) (by omega)⟩
theorem gd_no (l : List Nat) {d : D} (h : dTy d ≠ none) (h2 : dTy d ≠ some "str") (hr : ∃ t, dRepr [d] = some (.str t)) : Gd l d :=
  ⟨⟨false, f_is_ticket_no _ d h h2, f__law_is_page_no _ d h h2⟩, hr⟩
theorem ne_str (s : String) (h : (s == "str") = false := by decide) : (some s : Option String) ≠ some "str" := fun e => by
  cases e; exact absurd h (by decide)
theorem tickets_body {s : Dk} {l : List Nat} {d : D} {c2 c3 c5 c6 c7 : Cell} (hg : Gd l d) (p5 : isP c5 = true) (p6 : isP c6 = true) (p7 : isP c7 = true) :
    ∃ x5 x6 x7, (mSeq (mPar 5 6 (mCons (mApp dRepr (mCons (mVar 4) mNil)) (mCons (mCallP f__law_is_page [0, 1] (mCons (mVar 1) (mCons (mVar 4) mNil)) mNil) mNil))) (mSeq (mAsg (mApp dLst (mCons (mCallP f_is_ticket [0, 1] (mCons (mVar 1) (mCons (mVar 4) mNil)) mNil) (mCons (mCallP f_is_ticket [1, 0] mNil (mCons (mVar 4) (mCons (mVar 1) mNil))) mNil))) (gmName 7)) (mIfS (mOrT (mTest (mBin dNe (mApp dRepr (mCons (mVar 7) mNil)) (mApp dRepr (mCons (mApp dLst (mCons (mVar 6) (mCons (mVar 6) mNil))) mNil)))) (mTest (mBin dNe (mApp dRepr (mCons (mVar 4) mNil)) (mVar 5)))) (mRet (mC (.bl false))) mSkip)))
      [.dk s, .d (tx l), c2, c3, .d d, c5, c6, c7] = some (.nx [.dk s, .d (tx l), c2, c3, .d d, .d x5, .d x6, .d x7]) := by
  obtain ⟨⟨b, e1, e2⟩, t, ht⟩ := hg
  have g1 : (mPar 5 6 (mCons (mApp dRepr (mCons (mVar 4) mNil)) (mCons (mCallP f__law_is_page [0, 1] (mCons (mVar 1) (mCons (mVar 4) mNil)) mNil) mNil))) [.dk s, .d (tx l), c2, c3, .d d, c5, c6, c7] = some (.nx [.dk s, .d (tx l), c2, c3, .d d, .d (.str t), .d (.bl b), c7]) := by
    rw [ev_par (ρ1 := [.dk s, .d (tx l), c2, c3, .d d, c5, c6, c7]) (ev_cons (ev_app (ev_cons (ev_var rfl) ev_nil) ht) (ev_cons (ev_callQ (xs := [tx l, d]) (ev_cons (ev_var rfl) (ev_cons (ev_var rfl) ev_nil)) ev_nil rfl e2) ev_nil)) (by rw [plainAt_eq]; exact p5) (by rw [plainAt_eq]; exact p6)]
    rfl
  have g2 : (mAsg (mApp dLst (mCons (mCallP f_is_ticket [0, 1] (mCons (mVar 1) (mCons (mVar 4) mNil)) mNil) (mCons (mCallP f_is_ticket [1, 0] mNil (mCons (mVar 4) (mCons (mVar 1) mNil))) mNil))) (gmName 7)) [.dk s, .d (tx l), c2, c3, .d d, .d (.str t), .d (.bl b), c7] = some (.nx [.dk s, .d (tx l), c2, c3, .d d, .d (.str t), .d (.bl b), .d (.lst [.bl b, .bl b])]) := by
    rw [ev_set (d := .lst [.bl b, .bl b]) (ev_app (ev_cons (ev_callQ (xs := [tx l, d]) (ev_cons (ev_var rfl) (ev_cons (ev_var rfl) ev_nil)) ev_nil rfl e1) (ev_cons (ev_callQ (xs := [tx l, d]) ev_nil (ev_cons (ev_var rfl) (ev_cons (ev_var rfl) ev_nil)) rfl e1) ev_nil)) rfl) (by rw [plainAt_eq]; exact p7)]
    rfl
  obtain ⟨u, hu⟩ := repr_of (d := .lst [.bl b, .bl b]) rfl (by cases b <;> decide +kernel)
  refine ⟨.str t, .bl b, .lst [.bl b, .bl b], ?_⟩
  rw [ev_seq g1, ev_seq g2]
  exact (ev_ifF ((ev_orF (ev_test (ev_bin (ev_app (ev_cons (ev_var rfl) ev_nil) hu) (ev_app (ev_cons (ev_app (ev_cons (ev_var rfl) (ev_cons (ev_var rfl) ev_nil)) rfl) ev_nil) hu) (dNe_same u)))).trans (ev_test (ev_bin (ev_app (ev_cons (ev_var rfl) ev_nil) ht) (ev_var rfl) (dNe_same t))))).trans ev_skip
theorem tickets_spec {s : Dk} {n : Nat} {l : List Nat} (h0 : l ≠ []) (hl : l.length ≤ 1000) (hc : ∀ c ∈ l, c < 1114112) (hd : s.dr = false) (hf : Fine s (n + 32)) : ∃ s', f__law_tickets_right s [tx l] = some (.bl true, s') ∧ Fine s' n ∧ s'.dr = false := by
  have big : (100000 : Nat) ≤ sizeLine := by decide
  obtain ⟨p, s1, e1, hp, hpl, f1, d1⟩ := f_page_spec (n := n) (most := 30) hd hf h0 (by omega) (by omega)
  have e1 : f__law_page s [tx l, .int 30] = some (tx p, s1) := e1
  have hpc : ∀ c ∈ p, c < 1114112 := fun c h => hc c (hp c h)
  let items : List D := [tx p, tx [], tx (p ++ [120]), tx (32 :: p), tx (p ++ [48]), tx (p ++ [55]), .non, .int 0, .tup [tx p], .lst [tx p], .bl true, .dct [], tx [10]]
  have g1 : (mAsg (mCallD 0 f__law_page (mCons (mVar 1) (mCons (mC (.int 30)) mNil))) (gmName 2)) [.dk s, .d (tx l), .no, .no, .no, .no, .no, .no] = some (.nx [.dk s1, .d (tx l), .d (tx p), .no, .no, .no, .no, .no]) := by
    rw [ev_set (ev_callD (k0 := s) rfl (ev_cons (ev_var rfl) (ev_cons ev_c ev_nil)) rfl e1) rfl]; rfl
  have cs : ∀ (x : Str) (q : List Nat), x = Tx q → mC (.str x) = mC (tx q) := fun x q e => by rw [e]
  have k1 : ("" : Str) = Tx [] := rfl
  have k2 : ("x" : Str) = Tx [120] := by decide +kernel
  have k3 : (" " : Str) = Tx [32] := by decide +kernel
  have k4 : ("0" : Str) = Tx [48] := by decide +kernel
  have k5 : ("7" : Str) = Tx [55] := by decide +kernel
  have k6 : ("\n" : Str) = Tx [10] := by decide +kernel
  have g2 : (mAsg (mApp dLst (mCons (mVar 2) (mCons (mC (.str "")) (mCons (mBin dAdd (mVar 2) (mC (.str "x"))) (mCons (mBin dAdd (mC (.str " ")) (mVar 2)) (mCons (mBin dAdd (mVar 2) (mC (.str "0"))) (mCons (mBin dAdd (mVar 2) (mC (.str "7"))) (mCons (mC .non) (mCons (mC (.int 0)) (mCons (mApp dTup (mCons (mVar 2) mNil)) (mCons (mApp dLst (mCons (mVar 2) mNil)) (mCons (mC (.bl true)) (mCons mDict0 (mCons (mC (.str "\n")) mNil)))))))))))))) (gmName 3)) [.dk s1, .d (tx l), .d (tx p), .no, .no, .no, .no, .no] = some (.nx [.dk s1, .d (tx l), .d (tx p), .d (.lst items), .no, .no, .no, .no]) := by
    rw [k1, k2, k3, k4, k5, k6]
    have a1 : ∀ c : Nat, dAdd (tx p) (tx [c]) = some (tx (p ++ [c])) := fun c => add_Tx (by simp only [List.length_singleton]; omega)
    have a2 : dAdd (tx [32]) (tx p) = some (tx (32 :: p)) := add_Tx (by simp only [List.length_singleton]; omega)
    rw [ev_set (d := .lst items) (ev_app (ev_cons (ev_var rfl) (ev_cons ev_c (ev_cons (ev_bin (ev_var rfl) ev_c (a1 120)) (ev_cons (ev_bin ev_c (ev_var rfl) a2) (ev_cons (ev_bin (ev_var rfl) ev_c (a1 48)) (ev_cons (ev_bin (ev_var rfl) ev_c (a1 55)) (ev_cons ev_c (ev_cons ev_c (ev_cons (ev_app (ev_cons (ev_var rfl) ev_nil) rfl) (ev_cons (ev_app (ev_cons (ev_var rfl) ev_nil) rfl) (ev_cons ev_c (ev_cons ev_dict0 (ev_cons ev_c ev_nil))))))))))))) rfl) rfl]
    rfl
  have good : ∀ d ∈ items ++ [.lst (p.map fun c => tx [c])], Gd l d := by
    intro d hd
    simp only [items, List.cons_append, List.nil_append, List.mem_cons, List.not_mem_nil, or_false] at hd
    have one : ∀ (c : Nat), c < 1114112 → ∀ x ∈ p ++ [c], x < 1114112 := fun c hc x hx => (List.mem_append.mp hx).elim (hpc x) fun h => by rw [List.mem_singleton.mp h]; exact hc
    rcases hd with rfl | rfl | rfl | rfl | rfl | rfl | rfl | rfl | rfl | rfl | rfl | rfl | rfl | rfl
    · exact gd_str l (by omega) hpc
    · exact gd_str l (by simp) (by simp)
    · exact gd_str l (by simp; omega) (one 120 (by decide))
    · exact gd_str l (by simp; omega) fun x hx => (List.mem_cons.mp hx).elim (fun h => by rw [h]; decide) (hpc x)
    · exact gd_str l (by simp; omega) (one 48 (by decide))
    · exact gd_str l (by simp; omega) (one 55 (by decide))
    · exact gd_no l (by simp [dTy]) (ne_str "NoneType") (repr_of (d := .non) rfl (by decide +kernel))
    · exact gd_no l (by simp [dTy]) (ne_str "int") (repr_of (d := .int 0) rfl (by decide +kernel))
    · exact gd_no l (by simp [dTy]) (ne_str "tuple") ((shw_tup (k := 0) (n := 302) fun d hd => by rw [List.mem_singleton.mp hd]; exact (shw_str hpc).le (by omega) (by omega)).repr (by omega) (by simp))
    · exact gd_no l (by simp [dTy]) (ne_str "list") ((shw_lst (k := 0) (n := 302) fun d hd => by rw [List.mem_singleton.mp hd]; exact (shw_str hpc).le (by omega) (by omega)).repr (by omega) (by simp))
    · exact gd_no l (by simp [dTy]) (ne_str "bool") (repr_of (d := .bl true) rfl (by decide +kernel))
    · exact gd_no l (by simp [dTy]) (ne_str "dict") (repr_of (d := .dct []) rfl (by decide +kernel))
    · exact gd_str l (by simp) (by simp)
    · exact gd_no l (by simp [dTy]) (ne_str "list") ((shw_lst (k := 0) (n := 12) fun d hd => by
        obtain ⟨c, hcp, rfl⟩ := List.mem_map.mp hd
        exact (shw_str (fun x hx => by rw [List.mem_singleton.mp hx]; exact hpc c hcp)).le (by omega) (by simp)).repr (by omega) (by rw [List.length_map]; omega))
  obtain ⟨ρ', q1, q2⟩ := forGo_inv (f := gmName 4) (body := _)
    (fun j ρ => ∃ c4 c5 c6 c7, isP c4 = true ∧ isP c5 = true ∧ isP c6 = true ∧ isP c7 = true ∧ ρ = [.dk s1, .d (tx l), .d (tx p), .d (.lst items), c4, c5, c6, c7]) (items ++ [.lst (p.map fun c => tx [c])]) 0 _ ⟨.no, .no, .no, .no, rfl, rfl, rfl, rfl, rfl⟩ (fun j d hj ρ hI => by
      obtain ⟨c4, c5, c6, c7, p4, p5, p6, p7, rfl⟩ := hI
      obtain ⟨x5, x6, x7, e⟩ := tickets_body (s := s1) (c2 := .d (tx p)) (c3 := .d (.lst items)) (good d (List.mem_of_getElem? hj)) p5 p6 p7
      refine ⟨[.dk s1, .d (tx l), .d (tx p), .d (.lst items), .d d, c5, c6, c7], _, ?_, e, _, _, _, _, rfl, rfl, rfl, rfl, rfl⟩
      unfold gmName
      rw [if_pos (by rw [plainAt_eq]; exact p4)]; rfl)
  obtain ⟨c4, c5, c6, c7, _, _, _, _, rfl⟩ := q2
  have hlist : dList [tx p] = some (.lst (p.map fun c => tx [c])) := if_pos (by rw [Tx_len]; omega)
  refine ⟨s1, ?_, f1, d1⟩
  have h : ∃ ρ, m__law_tickets_right [.dk s, .d (tx l), .no, .no, .no, .no, .no, .no] = some (.rt (.bl true) (.dk s1 :: ρ)) := by
    unfold m__law_tickets_right
    rw [ev_seq g1, ev_seq g2, ev_seq (ev_for (ev_items (ev_bin (ev_var rfl) (ev_app (ev_cons (ev_app (ev_cons (ev_var rfl) ev_nil) hlist) ev_nil) rfl) (add_lst (by simp [items]; omega))) rfl) q1)]
    exact ⟨_, ev_ret ev_c⟩
  obtain ⟨ρ, h⟩ := h
  exact ev_runD h
end Lk01

namespace Lk01
open PySem L2 TL
/-- what is asked of a thing among strings of digits -/
def Ga (d : D) : Prop := (∃ b, f_are_digits [d] = some (.bl b) ∧ f__law_are_signs [d] = some (.bl b)) ∧ ∃ t, dRepr [d] = some (.str t)
theorem ga_str {q : List Nat} (h : q.length ≤ 1000) (hc : ∀ c ∈ q, c < 1114112) : Ga (tx q) :=
  ⟨⟨_, f_are_digits_str q h, by rw [f__law_are_signs_str q h, dg_eq]⟩, (shw_str hc).repr (by omega) (by omega)⟩
theorem ga_const (x : Str) (h : (decide (x.cps.toList.length ≤ 1000) && x.cps.toList.all fun c => decide (c < 1114112)) = true) : Ga (.str x) := by
  rw [Bool.and_eq_true] at h
  have e : x = Tx x.cps.toList := PySem.W.str_of_cps rfl
  rw [e]
  exact ga_str (of_decide_eq_true h.1) fun c hc => by have := List.all_eq_true.mp h.2 c hc; simpa using this
theorem ga_no {d : D} (h : dTy d ≠ none) (h2 : dTy d ≠ some "str") (hr : ∃ t, dRepr [d] = some (.str t)) : Ga d :=
  ⟨⟨false, f_are_digits_no d h h2, f__law_are_signs_no d h h2⟩, hr⟩
def some1 : List D := [.str "0", .str "9", .str "01", .str "0123456789", .str "19", .str "357", .str "10", .str "00", .str "011", .str "", .str "a", .str "0a", .str "-1", .str " 1", .str "1 ", .str "0,1", .non]
def some2 : List D := [.bl true, .tup [], .lst [], .lst [.str "0"], .tup [.str "0", .str "1"], .dct [], .dct [(.inr "0", .int 1)], .int (10 ^ 39), .str "0\n", .str "123456789", .str "9876543210", .str (strMul "x" 40)]
theorem ga_some : ∀ d ∈ some1 ++ some2, Ga d := by
  intro d hd
  simp only [some1, some2, List.cons_append, List.nil_append, List.mem_cons, List.not_mem_nil, or_false] at hd
  rcases hd with rfl | rfl | rfl | rfl | rfl | rfl | rfl | rfl | rfl | rfl | rfl | rfl | rfl | rfl | rfl | rfl | rfl | rfl | rfl | rfl | rfl | rfl | rfl | rfl | rfl | rfl | rfl | rfl | rfl
  all_goals first
    | exact ga_const _ (by decide +kernel)
    | exact ga_no (by simp [dTy]) (ne_str _) (repr_of rfl (by decide +kernel))
theorem cut_T (q : List Nat) (h : q.length ≤ 1000) (lo hi : Option Int) : ∃ a b : Nat, dSlice (tx q) lo hi = some (tx ((q.drop a).take b)) := by
  refine ⟨HT.sIx q.length 0 lo, HT.sIx q.length q.length hi - HT.sIx q.length 0 lo, ?_⟩
  show (if (Tx q).length ≤ sizeLine then some (D.str (cutS (Tx q) lo hi)) else none) = _
  rw [if_pos (by rw [Tx_len]; exact Nat.le_trans h (by decide))]
  rfl
theorem some_spec {s : Dk} {n : Nat} (hd : s.dr = false) (hf : Fine s (n + 16)) : ∃ L s', f__law_some s [] = some (.lst L, s') ∧ (∀ d ∈ L, Ga d) ∧ Fine s' n ∧ s'.dr = false := by
  have big : (100000 : Nat) ≤ sizeLine := by decide
  have g1 : (mAsg (mApp dLst (mCons (mC (.str "0")) (mCons (mC (.str "9")) (mCons (mC (.str "01")) (mCons (mC (.str "0123456789")) (mCons (mC (.str "19")) (mCons (mC (.str "357")) (mCons (mC (.str "10")) (mCons (mC (.str "00")) (mCons (mC (.str "011")) (mCons (mC (.str "")) (mCons (mC (.str "a")) (mCons (mC (.str "0a")) (mCons (mC (.str "-1")) (mCons (mC (.str " 1")) (mCons (mC (.str "1 ")) (mCons (mC (.str "0,1")) (mCons (mC .non) mNil)))))))))))))))))) (gmName 1)) [.dk s, .no, .no, .no, .no] = some (.nx [.dk s, .d (.lst some1), .no, .no, .no]) := by
    rw [ev_set (d := .lst some1) (ρ1 := [.dk s, .no, .no, .no, .no]) rfl rfl]; rfl
  have g2 : (mAsg (mBin dAdd (mVar 1) (mApp dLst (mCons (mC (.bl true)) (mCons (mApp dTup mNil) (mCons (mApp dLst mNil) (mCons (mApp dLst (mCons (mC (.str "0")) mNil)) (mCons (mApp dTup (mCons (mC (.str "0")) (mCons (mC (.str "1")) mNil))) (mCons mDict0 (mCons (mDisp [((mC (.str "0")), (mC (.int 1)))]) (mCons (mBin dPow (mC (.int 10)) (mC (.int 39))) (mCons (mC (.str "0\n")) (mCons (mC (.str "123456789")) (mCons (mC (.str "9876543210")) (mCons (mBin dMulA (mC (.str "x")) (mC (.int 40))) mNil)))))))))))))) (gmName 1)) [.dk s, .d (.lst some1), .no, .no, .no] = some (.nx [.dk s, .d (.lst (some1 ++ some2)), .no, .no, .no]) := by
    have a1 : dPow (.int 10) (.int 39) = some (.int (10 ^ 39)) := rfl
    have a2 : dMulA (.str "x") (.int 40) = some (.str (strMul "x" 40)) := by
      simp only [dMulA]
      rw [if_pos (by decide +kernel)]; rfl
    have a3 : mDisp [((mC (.str "0")), (mC (.int 1)))] [.dk s, .d (.lst some1), .no, .no, .no] = some (.dct [(.inr "0", .int 1)], [.dk s, .d (.lst some1), .no, .no, .no]) := rfl
    rw [ev_set (ev_bin (ev_var rfl) (ev_app (ds := some2) (ev_cons ev_c (ev_cons (ev_app ev_nil rfl) (ev_cons (ev_app ev_nil rfl) (ev_cons (ev_app (ev_cons ev_c ev_nil) rfl) (ev_cons (ev_app (ev_cons ev_c (ev_cons ev_c ev_nil)) rfl) (ev_cons ev_dict0 (ev_cons a3 (ev_cons (ev_bin ev_c ev_c a1) (ev_cons ev_c (ev_cons ev_c (ev_cons ev_c (ev_cons (ev_bin ev_c ev_c a2) ev_nil)))))))))))) rfl) (add_lst (a := some1) (b := some2) (by decide))) rfl]
    rfl
  obtain ⟨out, ρ1, q1, q2, q3, q4⟩ := lcGo_inv (f := gmName 3) (mt := mTest (mBin dEq (mCallD 0 f__law_draw (mCons (mC (.int 2)) mNil)) (mC (.int 0)))) (me := mVar 3) (vs := [3]) (fun k ρ => ∃ s', k ≤ 10 ∧ Fine s' (n + 6 + (10 - k)) ∧ s'.dr = false ∧ ρ = [.dk s', .d (.lst (some1 ++ some2)), .no, .no, .no]) (fun x => ∃ c ∈ digs, x = tx [c])
    (digs.map fun c => tx [c]) 0 [.dk s, .d (.lst (some1 ++ some2)), .no, .no, .no] ⟨s, Nat.zero_le _, hf, hd, rfl⟩ (fun i d hi ρ hI => by
      rw [Nat.zero_add] at hI ⊢
      obtain ⟨s1, hk, f1, d1, rfl⟩ := hI
      have hi' := (List.getElem?_eq_some_iff.mp hi).1
      rw [List.length_map] at hi'
      have hi10 : i < 10 := hi'
      obtain ⟨r, s2, e2, _, _, w⟩ := draws s1 (n + 6 + (10 - (i + 1))) 2 d1 (f1.le (by omega)) (by decide) (by decide)
      have f2 := w.fine (n := n + 6 + (10 - (i + 1))) (f1.le (by omega))
      rw [List.getElem?_map] at hi
      cases hc : digs[i]? with
      | none => rw [hc] at hi; cases hi
      | some c =>
        rw [hc] at hi
        cases hi
        refine ⟨[.dk s1, .d (.lst (some1 ++ some2)), .no, .d (tx [c]), .no], decide (r = 0), [.dk s2, .d (.lst (some1 ++ some2)), .no, .d (tx [c]), .no], rfl, ev_test (ev_bin (ev_callD (k0 := s1) rfl (ev_cons ev_c ev_nil) rfl e2) ev_c (dEq_int r 0)), fun _ => ⟨s2, hi', f2, w.dr.trans d1, rfl⟩, fun _ => ⟨_, _, ev_var rfl, ⟨c, List.mem_of_getElem? hc, rfl⟩, s2, hi', f2, w.dr.trans d1, rfl⟩⟩)
  obtain ⟨s1, _, f1, d1, rfl⟩ := q2
  obtain ⟨q, rfl, hq⟩ := texts_of q3
  have hql : q.length ≤ 10 := by rw [List.length_map] at q4; exact q4
  have hq57 : ∀ c ∈ q, c < 1114112 := fun c hc => by
    have := (show ∀ c ∈ digs, c < 1114112 by decide) c (hq c hc)
    exact this
  have l1 : mLc (mItems (mC (.str "0123456789"))) (gmName 3) (mTest (mBin dEq (mCallD 0 f__law_draw (mCons (mC (.int 2)) mNil)) (mC (.int 0)))) (mVar 3) [3] [.dk s, .d (.lst (some1 ++ some2)), .no, .no, .no] = some (.lst (q.map fun c => tx [c]), [.dk s1, .d (.lst (some1 ++ some2)), .no, .no, .no]) :=
    ev_lc (ρ1 := [.dk s, .d (.lst (some1 ++ some2)), .no, .no, .no]) (ρ2 := [.dk s1, .d (.lst (some1 ++ some2)), .no, .no, .no]) (ev_items ev_c (show dItems (.str "0123456789") = some (digs.map fun c => tx [c]) by rw [digs_eq]; rfl)) rfl q1 (by rw [List.length_map]; omega)
  have g3 : (mAsg (mBin dJoin (mC (.str "")) (mLc (mItems (mC (.str "0123456789"))) (gmName 3) (mTest (mBin dEq (mCallD 0 f__law_draw (mCons (mC (.int 2)) mNil)) (mC (.int 0)))) (mVar 3) [3])) (gmName 2)) [.dk s, .d (.lst (some1 ++ some2)), .no, .no, .no] = some (.nx [.dk s1, .d (.lst (some1 ++ some2)), .d (tx q), .no, .no]) := by
    rw [ev_set (ev_bin ev_c l1 (join_signs q (by omega))) rfl]; rfl
  obtain ⟨out, ρ2, w1, w2, w3, w4⟩ := lcGo_inv (f := gmName 4) (mt := mYes) (me := mCallD 0 f__law_pick (mCons (mVar 1) mNil)) (vs := [4]) (fun k ρ => ∃ s', k ≤ 6 ∧ Fine s' (n + (6 - k)) ∧ s'.dr = false ∧ ρ = [.dk s', .d (.lst (some1 ++ some2)), .d (tx q), .no, .no]) Ga
    ((List.range 6).map fun i : Nat => .int (0 + (i : Int))) 0 [.dk s1, .d (.lst (some1 ++ some2)), .d (tx q), .no, .no] ⟨s1, Nat.zero_le _, f1.le (by omega), d1, rfl⟩ (fun i d hi ρ hI => by
      rw [Nat.zero_add] at hI ⊢
      obtain ⟨s2, hk, f2, d2, rfl⟩ := hI
      have hi' := (List.getElem?_eq_some_iff.mp hi).1
      rw [List.length_map, List.length_range] at hi'
      obtain ⟨x, s3, e3, m3, f3, d3⟩ := f_pick_spec (ds := some1 ++ some2) (n := n + (6 - (i + 1))) d2 (f2.le (by omega)) (by simp [some1]) (by simp [some1, some2])
      exact ⟨[.dk s2, .d (.lst (some1 ++ some2)), .d (tx q), .no, .d d], true, _, rfl, rfl, fun z => (by cases z), fun _ => ⟨x, _, ev_callD (k0 := s2) rfl (ev_cons (ev_var rfl) ev_nil) rfl e3, ga_some x m3, s3, hi', f3, d3, rfl⟩⟩)
  obtain ⟨s2, _, f2, d2, rfl⟩ := w2
  have hol : out.length ≤ 6 := by rw [List.length_map, List.length_range] at w4; exact w4
  have l2 : mLc (mRange (mCons (mC (.int 6)) mNil)) (gmName 4) mYes (mCallD 0 f__law_pick (mCons (mVar 1) mNil)) [4] [.dk s1, .d (.lst (some1 ++ some2)), .d (tx q), .no, .no] = some (.lst out, [.dk s2, .d (.lst (some1 ++ some2)), .d (tx q), .no, .no]) :=
    ev_lc (ρ1 := [.dk s1, .d (.lst (some1 ++ some2)), .d (tx q), .no, .no]) (ρ2 := [.dk s2, .d (.lst (some1 ++ some2)), .d (tx q), .no, .no]) (ev_range (ev_cons ev_c ev_nil) (range_n 6 (by omega))) rfl w1 (by omega)
  obtain ⟨a, b, hcut⟩ := cut_T q (by omega) (some (-1)) none
  have hrl : ((q.drop a).take b).length ≤ 10 := by rw [List.length_take, List.length_drop]; omega
  have l3 : mSlice (mVar 2) (mPart (mUn dNeg (mC (.int 1)))) mNoPart [.dk s2, .d (.lst (some1 ++ some2)), .d (tx q), .no, .no] = some (tx ((q.drop a).take b), [.dk s2, .d (.lst (some1 ++ some2)), .d (tx q), .no, .no]) := by
    show ((dSlice (tx q) (some (-1)) none).map fun d => (d, _)) = _
    rw [hcut]; rfl
  have hrev : dRev (tx q) = some (tx q.reverse) := by
    show (if (Tx q).length ≤ sizeLine then some (D.str (revS (Tx q))) else none) = _
    rw [if_pos (by rw [Tx_len]; omega), Tx_rev]
  refine ⟨out ++ [tx q, tx q.reverse, tx (q ++ (q.drop a).take b)], s2, ?_, ?_, f2.le (by omega), d2⟩
  · have h : ∃ ρ, m__law_some [.dk s, .no, .no, .no, .no] = some (.rt (.lst (out ++ [tx q, tx q.reverse, tx (q ++ (q.drop a).take b)])) (.dk s2 :: ρ)) := by
      unfold m__law_some
      rw [ev_seq g1, ev_seq g2, ev_seq g3]
      exact ⟨_, ev_ret (ev_bin l2 (ev_app (ev_cons (ev_var rfl) (ev_cons (ev_un (ev_var rfl) hrev) (ev_cons (ev_bin (ev_var rfl) l3 (add_Tx (by omega))) ev_nil))) rfl) (add_lst (by simp only [List.length_cons, List.length_nil]; omega)))⟩
    obtain ⟨ρ, h⟩ := h
    exact ev_runD h
  · intro d hd
    rcases List.mem_append.mp hd with hd | hd
    · exact w3 d hd
    · simp only [List.mem_cons, List.not_mem_nil, or_false] at hd
      rcases hd with rfl | rfl | rfl
      · exact ga_str (by omega) hq57
      · exact ga_str (by rw [List.length_reverse]; omega) fun c hc => hq57 c (List.mem_reverse.mp hc)
      · exact ga_str (by rw [List.length_append]; omega) fun c hc => (List.mem_append.mp hc).elim (hq57 c) fun h => hq57 c (List.mem_of_mem_drop (List.mem_of_mem_take h))
end Lk01

namespace Lk01
open PySem L2 TL
theorem cut_ints (ms : List Int) (lo hi : Option Int) : ∃ ns : List Int, cutD (ms.map D.int) lo hi = ns.map D.int ∧ ns.length ≤ ms.length := by
  unfold cutD
  rw [List.length_map]
  refine ⟨(ms.drop (HT.sIx ms.length 0 lo)).take (HT.sIx ms.length ms.length hi - HT.sIx ms.length 0 lo), by rw [← List.map_drop, ← List.map_take], ?_⟩
  rw [List.length_take, List.length_drop]; omega
theorem deck_spec (ms : List Int) (h : ms.length ≤ 63) : ∃ s, f__law_deck [.scr ms] = some s ∧ Fine s 1000 ∧ s.dr = false := by
  obtain ⟨ns, e, hl⟩ := cut_ints ms none (some 63)
  have g1 : (mPar 1 2 (mCons (mApp dList (mCons (mSlice (mVar 0) mNoPart (mPart (mC (.int 63)))) mNil)) (mCons (mC (.int 10870010)) mNil))) [.d (.scr ms), .no, .no, .no] = some (.nx [.d (.scr ms), .d (.lst (ns.map D.int)), .d (.int 10870010), .no]) := by
    have a : mSlice (mVar 0) mNoPart (mPart (mC (.int 63))) [.d (.scr ms), .no, .no, .no] = some (.lst (ns.map D.int), [.d (.scr ms), .no, .no, .no]) := by
      show ((dSlice (.scr ms) none (some 63)).map fun d => (d, _)) = _
      show ((some (D.lst (cutD (ms.map D.int) none (some 63)))).map fun d => (d, _)) = _
      rw [e]; rfl
    rw [ev_par (ev_cons (ev_app (ev_cons a ev_nil) rfl) (ev_cons ev_c ev_nil)) rfl rfl]; rfl
  obtain ⟨ρ1, q1, q2⟩ := forGo_inv (f := gmName 3) (body := (mAsg (mBin dMod (mApp dInt (mCons (mBin dAdd (mBin dAdd (mBin dMulA (mVar 2) (mC (.int 39373))) (mBin dMod (mApp dInt (mCons (mVar 3) mNil)) (mC (.int 2147483629)))) (mC (.int 223))) mNil)) (mC (.int 2147483587))) (gmName 2)))
    (fun j ρ => ∃ (m : Int) (c : Cell), 0 ≤ m ∧ m < 2147483587 ∧ isP c = true ∧ ρ = [.d (.scr ms), .d (.lst (ns.map D.int)), .d (.int m), c]) (ns.map D.int) 0 _ ⟨10870010, .no, by decide, by decide, rfl, rfl⟩ (fun j d hj ρ hI => by
      obtain ⟨m, c, m0, m1, pc, rfl⟩ := hI
      have hj' := (List.getElem?_eq_some_iff.mp hj).1
      rw [List.length_map] at hj'
      rw [List.getElem?_map, List.getElem?_eq_getElem hj'] at hj
      cases hj
      generalize ns[j] = x
      have b1 := Int.emod_nonneg (m * 39373 + x % 2147483629 + 223) (b := 2147483587) (by decide)
      have b2 := Int.emod_lt_of_pos (m * 39373 + x % 2147483629 + 223) (b := 2147483587) (by decide)
      refine ⟨[.d (.scr ms), .d (.lst (ns.map D.int)), .d (.int m), .d (.int x)], [.d (.scr ms), .d (.lst (ns.map D.int)), .d (.int ((m * 39373 + x % 2147483629 + 223) % 2147483587)), .d (.int x)], ?_, ?_, _, _, b1, b2, rfl, rfl⟩
      · unfold gmName
        rw [if_pos (by rw [plainAt_eq]; exact pc)]; rfl
      · rw [ev_set (ev_bin (ev_app (ev_cons (ev_bin (ev_bin (ev_bin (ev_var rfl) ev_c (mul_ok (lg (by omega)) (lg (by decide)))) (ev_bin (ev_app (ev_cons (ev_var rfl) ev_nil) int_ok) ev_c (mod_ok (by decide))) add_ok) ev_c add_ok) ev_nil) int_ok) ev_c (mod_ok (by decide))) rfl]
        rfl)
  obtain ⟨m, c, m0, m1, _, rfl⟩ := q2
  refine ⟨⟨ns.reverse, m, 0, false⟩, ?_, ⟨by rw [List.length_reverse]; omega, m0, by show m < _; omega, by show (0 : Int) ≤ 0; decide, by show (0 : Int) + (1000 : Nat) ≤ _; decide⟩, rfl⟩
  have h1 : m__law_deck [.d (.scr ms), .no, .no, .no] = some (.nx [.d (.scr ms), .d (.lst (ns.map D.int)), .d (.int m), c]) := by
    unfold m__law_deck
    rw [ev_seq g1, ev_seq (ev_for (ev_items (ev_var rfl) rfl) q1)]; rfl
  show (m__law_deck [.d (.scr ms), .no, .no, .no]).bind (endN 1 2 false) = _
  rw [h1]
  show ((asInts (ns.map D.int)).map fun ns => (⟨ns.reverse, m, 0, false⟩ : Dk)) = _
  rw [asInts_map]; rfl
/-- the digits that the law takes -/
structure Sg (l : List Nat) : Prop where
  ne : l ≠ []
  len : l.length ≤ 10
  up : up l = true
  ok : ∀ c ∈ l, c < 1114112
theorem law_body1 {s : Dk} {d : D} {ms : List Int} {c3 c4 c5 c6 c7 : Cell} (hg : Ga d) (p5 : isP c5 = true) (p6 : isP c6 = true) :
    ∃ x5 x6, (mSeq (mPar 5 6 (mCons (mApp dRepr (mCons (mVar 2) mNil)) (mCons (mCallP f__law_are_signs [0] (mCons (mVar 2) mNil) mNil) mNil))) (mIfS (mOrT (mTest (mBin dNe (mApp dRepr (mCons (mApp dLst (mCons (mCallP f_are_digits [0] (mCons (mVar 2) mNil) mNil) (mCons (mCallP f_are_digits [0] mNil (mCons (mVar 2) mNil)) mNil))) mNil)) (mApp dRepr (mCons (mApp dLst (mCons (mVar 6) (mCons (mVar 6) mNil))) mNil)))) (mTest (mBin dNe (mApp dRepr (mCons (mVar 2) mNil)) (mVar 5)))) (mRet (mC (.bl false))) mSkip))
      [.d (.scr ms), .dk s, .d d, c3, c4, c5, c6, c7] = some (.nx [.d (.scr ms), .dk s, .d d, c3, c4, .d x5, .d x6, c7]) := by
  obtain ⟨⟨b, e1, e2⟩, t, ht⟩ := hg
  have g1 : (mPar 5 6 (mCons (mApp dRepr (mCons (mVar 2) mNil)) (mCons (mCallP f__law_are_signs [0] (mCons (mVar 2) mNil) mNil) mNil))) [.d (.scr ms), .dk s, .d d, c3, c4, c5, c6, c7] = some (.nx [.d (.scr ms), .dk s, .d d, c3, c4, .d (.str t), .d (.bl b), c7]) := by
    rw [ev_par (ρ1 := [.d (.scr ms), .dk s, .d d, c3, c4, c5, c6, c7]) (ev_cons (ev_app (ev_cons (ev_var rfl) ev_nil) ht) (ev_cons (ev_callQ (xs := [d]) (ev_cons (ev_var rfl) ev_nil) ev_nil rfl e2) ev_nil)) (by rw [plainAt_eq]; exact p5) (by rw [plainAt_eq]; exact p6)]
    rfl
  obtain ⟨u, hu⟩ := repr_of (d := .lst [.bl b, .bl b]) rfl (by cases b <;> decide +kernel)
  refine ⟨.str t, .bl b, ?_⟩
  rw [ev_seq g1]
  exact (ev_ifF ((ev_orF (ev_test (ev_bin (ev_app (ev_cons (ev_app (ev_cons (ev_callQ (xs := [d]) (ev_cons (ev_var rfl) ev_nil) ev_nil rfl e1) (ev_cons (ev_callQ (xs := [d]) ev_nil (ev_cons (ev_var rfl) ev_nil) rfl e1) ev_nil)) rfl) ev_nil) hu) (ev_app (ev_cons (ev_app (ev_cons (ev_var rfl) (ev_cons (ev_var rfl) ev_nil)) rfl) ev_nil) hu) (dNe_same u)))).trans (ev_test (ev_bin (ev_app (ev_cons (ev_var rfl) ev_nil) ht) (ev_var rfl) (dNe_same t))))).trans ev_skip
theorem law_body2 {s : Dk} {n : Nat} {l : List Nat} {ms : List Int} {c2 c4 c5 c6 c7 : Cell} (hl : Sg l) (hd : s.dr = false) (hf : Fine s (n + 48)) :
    ∃ s', Fine s' n ∧ s'.dr = false ∧ (mIfS (mOrT (mNotT (mTest (mCallD 1 f__law_tickets_right (mCons (mVar 3) mNil)))) (mAndT (mTest (mBin dLt (mApp dLen (mCons (mVar 3) mNil)) (mC (.int 10)))) (mNotT (mTest (mCallD 1 f__law_rolls_right (mCons (mVar 3) mNil)))))) (mRet (mC (.bl false))) mSkip)
      [.d (.scr ms), .dk s, c2, .d (tx l), c4, c5, c6, c7] = some (.nx [.d (.scr ms), .dk s', c2, .d (tx l), c4, c5, c6, c7]) := by
  have big : (100000 : Nat) ≤ sizeLine := by decide
  have h10 := hl.len
  obtain ⟨s1, e1, f1, d1⟩ := tickets_spec (n := n + 16) hl.ne (by omega) hl.ok hd hf
  have t1 : mTest (mCallD 1 f__law_tickets_right (mCons (mVar 3) mNil)) [.d (.scr ms), .dk s, c2, .d (tx l), c4, c5, c6, c7] = some (true, [.d (.scr ms), .dk s1, c2, .d (tx l), c4, c5, c6, c7]) := ev_test (ev_callD (k0 := s) rfl (ev_cons (ev_var rfl) ev_nil) rfl e1)
  have t2 : mTest (mBin dLt (mApp dLen (mCons (mVar 3) mNil)) (mC (.int 10))) [.d (.scr ms), .dk s1, c2, .d (tx l), c4, c5, c6, c7] = some (decide ((l.length : Int) < 10), [.d (.scr ms), .dk s1, c2, .d (tx l), c4, c5, c6, c7]) := ev_test (ev_bin (ev_app (ev_cons (ev_var rfl) ev_nil) (len_T (by omega))) ev_c (dLt_int _ _))
  by_cases h : (l.length : Int) < 10
  · obtain ⟨s2, e2, f2, d2⟩ := rolls_spec (n := n) (by omega) hl.up hl.ok d1 f1
    rw [decide_eq_true h] at t2
    have t3 : mTest (mCallD 1 f__law_rolls_right (mCons (mVar 3) mNil)) [.d (.scr ms), .dk s1, c2, .d (tx l), c4, c5, c6, c7] = some (true, [.d (.scr ms), .dk s2, c2, .d (tx l), c4, c5, c6, c7]) := ev_test (ev_callD (k0 := s1) rfl (ev_cons (ev_var rfl) ev_nil) rfl e2)
    refine ⟨s2, f2, d2, ?_⟩
    rw [ev_ifF ((ev_orF (ev_not t1)).trans ((ev_andT t2).trans (ev_not t3)))]; rfl
  · rw [decide_eq_false h] at t2
    refine ⟨s1, f1.le (by omega), d1, ?_⟩
    rw [ev_ifF ((ev_orF (ev_not t1)).trans (ev_andF t2))]; rfl
theorem sg1 : ∀ d ∈ ([.str "01", .str "0", .str "9", .str "38", .str "012"] : List D), ∃ l, d = tx l ∧ Sg l := by
  intro d hd
  simp only [List.mem_cons, List.not_mem_nil, or_false] at hd
  rcases hd with rfl | rfl | rfl | rfl | rfl
  · exact ⟨[48, 49], by rw [show ("01" : Str) = Tx [48, 49] by decide +kernel], by decide, by decide, by decide, by decide⟩
  · exact ⟨[48], by rw [show ("0" : Str) = Tx [48] by decide +kernel], by decide, by decide, by decide, by decide⟩
  · exact ⟨[57], by rw [show ("9" : Str) = Tx [57] by decide +kernel], by decide, by decide, by decide, by decide⟩
  · exact ⟨[51, 56], by rw [show ("38" : Str) = Tx [51, 56] by decide +kernel], by decide, by decide, by decide, by decide⟩
  · exact ⟨[48, 49, 50], by rw [show ("012" : Str) = Tx [48, 49, 50] by decide +kernel], by decide, by decide, by decide, by decide⟩
theorem sg2 : ∀ d ∈ ([.str "012", .str "1357", .str "0123456789", .str "48"] : List D), ∃ l, d = tx l ∧ Sg l := by
  intro d hd
  simp only [List.mem_cons, List.not_mem_nil, or_false] at hd
  rcases hd with rfl | rfl | rfl | rfl
  · exact ⟨[48, 49, 50], by rw [show ("012" : Str) = Tx [48, 49, 50] by decide +kernel], by decide, by decide, by decide, by decide⟩
  · exact ⟨[49, 51, 53, 55], by rw [show ("1357" : Str) = Tx [49, 51, 53, 55] by decide +kernel], by decide, by decide, by decide, by decide⟩
  · exact ⟨digs, by rw [digs_eq], by decide, by decide, by decide, by decide⟩
  · exact ⟨[52, 56], by rw [show ("48" : Str) = Tx [52, 56] by decide +kernel], by decide, by decide, by decide, by decide⟩
end Lk01

namespace Lk01
open PySem L2 TL
theorem ev_setDk {i : Nat} {f : List D → Option Dk} {ma : MA} {ρ ρ1 : List Cell} {ds : List D} {s : Dk} (h1 : ma ρ = some (ds, ρ1)) (h2 : f ds = some s) (h3 : plainAt ρ1 i = true) : mSetDk i f ma ρ = some (.nx (ρ1.set i (.dk s))) := by
  simp only [mSetDk, h1, h2, Option.bind_some, if_pos h3]
theorem eq_txs (A : List (List Nat)) : dEq (.lst (A.map tx)) (.lst (A.map tx)) = some (.bl true) := by
  have := dEq_strs (A.map Tx) (A.map Tx)
  rw [List.map_map] at this
  rw [show A.map tx = A.map (D.str ∘ Tx) from rfl, this, decide_eq_true rfl]
theorem law_last {s : Dk} {l : List Nat} {k : Nat} {ms : List Int} {c2 c5 c6 : Cell} (hl : l.length ≤ 1000) (hk : k ≤ 1000) (h1 : ∀ j, j ≤ k → (lvs l j).length ≤ 100000) (h2 : ∀ j, j ≤ k → (lv l j).length ≤ 100000) :
    (mRet (mBin dEq (mApp dList (mCons (mCallP f_roll [0, 1] (mCons (mVar 3) (mCons (mVar 4) mNil)) mNil) mNil)) (mLc (mItems (mCallP f__law_pages [0, 1] (mCons (mVar 3) (mCons (mVar 4) mNil)) mNil)) (gmName 7) (mTest (mBin dEq (mApp dLen (mCons (mVar 7) mNil)) (mVar 4))) (mVar 7) [7])))
      [.d (.scr ms), .dk s, c2, .d (tx l), .d (.int k), c5, c6, .no] = some (.rt (.bl true) [.d (.scr ms), .dk s, c2, .d (tx l), .d (.int k), c5, c6, .no]) := by
  have big : (100000 : Nat) ≤ sizeLine := by decide
  have lc := lcGo_map (f := gmName 7) (mt := mTest (mBin dEq (mApp dLen (mCons (mVar 7) mNil)) (mVar 4))) (me := mVar 7) (vs := [7]) (ρ := [.d (.scr ms), .dk s, c2, .d (tx l), .d (.int k), c5, c6, .no]) tx (fun p => decide (p.length = k)) tx (lvs l k) (fun p hp => by
    have hpl := lvs_le l k p hp
    refine ⟨[.d (.scr ms), .dk s, c2, .d (tx l), .d (.int k), c5, c6, .d (tx p)], rfl, ev_test (ev_bin (ev_app (ev_cons (ev_var rfl) ev_nil) (len_T (by omega))) (ev_var rfl) ?_), fun _ => ev_var rfl, rfl⟩
    rw [dEq_int]
    have e : (((p.length : Int) = (k : Int)) : Prop) = (p.length = k) := by rw [eq_iff_iff]; omega
    simp only [e])
  rw [lvs_filter l k k (Nat.le_refl _)] at lc
  have hs := h2 k (Nat.le_refl _)
  exact ev_ret (ev_bin (ev_app (ev_cons (ev_callQ (xs := [tx l, .int (k : Int)]) (ev_cons (ev_var rfl) (ev_cons (ev_var rfl) ev_nil)) ev_nil rfl (f_roll_spec hl hk h2)) ev_nil) rfl)
    (ev_lc (ρ1 := [.d (.scr ms), .dk s, c2, .d (tx l), .d (.int k), c5, c6, .no]) (ρ2 := [.d (.scr ms), .dk s, c2, .d (tx l), .d (.int k), c5, c6, .no]) (ev_items (ev_callQ (xs := [tx l, .int (k : Int)]) (ev_cons (ev_var rfl) (ev_cons (ev_var rfl) ev_nil)) ev_nil rfl (f_pages_spec hl hk h1)) rfl) rfl lc (by rw [List.length_map]; omega)) (eq_txs _))
theorem law_true : ∀ ms : List Int, ms.length ≤ 63 → f_law [.scr ms] = some (.bl true) := by
  intro ms hms
  obtain ⟨s0, e0, f0, d0⟩ := deck_spec ms hms
  obtain ⟨L, s1, e1, hL, f1, d1⟩ := some_spec (n := 500) d0 (f0.le (by omega))
  have g0 : mSetDk 1 f__law_deck (mCons (mVar 0) mNil) [.d (.scr ms), .no, .no, .no, .no, .no, .no, .no] = some (.nx [.d (.scr ms), .dk s0, .no, .no, .no, .no, .no, .no]) := by
    rw [ev_setDk (ev_cons (ev_var rfl) ev_nil) e0 rfl]; rfl
  obtain ⟨ρ1, q1, q2⟩ := forGo_inv (f := gmName 2) (body := _)
    (fun j ρ => ∃ c2 c5 c6, isP c2 = true ∧ isP c5 = true ∧ isP c6 = true ∧ ρ = [.d (.scr ms), .dk s1, c2, .no, .no, c5, c6, .no]) L 0 _ ⟨.no, .no, .no, rfl, rfl, rfl, rfl⟩ (fun j d hj ρ hI => by
      obtain ⟨c2, c5, c6, p2, p5, p6, rfl⟩ := hI
      obtain ⟨x5, x6, e⟩ := law_body1 (s := s1) (ms := ms) (c3 := .no) (c4 := .no) (c7 := .no) (hL d (List.mem_of_getElem? hj)) p5 p6
      refine ⟨[.d (.scr ms), .dk s1, .d d, .no, .no, c5, c6, .no], _, ?_, e, _, _, _, rfl, rfl, rfl, rfl⟩
      unfold gmName
      rw [if_pos (by rw [plainAt_eq]; exact p2)]; rfl)
  obtain ⟨c2, c5, c6, p2, p5, p6, rfl⟩ := q2
  obtain ⟨x1, s2, e2, m2, f2, d2⟩ := f_pick_spec (n := 499) d1 f1 (ds := [.str "01", .str "0", .str "9", .str "38", .str "012"]) (by simp) (by simp)
  obtain ⟨x2, s3, e3, m3, f3, d3⟩ := f_pick_spec (n := 498) d2 f2 (ds := [.str "012", .str "1357", .str "0123456789", .str "48"]) (by simp) (by simp)
  obtain ⟨l1, rfl, hl1⟩ := sg1 x1 m2
  obtain ⟨l2, rfl, hl2⟩ := sg2 x2 m3
  obtain ⟨ρ2, k1, k2⟩ := forGo_inv (f := gmName 3) (body := _)
    (fun j ρ => ∃ s' c3, isP c3 = true ∧ j ≤ 2 ∧ Fine s' (100 + 48 * (2 - j)) ∧ s'.dr = false ∧ ρ = [.d (.scr ms), .dk s', c2, c3, .no, c5, c6, .no]) [tx l1, tx l2] 0 _ ⟨s3, .no, rfl, Nat.zero_le _, f3.le (by omega), d3, rfl⟩ (fun j d hj ρ hI => by
      rw [Nat.zero_add] at hI ⊢
      obtain ⟨s', c3, p3, _, f', d', rfl⟩ := hI
      have hj' := (List.getElem?_eq_some_iff.mp hj).1
      have hj2 : j < 2 := hj'
      have hd : ∃ l, d = tx l ∧ Sg l := by
        have := List.mem_of_getElem? hj
        simp only [List.mem_cons, List.not_mem_nil, or_false] at this
        rcases this with h | h
        · exact ⟨l1, h, hl1⟩
        · exact ⟨l2, h, hl2⟩
      obtain ⟨l, rfl, hl⟩ := hd
      obtain ⟨s4, f4, d4, e4⟩ := law_body2 (s := s') (n := 100 + 48 * (2 - (j + 1))) (ms := ms) (c2 := c2) (c4 := .no) (c5 := c5) (c6 := c6) (c7 := .no) hl d' (f'.le (by omega))
      refine ⟨[.d (.scr ms), .dk s', c2, .d (tx l), .no, c5, c6, .no], _, ?_, e4, s4, _, rfl, hj2, f4, d4, rfl⟩
      unfold gmName
      rw [if_pos (by rw [plainAt_eq]; exact p3)]; rfl)
  obtain ⟨s4, c3, p3, _, f4, d4, rfl⟩ := k2
  obtain ⟨x, s5, e5, m5, f5, d5⟩ := f_pick_spec (n := 50) d4 (f4.le (by omega)) (ds := [.tup [.str "0123456789", .int 3], .tup [.str "01", .int 9], .tup [.str "012", .int 6]]) (by simp) (by simp)
  have hx : ∃ (l : List Nat) (k : Nat), x = .tup [tx l, .int k] ∧ l.length ≤ 1000 ∧ k ≤ 1000 ∧ (∀ j, j ≤ k → (lvs l j).length ≤ 100000) ∧ ∀ j, j ≤ k → (lv l j).length ≤ 100000 := by
    simp only [List.mem_cons, List.not_mem_nil, or_false] at m5
    rcases m5 with rfl | rfl | rfl
    · exact ⟨digs, 3, by rw [digs_eq]; rfl, by decide, by decide, by decide +kernel, by decide +kernel⟩
    · exact ⟨[48, 49], 9, by rw [show ("01" : Str) = Tx [48, 49] by decide +kernel]; rfl, by decide, by decide, by decide +kernel, by decide +kernel⟩
    · exact ⟨[48, 49, 50], 6, by rw [show ("012" : Str) = Tx [48, 49, 50] by decide +kernel]; rfl, by decide, by decide, by decide +kernel, by decide +kernel⟩
  obtain ⟨l, k, rfl, hl, hk, z1, z2⟩ := hx
  have g3 : (mAsg (mCallD 1 f__law_pick (mCons (mApp dLst (mCons (mApp dTup (mCons (mC (.str "0123456789")) (mCons (mC (.int 3)) mNil))) (mCons (mApp dTup (mCons (mC (.str "01")) (mCons (mC (.int 9)) mNil))) (mCons (mApp dTup (mCons (mC (.str "012")) (mCons (mC (.int 6)) mNil))) mNil)))) mNil)) (gmTup (gmCons (gmName 3) (gmCons (gmName 4) gmNil)) 2)) [.d (.scr ms), .dk s4, c2, c3, .no, c5, c6, .no] = some (.nx [.d (.scr ms), .dk s5, c2, .d (tx l), .d (.int k), c5, c6, .no]) := by
    have a : mCallD 1 f__law_pick (mCons (mApp dLst (mCons (mApp dTup (mCons (mC (.str "0123456789")) (mCons (mC (.int 3)) mNil))) (mCons (mApp dTup (mCons (mC (.str "01")) (mCons (mC (.int 9)) mNil))) (mCons (mApp dTup (mCons (mC (.str "012")) (mCons (mC (.int 6)) mNil))) mNil)))) mNil) [.d (.scr ms), .dk s4, c2, c3, .no, c5, c6, .no] = some (.tup [tx l, .int k], [.d (.scr ms), .dk s5, c2, c3, .no, c5, c6, .no]) :=
      ev_callD (k0 := s4) rfl (ev_cons (ev_app (ev_cons (ev_app (ev_cons ev_c (ev_cons ev_c ev_nil)) rfl) (ev_cons (ev_app (ev_cons ev_c (ev_cons ev_c ev_nil)) rfl) (ev_cons (ev_app (ev_cons ev_c (ev_cons ev_c ev_nil)) rfl) ev_nil))) rfl) ev_nil) rfl e5
    have b : gmTup (gmCons (gmName 3) (gmCons (gmName 4) gmNil)) 2 (.tup [tx l, .int k]) [.d (.scr ms), .dk s5, c2, c3, .no, c5, c6, .no] = some [.d (.scr ms), .dk s5, c2, .d (tx l), .d (.int k), c5, c6, .no] := by
      have c : gmName 3 (tx l) [.d (.scr ms), .dk s5, c2, c3, .no, c5, c6, .no] = some [.d (.scr ms), .dk s5, c2, .d (tx l), .no, c5, c6, .no] := by
        unfold gmName
        rw [if_pos (by rw [plainAt_eq]; exact p3)]; rfl
      show (gmName 3 (tx l) _).bind _ = _
      rw [c]; rfl
    simp only [mAsg, a, b, Option.bind_some, Option.map_some]
  have h : ∃ ρ, m_law [.d (.scr ms), .no, .no, .no, .no, .no, .no, .no] = some (.rt (.bl true) ρ) := by
    unfold m_law
    rw [ev_seq g0, ev_seq (ev_for (ev_items (ev_callD (k0 := s0) rfl ev_nil rfl e1) rfl) q1)]
    rw [ev_seq (ev_for (ev_items (ev_app (ev_cons (ev_callD (k0 := s1) rfl (ev_cons (ev_app (ev_cons ev_c (ev_cons ev_c (ev_cons ev_c (ev_cons ev_c (ev_cons ev_c ev_nil))))) rfl) ev_nil) rfl e2) (ev_cons (ev_callD (k0 := s2) rfl (ev_cons (ev_app (ev_cons ev_c (ev_cons ev_c (ev_cons ev_c (ev_cons ev_c ev_nil)))) rfl) ev_nil) rfl e3) ev_nil)) rfl) rfl) k1)]
    rw [ev_seq g3]
    exact ⟨_, law_last hl hk z1 z2⟩
  obtain ⟨ρ, h⟩ := h
  exact ev_runP h
end Lk01

open PySem PySem.W PyProof.Rows
set_option maxRecDepth 100000 in
set_option maxHeartbeats 0 in
theorem PySem.Challenge.cw_tallyhouse_k01_digits_tickets_and_rolls_holds : PySem.Challenge.rw_tallyhouse_k01_digits_tickets_and_rolls.Holds := by
  w_on; o_law; k_head; (case hw => w_witness2)
  k_fill
  refine TL.walkG (l := PySem.Challenge.rw_tallyhouse_k01_digits_tickets_and_rolls) (n := 63) (k := 5) (y := "_law_script") (f := Lk01.f_law) rfl (by decide) rfl ⟨rfl, by decide, by decide⟩ (fun w h Y => PySem.W.kIn_of Y) ?F Lk01.law_true
  case F =>
    intro w mg fa h KX G hmg
    refine' Lk01.all_mk KX G hmg ?n__law_are_signs ?l__law_are_signs ?c__law_are_signs ?k__law_are_signs ?n__law_deck ?l__law_deck ?c__law_deck ?k__law_deck ?n__law_pages ?l__law_pages ?c__law_pages ?k__law_pages ?n__law_draw ?l__law_draw ?c__law_draw ?k__law_draw ?n__law_pick ?l__law_pick ?c__law_pick ?k__law_pick ?n_is_ahead ?l_is_ahead ?c_is_ahead ?k_is_ahead ?n_roll ?l_roll ?c_roll ?k_roll ?n__law_rolls_right ?l__law_rolls_right ?c__law_rolls_right ?k__law_rolls_right ?n__law_some ?l__law_some ?c__law_some ?k__law_some ?n__law_is_page ?l__law_is_page ?c__law_is_page ?k__law_is_page ?n__law_page ?l__law_page ?c__law_page ?k__law_page ?n_is_ticket ?l_is_ticket ?c_is_ticket ?k_is_ticket ?n__law_tickets_right ?l__law_tickets_right ?c__law_tickets_right ?k__law_tickets_right ?n_is_ascending ?l_is_ascending ?c_is_ascending ?k_is_ascending ?n_are_digits ?l_are_digits ?c_are_digits ?k_are_digits ?n_law ?l_law ?c_law ?k_law ?z_all ?z_int ?z_isinstance ?z_len ?z_list ?z_range ?z_repr ?z_str ?z_tuple ?z_zip
    (case n__law_are_signs => k_is)
    (case l__law_are_signs => k_is)
    (case c__law_are_signs => k_is)
    (case k__law_are_signs => k_is)
    (case n__law_deck => k_is)
    (case l__law_deck => k_is)
    (case c__law_deck => k_is)
    (case k__law_deck => k_is)
    (case n__law_pages => k_is)
    (case l__law_pages => k_is)
    (case c__law_pages => k_is)
    (case k__law_pages => k_is)
    (case n__law_draw => k_is)
    (case l__law_draw => k_is)
    (case c__law_draw => k_is)
    (case k__law_draw => k_is)
    (case n__law_pick => k_is)
    (case l__law_pick => k_is)
    (case c__law_pick => k_is)
    (case k__law_pick => k_is)
    (case n_is_ahead => k_is)
    (case l_is_ahead => k_is)
    (case c_is_ahead => k_is)
    (case k_is_ahead => k_is)
    (case n_roll => k_is)
    (case l_roll => k_is)
    (case c_roll => k_is)
    (case k_roll => k_is)
    (case n__law_rolls_right => k_is)
    (case l__law_rolls_right => k_is)
    (case c__law_rolls_right => k_is)
    (case k__law_rolls_right => k_is)
    (case n__law_some => k_is)
    (case l__law_some => k_is)
    (case c__law_some => k_is)
    (case k__law_some => k_is)
    (case n__law_is_page => k_is)
    (case l__law_is_page => k_is)
    (case c__law_is_page => k_is)
    (case k__law_is_page => k_is)
    (case n__law_page => k_is)
    (case l__law_page => k_is)
    (case c__law_page => k_is)
    (case k__law_page => k_is)
    (case n_is_ticket => k_is)
    (case l_is_ticket => k_is)
    (case c_is_ticket => k_is)
    (case k_is_ticket => k_is)
    (case n__law_tickets_right => k_is)
    (case l__law_tickets_right => k_is)
    (case c__law_tickets_right => k_is)
    (case k__law_tickets_right => k_is)
    (case n_is_ascending => k_is)
    (case l_is_ascending => k_is)
    (case c_is_ascending => k_is)
    (case k_is_ascending => k_is)
    (case n_are_digits => k_is)
    (case l_are_digits => k_is)
    (case c_are_digits => k_is)
    (case k_are_digits => k_is)
    (case n_law => k_is)
    (case l_law => k_is)
    (case c_law => k_is)
    (case k_law => k_is)
    (case z_all => k_is)
    (case z_int => k_is)
    (case z_isinstance => k_is)
    (case z_len => k_is)
    (case z_list => k_is)
    (case z_range => k_is)
    (case z_repr => k_is)
    (case z_str => k_is)
    (case z_tuple => k_is)
    (case z_zip => k_is)
