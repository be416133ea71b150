import PyProof.Rows.All
import Wide.All
import OpenK.AllK
import Wide.FinOn
import HandS.ForMost
import HandS.ForExc
import HandS.TupAny
import HandS.TupMul
import HandS.IsInst
import HandS.Wide
import HandS.StrMore
import HandS.Zip
import HandS.Rev
import KE.DataEq
import KE.DataCmp
import HandS.RaiseMore
import HandS.WordsDict
import HandS.Steps
import PyProof.ListStr
import PyProof.TupleOfStr
import KE.GoesNew
import KE.GoesMore
import HandS.Ends
import PyProof.StrLawsIn
import PyProof.StrLawsRepr
import KE.SortData
import HandS.Style
import KE.GoesEnum
import HandS.Gcd
import HandS.CallSlots
import HandS.ExcIs
import HandS.ExcField
import KE.KExcInit
import KE.KExcIs
import HandS.OwnEq
import HandS.Replace
import PyProof.StrBlock
import HandS.Property
import OpenK.KOps
import HandS.ExcOwn
import KE.KExcMake
import PyProof.Rows.RegStrFacts
import KE.KExcLine
import PySem.Challenge.RW_tallyhouse_k07_pieces_of_tickets
set_option Elab.async false
set_option maxRecDepth 100000
set_option linter.all false
namespace TL
open PySem L2

/-! ### data -/
inductive D where
  | non | bl (b : Bool) | int (i : Int) | str (x : Str)
  | tup (xs : List D) | lst (xs : List D) | dct (kvs : List (Key × D)) | obj (c : Str) (fs : List (Str × D)) | exc (a : Addr) (d : Option Addr) (c : Str) (fs : List (Str × D)) | scr (ns : List Int)

/-- the class of this name -/
def ClsN (K : PySem.W.Frag) (c : Str) (C : Addr) : Prop := PySem.W.nsIn K mainGlobals c = some (some (.ref C))

mutual
inductive Rep (K : PySem.W.Frag) (H : Hp) : V → D → Prop
  | non : Rep K H .non .non
  | bl (b : Bool) : Rep K H (.bl b) (.bl b)
  | int (i : Int) : Rep K H (.int i) (.int i)
  | str (x : Str) : Rep K H (.str x) (.str x)
  | tup {a : Addr} {xs : List V} {ds : List D} : SqT K H a xs → RepL K H xs ds → Rep K H (.ref a) (.tup ds)
  | lst {a : Addr} {xs : List V} {ds : List D} : H a = some (.lst xs) → RepL K H xs ds → Rep K H (.ref a) (.lst ds)
  | dct {a : Addr} {xs : List (Key × V)} {ds : List (Key × D)} : H a = some (.dK xs) → RepK K H xs ds → Rep K H (.ref a) (.dct ds)
  | obj {a C dx : Addr} {c : Str} {xs : List (Str × V)} {ds : List (Str × D)} : H a = some (.ins C dx xs) → ClsN K c C → RepF K H xs ds → Rep K H (.ref a) (.obj c ds)
  | exc {a dx : Addr} {c : Str} {xs : List (Str × V)} {ds : List (Str × D)} : H dx = some (.xd xs) → RepF K H xs ds → Rep K H (.ref a) (.exc a (some dx) c ds)
  | exb {a : Addr} {c : Str} : Rep K H (.ref a) (.exc a none c [])
  | scr {a : Addr} {ns : List Int} : SqL K H a (ns.map V.int) → Rep K H (.ref a) (.scr ns)
inductive RepL (K : PySem.W.Frag) (H : Hp) : List V → List D → Prop
  | nil : RepL K H [] []
  | cons {v : V} {vs : List V} {d : D} {ds : List D} : Rep K H v d → RepL K H vs ds → RepL K H (v :: vs) (d :: ds)
inductive RepK (K : PySem.W.Frag) (H : Hp) : List (Key × V) → List (Key × D) → Prop
  | nil : RepK K H [] []
  | cons {k : Key} {v : V} {vs : List (Key × V)} {d : D} {ds : List (Key × D)} : Rep K H v d → RepK K H vs ds → RepK K H ((k, v) :: vs) ((k, d) :: ds)
inductive RepF (K : PySem.W.Frag) (H : Hp) : List (Str × V) → List (Str × D) → Prop
  | nil : RepF K H [] []
  | cons {k : Str} {v : V} {vs : List (Str × V)} {d : D} {ds : List (Str × D)} : Rep K H v d → RepF K H vs ds → RepF K H ((k, v) :: vs) ((k, d) :: ds)
end

def Ex (H H' : Hp) : Prop := ∀ a o, H a = some o → H' a = some o
theorem Ex.refl (H : Hp) : Ex H H := fun _ _ h => h
theorem Ex.trans {H H1 H2 : Hp} (a : Ex H H1) (b : Ex H1 H2) : Ex H H2 := fun x o h => b x o (a x o h)
theorem Ex.new {H : Hp} {p : Addr} {o : HO} (h : H p = none) : Ex H (upd H p o) := fun a u e => by
  rw [upd_ne (ne_of_none e h)]; exact e
theorem Ex.rd {H H' : Hp} {a : Addr} {u : HO} (e : Ex H H') (h : Rd H a u) : Rd H' a u := by
  rcases h with h | ⟨o, h⟩
  · exact Or.inl (e a _ h)
  · exact Or.inr ⟨o, e a _ h⟩
theorem Ex.sqt {K : PySem.W.Frag} {H H' : Hp} {a : Addr} {xs : List V} (e : Ex H H') (h : SqT K H a xs) : SqT K H' a xs := h.elim (fun h => .inl (e.rd h)) .inr
theorem Ex.sql {K : PySem.W.Frag} {H H' : Hp} {a : Addr} {xs : List V} (e : Ex H H') (h : SqL K H a xs) : SqL K H' a xs := h.elim (fun h => .inl (e.rd h)) .inr
theorem Ex.back {H H' : Hp} {p : Addr} (e : Ex H H') (h : H' p = none) : H p = none := by
  cases h1 : H p with
  | none => rfl
  | some o => rw [e p o h1] at h; cases h

mutual
theorem Rep.mono {K : PySem.W.Frag} {H H' : Hp} (e : Ex H H') {v : V} {d : D} : Rep K H v d → Rep K H' v d
  | .non => .non
  | .bl b => .bl b
  | .int i => .int i
  | .str x => .str x
  | .tup h l => .tup (e.sqt h) (RepL.mono e l)
  | .lst h l => .lst (e _ _ h) (RepL.mono e l)
  | .dct h l => .dct (e _ _ h) (RepK.mono e l)
  | .obj h n l => .obj (e _ _ h) n (RepF.mono e l)
  | .exc h l => .exc (e _ _ h) (RepF.mono e l)
  | .exb => .exb
  | .scr h => .scr (e.sql h)
theorem RepL.mono {K : PySem.W.Frag} {H H' : Hp} (e : Ex H H') {v : List V} {d : List D} : RepL K H v d → RepL K H' v d
  | .nil => .nil
  | .cons h l => .cons (Rep.mono e h) (RepL.mono e l)
theorem RepK.mono {K : PySem.W.Frag} {H H' : Hp} (e : Ex H H') {v : List (Key × V)} {d : List (Key × D)} : RepK K H v d → RepK K H' v d
  | .nil => .nil
  | .cons h l => .cons (Rep.mono e h) (RepK.mono e l)
theorem RepF.mono {K : PySem.W.Frag} {H H' : Hp} (e : Ex H H') {v : List (Str × V)} {d : List (Str × D)} : RepF K H v d → RepF K H' v d
  | .nil => .nil
  | .cons h l => .cons (Rep.mono e h) (RepF.mono e l)
end

section
variable {K : PySem.W.Frag} {H : Hp}
theorem RepL.length : ∀ {xs : List V} {ds : List D}, RepL K H xs ds → xs.length = ds.length
  | _, _, .nil => rfl
  | _, _, .cons _ t => by rw [List.length_cons, List.length_cons, RepL.length t]
theorem RepL.get : ∀ {xs : List V} {ds : List D} {i : Nat} {d : D}, RepL K H xs ds → ds[i]? = some d → ∃ v, xs[i]? = some v ∧ Rep K H v d
  | _, _, _, _, .nil, h => by simp at h
  | _, _, 0, _, .cons r _, h => by simp at h; subst h; exact ⟨_, rfl, r⟩
  | _, _, i + 1, _, .cons _ t, h => by
    obtain ⟨v, h1, h2⟩ := RepL.get (i := i) t (by simpa using h)
    exact ⟨v, by simpa using h1, h2⟩
theorem RepL.getV : ∀ {xs : List V} {ds : List D} {i : Nat} {v : V}, RepL K H xs ds → xs[i]? = some v → ∃ d, ds[i]? = some d ∧ Rep K H v d
  | _, _, _, _, .nil, h => by simp at h
  | _, _, 0, _, .cons r _, h => by simp at h; subst h; exact ⟨_, rfl, r⟩
  | _, _, i + 1, _, .cons _ t, h => by
    obtain ⟨v, h1, h2⟩ := RepL.getV (i := i) t (by simpa using h)
    exact ⟨v, by simpa using h1, h2⟩
theorem RepL.append : ∀ {xs ys : List V} {ds es : List D}, RepL K H xs ds → RepL K H ys es → RepL K H (xs ++ ys) (ds ++ es)
  | _, _, _, _, .nil, r => r
  | _, _, _, _, .cons h t, r => .cons h (t.append r)
theorem RepL.snoc {xs : List V} {ds : List D} {v : V} {d : D} (h : RepL K H xs ds) (r : Rep K H v d) : RepL K H (xs ++ [v]) (ds ++ [d]) := h.append (.cons r .nil)
theorem RepL.drop : ∀ {xs : List V} {ds : List D} (n : Nat), RepL K H xs ds → RepL K H (xs.drop n) (ds.drop n)
  | _, _, 0, r => r
  | _, _, _ + 1, .nil => .nil
  | _, _, n + 1, .cons _ t => RepL.drop n t
theorem RepL.take : ∀ {xs : List V} {ds : List D} (n : Nat), RepL K H xs ds → RepL K H (xs.take n) (ds.take n)
  | _, _, 0, _ => .nil
  | _, _, _ + 1, .nil => .nil
  | _, _, n + 1, .cons r t => .cons r (RepL.take n t)
theorem RepL.reverse : ∀ {xs : List V} {ds : List D}, RepL K H xs ds → RepL K H xs.reverse ds.reverse
  | _, _, .nil => .nil
  | _, _, .cons r t => by rw [List.reverse_cons, List.reverse_cons]; exact t.reverse.snoc r
theorem RepL.dropLast {xs : List V} {ds : List D} (h : RepL K H xs ds) : RepL K H xs.dropLast ds.dropLast := by
  rw [List.dropLast_eq_take, List.dropLast_eq_take, h.length]; exact h.take _
theorem RepL.set : ∀ {xs : List V} {ds : List D} (i : Nat) {v : V} {d : D}, RepL K H xs ds → Rep K H v d → RepL K H (xs.set i v) (ds.set i d)
  | _, _, _, _, _, .nil, _ => .nil
  | _, _, 0, _, _, .cons _ t, r => .cons r t
  | _, _, i + 1, _, _, .cons q t, r => .cons q (RepL.set i t r)
theorem RepL.ints : ∀ {xs : List V} (ns : List Int), RepL K H xs (ns.map D.int) → xs = ns.map V.int
  | _, [], .nil => rfl
  | _, n :: ns, .cons r t => by cases r; rw [RepL.ints ns t, List.map_cons]
theorem RepL.strs : ∀ {xs : List V} (ns : List Str), RepL K H xs (ns.map D.str) → xs = ns.map V.str
  | _, [], .nil => rfl
  | _, n :: ns, .cons r t => by cases r; rw [RepL.strs ns t, List.map_cons]
theorem RepL.bools : ∀ {xs : List V} (ns : List Bool), RepL K H xs (ns.map D.bl) → xs = ns.map V.bl
  | _, [], .nil => rfl
  | _, n :: ns, .cons r t => by cases r; rw [RepL.bools ns t, List.map_cons]
theorem RepL.of_ints : ∀ (ns : List Int), RepL K H (ns.map V.int) (ns.map D.int)
  | [] => .nil
  | n :: ns => .cons (.int n) (RepL.of_ints ns)
theorem RepL.of_strs : ∀ (ns : List Str), RepL K H (ns.map V.str) (ns.map D.str)
  | [] => .nil
  | n :: ns => .cons (.str n) (RepL.of_strs ns)
end

/-! ### what is owned -/
def Fz (S : List Addr) (H : Hp) : Hp := fun a => if a ∈ S then none else H a
section
variable {S S' : List Addr} {H H' : Hp} {a p : Addr} {o : HO}
theorem Fz.le : Ex (Fz S H) H := fun a o h => by unfold Fz at h; split at h <;> first | cases h | exact h
theorem Fz.ex (e : Ex H H') : Ex (Fz S H) (Fz S H') := fun a o h => by
  unfold Fz at h ⊢
  split at h
  · cases h
  · rename_i n; rw [if_neg n]; exact e a o h
theorem Fz.sub (h : ∀ a ∈ S, a ∈ S') : Ex (Fz S' H) (Fz S H) := fun a o e => by
  unfold Fz at e ⊢
  split at e
  · cases e
  · rename_i n; rw [if_neg fun m => n (h a m)]; exact e
theorem Fz.out (h : a ∉ S) : Fz S H a = H a := by unfold Fz; rw [if_neg h]
theorem Fz.own (h : a ∈ S) : Fz S H a = none := by unfold Fz; rw [if_pos h]
/-- an owned one is changed -/
theorem Fz.upd_own (h : p ∈ S) : Fz S (upd H p o) = Fz S H := by
  funext a; unfold Fz
  by_cases m : a ∈ S
  · rw [if_pos m, if_pos m]
  · rw [if_neg m, if_neg m, upd_ne (fun e => m (by rw [e]; exact h))]
/-- a new owned one -/
theorem Fz.upd_new (h : H p = none) : Ex (Fz S H) (Fz (p :: S) (upd H p o)) := fun a u e => by
  have q := Fz.le a u e
  have n : a ≠ p := ne_of_none q h
  have m : a ∉ S := fun m => by rw [Fz.own m] at e; cases e
  rw [Fz.out (by simp [n, m]), upd_ne n]; exact q
end
end TL

namespace TL
open PySem L2

/-- the deck of draws -/
structure Dk where
  cells : List Int
  mixed : Int
  turn : Int
  dr : Bool
def Dk.kt (s : Dk) : Str := if s.dr = true then "draws" else "turn"

/-- what a name holds: not told, data, an own list, an own dict, the deck, an instance that is being made -/
inductive Cell where
  | no | d (x : D) | ol (ds : List D) | od (kvs : List (Key × D)) | dk (s : Dk) | ns (c : Str) (fs : List (Str × D))

def DkAt (H : Hp) (d l : Addr) (s : Dk) : Prop :=
  H d = some (.dK [(.inr "cells", .ref l), (.inr "mixed", .int s.mixed), (.inr s.kt, .int s.turn)]) ∧ H l = some (.lst (s.cells.map V.int)) ∧ d ≠ l

def CellR (K : PySem.W.Frag) (S : List Addr) (H : Hp) (as : List Addr) (o : Option V) : Cell → Prop
  | .no => as = []
  | .d x => as = [] ∧ ∃ v, o = some v ∧ Rep K (Fz S H) v x
  | .ol ds => ∃ p xs, as = [p] ∧ o = some (.ref p) ∧ H p = some (.lst xs) ∧ RepL K (Fz S H) xs ds
  | .od ds => ∃ p xs, as = [p] ∧ o = some (.ref p) ∧ H p = some (.dK xs) ∧ RepK K (Fz S H) xs ds
  | .dk s => ∃ d l, as = [d, l] ∧ o = some (.ref d) ∧ DkAt H d l s
  | .ns c fs => ∃ a dx C xs, as = [a, dx] ∧ o = some (.ref a) ∧ H a = some (.ins C dx xs) ∧ H dx = some (.own a) ∧ a ≠ dx ∧ ClsN K c C ∧ RepF K (Fz S H) xs fs

/-- the def's entry: the heap, what is not to be touched, what may be changed of it -/
structure Cn where
  H0 : Hp
  S0 : List Addr
  T : Addr → Prop
  loc : Prop
  tl : List Addr
/-- a def's own entry: what may be changed is nothing, or a deck -/
structure CnL where
  H0 : Hp
  S0 : List Addr
  tl : List Addr
  two : tl = [] ∨ ∃ a b, a ≠ b ∧ tl = [a, b]
def CnL.up (c : CnL) : Cn := ⟨c.H0, c.S0, fun a => a ∈ c.tl, True, c.tl⟩
instance : Coe CnL Cn := ⟨CnL.up⟩

structure SR (K : PySem.W.Frag) (c : Cn) (S : List Addr) (own : Nat → List Addr) (σ : St) (H : Hp) (ρ : List Cell) : Prop where
  len : σ.length = ρ.length
  cell : ∀ i x, ρ[i]? = some x → CellR K S H (own i) (σ[i]?.join) x
  apart : ∀ i j, i ≠ j → ∀ a ∈ own i, a ∉ own j
  ownS : ∀ i, ∀ a ∈ own i, a ∈ S ∧ (c.T a ∨ c.H0 a = none)
  sub : ∀ a ∈ c.S0, a ∈ S
  trk : ∀ a ∈ S, (H a).isSome = true
  trk0 : ∀ a ∈ c.S0, (c.H0 a).isSome = true
  keep : ∀ a o, c.H0 a = some o → ¬ c.T a → H a = some o
  tS : ∀ a, c.T a → a ∈ c.S0
  tdk : c.loc → c.tl ≠ [] → own 0 = c.tl

theorem CellR.ex {K : PySem.W.Frag} {S : List Addr} {H H' : Hp} {as : List Addr} {o : Option V} (e : Ex H H') : ∀ {x : Cell}, CellR K S H as o x → CellR K S H' as o x
  | .no, h => h
  | .d _, ⟨ha, v, h, r⟩ => ⟨ha, v, h, r.mono (Fz.ex e)⟩
  | .ol _, ⟨p, xs, ha, h, hp, r⟩ => ⟨p, xs, ha, h, e _ _ hp, r.mono (Fz.ex e)⟩
  | .od _, ⟨p, xs, ha, h, hp, r⟩ => ⟨p, xs, ha, h, e _ _ hp, r.mono (Fz.ex e)⟩
  | .dk _, ⟨d, l, ha, h, h1, h2, h3⟩ => ⟨d, l, ha, h, e _ _ h1, e _ _ h2, h3⟩
  | .ns _ _, ⟨a, dx, C, xs, ha, h, h1, h2, h3, n, r⟩ => ⟨a, dx, C, xs, ha, h, e _ _ h1, e _ _ h2, h3, n, r.mono (Fz.ex e)⟩
section
variable {K : PySem.W.Frag} {c : Cn} {S : List Addr} {own : Nat → List Addr} {σ : St} {H H' : Hp} {ρ : List Cell}
theorem SR.ex (r : SR K c S own σ H ρ) (e : Ex H H') : SR K c S own σ H' ρ :=
  ⟨r.len, fun i x h => (r.cell i x h).ex e, r.apart, r.ownS, r.sub, fun a h => by
    have := r.trk a h
    cases q : H a with
    | none => rw [q] at this; cases this
    | some o => rw [e a o q]; rfl, r.trk0, fun a o h n => e a o (r.keep a o h n), r.tS, r.tdk⟩
theorem SR.new {p : Addr} (r : SR K c S own σ H ρ) (h : H p = none) : p ∉ S := fun m => by
  have := r.trk p m
  rw [h] at this; cases this
theorem SR.fresh0 {p : Addr} (r : SR K c S own σ H ρ) (h : H p = none) : c.H0 p = none := by
  cases q : c.H0 p with
  | none => rfl
  | some o =>
    by_cases t : c.T p
    · exact absurd (r.sub p (r.tS p t)) (r.new h)
    · rw [r.keep p o q t] at h; cases h
theorem SR.dat {i : Nat} {x : D} (r : SR K c S own σ H ρ) (h : ρ[i]? = some (.d x)) : ∃ v, σ[i]? = some (some v) ∧ Rep K (Fz S H) v x := by
  obtain ⟨_, v, e, q⟩ := r.cell i _ h
  refine ⟨v, ?_, q⟩
  cases z : σ[i]? with
  | none => rw [z] at e; cases e
  | some o => rw [z] at e; exact congrArg some e
end

/-! ### mirrors: what a piece of the text does to the names -/
abbrev ME := List Cell → Option (D × List Cell)
abbrev MT := List Cell → Option (Bool × List Cell)
abbrev MA := List Cell → Option (List D × List Cell)
inductive Res where
  | nx (ρ : List Cell) | rt (d : D) (ρ : List Cell) | bk (ρ : List Cell) | ct (ρ : List Cell)
abbrev MS := List Cell → Option Res

/-- the reading that a mirror asks -/
def teOf (K : PySem.W.Frag) (m : ME) : TE := fun σ H Q => ∃ c S own ρ d ρ', SR K c S own σ H ρ ∧ m ρ = some (d, ρ') ∧
  ∀ v H', Ex (Fz S H) (Fz S H') → SR K c S own σ H' ρ' → Rep K (Fz S H') v d → Q v H'
def ttOf (K : PySem.W.Frag) (m : MT) : TT := fun σ H Q => ∃ c S own ρ d ρ', SR K c S own σ H ρ ∧ m ρ = some (d, ρ') ∧
  ∀ H', Ex (Fz S H) (Fz S H') → SR K c S own σ H' ρ' → Q d H'
def taOf (K : PySem.W.Frag) (m : MA) : TA := fun σ H Q => ∃ c S own ρ ds ρ', SR K c S own σ H ρ ∧ m ρ = some (ds, ρ') ∧
  ∀ vs H', Ex (Fz S H) (Fz S H') → SR K c S own σ H' ρ' → RepL K (Fz S H') vs ds → Q vs H'
def EndsOk (K : PySem.W.Frag) (c : Cn) (S : List Addr) (H : Hp) (D : Ends) : Res → Prop
  | .nx ρ' => ∀ S' own' σ' H', Ex (Fz S H) (Fz S' H') → SR K c S' own' σ' H' ρ' → D.nx σ' H'
  | .rt d ρ' => ∀ v S' own' σ' H', Ex (Fz S H) (Fz S' H') → SR K c S' own' σ' H' ρ' → Rep K (Fz c.S0 H') v d → D.rt v H'
  | .bk ρ' => ∀ S' own' σ' H', Ex (Fz S H) (Fz S' H') → SR K c S' own' σ' H' ρ' → D.bk σ' H'
  | .ct ρ' => ∀ S' own' σ' H', Ex (Fz S H) (Fz S' H') → SR K c S' own' σ' H' ρ' → D.ct σ' H'
def tsOf (K : PySem.W.Frag) (m : MS) : TS := fun D σ H => ∃ (c : CnL) (S : List Addr) (own : Nat → List Addr) (ρ : List Cell) (r : Res), SR K c S own σ H ρ ∧ m ρ = some r ∧ EndsOk K c S H D r

abbrev PEM (X : Cx) (e : Expr) (m : ME) : Prop := PE X e (teOf X.K m)
abbrev PTM (X : Cx) (e : Expr) (m : MT) : Prop := PT X e (ttOf X.K m)
abbrev PWM (X : Cx) (e : Expr) (m : MT) : Prop := PW X e (ttOf X.K m)
abbrev PAM (X : Cx) (es : List Expr) (m : MA) : Prop := PA X es (taOf X.K m)
abbrev PSM (X : Cx) (st : Stmt) (m : MS) : Prop := PS X st (tsOf X.K m)
abbrev PSSM (X : Cx) (st : List Stmt) (m : MS) : Prop := PSs X st (tsOf X.K m)

section
variable {X : Cx}
theorem PE.to {e : Expr} {t t' : TE} (h : PE X e t) (q : ∀ σ H Q, t' σ H Q → t σ H Q) : PE X e t' := ⟨fun pins s σ H Q I z => h.run pins s σ H Q I (q σ H Q z)⟩
theorem PT.to {e : Expr} {t t' : TT} (h : PT X e t) (q : ∀ σ H Q, t' σ H Q → t σ H Q) : PT X e t' := ⟨fun pins s σ H Q I z => h.run pins s σ H Q I (q σ H Q z)⟩
theorem PW.to {e : Expr} {t t' : TT} (h : PW X e t) (q : ∀ σ H Q, t' σ H Q → t σ H Q) : PW X e t' := ⟨fun wh pins s σ H Q I z => h.run wh pins s σ H Q I (q σ H Q z)⟩
theorem PA.to {e : List Expr} {t t' : TA} (h : PA X e t) (q : ∀ σ H Q, t' σ H Q → t σ H Q) : PA X e t' := ⟨fun pos pins s σ H Q I z => h.run pos pins s σ H Q I (q σ H Q z)⟩
theorem PS.to {e : Stmt} {t t' : TS} (h : PS X e t) (q : ∀ D σ H, t' D σ H → t D σ H) : PS X e t' := ⟨fun pins s σ H D I z => h.run pins s σ H D I (q D σ H z)⟩
theorem PSs.to {e : List Stmt} {t t' : TS} (h : PSs X e t) (q : ∀ D σ H, t' D σ H → t D σ H) : PSs X e t' := ⟨fun pins s σ H D I z => h.run pins s σ H D I (q D σ H z)⟩
end

section
variable {K : PySem.W.Frag} {c : Cn} {S : List Addr} {own : Nat → List Addr} {σ : St} {H H' : Hp} {ρ ρ' : List Cell}
theorem SR.enter (r : SR K c S own σ H ρ) : SR K ⟨H, S, fun a => ∃ i, a ∈ own i, False, []⟩ S own σ H ρ :=
  ⟨r.len, r.cell, r.apart, fun i a h => ⟨(r.ownS i a h).1, .inl ⟨i, h⟩⟩, fun _ h => h, r.trk, r.trk, fun _ _ h _ => h, fun a ⟨i, h⟩ => (r.ownS i a h).1, False.elim⟩
theorem SR.leave (r : SR K c S own σ H ρ) (q : SR K ⟨H, S, fun a => ∃ i, a ∈ own i, False, []⟩ S own σ H' ρ') : SR K c S own σ H' ρ' :=
  ⟨q.len, q.cell, q.apart, r.ownS, r.sub, q.trk, r.trk0, fun a o h n => q.keep a o (r.keep a o h n) (fun ⟨i, m⟩ => (r.ownS i a m).2.elim n fun z => by rw [h] at z; cases z), r.tS, r.tdk⟩
theorem teOf.mk {m : ME} {d : D} {Q : VK} (r : SR K c S own σ H ρ) (hm : m ρ = some (d, ρ')) (k : ∀ v H', Ex (Fz S H) (Fz S H') → SR K c S own σ H' ρ' → Rep K (Fz S H') v d → (∀ a o, (∀ i, a ∉ own i) → H a = some o → H' a = some o) → Q v H') : teOf K m σ H Q :=
  ⟨_, S, own, ρ, d, ρ', r.enter, hm, fun v H' e q z => k v H' e (r.leave q) z fun a o n h => q.keep a o h fun ⟨i, m⟩ => n i m⟩
theorem ttOf.mk {m : MT} {d : Bool} {Q : Bool → Hp → Prop} (r : SR K c S own σ H ρ) (hm : m ρ = some (d, ρ')) (k : ∀ H', Ex (Fz S H) (Fz S H') → SR K c S own σ H' ρ' → (∀ a o, (∀ i, a ∉ own i) → H a = some o → H' a = some o) → Q d H') : ttOf K m σ H Q :=
  ⟨_, S, own, ρ, d, ρ', r.enter, hm, fun H' e q => k H' e (r.leave q) fun a o n h => q.keep a o h fun ⟨i, m⟩ => n i m⟩
end

/-! ### expressions -/
def mVar (i : Nat) : ME := fun ρ => match ρ[i]? with
  | some (.d x) => some (x, ρ)
  | _ => none
def mC (d : D) : ME := fun ρ => some (d, ρ)
def mBin (f : D → D → Option D) (ma mb : ME) : ME := fun ρ => (ma ρ).bind fun p => (mb p.2).bind fun q => (f p.1 q.1).map fun d => (d, q.2)
def mUn (f : D → Option D) (ma : ME) : ME := fun ρ => (ma ρ).bind fun p => (f p.1).map fun d => (d, p.2)
def mNil : MA := fun ρ => some ([], ρ)
def mCons (ma : ME) (mr : MA) : MA := fun ρ => (ma ρ).bind fun p => (mr p.2).bind fun q => some (p.1 :: q.1, q.2)
def mApp (f : List D → Option D) (ma : MA) : ME := fun ρ => (ma ρ).bind fun p => (f p.1).map fun d => (d, p.2)

section
variable {K : PySem.W.Frag} {ma mb : ME} {m : ME}
theorem em_var {i : Nat} (σ : St) (H : Hp) (Q : VK) : teOf K (mVar i) σ H Q → tVar i σ H Q := by
  rintro ⟨c, S, own, ρ, d, ρ', r, hm, k⟩
  unfold mVar at hm
  split at hm
  · rename_i x hx
    cases hm
    obtain ⟨v, e, q⟩ := r.dat hx
    exact ⟨v, e, k v H (Ex.refl _) r q⟩
  · cases hm
theorem em_c {v : V} {d : D} (hr : ∀ H, Rep K H v d) (σ : St) (H : Hp) (Q : VK) : teOf K (mC d) σ H Q → tC v σ H Q := by
  rintro ⟨c, S, own, ρ, d', ρ', r, hm, k⟩
  cases hm
  exact k v H (Ex.refl _) r (hr _)
/-- an operation on values does f on data -/
def RO (K : PySem.W.Frag) (r : R2) (f : D → D → Option D) : Prop := ∀ (S : List Addr) (H : Hp) (x y : V) (a b d : D) (Q : VK), Rep K (Fz S H) x a → Rep K (Fz S H) y b → f a b = some d → (∀ a ∈ S, (H a).isSome = true) →
  (∀ v H', Ex H H' → Rep K (Fz S H') v d → Q v H') → r x y H Q
def RU (K : PySem.W.Frag) (r : V → Hp → VK → Prop) (f : D → Option D) : Prop := ∀ (S : List Addr) (H : Hp) (x : V) (a d : D) (Q : VK), Rep K (Fz S H) x a → f a = some d → (∀ a ∈ S, (H a).isSome = true) →
  (∀ v H', Ex H H' → Rep K (Fz S H') v d → Q v H') → r x H Q
def RC (K : PySem.W.Frag) (r : List V → Hp → VK → Prop) (f : List D → Option D) : Prop := ∀ (S : List Addr) (H : Hp) (xs : List V) (as : List D) (d : D) (Q : VK), RepL K (Fz S H) xs as → f as = some d → (∀ a ∈ S, (H a).isSome = true) →
  (∀ v H', Ex H H' → Rep K (Fz S H') v d → Q v H') → r xs H Q
theorem em_op {r : R2} {f : D → D → Option D} (hr : RO K r f) (σ : St) (H : Hp) (Q : VK) : teOf K (mBin f ma mb) σ H Q → tOp r (teOf K ma) (teOf K mb) σ H Q := by
  rintro ⟨c, S, own, ρ, d, ρ', sr, hm, k⟩
  unfold mBin at hm
  simp only [Option.bind_eq_some_iff, Option.map_eq_some_iff] at hm
  obtain ⟨⟨a, ρ1⟩, h1, ⟨b, ρ2⟩, h2, d', h3, e⟩ := hm
  cases e
  refine ⟨c, S, own, ρ, a, ρ1, sr, h1, fun v H1 e1 sr1 r1 => ⟨c, S, own, ρ1, b, ρ2, sr1, h2, fun u H2 e2 sr2 r2 => ?_⟩⟩
  exact hr S H2 v u a b d Q (r1.mono e2) r2 h3 sr2.trk fun w H3 e3 r3 => k w H3 ((e1.trans e2).trans (Fz.ex e3)) (sr2.ex e3) r3
theorem em_un {r : V → Hp → VK → Prop} {f : D → Option D} (hr : RU K r f) (σ : St) (H : Hp) (Q : VK) : teOf K (mUn f ma) σ H Q → tUn r (teOf K ma) σ H Q := by
  rintro ⟨c, S, own, ρ, d, ρ', sr, hm, k⟩
  unfold mUn at hm
  simp only [Option.bind_eq_some_iff, Option.map_eq_some_iff] at hm
  obtain ⟨⟨a, ρ1⟩, h1, d', h3, e⟩ := hm
  cases e
  refine ⟨c, S, own, ρ, a, ρ1, sr, h1, fun v H1 e1 sr1 r1 => ?_⟩
  exact hr S H1 v a d Q r1 h3 sr1.trk fun w H3 e3 r3 => k w H3 (e1.trans (Fz.ex e3)) (sr1.ex e3) r3
theorem ea_nil (σ : St) (H : Hp) (Q : List V → Hp → Prop) : taOf K mNil σ H Q → tNil σ H Q := by
  rintro ⟨c, S, own, ρ, d, ρ', sr, hm, k⟩
  cases hm
  exact k [] H (Ex.refl _) sr .nil
theorem ea_cons {mr : MA} (σ : St) (H : Hp) (Q : List V → Hp → Prop) : taOf K (mCons ma mr) σ H Q → tCons (teOf K ma) (taOf K mr) σ H Q := by
  rintro ⟨c, S, own, ρ, d, ρ', sr, hm, k⟩
  unfold mCons at hm
  simp only [Option.bind_eq_some_iff] at hm
  obtain ⟨⟨a, ρ1⟩, h1, ⟨b, ρ2⟩, h2, e⟩ := hm
  cases e
  exact ⟨c, S, own, ρ, a, ρ1, sr, h1, fun v H1 e1 sr1 r1 => ⟨c, S, own, ρ1, b, ρ2, sr1, h2, fun u H2 e2 sr2 r2 => k _ H2 (e1.trans e2) sr2 (.cons (r1.mono e2) r2)⟩⟩
theorem em_cb {r : List V → Hp → VK → Prop} {f : List D → Option D} {mr : MA} (hr : RC K r f) (σ : St) (H : Hp) (Q : VK) : teOf K (mApp f mr) σ H Q → tCB r (taOf K mr) σ H Q := by
  rintro ⟨c, S, own, ρ, d, ρ', sr, hm, k⟩
  unfold mApp at hm
  simp only [Option.bind_eq_some_iff, Option.map_eq_some_iff] at hm
  obtain ⟨⟨a, ρ1⟩, h1, d', h3, e⟩ := hm
  cases e
  refine ⟨c, S, own, ρ, a, ρ1, sr, h1, fun v H1 e1 sr1 r1 => ?_⟩
  exact hr S H1 v a d Q r1 h3 sr1.trk fun w H3 e3 r3 => k w H3 (e1.trans (Fz.ex e3)) (sr1.ex e3) r3
end
theorem nin_of {S : List Addr} {H : Hp} {p : Addr} (t : ∀ a ∈ S, (H a).isSome = true) (h : H p = none) : p ∉ S := fun m => by
  have := t p m
  rw [h] at this; cases this
/-- a new object, made of what is there -/
theorem fz_new {S : List Addr} {H : Hp} {p : Addr} {o : HO} (t : ∀ a ∈ S, (H a).isSome = true) (h : H p = none) : Fz S (upd H p o) p = some o := by
  rw [Fz.out (nin_of t h), upd_same]

/-- a display -/
def dTup (ds : List D) : Option D := if ds.length ≤ sizeLine then some (.tup ds) else none
def dLst (ds : List D) : Option D := if ds.length ≤ sizeLine then some (.lst ds) else none
section
variable {X : Cx}
theorem pem_var (i : Nat) {x : Str} {pos : Pos} (h : PE X (.Name x pos) (tVar i)) : PEM X (.Name x pos) (mVar i) := PE.to h em_var
theorem pem_int {i j pos} : PEM X (.Constant (.int i) j pos) (mC (.int i)) := PE.to pe_int (em_c fun _ => .int i)
theorem pem_bl {i j pos} : PEM X (.Constant (.bool i) j pos) (mC (.bl i)) := PE.to pe_bl (em_c fun _ => .bl i)
theorem pem_str {i j pos} : PEM X (.Constant (.str i) j pos) (mC (.str i)) := PE.to pe_str (em_c fun _ => .str i)
theorem pem_non {j pos} : PEM X (.Constant .none j pos) (mC .non) := PE.to pe_non (em_c fun _ => .non)
theorem pam_nil : PAM X [] mNil := PA.to pa_nil ea_nil
theorem pam_cons {e : Expr} {es : List Expr} {ma : ME} {mr : MA} (ha : PEM X e ma) (hr : PAM X es mr) (hs : starEach (e :: es) X.env = (false, eval e X.env) :: starEach es X.env := by rfl) : PAM X (e :: es) (mCons ma mr) := PA.to (pa_cons ha hr hs) ea_cons
theorem pem_tup {es : List Expr} {mr : MA} {x1 pos} (h : PAM X es mr) : PEM X (.Tuple es x1 pos) (mApp dTup mr) := PE.to (pe_tup h) fun σ H Q q =>
  em_cb (r := fun xs H Q => xs.length ≤ sizeLine ∧ ∀ p, H p = none → Q (.ref p) (upd H p (.tup xs))) (fun S H xs as d Q r h t k => by
    unfold dTup at h
    split at h
    · rename_i hl
      cases h
      exact ⟨by rw [r.length]; exact hl, fun p hp => k _ _ (Ex.new hp) (.tup (SqT.of (fz_new t hp)) (r.mono (Fz.ex (Ex.new hp))))⟩
    · cases h) σ H Q q
theorem pem_lst {es : List Expr} {mr : MA} {pos} (h : PAM X es mr) : PEM X (.List es pos) (mApp dLst mr) := PE.to (pe_lst h) fun σ H Q q =>
  em_cb (r := fun xs H Q => xs.length ≤ sizeLine ∧ ∀ p, H p = none → Q (.ref p) (upd H p (.lst xs))) (fun S H xs as d Q r h t k => by
    unfold dLst at h
    split at h
    · rename_i hl
      cases h
      exact ⟨by rw [r.length]; exact hl, fun p hp => k _ _ (Ex.new hp) (.lst (fz_new t hp) (r.mono (Fz.ex (Ex.new hp))))⟩
    · cases h) σ H Q q
theorem pem_op {op : Operator} {a b : Expr} {ma mb : ME} {r : R2} {f : D → D → Option D} {pos} (ho : OpR X (binaryOp op) r) (hr : RO X.K r f) (ha : PEM X a ma) (hb : PEM X b mb) : PEM X (.BinOp a op b pos) (mBin f ma mb) := PE.to (pe_op ho ha hb) (em_op hr)
theorem pem_cmp {op : CmpOp} {a b : Expr} {ma mb : ME} {r : R2} {f : D → D → Option D} {pos} (ho : OpR X (compareOp op) r) (hr : RO X.K r f) (hm : behindInMarks op b = false) (ha : PEM X a ma) (hb : PEM X b mb) : PEM X (.Compare a [op] [b] pos) (mBin f ma mb) := PE.to (pe_cmpR ho ha hb hm) (em_op hr)
theorem pem_un {op : UnaryOp} {a : Expr} {ma : ME} {r} {f : D → Option D} {pos} (ho : UnR X (unaryOp op) r) (hr : RU X.K r f) (ha : PEM X a ma) : PEM X (.UnaryOp op a pos) (mUn f ma) := PE.to (pe_un ho ha) (em_un hr)
end
end TL

namespace TL
open PySem L2

/-! ### tests, and, or, not, if-else -/
def mTest (ma : ME) : MT := fun ρ => (ma ρ).bind fun p => match p.1 with
  | .bl b => some (b, p.2)
  | _ => none
def mAndT (ta tb : MT) : MT := fun ρ => (ta ρ).bind fun p => if p.1 = true then tb p.2 else some (false, p.2)
def mOrT (ta tb : MT) : MT := fun ρ => (ta ρ).bind fun p => if p.1 = true then some (true, p.2) else tb p.2
def mNotT (ta : MT) : MT := fun ρ => (ta ρ).map fun p => (!p.1, p.2)
def mIfE (t : MT) (a b : ME) : ME := fun ρ => (t ρ).bind fun p => if p.1 = true then a p.2 else b p.2
def mAndV (a b : ME) : ME := fun ρ => (a ρ).bind fun p => match p.1 with
  | .bl k => if k = true then b p.2 else some (.bl false, p.2)
  | _ => none
def mOrV (a b : ME) : ME := fun ρ => (a ρ).bind fun p => match p.1 with
  | .bl k => if k = true then some (.bl true, p.2) else b p.2
  | _ => none
def mNotV (a : ME) : ME := fun ρ => (a ρ).bind fun p => match p.1 with
  | .bl k => some (.bl (!k), p.2)
  | _ => none
def mChain (f g : D → D → Option D) (a b c : ME) : ME := fun ρ => (a ρ).bind fun p => (b p.2).bind fun q => (f p.1 q.1).bind fun z => match z with
  | .bl k => if k = true then (c q.2).bind fun r => (g q.1 r.1).map fun d => (d, r.2) else some (.bl false, q.2)
  | _ => none
section
variable {K : PySem.W.Frag} {ma mb mc : ME} {ta tb : MT} {σ : St} {H : Hp}
theorem em_test {Q : Bool → Hp → Prop} : ttOf K (mTest ma) σ H Q → tTest (teOf K ma) σ H Q := by
  rintro ⟨c, S, own, ρ, d, ρ', sr, hm, k⟩
  unfold mTest at hm
  simp only [Option.bind_eq_some_iff] at hm
  obtain ⟨⟨a, ρ1⟩, h1, h2⟩ := hm
  refine ⟨c, S, own, ρ, a, ρ1, sr, h1, fun v H1 e1 sr1 r1 => ?_⟩
  cases r1 with
  | bl b => cases h2; exact ⟨_, rfl, k H1 e1 sr1⟩
  | _ => cases h2
theorem em_and {Q : Bool → Hp → Prop} : ttOf K (mAndT ta tb) σ H Q → tAnd (ttOf K ta) (ttOf K tb) σ H Q := by
  rintro ⟨c, S, own, ρ, d, ρ', sr, hm, k⟩
  unfold mAndT at hm
  simp only [Option.bind_eq_some_iff] at hm
  obtain ⟨⟨a, ρ1⟩, h1, h2⟩ := hm
  refine ⟨c, S, own, ρ, a, ρ1, sr, h1, fun H1 e1 sr1 => ?_⟩
  cases a with
  | true => rw [if_pos rfl] at h2 ⊢; exact ⟨c, S, own, ρ1, d, ρ', sr1, h2, fun H2 e2 sr2 => k H2 (e1.trans e2) sr2⟩
  | false => rw [if_neg Bool.false_ne_true] at h2 ⊢; cases h2; exact k H1 e1 sr1
theorem em_or {Q : Bool → Hp → Prop} : ttOf K (mOrT ta tb) σ H Q → tOr (ttOf K ta) (ttOf K tb) σ H Q := by
  rintro ⟨c, S, own, ρ, d, ρ', sr, hm, k⟩
  unfold mOrT at hm
  simp only [Option.bind_eq_some_iff] at hm
  obtain ⟨⟨a, ρ1⟩, h1, h2⟩ := hm
  refine ⟨c, S, own, ρ, a, ρ1, sr, h1, fun H1 e1 sr1 => ?_⟩
  cases a with
  | false => rw [if_neg Bool.false_ne_true] at h2 ⊢; exact ⟨c, S, own, ρ1, d, ρ', sr1, h2, fun H2 e2 sr2 => k H2 (e1.trans e2) sr2⟩
  | true => rw [if_pos rfl] at h2 ⊢; cases h2; exact k H1 e1 sr1
theorem em_not {Q : Bool → Hp → Prop} : ttOf K (mNotT ta) σ H Q → tNot (ttOf K ta) σ H Q := by
  rintro ⟨c, S, own, ρ, d, ρ', sr, hm, k⟩
  unfold mNotT at hm
  simp only [Option.map_eq_some_iff] at hm
  obtain ⟨⟨a, ρ1⟩, h1, h2⟩ := hm
  cases h2
  exact ⟨c, S, own, ρ, a, ρ1, sr, h1, fun H1 e1 sr1 => k H1 e1 sr1⟩
theorem em_if {Q : VK} : teOf K (mIfE ta ma mb) σ H Q → tIf (ttOf K ta) (teOf K ma) (teOf K mb) σ H Q := by
  rintro ⟨c, S, own, ρ, d, ρ', sr, hm, k⟩
  unfold mIfE at hm
  simp only [Option.bind_eq_some_iff] at hm
  obtain ⟨⟨a, ρ1⟩, h1, h2⟩ := hm
  refine ⟨c, S, own, ρ, a, ρ1, sr, h1, fun H1 e1 sr1 => ?_⟩
  cases a with
  | true => rw [if_pos rfl] at h2 ⊢; exact ⟨c, S, own, ρ1, d, ρ', sr1, h2, fun v H2 e2 sr2 => k v H2 (e1.trans e2) sr2⟩
  | false => rw [if_neg Bool.false_ne_true] at h2 ⊢; exact ⟨c, S, own, ρ1, d, ρ', sr1, h2, fun v H2 e2 sr2 => k v H2 (e1.trans e2) sr2⟩
theorem em_andV {Q : VK} : teOf K (mAndV ma mb) σ H Q → tAndV (teOf K ma) (teOf K mb) σ H Q := by
  rintro ⟨c, S, own, ρ, d, ρ', sr, hm, k⟩
  unfold mAndV at hm
  simp only [Option.bind_eq_some_iff] at hm
  obtain ⟨⟨a, ρ1⟩, h1, h2⟩ := hm
  refine ⟨c, S, own, ρ, a, ρ1, sr, h1, fun v H1 e1 sr1 r1 => ?_⟩
  cases r1 with
  | bl b =>
    refine ⟨b, rfl, ?_⟩
    cases b with
    | true => simp only [if_true] at h2 ⊢; exact ⟨c, S, own, ρ1, d, ρ', sr1, h2, fun v H2 e2 sr2 => k v H2 (e1.trans e2) sr2⟩
    | false => simp only [Bool.false_eq_true, if_false] at h2 ⊢; cases h2; exact k _ H1 e1 sr1 (.bl _)
  | _ => cases h2
theorem em_orV {Q : VK} : teOf K (mOrV ma mb) σ H Q → tOrV (teOf K ma) (teOf K mb) σ H Q := by
  rintro ⟨c, S, own, ρ, d, ρ', sr, hm, k⟩
  unfold mOrV at hm
  simp only [Option.bind_eq_some_iff] at hm
  obtain ⟨⟨a, ρ1⟩, h1, h2⟩ := hm
  refine ⟨c, S, own, ρ, a, ρ1, sr, h1, fun v H1 e1 sr1 r1 => ?_⟩
  cases r1 with
  | bl b =>
    refine ⟨b, rfl, ?_⟩
    cases b with
    | false => simp only [Bool.false_eq_true, if_false] at h2 ⊢; exact ⟨c, S, own, ρ1, d, ρ', sr1, h2, fun v H2 e2 sr2 => k v H2 (e1.trans e2) sr2⟩
    | true => simp only [if_true] at h2 ⊢; cases h2; exact k _ H1 e1 sr1 (.bl _)
  | _ => cases h2
theorem em_notV {Q : VK} : teOf K (mNotV ma) σ H Q → tNotV (teOf K ma) σ H Q := by
  rintro ⟨c, S, own, ρ, d, ρ', sr, hm, k⟩
  unfold mNotV at hm
  simp only [Option.bind_eq_some_iff] at hm
  obtain ⟨⟨a, ρ1⟩, h1, h2⟩ := hm
  refine ⟨c, S, own, ρ, a, ρ1, sr, h1, fun v H1 e1 sr1 r1 => ?_⟩
  cases r1 with
  | bl b => cases h2; exact ⟨b, rfl, k _ H1 e1 sr1 (.bl _)⟩
  | _ => cases h2
theorem em_chain {r r' : R2} {f g : D → D → Option D} (hr : RO K r f) (hr' : RO K r' g) {Q : VK} : teOf K (mChain f g ma mb mc) σ H Q → tChain r r' (teOf K ma) (teOf K mb) (teOf K mc) σ H Q := by
  rintro ⟨c, S, own, ρ, d, ρ', sr, hm, k⟩
  unfold mChain at hm
  simp only [Option.bind_eq_some_iff] at hm
  obtain ⟨⟨a, ρ1⟩, h1, ⟨b, ρ2⟩, h2, z, h3, h4⟩ := hm
  refine ⟨c, S, own, ρ, a, ρ1, sr, h1, fun v H1 e1 sr1 r1 => ⟨c, S, own, ρ1, b, ρ2, sr1, h2, fun u H2 e2 sr2 r2 => ?_⟩⟩
  refine hr S H2 v u a b z _ (r1.mono e2) r2 h3 sr2.trk fun w H3 e3 r3 => ?_
  cases r3 with
  | bl kk =>
    refine ⟨kk, rfl, ?_⟩
    cases kk with
    | true =>
      simp only [if_true, Option.bind_eq_some_iff, Option.map_eq_some_iff] at h4 ⊢
      obtain ⟨⟨x3, ρ3⟩, h5, d', h6, e⟩ := h4
      cases e
      have es := (e1.trans e2).trans (Fz.ex (S := S) e3)
      exact ⟨c, S, own, ρ2, x3, ρ3, sr2.ex e3, h5, fun y H4 e4 sr4 r4 => hr' S H4 u y b x3 d Q ((r2.mono (Fz.ex e3)).mono e4) r4 h6 sr4.trk fun w' H5 e5 r5 => k w' H5 ((es.trans e4).trans (Fz.ex e5)) (sr4.ex e5) r5⟩
    | false =>
      simp only [Bool.false_eq_true, if_false] at h4 ⊢
      cases h4
      exact k _ H3 ((e1.trans e2).trans (Fz.ex e3)) (sr2.ex e3) (.bl _)
  | _ => cases h4
end
section
variable {X : Cx} {a b e : Expr} {rest : List Expr} {ma mb mc : ME} {ta tb : MT} {pos : Pos}
theorem ptm_val (h : PEM X e ma) (he : ∀ whole, isTrue e X.env whole = (do let v ← whole; standAt e.pos; holding [v] (truthy v)) := by intro _; rfl) : PTM X e (mTest ma) := PT.to (pt_val h he) fun _ _ _ q => em_test q
theorem ptm_cmp {op : CmpOp} {r : R2} {f : D → D → Option D} (ho : OpR X (compareOp op) r) (hr : RO X.K r f) (hm : behindInMarks op b = false) (ha : PEM X a ma) (hb : PEM X b mb) : PTM X (.Compare a [op] [b] pos) (mTest (mBin f ma mb)) :=
  PT.to (pt_cmpR ho ha hb hm) fun σ H Q q => by
    obtain ⟨c, S, own, ρ, a, ρ1, sr, h1, k⟩ := em_test q
    exact em_op hr σ H _ ⟨c, S, own, ρ, a, ρ1, sr, h1, k⟩
theorem ptm_chain {c : Expr} {op op' : CmpOp} {r r' : R2} {f g : D → D → Option D} (hr : RO X.K r f) (hr' : RO X.K r' g) (h : PT X (.Compare a [op, op'] [b, c] pos) (tTest (tChain r r' (teOf X.K ma) (teOf X.K mb) (teOf X.K mc)))) :
    PTM X (.Compare a [op, op'] [b, c] pos) (mTest (mChain f g ma mb mc)) := PT.to h fun σ H Q q => by
    obtain ⟨c, S, own, ρ, a, ρ1, sr, h1, k⟩ := em_test q
    exact em_chain hr hr' ⟨c, S, own, ρ, a, ρ1, sr, h1, k⟩
theorem pem_chain {c : Expr} {op op' : CmpOp} {r r' : R2} {f g : D → D → Option D} (hr : RO X.K r f) (hr' : RO X.K r' g) (h : PE X (.Compare a [op, op'] [b, c] pos) (tChain r r' (teOf X.K ma) (teOf X.K mb) (teOf X.K mc))) :
    PEM X (.Compare a [op, op'] [b, c] pos) (mChain f g ma mb mc) := PE.to h fun _ _ _ q => em_chain hr hr' q
theorem pwm_and1 (h : PTM X a ta) : PWM X (.BoolOp .And [a] pos) ta := pw_and1 h
theorem pwm_or1 (h : PTM X a ta) : PWM X (.BoolOp .Or [a] pos) ta := pw_or1 h
theorem pwm_and (h : PTM X a ta) (h2 : PWM X (.BoolOp .And (b :: rest) pos) tb) : PWM X (.BoolOp .And (a :: b :: rest) pos) (mAndT ta tb) := PW.to (pw_and h h2) fun _ _ _ q => em_and q
theorem pwm_or (h : PTM X a ta) (h2 : PWM X (.BoolOp .Or (b :: rest) pos) tb) : PWM X (.BoolOp .Or (a :: b :: rest) pos) (mOrT ta tb) := PW.to (pw_or h h2) fun _ _ _ q => em_or q
theorem ptm_w (h : PWM X e ta) : PTM X e ta := PW.pt h
theorem ptm_not (h : PTM X a ta) : PTM X (.UnaryOp .Not a pos) (mNotT ta) := PT.to (pt_not h) fun _ _ _ q => em_not q
theorem pem_if {c : Expr} (hc : PTM X c ta) (ha : PEM X a ma) (hb : PEM X b mb) : PEM X (.IfExp c a b pos) (mIfE ta ma mb) := PE.to (pe_ifExp hc ha hb) fun _ _ _ q => em_if q
theorem pem_one {op} (h : PEM X a ma) : PEM X (.BoolOp op [a] pos) ma := pe_one h
theorem pem_and (ha : PEM X a ma) (hb : PEM X (.BoolOp .And (b :: rest) pos) mb) : PEM X (.BoolOp .And (a :: b :: rest) pos) (mAndV ma mb) := PE.to (pe_and ha hb) fun _ _ _ q => em_andV q
theorem pem_or (ha : PEM X a ma) (hb : PEM X (.BoolOp .Or (b :: rest) pos) mb) : PEM X (.BoolOp .Or (a :: b :: rest) pos) (mOrV ma mb) := PE.to (pe_or ha hb) fun _ _ _ q => em_orV q
theorem pem_not (ha : PEM X a ma) : PEM X (.UnaryOp .Not a pos) (mNotV ma) := PE.to (pe_not ha) fun _ _ _ q => em_notV q
end

/-! ### statements -/
def mSeq (a b : MS) : MS := fun ρ => (a ρ).bind fun r => match r with
  | .nx ρ' => b ρ'
  | r => some r
def mSkip : MS := fun ρ => some (.nx ρ)
def mRet (a : ME) : MS := fun ρ => (a ρ).map fun p => .rt p.1 p.2
def mRetN : MS := fun ρ => some (.rt .non ρ)
def mBrk : MS := fun ρ => some (.bk ρ)
def mCnt : MS := fun ρ => some (.ct ρ)
def mIfS (t : MT) (a b : MS) : MS := fun ρ => (t ρ).bind fun p => if p.1 = true then a p.2 else b p.2
def mDrop (a : ME) : MS := fun ρ => (a ρ).map fun p => .nx p.2
def mNever : MS := fun _ => none
/-- a target: what the store does to the names -/
abbrev MG := D → List Cell → Option (List Cell)
abbrev MGs := List D → List Cell → Option (List Cell)
def mAsg (a : ME) (g : MG) : MS := fun ρ => (a ρ).bind fun p => (g p.1 p.2).map .nx
/-- a slot that owns nothing -/
def plainAt (ρ : List Cell) (i : Nat) : Bool := match ρ[i]? with
  | some (.d _) => true
  | some .no => true
  | _ => false
def gmName (i : Nat) : MG := fun d ρ => if plainAt ρ i = true then some (ρ.set i (.d d)) else none
def gmNil : MGs := fun ds ρ => match ds with
  | [] => some ρ
  | _ => none
def gmCons (g : MG) (gs : MGs) : MGs := fun ds ρ => match ds with
  | d :: ds => (g d ρ).bind fun ρ' => gs ds ρ'
  | [] => none
def gmTup (gs : MGs) (n : Nat) : MG := fun d ρ => match d with
  | .tup ds => if ds.length = n then gs ds ρ else none
  | _ => none
/-- a store of data into names: only slots of ts change, the heap stands -/
def GM (K : PySem.W.Frag) (g : TG) (ts : List Nat) (f : MG) : Prop := ∀ c S own σ H ρ v d ρ' (Q : St → Hp → Prop), SR K c S own σ H ρ → Rep K (Fz S H) v d → f d ρ = some ρ' →
  (∀ own' σ', σ'.length = σ.length → (∀ i, i ∉ ts → σ'[i]? = σ[i]? ∧ ρ'[i]? = ρ[i]? ∧ own' i = own i) → (∀ i a, a ∈ own' i → a ∈ own i) → SR K c S own' σ' H ρ' → Q σ' H) → g v σ H Q
def GMs (K : PySem.W.Frag) (g : TGs) (ts : List Nat) (f : MGs) : Prop := ∀ c S own σ H ρ vs ds ρ' (Q : St → Hp → Prop), SR K c S own σ H ρ → RepL K (Fz S H) vs ds → f ds ρ = some ρ' →
  (∀ own' σ', σ'.length = σ.length → (∀ i, i ∉ ts → σ'[i]? = σ[i]? ∧ ρ'[i]? = ρ[i]? ∧ own' i = own i) → (∀ i a, a ∈ own' i → a ∈ own i) → SR K c S own' σ' H ρ' → Q σ' H) → g vs σ H Q

section
variable {K : PySem.W.Frag} {c : Cn} {S : List Addr} {own : Nat → List Addr} {σ : St} {H : Hp} {ρ : List Cell}
/-- a name is stored: it owns nothing -/
theorem SR.plain {i : Nat} (r : SR K c S own σ H ρ) (h : plainAt ρ i = true) : own i = [] := by
  unfold plainAt at h
  split at h
  · rename_i e; exact (r.cell i _ e).1
  · rename_i e; exact r.cell i _ e
  · cases h
theorem SR.set {i : Nat} {v : V} {d : D} (r : SR K c S own σ H ρ) (hp : own i = []) (q : Rep K (Fz S H) v d) : SR K c S (fun j => if j = i then [] else own j) (σ.set i (some v)) H (ρ.set i (.d d)) := by
  refine ⟨by rw [List.length_set, List.length_set]; exact r.len, fun j x h => ?_, fun j k n a => ?_, fun j a h => ?_, r.sub, r.trk, r.trk0, r.keep, r.tS, fun l => ?_⟩
  · by_cases e : j = i
    · subst e
      have hl : j < ρ.length := by
        have := (List.getElem?_eq_some_iff.mp h).1
        simpa using this
      rw [List.getElem?_set_self hl] at h
      cases h
      refine ⟨if_pos rfl, v, ?_, q⟩
      rw [List.getElem?_set_self (by rw [r.len]; exact hl)]
      rfl
    · rw [List.getElem?_set_ne (fun z => e z.symm)] at h ⊢
      simp only [if_neg e]
      exact r.cell j x h
  · by_cases e : j = i
    · simp only [if_pos e]; intro z; cases z
    · by_cases e2 : k = i
      · simp only [if_neg e, if_pos e2]; intro _ z; cases z
      · simp only [if_neg e, if_neg e2]; exact r.apart j k n a
  · by_cases e : j = i
    · simp only [if_pos e] at h; cases h
    · simp only [if_neg e] at h; exact r.ownS j a h
  · intro n
    have := r.tdk l n
    by_cases e : 0 = i
    · rw [e, hp] at this; exact absurd this.symm n
    · simp only [if_neg e]; exact this
theorem gm_name (i : Nat) : GM K (gName i) [i] (gmName i) := by
  intro c S own σ H ρ v d ρ' Q r q hf k
  unfold gmName at hf
  split at hf
  · rename_i hpl
    cases hf
    refine k _ (σ.set i (some v)) (List.length_set ..) (fun j hj => ?_) (fun j a h => by
      by_cases e : j = i
      · simp only [if_pos e] at h; cases h
      · simp only [if_neg e] at h; exact h) (r.set (r.plain hpl) q)
    have n : i ≠ j := fun e => hj (by rw [e]; exact List.mem_cons_self)
    exact ⟨List.getElem?_set_ne n, List.getElem?_set_ne n, if_neg fun e => n e.symm⟩
  · cases hf
theorem gm_nil : GMs K gNil [] gmNil := by
  intro c S own σ H ρ vs ds ρ' Q r q hf k
  cases q with
  | nil => cases hf; exact ⟨rfl, k own σ rfl (fun j _ => ⟨rfl, rfl, rfl⟩) (fun _ _ h => h) r⟩
  | cons _ _ => cases hf
theorem gm_cons {g : TG} {gs : TGs} {t1 t2 : List Nat} {f : MG} {fs : MGs} (h1 : GM K g t1 f) (h2 : GMs K gs t2 fs) : GMs K (gCons g gs) (t1 ++ t2) (gmCons f fs) := by
  intro c S own σ H ρ vs ds ρ' Q r q hf k
  cases q with
  | nil => cases hf
  | cons q1 q2 =>
    simp only [gmCons, Option.bind_eq_some_iff] at hf
    obtain ⟨ρ1, e1, e2⟩ := hf
    refine ⟨_, _, rfl, h1 c S own σ H ρ _ _ ρ1 _ r q1 e1 fun own1 σ1 l1 k1 o1 r1 => h2 c S own1 σ1 H ρ1 _ _ ρ' _ r1 q2 e2 fun own2 σ2 l2 k2 o2 r2 => ?_⟩
    refine k own2 σ2 (l2.trans l1) (fun j hj => ?_) (fun j a h => o1 j a (o2 j a h)) r2
    have n1 : j ∉ t1 := fun m => hj (List.mem_append_left _ m)
    have n2 : j ∉ t2 := fun m => hj (List.mem_append_right _ m)
    exact ⟨(k2 j n2).1.trans (k1 j n1).1, (k2 j n2).2.1.trans (k1 j n1).2.1, (k2 j n2).2.2.trans (k1 j n1).2.2⟩
theorem gm_tup {gs : TGs} {ts : List Nat} {fs : MGs} {n : Nat} (h : GMs K gs ts fs) : GM K (gTup K n gs) ts (gmTup fs n) := by
  intro c S own σ H ρ v d ρ' Q r q hf k
  cases q with
  | tup hs hl =>
    simp only [gmTup] at hf
    split at hf
    · rename_i e
      exact ⟨_, _, rfl, Fz.le.sqt hs, hl.length.trans e, h c S own σ H ρ _ _ ρ' Q r hl hf k⟩
    · cases hf
  | _ => cases hf
end

section
variable {K : PySem.W.Frag} {D : Ends} {σ : St} {H : Hp}
theorem EndsOk.later {K : PySem.W.Frag} {c : Cn} {S S1 : List Addr} {H H1 : Hp} {D : Ends} (e : Ex (Fz S H) (Fz S1 H1)) : ∀ {r : Res}, EndsOk K c S H D r → EndsOk K c S1 H1 D r
  | .nx _, k => fun S' own' σ' H' e' => k S' own' σ' H' (e.trans e')
  | .rt _ _, k => fun v S' own' σ' H' e' => k v S' own' σ' H' (e.trans e')
  | .bk _, k => fun S' own' σ' H' e' => k S' own' σ' H' (e.trans e')
  | .ct _, k => fun S' own' σ' H' e' => k S' own' σ' H' (e.trans e')
theorem sm_seq {a b : MS} : tsOf K (mSeq a b) D σ H → tSeq (tsOf K a) (tsOf K b) D σ H := by
  rintro ⟨c, S, own, ρ, r, sr, hm, k⟩
  unfold mSeq at hm
  simp only [Option.bind_eq_some_iff] at hm
  obtain ⟨r1, h1, h2⟩ := hm
  refine ⟨c, S, own, ρ, r1, sr, h1, ?_⟩
  cases r1 with
  | nx ρ1 => exact fun S' own' σ' H' e' sr' => ⟨c, S', own', ρ1, r, sr', h2, k.later e'⟩
  | rt d ρ1 => cases h2; exact k
  | bk ρ1 => cases h2; exact k
  | ct ρ1 => cases h2; exact k
theorem sm_skip : tsOf K mSkip D σ H → tNext D σ H := by
  rintro ⟨c, S, own, ρ, r, sr, hm, k⟩
  cases hm
  exact k S own σ H (Ex.refl _) sr
theorem sm_brk : tsOf K mBrk D σ H → tBreak D σ H := by
  rintro ⟨c, S, own, ρ, r, sr, hm, k⟩
  cases hm
  exact k S own σ H (Ex.refl _) sr
theorem sm_cnt : tsOf K mCnt D σ H → tCont D σ H := by
  rintro ⟨c, S, own, ρ, r, sr, hm, k⟩
  cases hm
  exact k S own σ H (Ex.refl _) sr
theorem sm_never : tsOf K mNever D σ H → tNever D σ H := by
  rintro ⟨c, S, own, ρ, r, sr, hm, k⟩
  cases hm
theorem sm_ret {a : ME} : tsOf K (mRet a) D σ H → tRet (teOf K a) D σ H := by
  rintro ⟨c, S, own, ρ, r, sr, hm, k⟩
  simp only [mRet, Option.map_eq_some_iff] at hm
  obtain ⟨⟨d, ρ1⟩, h1, e⟩ := hm
  subst e
  exact ⟨c, S, own, ρ, d, ρ1, sr, h1, fun v H' e' sr' q => k v S own σ H' e' sr' (q.mono (Fz.sub sr'.sub))⟩
theorem sm_retN : tsOf K mRetN D σ H → tRetN D σ H := by
  rintro ⟨c, S, own, ρ, r, sr, hm, k⟩
  cases hm
  exact k .non S own σ H (Ex.refl _) sr .non
theorem sm_drop {a : ME} : tsOf K (mDrop a) D σ H → tDrop (teOf K a) D σ H := by
  rintro ⟨c, S, own, ρ, r, sr, hm, k⟩
  simp only [mDrop, Option.map_eq_some_iff] at hm
  obtain ⟨⟨d, ρ1⟩, h1, e⟩ := hm
  subst e
  exact ⟨c, S, own, ρ, d, ρ1, sr, h1, fun v H' e' sr' q => k S own σ H' e' sr'⟩
theorem sm_if {t : MT} {a b : MS} : tsOf K (mIfS t a b) D σ H → tIfS (ttOf K t) (tsOf K a) (tsOf K b) D σ H := by
  rintro ⟨c, S, own, ρ, r, sr, hm, k⟩
  simp only [mIfS, Option.bind_eq_some_iff] at hm
  obtain ⟨⟨b, ρ1⟩, h1, h2⟩ := hm
  refine ⟨c, S, own, ρ, b, ρ1, sr, h1, fun H' e' sr' => ?_⟩
  cases b with
  | true => rw [if_pos rfl] at h2 ⊢; exact ⟨c, S, own, ρ1, r, sr', h2, k.later e'⟩
  | false => rw [if_neg Bool.false_ne_true] at h2 ⊢; exact ⟨c, S, own, ρ1, r, sr', h2, k.later e'⟩
theorem sm_asg {a : ME} {g : TG} {ts : List Nat} {f : MG} (hg : GM K g ts f) : tsOf K (mAsg a f) D σ H → tAsg (teOf K a) g D σ H := by
  rintro ⟨c, S, own, ρ, r, sr, hm, k⟩
  simp only [mAsg, Option.bind_eq_some_iff, Option.map_eq_some_iff] at hm
  obtain ⟨⟨d, ρ1⟩, h1, ρ2, h2, e⟩ := hm
  subst e
  exact ⟨c, S, own, ρ, d, ρ1, sr, h1, fun v H' e' sr' q => hg c S own σ H' ρ1 v d ρ2 _ sr' q h2 fun own' σ' _ _ _ sr2 => k S own' σ' H' e' sr2⟩
end
section
variable {X : Cx} {st : Stmt} {rest : List Stmt} {a b : MS} {e : Expr} {pos : Pos}
theorem psm_seq (h1 : PSM X st a) (h2 : PSSM X rest b) : PSSM X (st :: rest) (mSeq a b) := PSs.to (pss_cons h1 h2) fun _ _ _ q => sm_seq q
theorem psm_one (h1 : PSM X st a) : PSSM X [st] a := pss_one h1
theorem psm_nil : PSSM X [] mSkip := PSs.to pss_nil fun _ _ _ q => sm_skip q
theorem psm_pass : PSM X (.Pass pos) mSkip := PS.to ps_pass fun _ _ _ q => sm_skip q
theorem psm_brk : PSM X (.Break pos) mBrk := PS.to ps_break fun _ _ _ q => sm_brk q
theorem psm_cnt : PSM X (.Continue pos) mCnt := PS.to ps_continue fun _ _ _ q => sm_cnt q
theorem psm_never : PSM X st mNever := PS.to ps_never fun _ _ _ q => sm_never q
theorem psm_ret {m : ME} (h : PEM X e m) : PSM X (.Return (some e) pos) (mRet m) := PS.to (ps_ret h) fun _ _ _ q => sm_ret q
theorem psm_retN : PSM X (.Return none pos) mRetN := PS.to ps_retN fun _ _ _ q => sm_retN q
theorem psm_expr {m : ME} (h : PEM X e m) (hs : swapsWith e none pos.line X.env = pure false := by rfl) : PSM X (.Expr e pos) (mDrop m) := PS.to (ps_expr h hs) fun _ _ _ q => sm_drop q
theorem psm_if {c : Expr} {p q : List Stmt} {t : MT} (hc : PTM X c t) (ha : PSSM X p a) (hb : PSSM X q b) : PSM X (.If c p q pos) (mIfS t a b) := PS.to (ps_if hc ha hb) fun _ _ _ q => sm_if q
theorem psm_set {i : Nat} {x : Str} {m : ME} {pos' : Pos} (hN : X.N.Nodup) (hi : X.N[i]? = some x) (hx : Loc X.env.scope x) (he : PEM X e m) (hs : swapsWith e (some (.Name x pos')) pos.line X.env = pure false := by rfl)
    (hf : X.fn x = true ∨ X.env.scope.names.lookup x = some .local := by first | exact .inl rfl | exact .inr rfl | assumption) : PSM X (.Assign [.Name x pos'] e pos) (mAsg m (gmName i)) := PS.to (ps_set hN hi hx he hs hf) fun _ _ _ q => sm_asg (gm_name i) q
theorem psm_asg {tg : Expr} {m : ME} {g : TG} {ts : List Nat} {f : MG} (he : PEM X e m) (hg : PG X tg g) (hf : GM X.K g ts f) (hs : swapsWithSole [tg] e pos.line X.env = pure false := by rfl) (hw : swappedStores [tg] e X.env = pure none := by rfl) (h1 : (assignEach [tg] X.env).map (·.2) = [assign tg X.env] := by rfl) :
    PSM X (.Assign [tg] e pos) (mAsg m f) := PS.to (ps_asg he hg hs hw h1) fun _ _ _ q => sm_asg hf q
end
end TL

namespace TL
open PySem L2

/-! ### what is walked -/
abbrev MI := List Cell → Option (List D × List Cell)
structure Wk (K : PySem.W.Frag) (J : It) (S : List Addr) (H : Hp) (ds : List D) : Prop where
  go : ∀ S' H1 i, Ex (Fz S H) (Fz S' H1) → (∀ a ∈ S', (H1 a).isSome = true) → i < ds.length → J.go i H1
  yld : ∀ S' H1 i x H2, Ex (Fz S H) (Fz S' H1) → (∀ a ∈ S', (H1 a).isSome = true) → J.yld i H1 x H2 → ∀ d, ds[i]? = some d → Ex H1 H2 ∧ Rep K (Fz S' H2) x d
  stop : ∀ S' H1, Ex (Fz S H) (Fz S' H1) → J.stop ds.length H1
theorem Wk.later {K : PySem.W.Frag} {J : It} {S S1 : List Addr} {H H1 : Hp} {ds : List D} (w : Wk K J S H ds) (e : Ex (Fz S H) (Fz S1 H1)) : Wk K J S1 H1 ds :=
  ⟨fun S' H2 i e2 => w.go S' H2 i (e.trans e2), fun S' H2 i x H3 e2 => w.yld S' H2 i x H3 (e.trans e2), fun S' H2 e2 => w.stop S' H2 (e.trans e2)⟩
def wiOf (K : PySem.W.Frag) (m : MI) : TI := fun σ H R => ∃ c S own ρ ds ρ', SR K c S own σ H ρ ∧ m ρ = some (ds, ρ') ∧
  ∀ J H', Ex (Fz S H) (Fz S H') → SR K c S own σ H' ρ' → Wk K J S H' ds → R J H'
abbrev PIM (X : Cx) (tg e : Expr) (m : MI) : Prop := PI X tg e (wiOf X.K m)
theorem PI.to {X : Cx} {tg e : Expr} {w w' : TI} (h : PI X tg e w) (q : ∀ σ H R, w' σ H R → w σ H R) : PI X tg e w' := ⟨fun pins s σ H R I z => h.run pins s σ H R I (q σ H R z)⟩
theorem PI.or {X : Cx} {tg e : Expr} {w w' : TI} (h : PI X tg e w) (h' : PI X tg e w') : PI X tg e fun σ H R => w σ H R ∨ w' σ H R :=
  ⟨fun pins s σ H R I z => z.elim (h.run pins s σ H R I) (h'.run pins s σ H R I)⟩

def signs (x : Str) : List D := x.cps.toList.map fun c => .str ⟨#[c]⟩
def dItems : D → Option (List D)
  | .lst ds => some ds
  | .tup ds => some ds
  | .str x => some (signs x)
  | _ => none
def mItems (ma : ME) : MI := fun ρ => (ma ρ).bind fun p => (dItems p.1).map fun ds => (ds, p.2)
def upTo (lo : Int) (n : Nat) : List D := (List.range n).map fun (i : Nat) => .int (lo + (i : Int))
def dRange : List D → Option (List D)
  | [.int j] => if -(2 ^ 62) ≤ j ∧ j < 2 ^ 62 then some (upTo 0 j.toNat) else none
  | [.int i, .int j] => if -(2 ^ 62) ≤ i ∧ i < 2 ^ 62 ∧ -(2 ^ 62) ≤ j ∧ j < 2 ^ 62 then some (upTo i (j - i).toNat) else none
  | _ => none
def mRange (ma : MA) : MI := fun ρ => (ma ρ).bind fun p => (dRange p.1).map fun ds => (ds, p.2)

section
variable {K : PySem.W.Frag} {S : List Addr} {H : Hp}
theorem wk_list {a : Addr} {xs : List V} {ds : List D} (h : SqL K (Fz S H) a xs) (r : RepL K (Fz S H) xs ds) : Wk K (Itl K a) S H ds where
  go := fun S' H1 i e _ hi => by
    obtain ⟨v, hv, _⟩ := r.get (i := i) (d := ds[i]) (by simp [hi])
    exact ⟨xs, v, Fz.le.sql (e.sql h), hv⟩
  yld := fun S' H1 i x H2 e _ y d hd => by
    obtain ⟨rfl, hx⟩ := y
    obtain ⟨v, hv, q⟩ := r.get hd
    have := hx xs (Fz.le.sql (e.sql h))
    rw [hv] at this; cases this
    exact ⟨Ex.refl _, q.mono e⟩
  stop := fun S' H1 e => ⟨xs, Fz.le.sql (e.sql h), Nat.le_of_eq r.length⟩
theorem wk_tup {a : Addr} {xs : List V} {ds : List D} (h : SqT K (Fz S H) a xs) (r : RepL K (Fz S H) xs ds) : Wk K (Itt K a) S H ds where
  go := fun S' H1 i e _ hi => by
    obtain ⟨v, hv, _⟩ := r.get (i := i) (d := ds[i]) (by simp [hi])
    exact ⟨xs, v, Fz.le.sqt (e.sqt h), hv⟩
  yld := fun S' H1 i x H2 e _ y d hd => by
    obtain ⟨rfl, hx⟩ := y
    obtain ⟨v, hv, q⟩ := r.get hd
    have := hx xs (Fz.le.sqt (e.sqt h))
    rw [hv] at this; cases this
    exact ⟨Ex.refl _, q.mono e⟩
  stop := fun S' H1 e => ⟨xs, Fz.le.sqt (e.sqt h), Nat.le_of_eq r.length⟩
theorem wk_str {x : Str} : Wk K (Its x) S H (signs x) where
  go := fun S' H1 i e _ hi => by
    unfold signs at hi
    simp only [List.length_map, Array.length_toList] at hi
    exact hi
  yld := fun S' H1 i v H2 e _ y d hd => by
    obtain ⟨rfl, c, hc, rfl⟩ := y
    unfold signs at hd
    simp only [List.getElem?_map, Array.getElem?_toList, hc, Option.map_some] at hd
    cases hd
    exact ⟨Ex.refl _, .str _⟩
  stop := fun S' H1 e => by
    unfold signs
    simp only [List.length_map, Array.length_toList]
    exact Nat.le_refl _
theorem wk_range {lo : Int} {n : Nat} : Wk K (Itr lo n) S H (upTo lo n) where
  go := fun S' H1 i e _ hi => by
    unfold upTo at hi
    simp only [List.length_map, List.length_range] at hi
    exact hi
  yld := fun S' H1 i v H2 e _ y d hd => by
    obtain ⟨rfl, rfl⟩ := y
    unfold upTo at hd
    simp only [List.getElem?_map, Option.map_eq_some_iff] at hd
    obtain ⟨j, hj, rfl⟩ := hd
    have hi : i < n := by
      have := (List.getElem?_eq_some_iff.mp hj).1
      simpa using this
    have : j = i := by simpa [hi] using hj.symm
    subst this
    exact ⟨Ex.refl _, .int _⟩
  stop := fun S' H1 e => by
    unfold upTo
    simp only [List.length_map, List.length_range]
    exact Nat.le_refl _
end
section
variable {X : Cx} {tg e : Expr} {ma : ME} {mr : MA}
theorem pim_items (h : PEM X e ma) : PIM X tg e (mItems ma) := PI.to ((PI.or (pi_list h) (PI.or (pi_tup h) (pi_str h)))) fun σ H R => by
  rintro ⟨c, S, own, ρ, ds, ρ', sr, hm, k⟩
  simp only [mItems, Option.bind_eq_some_iff, Option.map_eq_some_iff] at hm
  obtain ⟨⟨d, ρ1⟩, h1, ds', h2, e⟩ := hm
  cases e
  cases d with
  | lst es =>
    cases h2
    refine .inl ⟨c, S, own, ρ, _, ρ1, sr, h1, fun v H' e' sr' q => ?_⟩
    cases q with
    | lst ha hl => exact ⟨_, rfl, ⟨_, .inl (.inl (Fz.le _ _ ha))⟩, k _ H' e' sr' (wk_list (SqL.of ha) hl)⟩
  | tup es =>
    cases h2
    refine .inr (.inl ⟨c, S, own, ρ, _, ρ1, sr, h1, fun v H' e' sr' q => ?_⟩)
    cases q with
    | tup ha hl => exact ⟨_, rfl, ⟨_, Fz.le.sqt ha⟩, k _ H' e' sr' (wk_tup ha hl)⟩
  | str x =>
    cases h2
    refine .inr (.inr ⟨c, S, own, ρ, _, ρ1, sr, h1, fun v H' e' sr' q => ?_⟩)
    cases q with
    | str _ => exact ⟨x, rfl, k _ H' e' sr' wk_str⟩
  | _ => cases h2
theorem pim_range1 {a : Expr} {p pos : Pos} (hg : Gl X "range") (hm : X.mg "range" = none) (ha : PAM X [a] mr) (h1 : ∀ ρ ds ρ', mr ρ = some (ds, ρ') → ds.length = 1) (hs : starEach [a] X.env = [(false, eval a X.env)] := by rfl) : PIM X tg (.Call (.Name "range" p) [a] [] pos) (mRange mr) := PI.to (pi_range1 hg hm ha hs) fun σ H R => by
  rintro ⟨c, S, own, ρ, ds, ρ', sr, hm, k⟩
  simp only [mRange, Option.bind_eq_some_iff, Option.map_eq_some_iff] at hm
  obtain ⟨⟨as, ρ1⟩, h2, ds', h3, e⟩ := hm
  cases e
  refine ⟨c, S, own, ρ, as, ρ1, sr, h2, fun vs H' e' sr' q => ?_⟩
  have hl := h1 _ _ _ h2
  cases q with
  | nil => cases hl
  | cons q1 q2 =>
    cases q2 with
    | cons _ _ => cases hl
    | nil =>
      cases q1 with
      | int j =>
        simp only [dRange] at h3
        split at h3
        · rename_i b
          cases h3
          exact ⟨j, rfl, b.1, b.2, k _ H' e' sr' wk_range⟩
        · cases h3
      | _ => cases h3
theorem pim_range2 {a b : Expr} {p pos : Pos} (hg : Gl X "range") (hm : X.mg "range" = none) (ha : PAM X [a, b] mr) (h1 : ∀ ρ ds ρ', mr ρ = some (ds, ρ') → ds.length = 2) (hs : starEach [a, b] X.env = [(false, eval a X.env), (false, eval b X.env)] := by rfl) (hs2 : starEach [b] X.env = [(false, eval b X.env)] := by rfl) : PIM X tg (.Call (.Name "range" p) [a, b] [] pos) (mRange mr) := PI.to (pi_range2 hg hm ha hs hs2) fun σ H R => by
  rintro ⟨c, S, own, ρ, ds, ρ', sr, hm, k⟩
  simp only [mRange, Option.bind_eq_some_iff, Option.map_eq_some_iff] at hm
  obtain ⟨⟨as, ρ1⟩, h2, ds', h3, e⟩ := hm
  cases e
  refine ⟨c, S, own, ρ, as, ρ1, sr, h2, fun vs H' e' sr' q => ?_⟩
  have hl := h1 _ _ _ h2
  cases q with
  | nil => cases hl
  | cons q1 q2 =>
    cases q2 with
    | nil => cases hl
    | cons q2 q3 =>
      cases q3 with
      | cons _ _ => cases hl
      | nil =>
        cases q1 with
        | int i =>
          cases q2 with
          | int j =>
            simp only [dRange] at h3
            split at h3
            · rename_i b
              cases h3
              exact ⟨i, j, rfl, b, k _ H' e' sr' wk_range⟩
            · cases h3
          | _ => cases h3
        | _ => cases h3
end
/-! ### for -/
def forGo (f : MG) (body : MS) : List D → List Cell → Option Res
  | [], ρ => some (.nx ρ)
  | d :: ds, ρ => (f d ρ).bind fun ρ1 => (body ρ1).bind fun r => match r with
    | .nx ρ2 => forGo f body ds ρ2
    | .ct ρ2 => forGo f body ds ρ2
    | .bk ρ2 => some (.nx ρ2)
    | .rt d ρ2 => some (.rt d ρ2)
def mFor (mi : MI) (f : MG) (body : MS) : MS := fun ρ => (mi ρ).bind fun p => forGo f body p.1 p.2
theorem sm_for {K : PySem.W.Frag} {mi : MI} {g : TG} {ts : List Nat} {f : MG} {body : MS} {D : Ends} {σ : St} {H : Hp} (hg : GM K g ts f) : tsOf K (mFor mi f body) D σ H → tFor (wiOf K mi) g (tsOf K body) D σ H := by
  rintro ⟨c, S, own, ρ, r, sr, hm, k⟩
  simp only [mFor, Option.bind_eq_some_iff] at hm
  obtain ⟨⟨ds, ρ1⟩, h1, h2⟩ := hm
  refine ⟨c, S, own, ρ, ds, ρ1, sr, h1, fun J H1 e1 sr1 w => ?_⟩
  have k1 := k.later e1
  refine ⟨fun i m σ' H' => ∃ S' own' ρi, m = ds.length - i ∧ i ≤ ds.length ∧ Ex (Fz S H1) (Fz S' H') ∧ SR K c S' own' σ' H' ρi ∧ forGo f body (ds.drop i) ρi = some r, ⟨_, S, own, ρ1, rfl, Nat.zero_le _, Ex.refl _, sr1, h2⟩, ?_⟩
  rintro i m σ' H' ⟨S', own', ρi, rfl, hi, ei, si, hf⟩
  by_cases hlt : i < ds.length
  · right
    refine ⟨w.go S' H' i ei si.trk hlt, fun σ2 H2 => ∃ S2 own2 ρ2, Ex (Fz S H1) (Fz S2 H2) ∧ SR K c S2 own2 σ2 H2 ρ2 ∧ forGo f body (ds.drop (i + 1)) ρ2 = some r, ?_, ?_⟩
    · rintro σ2 H2 ⟨S2, own2, ρ2, e2, s2, hf2⟩
      exact ⟨ds.length - (i + 1), by omega, S2, own2, ρ2, rfl, hlt, e2, s2, hf2⟩
    · intro x H2 hy
      obtain ⟨e2, q⟩ := w.yld S' H' i x H2 ei si.trk hy ds[i] (by simp [hlt])
      rw [List.drop_eq_getElem_cons hlt] at hf
      simp only [forGo, Option.bind_eq_some_iff] at hf
      obtain ⟨ρ2, f1, r3, f2, f3⟩ := hf
      have ei2 : Ex (Fz S H1) (Fz S' H2) := ei.trans (Fz.ex e2)
      refine hg c S' own' σ' H2 ρi x ds[i] ρ2 _ (si.ex e2) q f1 fun own2 σ2 _ _ _ s2 => ?_
      refine ⟨c, S', own2, ρ2, r3, s2, f2, ?_⟩
      cases r3 with
      | nx ρ3 => exact fun S3 own3 σ3 H3 e3 s3 => ⟨S3, own3, ρ3, ei2.trans e3, s3, f3⟩
      | ct ρ3 => exact fun S3 own3 σ3 H3 e3 s3 => ⟨S3, own3, ρ3, ei2.trans e3, s3, f3⟩
      | bk ρ3 => cases f3; exact fun S3 own3 σ3 H3 e3 s3 => k1 S3 own3 σ3 H3 (ei2.trans e3) s3
      | rt d ρ3 => cases f3; exact fun v S3 own3 σ3 H3 e3 s3 q3 => k1 v S3 own3 σ3 H3 (ei2.trans e3) s3 q3
  · left
    have e : i = ds.length := by omega
    subst e
    rw [List.drop_length] at hf
    cases hf
    exact ⟨w.stop S' H' ei, k1 S' own' σ' H' ei si⟩
/-! ### while -/
def whGo (t : MT) (body : MS) : Nat → List Cell → Option Res
  | 0, _ => none
  | n + 1, ρ => (t ρ).bind fun p => if p.1 = true then (body p.2).bind fun r => match r with
      | .nx ρ2 => whGo t body n ρ2
      | .ct ρ2 => whGo t body n ρ2
      | .bk ρ2 => some (.nx ρ2)
      | .rt d ρ2 => some (.rt d ρ2)
    else some (.nx p.2)
open Classical in
noncomputable def mWhile (t : MT) (body : MS) : MS := fun ρ => if h : ∃ n, (whGo t body n ρ).isSome = true then whGo t body (Classical.choose h) ρ else none
theorem whGo_up {t : MT} {body : MS} : ∀ {n : Nat} {ρ : List Cell} {r : Res}, whGo t body n ρ = some r → whGo t body (n + 1) ρ = some r
  | 0, _, _, h => by cases h
  | n + 1, ρ, r, h => by
    unfold whGo at h ⊢
    simp only [Option.bind_eq_some_iff] at h ⊢
    obtain ⟨⟨b, ρ1⟩, h1, h2⟩ := h
    refine ⟨(b, ρ1), h1, ?_⟩
    cases b with
    | false => exact h2
    | true =>
      simp only [if_true, Option.bind_eq_some_iff] at h2 ⊢
      obtain ⟨r2, h3, h4⟩ := h2
      refine ⟨r2, h3, ?_⟩
      cases r2 with
      | nx _ => exact whGo_up h4
      | ct _ => exact whGo_up h4
      | bk _ => exact h4
      | rt _ _ => exact h4
theorem whGo_le {t : MT} {body : MS} {n m : Nat} {ρ : List Cell} {r : Res} (h : whGo t body n ρ = some r) (l : n ≤ m) : whGo t body m ρ = some r := by
  induction l with
  | refl => exact h
  | step _ ih => exact whGo_up ih
theorem mWhile_of {t : MT} {body : MS} {n : Nat} {ρ : List Cell} {r : Res} (h : whGo t body n ρ = some r) : mWhile t body ρ = some r := by
  have hx : ∃ n, (whGo t body n ρ).isSome = true := ⟨n, by rw [h]; rfl⟩
  unfold mWhile
  rw [dif_pos hx]
  have hc := Classical.choose_spec hx
  generalize Classical.choose hx = m at hc ⊢
  cases q : whGo t body m ρ with
  | none => rw [q] at hc; cases hc
  | some r' =>
    have a := whGo_le q (Nat.le_max_left m n)
    have b := whGo_le h (Nat.le_max_right m n)
    rw [a] at b; exact b
theorem of_mWhile {t : MT} {body : MS} {ρ : List Cell} {r : Res} (h : mWhile t body ρ = some r) : ∃ n, whGo t body n ρ = some r := by
  unfold mWhile at h
  split at h
  · exact ⟨_, h⟩
  · cases h
theorem sm_while {K : PySem.W.Frag} {t : MT} {body : MS} {D : Ends} {σ : St} {H : Hp} : tsOf K (mWhile t body) D σ H → tWhile (ttOf K t) (tsOf K body) D σ H := by
  rintro ⟨c, S, own, ρ, r, sr, hm, k⟩
  obtain ⟨n, hn⟩ := of_mWhile hm
  refine ⟨fun m σ' H' => ∃ S' own' ρi, Ex (Fz S H) (Fz S' H') ∧ SR K c S' own' σ' H' ρi ∧ whGo t body m ρi = some r, ⟨n, S, own, ρ, Ex.refl _, sr, hn⟩, ?_⟩
  rintro m σ' H' ⟨S', own', ρi, ei, si, hf⟩
  cases m with
  | zero => cases hf
  | succ m =>
    unfold whGo at hf
    simp only [Option.bind_eq_some_iff] at hf
    obtain ⟨⟨b, ρ1⟩, h1, h2⟩ := hf
    refine ⟨c, S', own', ρi, b, ρ1, si, h1, fun H1 e1 s1 => ?_⟩
    have ei1 := ei.trans e1
    cases b with
    | false => simp only [Bool.false_eq_true, if_false] at h2 ⊢; cases h2; exact k S' own' σ' H1 ei1 s1
    | true =>
      simp only [if_true, Option.bind_eq_some_iff] at h2 ⊢
      obtain ⟨r3, h3, h4⟩ := h2
      refine ⟨fun σ2 H2 => ∃ S2 own2 ρ2, Ex (Fz S H) (Fz S2 H2) ∧ SR K c S2 own2 σ2 H2 ρ2 ∧ whGo t body m ρ2 = some r, ?_, c, S', own', ρ1, r3, s1, h3, ?_⟩
      · rintro σ2 H2 ⟨S2, own2, ρ2, e2, s2, hf2⟩
        exact ⟨m, Nat.lt_succ_self m, S2, own2, ρ2, e2, s2, hf2⟩
      · cases r3 with
        | nx ρ3 => exact fun S3 own3 σ3 H3 e3 s3 => ⟨S3, own3, ρ3, ei1.trans e3, s3, h4⟩
        | ct ρ3 => exact fun S3 own3 σ3 H3 e3 s3 => ⟨S3, own3, ρ3, ei1.trans e3, s3, h4⟩
        | bk ρ3 => cases h4; exact fun S3 own3 σ3 H3 e3 s3 => k S3 own3 σ3 H3 (ei1.trans e3) s3
        | rt d ρ3 => cases h4; exact fun v S3 own3 σ3 H3 e3 s3 q3 => k v S3 own3 σ3 H3 (ei1.trans e3) s3 q3
section
variable {X : Cx} {tg iter c : Expr} {st : List Stmt} {mi : MI} {body : MS} {pos : Pos}
theorem psm_for {g : TG} {ts : List Nat} {f : MG} (hp : PassesOwn (model X.prog X.w) X.A X.env X.xe) (hc : X.calm = true) (hi : PIM X tg iter mi) (hg : PG X tg g) (hf : GM X.K g ts f) (hb : PSSM X st body) (hs : ∀ x, foldedSetIterable iter X.env x = pure x := by intro _; rfl) :
    PSM X (.For tg iter st [] pos) (mFor mi f body) := PS.to (ps_for hp hc hi hg hb hs) fun _ _ _ q => sm_for hf q
theorem psm_while {t : MT} (hp : PassesOwn (model X.prog X.w) X.A X.env X.xe) (hc : PTM X c t) (hb : PSSM X st body) : PSM X (.While c st [] pos) (mWhile t body) := PS.to (ps_while hp hc hb) fun _ _ _ q => sm_while q
end
end TL

namespace TL
open PySem PySem.Spec L2
open PyProof.Rows (envOfC)

/-! ### defs: no display is being written out around them -/
structure FnG (P : Program) (w : World) (K : PySem.W.Frag) (mg : Str → Option Value) (base : Heap) (CX : CXT) (k : Nat) (f : Addr) (fd : FuncData) (ps : List Str) (sp : Sp) : Prop where
  args : ∀ vs H Q E, sp vs H Q E → vs.length = ps.length
  go : ∀ (A : Around) (outer : List Env) (s : Shared) (H : Hp) (ar : Args) (us : List Value) (vs : List V) (Q : VK) (E : XK), Room k A → A.guards = some [] → Env0 P w K mg base A outer s H → BindsTo s fd ar (ps.zip us) → Vals vs us →
    sp vs H Q E → codeAny (model P w) A (.call (.ref f) ar) (CR CX outer P w H s Q E) s
section
variable {P : Program} {w : World} {K : PySem.W.Frag} {mg : Str → Option Value} {base : Heap} {CX : CXT} {j k : Nat} {f : Addr} {fd : FuncData} {ps : List Str} {sp sp' : Sp}
theorem FnG.of (F : FnOk P w K mg base CX k f fd ps sp) : FnG P w K mg base CX k f fd ps sp := ⟨F.len, fun A outer s H ar us vs Q E hr _ => F.run A outer s H ar us vs Q E hr⟩
theorem FnG.mono (F : FnG P w K mg base CX j f fd ps sp) (h : j ≤ k) : FnG P w K mg base CX k f fd ps sp := ⟨F.args, fun A outer s H ar us vs Q E hr => F.go A outer s H ar us vs Q E (hr.mono h)⟩
theorem FnG.imp (F : FnG P w K mg base CX k f fd ps sp) (h : ∀ vs H Q E, sp' vs H Q E → sp vs H Q E) : FnG P w K mg base CX k f fd ps sp' :=
  ⟨fun vs H Q E q => F.args vs H Q E (h _ _ _ _ q), fun A outer s H ar us vs Q E hr hg he hb hv hs => F.go A outer s H ar us vs Q E hr hg he hb hv (h _ _ _ _ hs)⟩
end
/-- how the written arguments (n by place, then those named ks) come to the parameters: pm tells for each parameter which one -/
structure Bd (fd : FuncData) (ps : List Str) (n : Nat) (ks : List Str) (pm : List Nat) : Prop where
  bind : ∀ (s : Shared) (us ws : List Value), us.length = n → ws.length = ks.length → BindsTo s fd ⟨us, ks.zip ws⟩ (ps.zip (pm.map fun i => (us ++ ws).getD i .none))
theorem Vals.pick {vs : List V} {us : List Value} (r : Vals vs us) : ∀ pm : List Nat, Vals (pm.map fun i => vs.getD i .non) (pm.map fun i => us.getD i .none)
  | [] => .nil
  | i :: pm => by
    refine .cons ?_ (Vals.pick r pm)
    show RelV (vs.getD i .non) (us.getD i .none)
    rw [List.getD_eq_getElem?_getD, List.getD_eq_getElem?_getD]
    cases e : vs[i]? with
    | none => rw [r.none_of e]; exact rfl
    | some v =>
      obtain ⟨u, e2, q⟩ := r.get e
      rw [e2]; exact q
section
variable {X : Cx} {CX : CXT} {k n : Nat} {f C : Addr} {fd : FuncData} {ps ks : List Str} {pm : List Nat} {sp : Sp} {E : XK} {x m : Str} {p pos apos : Pos} {e o : Expr} {es : List Expr} {kws : List Keyword} {ta : TE} {t tk : TA}
theorem run_fnG {pins : List (Addr × Obj)} {σ : L2.St} {H : Hp} {s : Shared} {Q : VK} {us ws : List Value} {vs zs : List V} (F : FnG X.prog X.w X.K X.mg X.base CX k f fd ps sp) (hr : Room k X.A) (hgd : X.A.guards = some []) (hb : Bd fd ps n ks pm) (hx : Passes CX X E)
    (I : Inv X pins σ H s) (r : Vals vs us) (rz : Vals zs ws) (l1 : vs.length = n) (l2 : zs.length = ks.length) (h : sp (pm.map fun i => (vs ++ zs).getD i .non) H Q E) : wpAny (model X.prog X.w) X.A (call (.ref f) us (ks.zip ws)) (EP X pins σ Q) X.xe s := by
  refine wpAny_call (codeAny_mono (F.go X.A X.stack s H ⟨us, ks.zip ws⟩ _ _ Q E hr hgd I.env0 (hb.bind s us ws (by rw [← r.length]; exact l1) (by rw [← rz.length]; exact l2)) (Vals.pick (r.append rz) pm) h) fun r s' hq => ?_)
  match r, hq with
  | .error e, hq => exact hx pins σ H s e s' I hq
  | .ok (.ret u), hq => exact I.after hq
  | .ok .next, hq => exact hq.elim
  | .ok .brk, hq => exact hq.elim
  | .ok .cont, hq => exact hq.elim
/-- f(..) by place and by name -/
def tCallG (n m : Nat) (pm : List Nat) (sp : Sp) (E : XK) (t tk : TA) : TE := fun σ H Q => t σ H fun vs H1 => tk σ H1 fun zs H2 => vs.length = n ∧ zs.length = m ∧ sp (pm.map fun i => (vs ++ zs).getD i .non) H2 Q E
theorem pe_callG (F : FnG X.prog X.w X.K X.mg X.base CX k f fd ps sp) (hr : Room k X.A) (hgd : X.A.guards = some []) (hg : Gl X x) (hm : X.mg x = some (.ref f)) (hk : PySem.W.keepIn X.K (.ref f) = true) (hb : Bd fd ps n [] pm) (hx : Passes CX X E)
    (ha : PA X (e :: es) t) (hdb : (x == ("__debug__" : Str)) = false := by decide) (he : starEach (e :: es) X.env = (false, eval e X.env) :: starEach es X.env := by rfl) (hpl : (backTo pos (starEach es X.env)).any (·.1) = false := by rfl) :
    PE X (.Call (.Name x p) (e :: es) [] pos) (tCallG n 0 pm sp E t tNil) := by
  refine ⟨fun pins s σ H Q I h => wpAny_Call_Name_kw (ld_glob I hg hm ?_ hdb)⟩
  refine PySem.W.callWith_K (h₀ := X.base) I.ok.mod.kin hk (thn (ha.run pos pins s σ H _ I h) fun us s1 q => ?_) he hpl
  obtain ⟨vs, H1, I1, r, l1, l2, q⟩ := q
  exact ⟨I1.kIn, run_fnG (ks := []) (ws := []) F hr hgd hb hx I1 r .nil l1 rfl q⟩
theorem pe_callG0 (F : FnG X.prog X.w X.K X.mg X.base CX k f fd ps sp) (hr : Room k X.A) (hgd : X.A.guards = some []) (hg : Gl X x) (hm : X.mg x = some (.ref f)) (hk : PySem.W.keepIn X.K (.ref f) = true) (hb : Bd fd ps 0 [] pm) (hx : Passes CX X E)
    (hdb : (x == ("__debug__" : Str)) = false := by decide) : PE X (.Call (.Name x p) [] [] pos) (tCallG 0 0 pm sp E tNil tNil) :=
  ⟨fun _ _ _ _ _ I h => wpAny_Call_Name_kw (ld_glob I hg hm (PySem.W.callWith_K0 I.kIn hk (run_fnG (ks := []) (us := []) (ws := []) F hr hgd hb hx I .nil .nil rfl rfl h.2.2)) hdb)⟩
theorem pe_callGK (F : FnG X.prog X.w X.K X.mg X.base CX k f fd ps sp) (hr : Room k X.A) (hgd : X.A.guards = some []) (hg : Gl X x) (hm : X.mg x = some (.ref f)) (hk : PySem.W.keepIn X.K (.ref f) = true) (hb : Bd fd ps n ks pm) (hx : Passes CX X E)
    (ha : PA X (e :: es) t) (hkw : PK X kws tk) (hall : (backToKw pos (keywordEach kws X.env)).all (·.1.isSome) = true := by rfl) (hks : (backToKw pos (keywordEach kws X.env)).filterMap (·.1) = ks := by rfl)
    (hdb : (x == ("__debug__" : Str)) = false := by decide) (he : starEach (e :: es) X.env = (false, eval e X.env) :: starEach es X.env := by rfl)
    (hpl : ((backTo pos (starEach (e :: es) X.env)).any (·.1) || (backToKw pos (keywordEach kws X.env)).any (·.1.isNone)) = false := by rfl) :
    PE X (.Call (.Name x p) (e :: es) kws pos) (tCallG n ks.length pm sp E t tk) := by
  refine ⟨fun pins s σ H Q I h => wpAny_Call_Name_kw (ld_glob I hg hm ?_ hdb)⟩
  refine PySem.W.callWith_KW (h₀ := X.base) I.ok.mod.kin hk hall (thn (ha.run pos pins s σ H _ I h) fun us s1 q => ?_) hpl he
  obtain ⟨vs, H1, I1, r, q⟩ := q
  refine thn (hkw.run pos pins s1 σ H1 _ I1 q) fun ws s2 q => ?_
  obtain ⟨zs, H2, I2, rz, l1, l2, q2⟩ := q
  refine ⟨I2.kIn, ?_⟩
  rw [hks]
  exact run_fnG F hr hgd hb hx I2 r rz l1 l2 q2
theorem pe_callGK0 (F : FnG X.prog X.w X.K X.mg X.base CX k f fd ps sp) (hr : Room k X.A) (hgd : X.A.guards = some []) (hg : Gl X x) (hm : X.mg x = some (.ref f)) (hk : PySem.W.keepIn X.K (.ref f) = true) (hb : Bd fd ps 0 ks pm) (hx : Passes CX X E)
    (hkw : PK X kws tk) (hall : (backToKw pos (keywordEach kws X.env)).all (·.1.isSome) = true := by rfl) (hks : (backToKw pos (keywordEach kws X.env)).filterMap (·.1) = ks := by rfl)
    (hdb : (x == ("__debug__" : Str)) = false := by decide)
    (hpl : ((backTo pos (starEach [] X.env)).any (·.1) || (backToKw pos (keywordEach kws X.env)).any (·.1.isNone)) = false := by rfl) :
    PE X (.Call (.Name x p) [] kws pos) (tCallG 0 ks.length pm sp E tNil tk) := by
  refine ⟨fun pins s σ H Q I h => wpAny_Call_Name_kw (ld_glob I hg hm ?_ hdb)⟩
  refine PySem.W.callWith_KW0 (h₀ := X.base) I.ok.mod.kin hk hall (thn (hkw.run pos pins s σ H _ I h) fun ws s2 q => ?_) hpl
  obtain ⟨zs, H2, I2, rz, l1, l2, q2⟩ := q
  refine ⟨I2.kIn, ?_⟩
  rw [hks]
  exact run_fnG (us := []) F hr hgd hb hx I2 .nil rz rfl l2 q2
end

/-! ### promises in data -/
/-- nothing is changed: f of the arguments -/
def spP (K : PySem.W.Frag) (n : Nat) (f : List D → Option D) : Sp := fun vs H Q _ => ∃ S ds d, vs.length = n ∧ (∀ a ∈ S, (H a).isSome = true) ∧ RepL K (Fz S H) vs ds ∧ f ds = some d ∧ ∀ v H', Ex H H' → Rep K (Fz S H') v d → Q v H'
/-- the deck, the first one, goes on -/
def spD (K : PySem.W.Frag) (n : Nat) (f : Dk → List D → Option (D × Dk)) : Sp := fun vs H Q _ => ∃ S da la ws s ds d s', vs = .ref da :: ws ∧ vs.length = n ∧ (∀ a ∈ S, (H a).isSome = true) ∧ da ∈ S ∧ la ∈ S ∧ DkAt H da la s ∧ RepL K (Fz S H) ws ds ∧ f s ds = some (d, s') ∧
  ∀ v H', (∀ a o, a ≠ da → a ≠ la → H a = some o → H' a = some o) → DkAt H' da la s' → Rep K (Fz S H') v d → Q v H'

def runP (N : Nat) (m : MS) : List D → Option D := fun ds => match m (ds.map Cell.d ++ List.replicate (N - ds.length) .no) with
  | some (.rt d _) => some d
  | some (.nx _) => some .non
  | _ => none
def runD (N : Nat) (m : MS) : Dk → List D → Option (D × Dk) := fun s ds => match m (.dk s :: ds.map Cell.d ++ List.replicate (N - (ds.length + 1)) .no) with
  | some (.rt d (.dk s' :: _)) => some (d, s')
  | some (.nx (.dk s' :: _)) => some (.non, s')
  | _ => none

section
variable {P : Program} {w : World} {K : PySem.W.Frag} {mg : Str → Option Value} {base : Heap} {x qual : Str} {st : Stmt} {f : Addr} {fd : FuncData} {N ps : List Str} {k : Nat}
/-- a def that may be called where nothing is being written out -/
theorem fnG_of {CX : CXT} {sp : Sp} (F : Fun K x qual st f fd) (S : FnScope N ps (defScope st)) (len : ∀ vs H Q E, sp vs H Q E → vs.length = ps.length)
    (hbody : ∀ (cdv : Value) (A : Around) (outer : List Env) (s : Shared) (H : Hp) (vs : List V) (Q : VK) (E : XK), Room k (A.deeper (envOfC qual (defScope st) s.heap.objs.size f cdv)) → (A.deeper (envOfC qual (defScope st) s.heap.objs.size f cdv)).guards = some [] → sp vs H Q E →
      ∃ t, PSs (cxOf CX P w K mg base N qual (defScope st) f cdv A outer s H E) (defBody st) t ∧ t { nx := fun _ H' => Q .non H', rt := Q } (L2.start N vs) H) : FnG P w K mg base CX (k + 1) f fd ps sp := by
  obtain ⟨oc, od, kV, doc, pm, an, cdv, ct, osl, rfl, lk, hcd⟩ := F.ex
  refine ⟨len, fun A outer s H ar us vs Q E hr hgd e0 hb r hsp => ?_⟩
  have hl := len _ _ _ _ hsp
  have kin : K.In s.heap := e0.mod.kin.keeps fun b o e => (e0.bs b o e).1
  have lim : s.heap.NoLimit := e0.mod.nolimit.keeps fun b o e => (e0.bs b o e).1
  have kinds : ∀ y ∈ ps.zip us, (defScope st).names.lookup y.1 = some .local ∨ ((defScope st).names.lookup y.1 = some .cell ∧ ((cellsFrom (s.heap.objs.size + 1) (defScope st).names []).lookup y.1).isSome = true) := by
    rintro ⟨y, v⟩ hy
    rcases S.par y (List.of_mem_zip hy).1 with q | q
    · exact .inl q
    · exact .inr ⟨q, PySem.W.cellsFrom_some _ _ _ (.inl q)⟩
  refine codeAny_call_function hr.depth (kin _ _ lk) rfl S.co S.gen rfl (PySem.W.codeRec_of kin hcd) (hb _ _ _ _ (wpAny_newFunctionEnv_cells S.kind kinds fun env he s1 x => ?_))
  subst he
  obtain ⟨t, ht, hq⟩ := hbody cdv A outer s H vs Q E (hr.deeper _) hgd hsp
  have I : Inv (cxOf CX P w K mg base N _ (defScope st) f cdv A outer s H E) [] (L2.start N vs) H s1 := inv_start S hr.hd e0 hl r x
  refine ⟨lim.keeps x.toInCall.keep, codeAny_func (wpAny_mono (ht.run [] s1 (L2.start N vs) H _ I hq) (fun fl s' hs => ?_) fun _ _ hs => hs)⟩
  match fl, hs with
  | .ret u, ⟨v, σ', H', J, rv, q⟩ => exact ⟨v, H', J.os, J.bare, J.base, J.hok, rv, q⟩
  | .next, ⟨σ', H', J, q⟩ => exact ⟨V.non, H', J.os, J.bare, J.base, J.hok, (rfl : Value.none = Value.none), q⟩
  | .brk, ⟨_, _, _, q⟩ => exact q.elim
  | .cont, ⟨_, _, _, q⟩ => exact q.elim

theorem start_get {N : List Str} {vs : List V} {i : Nat} : (L2.start N vs)[i]?.join = vs[i]? := by
  unfold L2.start
  by_cases h : i < vs.length
  · rw [List.getElem?_append_left (by simpa using h), List.getElem?_map]
    cases vs[i]? <;> rfl
  · rw [List.getElem?_append_right (by simpa using h), List.getElem?_replicate, List.getElem?_eq_none (Nat.le_of_not_lt h)]
    split <;> rfl
theorem sr_start {N : List Str} {vs : List V} {ds : List D} {S : List Addr} {H : Hp} (hl : vs.length ≤ N.length) (t : ∀ a ∈ S, (H a).isSome = true) (r : RepL K (Fz S H) vs ds) :
    SR K (CnL.up ⟨H, S, [], .inl rfl⟩) S (fun _ => []) (L2.start N vs) H (ds.map Cell.d ++ List.replicate (N.length - ds.length) .no) := by
  refine ⟨?_, fun i x h => ?_, fun i j _ a h => (by cases h), fun i a h => (by cases h), fun a h => h, t, t, fun a o h _ => h, fun a h => (by cases h), fun _ n => absurd rfl n⟩
  · unfold L2.start
    simp only [List.length_append, List.length_map, List.length_replicate]
    have := r.length
    omega
  · rw [start_get]
    by_cases hi : i < ds.length
    · rw [List.getElem?_append_left (by simpa using hi), List.getElem?_map] at h
      cases e : ds[i]? with
      | none => rw [e] at h; cases h
      | some d =>
        rw [e] at h; cases h
        obtain ⟨v, e1, q⟩ := r.get e
        exact ⟨rfl, v, e1, q⟩
    · rw [List.getElem?_append_right (by simpa using hi), List.getElem?_replicate] at h
      split at h <;> cases h
      exact rfl
/-- a def that changes nothing -/
theorem fn_pure (F : Fun K x qual st f fd) (S : FnScope N ps (defScope st)) (m : MS)
    (hbody : ∀ (cdv : Value) (A : Around) (outer : List Env) (s : Shared) (H : Hp) (E : XK), Room k (A.deeper (envOfC qual (defScope st) s.heap.objs.size f cdv)) → (A.deeper (envOfC qual (defScope st) s.heap.objs.size f cdv)).guards = some [] →
      PSSM (cxOf CX0 P w K mg base N qual (defScope st) f cdv A outer s H E).nox (defBody st) m) : FnG P w K mg base CX0 (k + 1) f fd ps (spP K ps.length (runP N.length m)) := by
  refine fnG_of F S (fun vs H Q E h => ?_) fun cdv A outer s H vs Q E hr hg h => ?_
  · obtain ⟨_, _, _, e, _⟩ := h
    exact e
  · obtain ⟨T, ds, d, e, t, r, hf, q⟩ := h
    refine ⟨_, (hbody cdv A outer s H E hr hg).nox, ?_⟩
    have hpl : ps.length ≤ N.length := by have := congrArg List.length S.pre; rw [List.length_take] at this; omega
    unfold runP at hf
    split at hf
    · rename_i d' ρ' hm
      cases hf
      exact ⟨_, T, _, _, _, sr_start (by rw [e]; exact hpl) t r, hm, fun v S' own' σ' H' _ s' rv => q v H' (fun a o ha => s'.keep a o ha (fun m => nomatch (show a ∈ ([] : List Addr) from m))) rv⟩
    · rename_i ρ' hm
      cases hf
      exact ⟨_, T, _, _, _, sr_start (by rw [e]; exact hpl) t r, hm, fun S' own' σ' H' _ s' => q .non H' (fun a o ha => s'.keep a o ha (fun m => nomatch (show a ∈ ([] : List Addr) from m))) .non⟩
    · cases hf
theorem sr_startD {N : List Str} {da la : Addr} {ws : List V} {s : Dk} {ds : List D} {S : List Addr} {H : Hp} (hl : ws.length + 1 ≤ N.length) (t : ∀ a ∈ S, (H a).isSome = true) (h1 : da ∈ S) (h2 : la ∈ S) (hd : DkAt H da la s) (r : RepL K (Fz S H) ws ds) :
    SR K (CnL.up ⟨H, S, [da, la], .inr ⟨da, la, hd.2.2, rfl⟩⟩) S (fun i => if i = 0 then [da, la] else []) (L2.start N (.ref da :: ws)) H (.dk s :: ds.map Cell.d ++ List.replicate (N.length - (ds.length + 1)) .no) := by
  refine ⟨?_, fun i x h => ?_, fun i j n a h => ?_, fun i a h => ?_, fun a h => h, t, t, fun a o h _ => h, fun a h => ?_, fun _ _ => rfl⟩
  · unfold L2.start
    simp only [List.length_append, List.length_map, List.length_replicate, List.length_cons]
    have := r.length
    omega
  · rw [start_get]
    cases i with
    | zero =>
      simp only [List.cons_append, List.getElem?_cons_zero] at h
      cases h
      exact ⟨da, la, if_pos rfl, rfl, hd⟩
    | succ i =>
      simp only [List.cons_append, List.getElem?_cons_succ] at h
      simp only [List.getElem?_cons_succ]
      by_cases hi : i < ds.length
      · rw [List.getElem?_append_left (by simpa using hi), List.getElem?_map] at h
        cases e : ds[i]? with
        | none => rw [e] at h; cases h
        | some d =>
          rw [e] at h; cases h
          obtain ⟨v, e1, q⟩ := r.get e
          exact ⟨rfl, v, e1, q⟩
      · rw [List.getElem?_append_right (by simpa using hi), List.getElem?_replicate] at h
        split at h <;> cases h
        exact rfl
  · by_cases e : i = 0
    · have : j ≠ 0 := fun z => n (e.trans z.symm)
      simp only [if_neg this]
      intro z; cases z
    · simp only [if_neg e] at h; cases h
  · by_cases e : i = 0
    · simp only [if_pos e] at h
      refine ⟨?_, .inl h⟩
      simp only [List.mem_cons, List.not_mem_nil, or_false] at h
      rcases h with rfl | rfl
      · exact h1
      · exact h2
    · simp only [if_neg e] at h; cases h
  · have h : a ∈ [da, la] := h
    simp only [List.mem_cons, List.not_mem_nil, or_false] at h
    rcases h with rfl | rfl
    · exact h1
    · exact h2
end
end TL

namespace TL
open PySem L2

def wipeC (ρ : List Cell) : List Nat → List Cell
  | [] => ρ
  | v :: vs => (wipeC ρ vs).set v .no
def backC (ρ ρb : List Cell) : List Nat → List Cell
  | [] => ρb
  | v :: vs => (backC ρ ρb vs).set v (ρ.getD v .no)
def plainC (ρ : List Cell) (vs : List Nat) : Bool := vs.all fun i => plainAt ρ i
def lcGo (f : MG) (mt : MT) (me : ME) (vs : List Nat) : List D → List Cell → Option (List D × List Cell)
  | [], ρ => some ([], ρ)
  | d :: ds, ρ => (f d ρ).bind fun ρ1 => (mt ρ1).bind fun q => if q.1 = true then (me q.2).bind fun r => (lcGo f mt me vs ds (wipeC r.2 vs)).map fun z => (r.1 :: z.1, z.2)
      else lcGo f mt me vs ds (wipeC q.2 vs)
def mLc (mi : MI) (f : MG) (mt : MT) (me : ME) (vs : List Nat) : ME := fun ρ => (mi ρ).bind fun p => if plainC p.2 vs = true then (lcGo f mt me vs p.1 (wipeC p.2 vs)).bind fun z =>
  if z.1.length ≤ sizeLine then some (.lst z.1, backC p.2 z.2 vs) else none else none

theorem wipeC_len (ρ : List Cell) : ∀ vs, (wipeC ρ vs).length = ρ.length
  | [] => rfl
  | v :: vs => by unfold wipeC; rw [List.length_set, wipeC_len ρ vs]
theorem backC_len (ρ ρb : List Cell) : ∀ vs, (backC ρ ρb vs).length = ρb.length
  | [] => rfl
  | v :: vs => by unfold backC; rw [List.length_set, backC_len ρ ρb vs]
theorem wipeC_out {ρ : List Cell} {i : Nat} : ∀ {vs : List Nat}, i ∉ vs → (wipeC ρ vs)[i]? = ρ[i]?
  | [], _ => rfl
  | v :: vs, h => by
    unfold wipeC
    rw [List.getElem?_set_ne (fun e => h (by rw [e]; exact List.mem_cons_self)), wipeC_out fun m => h (List.mem_cons_of_mem _ m)]
theorem wipeC_in {ρ : List Cell} {i : Nat} {x : Cell} : ∀ {vs : List Nat}, i ∈ vs → (wipeC ρ vs)[i]? = some x → x = .no
  | v :: vs, h, e => by
    unfold wipeC at e
    by_cases q : v = i
    · subst q
      by_cases hv : v < (wipeC ρ vs).length
      · rw [List.getElem?_set_self hv] at e; cases e; rfl
      · rw [List.getElem?_eq_none (by simpa using hv)] at e; cases e
    · rw [List.getElem?_set_ne q] at e
      refine wipeC_in ?_ e
      rcases List.mem_cons.mp h with z | z
      · exact absurd z.symm q
      · exact z
theorem backC_out {ρ ρb : List Cell} {i : Nat} : ∀ {vs : List Nat}, i ∉ vs → (backC ρ ρb vs)[i]? = ρb[i]?
  | [], _ => rfl
  | v :: vs, h => by
    unfold backC
    rw [List.getElem?_set_ne (fun e => h (by rw [e]; exact List.mem_cons_self)), backC_out fun m => h (List.mem_cons_of_mem _ m)]
theorem backC_in {ρ ρb : List Cell} {i : Nat} (hl : ρb.length = ρ.length) : ∀ {vs : List Nat}, i ∈ vs → (backC ρ ρb vs)[i]? = ρ[i]?
  | v :: vs, h => by
    unfold backC
    by_cases q : v = i
    · subst q
      by_cases hv : v < ρ.length
      · rw [List.getElem?_set_self (by rw [backC_len, hl]; exact hv), List.getD_eq_getElem?_getD, List.getElem?_eq_getElem hv]
        rfl
      · rw [List.getElem?_eq_none (by rw [List.length_set, backC_len, hl]; omega), List.getElem?_eq_none (by omega)]
    · rw [List.getElem?_set_ne q]
      refine backC_in hl ?_
      rcases List.mem_cons.mp h with z | z
      · exact absurd z.symm q
      · exact z
theorem wipe_in {σ : L2.St} {i : Nat} : ∀ {vs : List Nat}, i ∈ vs → i < σ.length → (wipe σ vs)[i]? = some none
  | v :: vs, h, hi => by
    unfold wipe
    by_cases q : v = i
    · subst q
      rw [List.getElem?_set_self (by rw [wipe_length]; exact hi)]
    · rw [List.getElem?_set_ne q]
      refine wipe_in ?_ hi
      rcases List.mem_cons.mp h with z | z
      · exact absurd z.symm q
      · exact z
theorem wipe_eq {σ σ' : L2.St} {vs : List Nat} (hl : σ'.length = σ.length) (h : ∀ i, i ∉ vs → σ'[i]? = σ[i]?) : wipe σ' vs = wipe σ vs := by
  refine List.ext_getElem? fun i => ?_
  by_cases m : i ∈ vs
  · by_cases hi : i < σ.length
    · rw [wipe_in m hi, wipe_in m (by rw [hl]; exact hi)]
    · rw [List.getElem?_eq_none (by rw [wipe_length]; omega), List.getElem?_eq_none (by rw [wipe_length]; omega)]
  · rw [wipe_out m, wipe_out m]; exact h i m
section
variable {K : PySem.W.Frag} {c : Cn} {S : List Addr} {own own' : Nat → List Addr} {σ σ' : L2.St} {H H' : Hp} {ρ ρ' : List Cell} {vs : List Nat}
/-- the block's names forgotten -/
theorem SR.wipe (r : SR K c S own σ H ρ) (vs : List Nat) (hv : ∀ i ∈ vs, own i = []) : SR K c S own (L2.wipe σ vs) H (wipeC ρ vs) := by
  refine ⟨by rw [wipe_length, wipeC_len]; exact r.len, fun i x h => ?_, r.apart, r.ownS, r.sub, r.trk, r.trk0, r.keep, r.tS, r.tdk⟩
  by_cases m : i ∈ vs
  · rw [wipeC_in m h]; exact hv i m
  · rw [wipe_out m]
    rw [wipeC_out m] at h
    exact r.cell i x h
/-- a new object that is being filled is put aside -/
theorem SR.aside {p : Addr} {o : HO} (r : SR K c S own σ H ρ) (h : H p = none) : SR K c (p :: S) own σ (upd H p o) ρ := by
  have ex : Ex H (upd H p o) := Ex.new h
  refine ⟨r.len, fun i x hx => ?_, r.apart, fun i a ha => ⟨List.mem_cons_of_mem _ (r.ownS i a ha).1, (r.ownS i a ha).2⟩, fun a ha => List.mem_cons_of_mem _ (r.sub a ha), fun a ha => ?_, r.trk0, fun a u ha n => ex a u (r.keep a u ha n), r.tS, r.tdk⟩
  · have q := r.cell i x hx
    cases x with
    | no => exact q
    | d y => obtain ⟨u, v, e, z⟩ := q; exact ⟨u, v, e, z.mono (Fz.upd_new h)⟩
    | ol ds => obtain ⟨a, xs, e1, e2, e3, z⟩ := q; exact ⟨a, xs, e1, e2, ex _ _ e3, z.mono (Fz.upd_new h)⟩
    | od ds => obtain ⟨a, xs, e1, e2, e3, z⟩ := q; exact ⟨a, xs, e1, e2, ex _ _ e3, z.mono (Fz.upd_new h)⟩
    | dk s => obtain ⟨a, b, e1, e2, e3, e4, e5⟩ := q; exact ⟨a, b, e1, e2, ex _ _ e3, ex _ _ e4, e5⟩
    | ns c fs => obtain ⟨a, dx, C, xs, e1, e2, e3, e4, e5, n, z⟩ := q; exact ⟨a, dx, C, xs, e1, e2, ex _ _ e3, ex _ _ e4, e5, n, z.mono (Fz.upd_new h)⟩
  · rcases List.mem_cons.mp ha with rfl | ha
    · rw [upd_same]; rfl
    · have := r.trk a ha
      cases q : H a with
      | none => rw [q] at this; cases this
      | some u => rw [ex a u q]; rfl
/-- an own object that no name holds is changed -/
theorem SR.touch {p : Addr} {o u : HO} (r : SR K c S own σ H ρ) (hp : p ∈ S) (hu : H p = some u) (hn : ∀ i, p ∉ own i) (hk : c.H0 p = none) : SR K c S own σ (upd H p o) ρ := by
  have fz : Fz S (upd H p o) = Fz S H := Fz.upd_own hp
  refine ⟨r.len, fun i x hx => ?_, r.apart, r.ownS, r.sub, fun a ha => ?_, r.trk0, fun a v ha n => ?_, r.tS, r.tdk⟩
  · have q := r.cell i x hx
    cases x with
    | no => exact q
    | d y => obtain ⟨u, v, e, z⟩ := q; exact ⟨u, v, e, by rw [fz]; exact z⟩
    | ol ds =>
      obtain ⟨a, xs, e1, e2, e3, z⟩ := q
      have ne : a ≠ p := fun e => hn i (by rw [e1, e]; exact List.mem_cons_self)
      exact ⟨a, xs, e1, e2, by rw [upd_ne ne]; exact e3, by rw [fz]; exact z⟩
    | od ds =>
      obtain ⟨a, xs, e1, e2, e3, z⟩ := q
      have ne : a ≠ p := fun e => hn i (by rw [e1, e]; exact List.mem_cons_self)
      exact ⟨a, xs, e1, e2, by rw [upd_ne ne]; exact e3, by rw [fz]; exact z⟩
    | dk s =>
      obtain ⟨a, b, e1, e2, e3, e4, e5⟩ := q
      have ne : a ≠ p := fun e => hn i (by rw [e1, e]; exact List.mem_cons_self)
      have ne2 : b ≠ p := fun e => hn i (by rw [e1, e]; exact List.mem_cons_of_mem _ List.mem_cons_self)
      exact ⟨a, b, e1, e2, by rw [upd_ne ne]; exact e3, by rw [upd_ne ne2]; exact e4, e5⟩
    | ns c fs =>
      obtain ⟨a, dx, C, xs, e1, e2, e3, e4, e5, n, z⟩ := q
      have ne : a ≠ p := fun e => hn i (by rw [e1, e]; exact List.mem_cons_self)
      have ne2 : dx ≠ p := fun e => hn i (by rw [e1, e]; exact List.mem_cons_of_mem _ List.mem_cons_self)
      exact ⟨a, dx, C, xs, e1, e2, by rw [upd_ne ne]; exact e3, by rw [upd_ne ne2]; exact e4, e5, n, by rw [fz]; exact z⟩
  · by_cases e : a = p
    · rw [e, upd_same]; rfl
    · rw [upd_ne e]; exact r.trk a ha
  · rw [upd_ne (ne_of_none ha hk)]; exact r.keep a v ha n
theorem CellR.less {p : Addr} {as : List Addr} {o : Option V} : ∀ {x : Cell}, CellR K (p :: S) H as o x → CellR K S H as o x
  | .no, h => h
  | .d _, ⟨u, v, e, q⟩ => ⟨u, v, e, q.mono (Fz.sub fun _ m => List.mem_cons_of_mem _ m)⟩
  | .ol _, ⟨a, xs, e1, e2, e3, q⟩ => ⟨a, xs, e1, e2, e3, q.mono (Fz.sub fun _ m => List.mem_cons_of_mem _ m)⟩
  | .od _, ⟨a, xs, e1, e2, e3, q⟩ => ⟨a, xs, e1, e2, e3, q.mono (Fz.sub fun _ m => List.mem_cons_of_mem _ m)⟩
  | .dk _, q => q
  | .ns _ _, ⟨a, dx, C, xs, e1, e2, e3, e4, e5, n, q⟩ => ⟨a, dx, C, xs, e1, e2, e3, e4, e5, n, q.mono (Fz.sub fun _ m => List.mem_cons_of_mem _ m)⟩
/-- behind the block -/
theorem SR.back {p : Addr} (r0 : SR K c S own σ H ρ) (hv : plainC ρ vs = true) (e : Ex (Fz S H) (Fz S H')) (r : SR K c (p :: S) own' (L2.wipe σ vs) H' ρ') (ho : ∀ i, i ∉ vs → own' i = own i) : SR K c S own σ H' (backC ρ ρ' vs) := by
  have hl : ρ'.length = ρ.length := by rw [← r.len, wipe_length]; exact r0.len
  refine ⟨by rw [backC_len, hl]; exact r0.len, fun i x h => ?_, r0.apart, r0.ownS, r0.sub, fun a ha => r.trk a (List.mem_cons_of_mem _ ha), r0.trk0, r.keep, r.tS, r0.tdk⟩
  by_cases m : i ∈ vs
  · rw [backC_in hl m] at h
    have q := r0.cell i x h
    have pl := List.all_eq_true.mp hv i m
    unfold plainAt at pl
    rw [h] at pl
    cases x with
    | no => exact q
    | d y => obtain ⟨u, v, e1, z⟩ := q; exact ⟨u, v, e1, z.mono e⟩
    | _ => cases pl
  · rw [backC_out m] at h
    have q := (r.cell i x h).less
    rw [wipe_out m, ho i m] at q
    exact q
end
theorem em_lc {K : PySem.W.Frag} {mi : MI} {g : TG} {ts vs : List Nat} {f : MG} {mt : MT} {me : ME} (hg : GM K g ts f) (hts : ∀ i ∈ ts, i ∈ vs) {σ : L2.St} {H : Hp} {Q : VK} : teOf K (mLc mi f mt me vs) σ H Q → tLc (wiOf K mi) g (ttOf K mt) (teOf K me) vs σ H Q := by
  rintro ⟨c, S, own, ρ, d, ρ', sr, hm, k⟩
  simp only [mLc, Option.bind_eq_some_iff] at hm
  obtain ⟨⟨ds, ρ1⟩, h1, h2⟩ := hm
  split at h2
  case isFalse => cases h2
  rename_i hpl
  simp only [Option.bind_eq_some_iff] at h2
  obtain ⟨⟨out, ρb⟩, h3, h4⟩ := h2
  split at h4
  case isFalse => cases h4
  rename_i hsz
  cases h4
  refine ⟨c, S, own, ρ, ds, ρ1, sr, h1, fun J H1 e1 sr1 w p hp => ?_⟩
  have hpS : p ∉ S := sr1.new hp
  have hp0 : c.H0 p = none := sr1.fresh0 hp
  have hown : ∀ i, p ∉ own i := fun i m => hpS (sr1.ownS i p m).1
  have hvs : ∀ i ∈ vs, own i = [] := fun i hi => sr1.plain (List.all_eq_true.mp hpl i hi)
  have w' : Wk K J (p :: S) (upd H1 p (.lst [])) ds := w.later (Fz.upd_new hp)
  refine ⟨fun i m H' => ∃ own' ρi acc as rest, m = ds.length - i ∧ i ≤ ds.length ∧ Ex (Fz (p :: S) (upd H1 p (.lst []))) (Fz (p :: S) H') ∧ SR K c (p :: S) own' (L2.wipe σ vs) H' ρi ∧ (∀ j, j ∉ vs → own' j = own j) ∧ (∀ j, p ∉ own' j) ∧ (∀ j ∈ vs, own' j = []) ∧
    H' p = some (.lst acc) ∧ RepL K (Fz (p :: S) H') acc as ∧ as ++ rest = out ∧ lcGo f mt me vs (ds.drop i) ρi = some (rest, ρb), ?_, ?_⟩
  · exact ⟨_, own, wipeC ρ1 vs, [], [], out, rfl, Nat.zero_le _, Ex.refl _, (sr1.aside hp).wipe vs hvs, fun _ _ => rfl, hown, hvs, upd_same, .nil, rfl, h3⟩
  · rintro i m H' ⟨own', ρi, acc, as, rest, rfl, hi, ei, si, hoi, hpi, hvi, ha, hr, hout, hl⟩
    by_cases hlt : i < ds.length
    · right
      refine ⟨w'.go (p :: S) H' i ei si.trk hlt, fun H2 => ∃ own' ρi acc as rest, Ex (Fz (p :: S) (upd H1 p (.lst []))) (Fz (p :: S) H2) ∧ SR K c (p :: S) own' (L2.wipe σ vs) H2 ρi ∧ (∀ j, j ∉ vs → own' j = own j) ∧ (∀ j, p ∉ own' j) ∧ (∀ j ∈ vs, own' j = []) ∧
        H2 p = some (.lst acc) ∧ RepL K (Fz (p :: S) H2) acc as ∧ as ++ rest = out ∧ lcGo f mt me vs (ds.drop (i + 1)) ρi = some (rest, ρb), ?_, ?_⟩
      · rintro H2 ⟨own2, ρ2, acc2, as2, rest2, a1, a2, a3, a4, a5, a6, a7, a8, a9⟩
        exact ⟨ds.length - (i + 1), by omega, own2, ρ2, acc2, as2, rest2, rfl, hlt, a1, a2, a3, a4, a5, a6, a7, a8, a9⟩
      · intro x H2 hy
        obtain ⟨e2, q⟩ := w'.yld (p :: S) H' i x H2 ei si.trk hy ds[i] (by simp [hlt])
        rw [List.drop_eq_getElem_cons hlt] at hl
        simp only [lcGo, Option.bind_eq_some_iff] at hl
        obtain ⟨ρ2, f1, ⟨b, ρ3⟩, f2, f3⟩ := hl
        have ei2 : Ex (Fz (p :: S) (upd H1 p (.lst []))) (Fz (p :: S) H2) := ei.trans (Fz.ex e2)
        refine hg c (p :: S) own' (L2.wipe σ vs) H2 ρi x ds[i] ρ2 _ (si.ex e2) q f1 fun own2 σ2 hl2 hk2 hn2 s2 => ?_
        have hw : L2.wipe σ2 vs = L2.wipe σ vs := by
          have e := wipe_eq (σ := L2.wipe σ vs) (σ' := σ2) (vs := vs) hl2 fun j hj => (hk2 j fun m => hj (hts j m)).1
          rw [e]
          exact wipe_eq (by rw [wipe_length]) fun j hj => wipe_out hj
        have ho2 : ∀ j, j ∉ vs → own2 j = own j := fun j hj => ((hk2 j fun m => hj (hts j m)).2.2).trans (hoi j hj)
        have hp2 : ∀ j, p ∉ own2 j := fun j m => hpi j (hn2 j p m)
        have hv2 : ∀ j ∈ vs, own2 j = [] := fun j hj => List.eq_nil_iff_forall_not_mem.mpr fun a ha => by have := hn2 j a ha; rw [hvi j hj] at this; cases this
        refine ⟨hw, ttOf.mk s2 f2 fun H3 e3 s3 fr3 => ?_⟩
        have ei3 := ei2.trans e3
        have ha3 : H3 p = some (.lst acc) := fr3 p _ hp2 (e2 p _ ha)
        have hr3 : RepL K (Fz (p :: S) H3) acc as := (hr.mono (Fz.ex e2)).mono e3
        have again : ∀ {H4 : Hp} {ρ4 : List Cell}, SR K c (p :: S) own2 σ2 H4 ρ4 → SR K c (p :: S) own2 (L2.wipe σ vs) H4 (wipeC ρ4 vs) := fun s4 => by
          have := s4.wipe vs hv2
          rw [hw] at this
          exact this
        cases b with
        | false =>
          simp only [Bool.false_eq_true, if_false] at f3 ⊢
          exact ⟨own2, _, acc, as, rest, ei3, again s3, ho2, hp2, hv2, ha3, hr3, hout, f3⟩
        | true =>
          simp only [if_true, Option.bind_eq_some_iff, Option.map_eq_some_iff] at f3 ⊢
          obtain ⟨⟨y, ρ4⟩, f4, ⟨rest', ρ5⟩, f5, ez⟩ := f3
          cases ez
          refine teOf.mk s3 f4 fun v H4 e4 s4 q4 fr4 => ?_
          have ha4 : H4 p = some (.lst acc) := fr4 p _ hp2 ha3
          have fz : Fz (p :: S) (upd H4 p (.lst (acc ++ [v]))) = Fz (p :: S) H4 := Fz.upd_own List.mem_cons_self
          refine ⟨acc, ha4, ?_, own2, _, acc ++ [v], as ++ [y], rest', ?_, (again s4).touch List.mem_cons_self ha4 hp2 hp0, ho2, hp2, hv2, upd_same, ?_, by rw [List.append_assoc]; exact hout, f5⟩
          · have l1 := hr.length
            have l2 := congrArg List.length hout
            rw [List.length_append, List.length_cons] at l2
            have l3 : out.length ≤ sizeLine := hsz
            have l4 : as.length < sizeLine := by omega
            omega
          · rw [fz]; exact ei3.trans e4
          · rw [fz]; exact (hr3.mono e4).snoc q4
    · left
      have e : i = ds.length := by omega
      subst e
      rw [List.drop_length] at hl
      cases hl
      rw [List.append_nil] at hout
      subst hout
      have ex : Ex (Fz S H1) (Fz S H') := ((Fz.upd_new hp).trans ei).trans (Fz.sub fun _ m => List.mem_cons_of_mem _ m)
      exact ⟨w'.stop (p :: S) H' ei, k _ H' (e1.trans ex) (SR.back sr1 hpl ex si hoi) (.lst (by rw [Fz.out hpS]; exact ha) (hr.mono (Fz.sub fun _ m => List.mem_cons_of_mem _ m)))⟩
section
variable {X : Cx} {elt tg iter : Expr} {ifs : List Expr} {scope : Scope} {own : List (Str × Nat)} {pos : Pos} {mi : MI} {g : TG} {ts : List Nat} {f : MG} {mt : MT} {me : ME}
abbrev PTMs (X : Cx) (ifs : List Expr) (t : MT) : Prop := PTs X ifs (ttOf X.K t)
def mYes : MT := fun ρ => some (true, ρ)
theorem ptms_nil : PTMs X [] mYes := ⟨fun pins s σ H Q I h => pts_nil.run pins s σ H Q I (by
  obtain ⟨c, S, own, ρ, d, ρ', sr, hm, k⟩ := h
  cases hm
  exact k H (Ex.refl _) sr)⟩
theorem ptms_one {c : Expr} (h : PTM X c mt) : PTMs X [c] mt := pts_one h
theorem pem_lc (hc : X.calm = true) (hN : X.N.Nodup) (hi : PIM X tg iter mi) (ok : blkC X.N X.env.scope scope own = true)
    (hg : ∀ (s : Shared) (H : Hp) (C : Addr) (cl : List (Str × Addr)) (fp : List Addr), PG (X.blk s H scope (compEnvC scope cl C X.env) fp) tg g) (hf : GM X.K g ts f) (hts : ∀ i ∈ ts, i ∈ own.map (·.2))
    (ht : ∀ (s : Shared) (H : Hp) (C : Addr) (cl : List (Str × Addr)) (fp : List Addr), PTMs (X.blk s H scope (compEnvC scope cl C X.env) fp) ifs mt)
    (he : ∀ (s : Shared) (H : Hp) (C : Addr) (cl : List (Str × Addr)) (fp : List Addr), PEM (X.blk s H scope (compEnvC scope cl C X.env) fp) elt me) (hs : ∀ x, foldedSetIterable iter X.env x = pure x := by intro _; rfl) :
    PEM X (.ListComp elt [⟨tg, iter, ifs, 0⟩] scope pos) (mLc mi f mt me (own.map (·.2))) := PE.to (pe_lc hc hN hi (blkOk_by ok) hg ht he hs) fun _ _ _ q => em_lc hf hts q
end
end TL

namespace TL
open PySem L2

/-! ### data as the library reads it -/
def kP : Key → PyData
  | .inl i => .int i
  | .inr x => .str x
mutual
def D.py : D → Option PyData
  | .non => some .none
  | .bl b => some (.bool b)
  | .int i => some (.int i)
  | .str x => some (.str x)
  | .tup xs => (D.pys xs).map .tuple
  | .lst xs => (D.pys xs).map .list
  | .dct kvs => (D.pyk kvs).map .dict
  | .obj _ _ => none
  | .exc _ _ _ _ => none
  | .scr _ => none
def D.pys : List D → Option (List PyData)
  | [] => some []
  | x :: xs => (D.py x).bind fun p => (D.pys xs).map fun ps => p :: ps
def D.pyk : List (Key × D) → Option (List (PyData × PyData))
  | [] => some []
  | (k, x) :: xs => (D.py x).bind fun p => (D.pyk xs).map fun ps => (kP k, p) :: ps
end
def D.flat : D → Bool
  | .non => true
  | .bl _ => true
  | .int _ => true
  | .str _ => true
  | _ => false

theorem Vals.cons_inv {x : V} {xs : List V} {us : List Value} (r : Vals (x :: xs) us) : ∃ u ws, us = u :: ws ∧ RelV x u ∧ Vals xs ws := by
  cases r with
  | cons a b => exact ⟨_, _, rfl, a, b⟩
theorem KV.cons_inv {x : Key × V} {xs : List (Key × V)} {us : List (Key × Value)} (r : KV (x :: xs) us) : ∃ u ws, us = u :: ws ∧ x.1 = u.1 ∧ RelV x.2 u.2 ∧ KV xs ws := by
  cases r with
  | cons a b => exact ⟨_, _, rfl, a.1, a.2, b⟩
theorem key_reads {h : Heap} {k : Key} {v : Value} (hk : keyIs k v = true) : Reads h v (kP k) [] := by
  rcases keyIs_shape hk with ⟨i, t, rfl, rfl⟩ | ⟨x, t, rfl, rfl⟩
  · exact .int i t
  · exact .str x t
section
variable {X : Cx} {pins : List (Addr × Obj)} {σ : St} {H : Hp} {s : Shared}
mutual
theorem Rep.reads (I : Inv X pins σ H s) : ∀ {d : D} {v : V} {p : PyData} {u : Value}, Rep X.K H v d → d.py = some p → RelV v u → ∃ as, Reads s.heap u p as
  | _, _, _, _, .non, e, r => by cases e; cases r; exact ⟨_, .none⟩
  | _, _, _, _, .bl b, e, r => by cases e; cases r; exact ⟨_, .bool b⟩
  | _, _, _, _, .int i, e, r => by cases e; obtain ⟨t, rfl⟩ := r; exact ⟨_, .int i t⟩
  | _, _, _, _, .str x, e, r => by cases e; obtain ⟨t, rfl⟩ := r; exact ⟨_, .str x t⟩
  | _, _, _, _, .tup hs ha, e, r => by
    simp only [D.py, Option.map_eq_some_iff] at e
    obtain ⟨ps, e1, rfl⟩ := e
    cases r
    obtain ⟨its, rv, ⟨o, ho, hc, n, hd⟩, _⟩ := I.tuple hs
    obtain ⟨as, hr⟩ := RepL.reads I ha e1 rv
    exact ⟨_, .tuple ho hc hd hr⟩
  | _, _, _, _, .lst hs ha, e, r => by
    simp only [D.py, Option.map_eq_some_iff] at e
    obtain ⟨ps, e1, rfl⟩ := e
    cases r
    obtain ⟨its, rv, ⟨o, n, ho, hc, _, hd⟩, _⟩ := I.list (SqL.of hs)
    obtain ⟨as, hr⟩ := RepL.reads I ha e1 rv
    exact ⟨_, .list ho hc hd hr⟩
  | _, _, _, _, .dct hs ha, e, r => by
    simp only [D.py, Option.map_eq_some_iff] at e
    obtain ⟨ps, e1, rfl⟩ := e
    cases r
    obtain ⟨hz, hsy, vs, rk, o, es, ep, ho, hx, hd, _, hp, _⟩ := I.hok _ _ hs
    obtain ⟨as, bs, h1, h2⟩ := RepK.reads I ha e1 rk hp
    exact ⟨_, .dict ho hx.1 hd h1 h2⟩
  | _, _, _, _, .obj _ _ _, e, _ => by simp [D.py] at e
  | _, _, _, _, .exc _ _, e, _ => by simp [D.py] at e
  | _, _, _, _, .exb, e, _ => by simp [D.py] at e
  | _, _, _, _, .scr _, e, _ => by simp [D.py] at e
theorem RepL.reads (I : Inv X pins σ H s) : ∀ {ds : List D} {vs : List V} {ps : List PyData} {us : List Value}, RepL X.K H vs ds → D.pys ds = some ps → Vals vs us → ∃ as, ReadsAll s.heap us ps as
  | _, _, _, _, .nil, e, r => by cases e; cases r; exact ⟨_, .nil⟩
  | _, _, _, _, .cons h t, e, r => by
    simp only [D.pys, Option.bind_eq_some_iff, Option.map_eq_some_iff] at e
    obtain ⟨p, e1, ps, e2, rfl⟩ := e
    obtain ⟨u, ws, rfl, r1, r2⟩ := Vals.cons_inv r
    obtain ⟨as, q1⟩ := Rep.reads I h e1 r1
    obtain ⟨bs, q2⟩ := RepL.reads I t e2 r2
    exact ⟨_, .cons q1 q2⟩
theorem RepK.reads (I : Inv X pins σ H s) : ∀ {ds : List (Key × D)} {vs : List (Key × V)} {ps : List (PyData × PyData)} {us : List (Key × Value)} {es : List DictEntry}, RepK X.K H vs ds → D.pyk ds = some ps → KV vs us → Pairs (mixKind X.prog X.w) es us →
    ∃ as bs, ReadsAll s.heap (es.map (·.key)) (ps.map (·.1)) as ∧ ReadsAll s.heap (es.map (·.val)) (ps.map (·.2)) bs
  | _, _, _, _, _, .nil, e, r, q => by cases e; cases r; cases q; exact ⟨_, _, .nil, .nil⟩
  | _, _, _, _, _, .cons h t, e, r, q => by
    simp only [D.pyk, Option.bind_eq_some_iff, Option.map_eq_some_iff] at e
    obtain ⟨p, e1, ps, e2, rfl⟩ := e
    obtain ⟨u, ws, rfl, r1, r2, r3⟩ := KV.cons_inv r
    cases q with
    | cons k1 k2 k3 =>
      obtain ⟨as, q1⟩ := Rep.reads I h e1 r2
      obtain ⟨bs, cs, q2, q3⟩ := RepK.reads I t e2 r3 k3
      rw [← r1] at k1
      rw [← k2] at q1
      exact ⟨_, _, .cons (key_reads k1) q2, .cons q1 q3⟩
end
/-- a dict of numbers and texts -/
theorem Rep.reads_flat (I : Inv X pins σ H s) {kvs : List (Key × D)} {v : V} {ps : List (PyData × PyData)} {u : Value} (r : Rep X.K H v (.dct kvs)) (e : D.pyk kvs = some ps) (q : RelV v u) (hf : kvs.all (fun kv => kv.2.flat) = true) : ∃ as, Reads s.heap u (.dict ps) as ∧ sysModules ∉ as := by
  cases r with
  | dct hs ha =>
    cases q
    obtain ⟨hz, hsy, vs, rk, o, es, ep, ho, hx, hd, _, hp, _⟩ := I.hok _ _ hs
    have key : ∀ {ds : List (Key × D)} {vs : List (Key × V)} {ps : List (PyData × PyData)} {us : List (Key × Value)} {es : List DictEntry}, ds.all (fun kv => kv.2.flat) = true → RepK X.K H vs ds → D.pyk ds = some ps → KV vs us → Pairs (mixKind X.prog X.w) es us →
        ReadsAll s.heap (es.map (·.key)) (ps.map (·.1)) [] ∧ ReadsAll s.heap (es.map (·.val)) (ps.map (·.2)) [] := by
      intro ds
      induction ds with
      | nil => intro vs ps us es _ h e r q; cases h; cases e; cases r; cases q; exact ⟨.nil, .nil⟩
      | cons d ds ih =>
        intro vs ps us es hf h e r q
        cases h with
        | cons h t =>
          simp only [D.pyk, Option.bind_eq_some_iff, Option.map_eq_some_iff] at e
          obtain ⟨p, e1, ps, e2, rfl⟩ := e
          obtain ⟨u, ws, rfl, r1, r2, r3⟩ := KV.cons_inv r
          simp only [List.all_cons, Bool.and_eq_true] at hf
          cases q with
          | cons k1 k2 k3 =>
            obtain ⟨q2, q3⟩ := ih hf.2 t e2 r3 k3
            rw [← r1] at k1
            have q1 : Reads s.heap u.2 p [] := by
              cases h with
              | non => cases e1; have r2' : u.2 = Value.none := r2; rw [r2']; exact .none
              | bl b => cases e1; have r2' : u.2 = Value.bool b := r2; rw [r2']; exact .bool b
              | int i => cases e1; obtain ⟨t, r2'⟩ := r2; rw [r2']; exact .int i t
              | str x => cases e1; obtain ⟨t, r2'⟩ := r2; rw [r2']; exact .str x t
              | _ => cases hf.1
            rw [← k2] at q1
            exact ⟨ReadsAll.cons (as := []) (bs := []) (key_reads k1) q2, ReadsAll.cons (as := []) (bs := []) q1 q3⟩
    obtain ⟨h1, h2⟩ := key hf ha e rk hp
    refine ⟨_, .dict ho hx.1 hd h1 h2, ?_⟩
    simp only [List.append_nil, List.mem_singleton]
    exact fun z => by rw [z] at hsy; simp at hsy
end
/-! ### comparisons -/
def cmpP (f : PyData → PyData → Option Bool) : D → D → Option D := fun a b => a.py.bind fun p => b.py.bind fun q => if p.depth ≤ 64 then (f p q).map .bl else none
def fEq (p q : PyData) : Option Bool := if p.plain = true ∧ q.plain = true then some (PyData.eqv p q) else none
def fNe (p q : PyData) : Option Bool := if p.plain = true ∧ q.plain = true then some (!PyData.eqv p q) else none
def fOrd (f : PyData → PyData → Bool) (p q : PyData) : Option Bool := match p with
  | .none => none
  | p => if PySem.W.alike p q = true then some (f p q) else none
def dEq := cmpP fEq
def dNe := cmpP fNe
def dLt := cmpP (fOrd fun p q => PySem.W.dataLt p q)
def dGt := cmpP (fOrd fun p q => PySem.W.dataLt q p)
def dLe := cmpP (fOrd fun p q => !PySem.W.dataLt q p)
def dGe := cmpP (fOrd fun p q => !PySem.W.dataLt p q)
def rP (K : PySem.W.Frag) (f : PyData → PyData → Option Bool) : R2 := fun x y H Q => ∃ a b p q k, Rep K H x a ∧ Rep K H y b ∧ a.py = some p ∧ b.py = some q ∧ p.depth ≤ 64 ∧ f p q = some k ∧ Q (.bl k) H
theorem ro_cmp {K : PySem.W.Frag} {f : PyData → PyData → Option Bool} : RO K (rP K f) (cmpP f) := by
  intro S H x y a b d Q ra rb hf t k
  simp only [cmpP, Option.bind_eq_some_iff] at hf
  obtain ⟨p, e1, q, e2, hf⟩ := hf
  split at hf
  · rename_i hd
    simp only [Option.map_eq_some_iff] at hf
    obtain ⟨z, e3, rfl⟩ := hf
    exact ⟨a, b, p, q, z, ra.mono Fz.le, rb.mono Fz.le, e1, e2, hd, e3, k _ H (Ex.refl _) (.bl _)⟩
  · cases hf
section
variable {X : Cx}
theorem opP {op : CmpOp} {f : PyData → PyData → Option Bool} (hu : X.A.units + 64 < cLine)
    (h : ∀ (E : Value → Shared → Prop) (s : Shared) (a b : Value) (p q : PyData) (as bs : List Addr) (k : Bool) (Q : Value → Shared → Prop), Reads s.heap a p as → Reads s.heap b q bs → X.A.units + min p.depth q.depth < cLine → f p q = some k → Q (.bool k) s → wpAny (model X.prog X.w) X.A (compareOp op a b) Q E s) :
    OpR X (compareOp op) (rP X.K f) := by
  rintro pins s σ H x y v u Q I rx ry ⟨a, b, p, q, k, ra, rb, e1, e2, hd, e3, hq⟩
  obtain ⟨as, r1⟩ := Rep.reads I ra e1 rx
  obtain ⟨bs, r2⟩ := Rep.reads I rb e2 ry
  exact h _ s v u p q as bs k _ r1 r2 (by have := Nat.min_le_left p.depth q.depth; omega) e3 ⟨.bl _, H, I, rfl, hq⟩
theorem op_eqP (hu : X.A.units + 64 < cLine) : OpR X (compareOp .Eq) (rP X.K fEq) := opP hu fun E s a b p q as bs k Q r1 r2 hu e hq => by
  unfold fEq at e
  split at e
  · rename_i h; cases e; exact PySem.SeqAt.eq_plain r1 r2 h.1 h.2 hu hq
  · cases e
theorem op_neP (hu : X.A.units + 64 < cLine) : OpR X (compareOp .NotEq) (rP X.K fNe) := opP hu fun E s a b p q as bs k Q r1 r2 hu e hq => by
  unfold fNe at e
  split at e
  · rename_i h; cases e; exact PySem.SeqAt.ne_plain r1 r2 h.1 h.2 hu hq
  · cases e
theorem fOrd_inv {f : PyData → PyData → Bool} {p q : PyData} {k : Bool} (e : fOrd f p q = some k) : p ≠ .none ∧ PySem.W.alike p q = true ∧ k = f p q := by
  cases p with
  | none => cases e
  | _ =>
    simp only [fOrd] at e
    split at e
    · rename_i h; cases e; exact ⟨(by intro z; cases z), h, rfl⟩
    · cases e
theorem op_ltP (hu : X.A.units + 64 < cLine) : OpR X (compareOp .Lt) (rP X.K (fOrd fun p q => PySem.W.dataLt p q)) := opP hu fun E s a b p q as bs k Q r1 r2 hu e hq => by
  obtain ⟨n, al, rfl⟩ := fOrd_inv e; exact PySem.W.lt_data r1 r2 al n hu hq
theorem op_gtP (hu : X.A.units + 64 < cLine) : OpR X (compareOp .Gt) (rP X.K (fOrd fun p q => PySem.W.dataLt q p)) := opP hu fun E s a b p q as bs k Q r1 r2 hu e hq => by
  obtain ⟨n, al, rfl⟩ := fOrd_inv e; exact PySem.W.gt_data r1 r2 al n hu hq
theorem op_leP (hu : X.A.units + 64 < cLine) : OpR X (compareOp .LtE) (rP X.K (fOrd fun p q => !PySem.W.dataLt q p)) := opP hu fun E s a b p q as bs k Q r1 r2 hu e hq => by
  obtain ⟨n, al, rfl⟩ := fOrd_inv e; exact PySem.W.le_data r1 r2 al n hu hq
theorem op_geP (hu : X.A.units + 64 < cLine) : OpR X (compareOp .GtE) (rP X.K (fOrd fun p q => !PySem.W.dataLt p q)) := opP hu fun E s a b p q as bs k Q r1 r2 hu e hq => by
  obtain ⟨n, al, rfl⟩ := fOrd_inv e; exact PySem.W.ge_data r1 r2 al n hu hq
end
/-! ### repr -/
def D.flatDict : D → Bool
  | .dct kvs => kvs.all fun kv => kv.2.flat
  | _ => false
def shows (d : D) (p : PyData) : Bool := p.showable && decide (p.shown.length ≤ sizeLine) && decide (p.depth ≤ 60) && (!p.hasDict || d.flatDict)
def dRepr : List D → Option D
  | [d] => d.py.bind fun p => if shows d p = true then some (.str p.shown) else none
  | _ => none
def rRepr (K : PySem.W.Frag) : List V → Hp → VK → Prop := fun xs H Q => ∃ x d p, xs = [x] ∧ Rep K H x d ∧ d.py = some p ∧ shows d p = true ∧ Q (.str p.shown) H
theorem rc_repr {K : PySem.W.Frag} : RC K (rRepr K) dRepr := by
  intro S H xs as d Q r hf t k
  match as, r, hf with
  | [a], .cons (v := x) r .nil, hf =>
    simp only [dRepr, Option.bind_eq_some_iff] at hf
    obtain ⟨p, e1, hf⟩ := hf
    split at hf
    · rename_i h
      cases hf
      exact ⟨x, a, p, rfl, r.mono Fz.le, e1, h, k _ H (Ex.refl _) (.str _)⟩
    · cases hf
section
variable {X : Cx}
theorem call_reprP (hg : X.A.guards = some []) (hu : X.A.units + 64 < cLine) : CallR X (.builtin "repr") (rRepr X.K) := by
  rintro pins s σ H xs us Q I r ⟨x, d, p, rfl, rd, e, hs, q⟩
  obtain ⟨u, ws, rfl, ru, rw'⟩ := Vals.cons_inv r
  cases rw'
  simp only [shows, Bool.and_eq_true, decide_eq_true_eq, Bool.or_eq_true, Bool.not_eq_true'] at hs
  obtain ⟨⟨⟨h1, h2⟩, h3⟩, h4⟩ := hs
  have big : ∀ a, u = .ref a → wpAny (model X.prog X.w) X.A (call (.builtin "repr") [u]) (EP X pins σ Q) X.xe s := by
    rintro a rfl
    have fin : ∀ (as : List Addr), Reads s.heap (.ref a) p as → (p.hasDict = true → sysModules ∉ as) → wpAny (model X.prog X.w) X.A (call (.builtin "repr") [.ref a]) (EP X pins σ Q) X.xe s := fun as ra hn =>
      PySem.repr_of_reads' ra h1 hn hg (by omega) (fun _ _ e => e) (fun h' t tk hk => ⟨.str p.shown, H, I.kept hk, ⟨t, rfl⟩, q⟩) h2
    rcases h4 with h4 | h4
    · obtain ⟨as, ra⟩ := Rep.reads I rd e ru
      exact fin as ra fun z => by rw [h4] at z; cases z
    · cases d with
      | dct kvs =>
        have e' := e
        simp only [D.py, Option.map_eq_some_iff] at e'
        obtain ⟨ps, e1, rfl⟩ := e'
        obtain ⟨as, ra, hn⟩ := Rep.reads_flat I rd e1 ru h4
        exact fin as ra fun _ => hn
      | _ => cases h4
  cases rd with
  | non => cases e; cases ru; exact PySem.P.repr_of_none ⟨.str _, H, I.tok _, ⟨_, rfl⟩, by simpa only [PyData.shown] using q⟩
  | bl b => cases e; cases ru; exact PySem.P.repr_of_bool ⟨.str _, H, I.tok _, ⟨_, rfl⟩, by simpa only [PyData.shown] using q⟩
  | int i => cases e; obtain ⟨t, rfl⟩ := ru; exact PySem.P.repr_of_int (by simpa [PyData.showable] using h1) ⟨.str _, H, I.tok _, ⟨_, rfl⟩, by simpa only [PyData.shown] using q⟩
  | str z => cases e; obtain ⟨t, rfl⟩ := ru; exact PySem.P.repr_of_str ⟨.str _, H, I.tok _, ⟨_, rfl⟩, by simpa only [PyData.shown] using q⟩ (by simpa only [PyData.shown] using h2)
  | tup _ _ => cases ru; exact big _ rfl
  | lst _ _ => cases ru; exact big _ rfl
  | dct _ _ => cases ru; exact big _ rfl
  | obj _ _ => cases ru; exact big _ rfl
  | exc _ _ => cases ru; exact big _ rfl
  | exb => cases ru; exact big _ rfl
  | scr _ => cases ru; exact big _ rfl
end
end TL

namespace TL
open PySem L2

/-! ### arithmetic, texts, lists, tuples -/
def mulOk (i j : Int) : Bool := decide (i.natAbs.log2 + j.natAbs.log2 < 1000000)
def dAdd : D → D → Option D
  | .int i, .int j => some (.int (i + j))
  | .str a, .str b => if a.length + b.length ≤ sizeLine then some (.str (a ++ b)) else none
  | .lst a, .lst b => if a.length + b.length ≤ sizeLine then some (.lst (a ++ b)) else none
  | .tup a, .tup b => if a.length + b.length ≤ sizeLine then some (.tup (a ++ b)) else none
  | _, _ => none
def dSub : D → D → Option D
  | .int i, .int j => some (.int (i - j))
  | _, _ => none
def dFdiv : D → D → Option D
  | .int i, .int j => if 0 < j ∧ j.natAbs.log2 < 9000 then some (.int (i / j)) else none
  | _, _ => none
def dMod : D → D → Option D
  | .int i, .int j => if 0 < j then some (.int (i % j)) else none
  | _, _ => none
def dPow : D → D → Option D
  | .int i, .int j => if 0 ≤ j ∧ j ≤ 1000000 ∧ i.natAbs < 2 ^ 64 then some (.int (i ^ j.toNat)) else none
  | _, _ => none
def strMul (x : Str) (n : Nat) : Str := ⟨(List.replicate n x.cps.toList).flatten.toArray⟩
def dMul : D → D → Option D
  | .int i, .int j => if mulOk i j = true then some (.int (i * j)) else none
  | _, _ => none
def rAddA (K : PySem.W.Frag) : R2 := fun x y H Q => (rI0 (fun i j => .int (i + j)) x y H Q ∨ (∃ i j, x = .str i ∧ y = .str j ∧ i.length + j.length ≤ sizeLine ∧ Q (.str (i ++ j)) H)) ∨ (rCat x y H Q ∨ rCatA K x y H Q)
section
variable {X : Cx}
theorem op_addA : OpR X (binaryOp .Add) (rAddA X.K) := OpR.or (OpR.or op_add op_add_str) (OpR.or op_cat op_catA)
end
section
variable {K : PySem.W.Frag}
theorem ro_add : RO K (rAddA K) dAdd := by
  intro S H x y a b d Q ra rb hf t k
  cases ra with
  | int i =>
    cases rb with
    | int j => cases hf; exact .inl (.inl ⟨i, j, rfl, rfl, k _ H (Ex.refl _) (.int _)⟩)
    | _ => cases hf
  | str x =>
    cases rb with
    | str y =>
      simp only [dAdd] at hf
      split at hf
      · rename_i h; cases hf; exact .inl (.inr ⟨x, y, rfl, rfl, h, k _ H (Ex.refl _) (.str _)⟩)
      · cases hf
    | _ => cases hf
  | lst h1 l1 =>
    cases rb with
    | lst h2 l2 =>
      simp only [dAdd] at hf
      split at hf
      · rename_i h; cases hf
        exact .inr (.inl ⟨_, _, _, _, rfl, rfl, Fz.le _ _ h1, Fz.le _ _ h2, by rw [l1.length, l2.length]; exact h, fun p hp => k _ _ (Ex.new hp) (.lst (fz_new t hp) ((l1.append l2).mono (Fz.ex (Ex.new hp))))⟩)
      · cases hf
    | _ => cases hf
  | tup h1 l1 =>
    cases rb with
    | tup h2 l2 =>
      simp only [dAdd] at hf
      split at hf
      · rename_i h; cases hf
        refine .inr (.inr ⟨_, _, _, _, rfl, rfl, Fz.le.sqt h1, Fz.le.sqt h2, by rw [l1.length, l2.length]; exact h, fun e => ?_, fun _ e => ?_, fun _ _ p hp => k _ _ (Ex.new hp) (.tup (SqT.of (fz_new t hp)) ((l1.append l2).mono (Fz.ex (Ex.new hp))))⟩)
        · subst e
          cases l1
          exact k _ H (Ex.refl _) (.tup h2 l2)
        · subst e
          cases l2
          rw [List.append_nil] at k
          exact k _ H (Ex.refl _) (.tup h1 l1)
      · cases hf
    | _ => cases hf
  | _ => cases hf
theorem ro_I0 {g : Int → Int → Int} {f : D → D → Option D} (h : ∀ a b d, f a b = some d → ∃ i j, a = .int i ∧ b = .int j ∧ d = .int (g i j)) : RO K (rI0 fun i j => .int (g i j)) f := by
  intro S H x y a b d Q ra rb hf t k
  obtain ⟨i, j, rfl, rfl, rfl⟩ := h a b d hf
  cases ra; cases rb
  exact ⟨i, j, rfl, rfl, k _ H (Ex.refl _) (.int _)⟩
theorem ro_I {C : Int → Int → Prop} {g : Int → Int → Int} {f : D → D → Option D} (h : ∀ a b d, f a b = some d → ∃ i j, a = .int i ∧ b = .int j ∧ C i j ∧ d = .int (g i j)) : RO K (rI C fun i j => .int (g i j)) f := by
  intro S H x y a b d Q ra rb hf t k
  obtain ⟨i, j, rfl, rfl, c, rfl⟩ := h a b d hf
  cases ra; cases rb
  exact ⟨i, j, rfl, rfl, c, k _ H (Ex.refl _) (.int _)⟩
theorem ro_sub : RO K (rI0 fun i j => .int (i - j)) dSub := ro_I0 fun a b d h => by
  cases a <;> first | (cases h; done) | skip
  cases b <;> first | (cases h; done) | skip
  cases h; exact ⟨_, _, rfl, rfl, rfl⟩
theorem ro_mul : RO K (rI CMulW fun i j => .int (i * j)) dMul := ro_I fun a b d h => by
  cases a <;> first | (cases h; done) | skip
  cases b <;> first | (cases h; done) | skip
  simp only [dMul] at h
  split at h
  · rename_i c; cases h; exact ⟨_, _, rfl, rfl, of_decide_eq_true (p := _ < 1000000) c, rfl⟩
  · cases h
theorem ro_fdiv : RO K (rI CDivW fun i j => .int (i / j)) dFdiv := ro_I fun a b d h => by
  cases a <;> first | (cases h; done) | skip
  cases b <;> first | (cases h; done) | skip
  simp only [dFdiv] at h
  split at h
  · rename_i c; cases h; exact ⟨_, _, rfl, rfl, c, rfl⟩
  · cases h
theorem ro_mod : RO K (rI (fun _ j => 0 < j) fun i j => .int (i % j)) dMod := ro_I fun a b d h => by
  cases a <;> first | (cases h; done) | skip
  cases b <;> first | (cases h; done) | skip
  simp only [dMod] at h
  split at h
  · rename_i c; cases h; exact ⟨_, _, rfl, rfl, c, rfl⟩
  · cases h
theorem ro_pow : RO K (rI CPow fun i j => .int (i ^ j.toNat)) dPow := ro_I fun a b d h => by
  cases a <;> first | (cases h; done) | skip
  cases b <;> first | (cases h; done) | skip
  simp only [dPow] at h
  split at h
  · rename_i c; cases h; exact ⟨_, _, rfl, rfl, c, rfl⟩
  · cases h
def dNeg : D → Option D
  | .int i => some (.int (-i))
  | _ => none
theorem ru_neg : RU K (rU fun i => .int (-i)) dNeg := by
  intro S H x a d Q ra hf t k
  cases ra <;> first | (cases hf; done) | skip
  cases hf
  exact ⟨_, rfl, k _ H (Ex.refl _) (.int _)⟩
end
/-! ### in, not in -/
def strIn (i j : Str) : Bool := !(Builtin.Str.occurrences j i 0 j.length 1).isEmpty
def dIn : D → D → Option D
  | .str i, .str j => some (.bl (strIn i j))
  | _, _ => none
def dNotIn : D → D → Option D
  | .str i, .str j => some (.bl (!strIn i j))
  | _, _ => none
section
variable {K : PySem.W.Frag}
theorem ro_in : RO K (fun x y H Q => ∃ i j, x = .str i ∧ y = .str j ∧ Q (.bl (!(Builtin.Str.occurrences j i 0 j.length 1).isEmpty)) H) dIn := by
  intro S H x y a b d Q ra rb hf t k
  cases ra <;> first | (cases hf; done) | skip
  cases rb <;> first | (cases hf; done) | skip
  cases hf
  exact ⟨_, _, rfl, rfl, k _ H (Ex.refl _) (.bl _)⟩
theorem ro_notIn : RO K (fun x y H Q => ∃ i j, x = .str i ∧ y = .str j ∧ Q (.bl (!(!(Builtin.Str.occurrences j i 0 j.length 1).isEmpty))) H) dNotIn := by
  intro S H x y a b d Q ra rb hf t k
  cases ra <;> first | (cases hf; done) | skip
  cases rb <;> first | (cases hf; done) | skip
  cases hf
  exact ⟨_, _, rfl, rfl, k _ H (Ex.refl _) (.bl _)⟩
end
/-! ### items and slices -/
def dItem : D → D → Option D
  | .lst ds, .int i => atI ds i
  | .tup ds, .int i => atI ds i
  | .str x, .int i => if x.length ≤ sizeLine then (atI x.cps.toList i).map fun c => .str ⟨#[c]⟩ else none
  | _, _ => none
theorem RepL.atI {K : PySem.W.Frag} {H : Hp} {xs : List V} {ds : List D} {i : Int} {d : D} (r : RepL K H xs ds) (h : L2.atI ds i = some d) : ∃ v, L2.atI xs i = some v ∧ Rep K H v d := by
  unfold L2.atI at h ⊢
  rw [r.length]
  simp only [Option.bind_eq_some_iff] at h ⊢
  obtain ⟨j, h1, h2⟩ := h
  obtain ⟨v, h3, q⟩ := r.get h2
  exact ⟨v, ⟨j, h1, h3⟩, q⟩
section
variable {K : PySem.W.Frag}
theorem ro_item : RO K (rIx K) dItem := by
  intro S H x y a b d Q ra rb hf t k
  cases ra with
  | lst h1 l1 =>
    cases rb <;> first | (cases hf; done) | skip
    obtain ⟨v, e, q⟩ := l1.atI hf
    exact .inl ⟨_, _, _, v, rfl, rfl, SqL.of (Fz.le _ _ h1), e, k v H (Ex.refl _) q⟩
  | tup h1 l1 =>
    cases rb <;> first | (cases hf; done) | skip
    obtain ⟨v, e, q⟩ := l1.atI hf
    exact .inr (.inl ⟨_, _, _, v, rfl, rfl, Fz.le.sqt h1, e, k v H (Ex.refl _) q⟩)
  | str x =>
    cases rb <;> first | (cases hf; done) | skip
    simp only [dItem] at hf
    split at hf
    · rename_i h
      simp only [Option.map_eq_some_iff] at hf
      obtain ⟨c, e, rfl⟩ := hf
      exact .inr (.inr ⟨x, _, c, rfl, rfl, h, e, k _ H (Ex.refl _) (.str _)⟩)
    · cases hf
  | _ => cases hf
end
/-- the parts of a slice -/
abbrev MO := List Cell → Option (Option Int × List Cell)
def toOf (K : PySem.W.Frag) (m : MO) : TO := fun σ H Q => ∃ c S own ρ o ρ', SR K c S own σ H ρ ∧ m ρ = some (o, ρ') ∧ ∀ H', Ex (Fz S H) (Fz S H') → SR K c S own σ H' ρ' → Q o H'
def mNoPart : MO := fun ρ => some (none, ρ)
def mPart (ma : ME) : MO := fun ρ => (ma ρ).bind fun p => match p.1 with
  | .int i => some (some i, p.2)
  | _ => none
def cutD (ds : List D) (lo hi : Option Int) : List D := (ds.drop (HT.sIx ds.length 0 lo)).take (HT.sIx ds.length ds.length hi - HT.sIx ds.length 0 lo)
def dSlice (d : D) (lo hi : Option Int) : Option D := match d with
  | .lst ds => some (.lst (cutD ds lo hi))
  | .tup ds => some (.tup (cutD ds lo hi))
  | .scr ns => some (.lst (cutD (ns.map D.int) lo hi))
  | .str x => if x.length ≤ sizeLine then some (.str (cutS x lo hi)) else none
  | _ => none
def mSlice (ma : ME) (lo hi : MO) : ME := fun ρ => (ma ρ).bind fun p => (lo p.2).bind fun q => (hi q.2).bind fun r => (dSlice p.1 q.1 r.1).map fun d => (d, r.2)
theorem RepL.cut {K : PySem.W.Frag} {H : Hp} {xs : List V} {ds : List D} (lo hi : Option Int) (r : RepL K H xs ds) : RepL K H (cutV xs lo hi) (cutD ds lo hi) := by
  unfold cutV cutD
  rw [r.length]
  exact (r.drop _).take _
def rSlice (K : PySem.W.Frag) : V → Option Int → Option Int → Hp → VK → Prop := fun x lo hi H Q => rSlL K x lo hi H Q ∨ (rSlA K x lo hi H Q ∨ rSlS x lo hi H Q)
section
variable {K : PySem.W.Frag}
theorem sl_sliceA {X : Cx} : SlR X (rSlice X.K) := SlR.or sl_list (SlR.or sl_tupA sl_str)
theorem cut_all {α : Type} {xs : List α} {lo hi : Option Int} (h : HT.sIx xs.length 0 lo = 0 ∧ HT.sIx xs.length xs.length hi = xs.length) : (xs.drop (HT.sIx xs.length 0 lo)).take (HT.sIx xs.length xs.length hi - HT.sIx xs.length 0 lo) = xs := by
  rw [h.1, h.2, List.drop_zero, Nat.sub_zero, List.take_length]
theorem rs_slice {S : List Addr} {H : Hp} {x : V} {a d : D} {lo hi : Option Int} {Q : VK} (ra : Rep K (Fz S H) x a) (hf : dSlice a lo hi = some d) (t : ∀ a ∈ S, (H a).isSome = true) (k : ∀ v H', Ex H H' → Rep K (Fz S H') v d → Q v H') : rSlice K x lo hi H Q := by
  cases ra with
  | lst h1 l1 => cases hf; exact .inl ⟨_, _, rfl, SqL.of (Fz.le _ _ h1), fun p hp => k _ _ (Ex.new hp) (.lst (fz_new t hp) ((l1.cut lo hi).mono (Fz.ex (Ex.new hp))))⟩
  | tup h1 l1 =>
    cases hf
    refine .inr (.inl ⟨_, _, rfl, Fz.le.sqt h1, fun e => ?_, fun _ p hp => k _ _ (Ex.new hp) (.tup (SqT.of (fz_new t hp)) ((l1.cut lo hi).mono (Fz.ex (Ex.new hp))))⟩)
    have : cutD _ lo hi = _ := cut_all (by rw [← l1.length]; exact e)
    rw [this] at k
    exact k _ H (Ex.refl _) (.tup h1 l1)
  | scr h1 => cases hf; exact .inl ⟨_, _, rfl, Fz.le.sql h1, fun p hp => k _ _ (Ex.new hp) (.lst (fz_new t hp) (((RepL.of_ints _).cut lo hi).mono (Fz.ex (Ex.new hp))))⟩
  | str x =>
    simp only [dSlice] at hf
    split at hf
    · rename_i h; cases hf; exact .inr (.inr ⟨x, rfl, h, k _ H (Ex.refl _) (.str _)⟩)
    · cases hf
  | _ => cases hf
theorem em_slice {ma : ME} {lo hi : MO} {σ : St} {H : Hp} {Q : VK} : teOf K (mSlice ma lo hi) σ H Q → tSl (rSlice K) (teOf K ma) (toOf K lo) (toOf K hi) σ H Q := by
  rintro ⟨c, S, own, ρ, d, ρ', sr, hm, k⟩
  simp only [mSlice, Option.bind_eq_some_iff, Option.map_eq_some_iff] at hm
  obtain ⟨⟨a, ρ1⟩, h1, ⟨l, ρ2⟩, h2, ⟨u, ρ3⟩, h3, d', h4, e⟩ := hm
  cases e
  refine ⟨c, S, own, ρ, a, ρ1, sr, h1, fun v H1 e1 sr1 r1 => ⟨c, S, own, ρ1, l, ρ2, sr1, h2, fun H2 e2 sr2 => ⟨c, S, own, ρ2, u, ρ3, sr2, h3, fun H3 e3 sr3 => ?_⟩⟩⟩
  exact rs_slice (r1.mono (e2.trans e3)) h4 sr3.trk fun w H4 e4 r4 => k w H4 (((e1.trans e2).trans e3).trans (Fz.ex e4)) (sr3.ex e4) r4
end
section
variable {X : Cx} {e : Expr} {lo hi : Option Expr} {ma : ME} {ml mh : MO}
abbrev POM (X : Cx) (e : Option Expr) (m : MO) : Prop := PO X e (toOf X.K m)
theorem PO.to {e : Option Expr} {t t' : TO} (h : PO X e t) (q : ∀ σ H Q, t' σ H Q → t σ H Q) : PO X e t' := ⟨fun pins s σ H Q I z => h.run pins s σ H Q I (q σ H Q z)⟩
theorem pom_none : POM X none mNoPart := PO.to po_none fun σ H Q => by
  rintro ⟨c, S, own, ρ, d, ρ', sr, hm, k⟩
  cases hm
  exact k H (Ex.refl _) sr
theorem pom_some (h : PEM X e ma) : POM X (some e) (mPart ma) := PO.to (po_some h) fun σ H Q => by
  rintro ⟨c, S, own, ρ, d, ρ', sr, hm, k⟩
  simp only [mPart, Option.bind_eq_some_iff] at hm
  obtain ⟨⟨a, ρ1⟩, h1, h2⟩ := hm
  refine ⟨c, S, own, ρ, a, ρ1, sr, h1, fun v H1 e1 sr1 r1 => ?_⟩
  cases r1 with
  | int i => cases h2; exact ⟨i, rfl, k H1 e1 sr1⟩
  | _ => cases h2
theorem pem_slice {p2 pos} (h : PEM X e ma) (hl : POM X lo ml) (hh : POM X hi mh) : PEM X (.Subscript e (.Slice lo hi none p2) pos) (mSlice ma ml mh) := PE.to (pe_slice sl_sliceA h hl hh) fun _ _ _ q => em_slice q
theorem pem_item {a b : Expr} {ma mb : ME} {pos} (ha : PEM X a ma) (hb : PEM X b mb) (hs : PlainIx b) : PEM X (.Subscript a b pos) (mBin dItem ma mb) := PE.to (pe_ix ix_seq ha hb hs) fun _ _ _ q => em_op ro_item _ _ _ q
end
end TL

namespace TL
open PySem L2

/-! ### built-ins -/
theorem RC.or {K : PySem.W.Frag} {r r' : List V → Hp → VK → Prop} {f f' : List D → Option D} (h : RC K r f) (h' : RC K r' f') : RC K (fun xs H Q => r xs H Q ∨ r' xs H Q) fun ds => (f ds).or (f' ds) := by
  intro S H xs as d Q r0 hf t k
  have hf : (f as).or (f' as) = some d := hf
  cases e : f as with
  | some d' => rw [e] at hf; cases hf; exact .inl (h S H xs as _ Q r0 e t k)
  | none => rw [e] at hf; exact .inr (h' S H xs as d Q r0 hf t k)
def one (f : D → Option D) : List D → Option D
  | [d] => f d
  | _ => none
theorem rc_one {K : PySem.W.Frag} {r : List V → Hp → VK → Prop} {g : D → Option D} (h : ∀ (S : List Addr) (H : Hp) (x : V) (a d : D) (Q : VK), Rep K (Fz S H) x a → g a = some d → (∀ a ∈ S, (H a).isSome = true) → (∀ v H', Ex H H' → Rep K (Fz S H') v d → Q v H') → r [x] H Q) : RC K r (one g) := by
  intro S H xs as d Q r0 hf t k
  match as, r0, hf with
  | [a], .cons r0 .nil, hf => exact h S H _ a d Q r0 hf t k
def dLen1 : D → Option D
  | .str x => if x.length ≤ sizeLine then some (.int x.length) else none
  | .lst ds => some (.int ds.length)
  | .tup ds => some (.int ds.length)
  | .dct kvs => some (.int kvs.length)
  | _ => none
def dLen : List D → Option D := one dLen1
def rLenA (K : PySem.W.Frag) : List V → Hp → VK → Prop := fun xs H Q => (∃ x n, xs = [x] ∧ LenV K x H n ∧ Q (.int n) H) ∨ ∃ a kvs, xs = [V.ref a] ∧ H a = some (.dK kvs) ∧ Q (.int kvs.length) H
theorem call_lenA {X : Cx} : CallR X (.builtin "len") (rLenA X.K) := CallR.or call_len call_lenD
section
variable {K : PySem.W.Frag}
theorem RepK.length {H : Hp} : ∀ {xs : List (Key × V)} {ds : List (Key × D)}, RepK K H xs ds → xs.length = ds.length
  | _, _, .nil => rfl
  | _, _, .cons _ t => by rw [List.length_cons, List.length_cons, RepK.length t]
theorem rc_len : RC K (rLenA K) dLen := by
  refine rc_one fun S H x a d Q r hf t k => ?_
  case _ =>
    cases r with
    | str y =>
      simp only [dLen1] at hf
      split at hf
      · rename_i h; cases hf; exact .inl ⟨_, _, rfl, ⟨h, rfl⟩, k _ H (Ex.refl _) (.int _)⟩
      · cases hf
    | lst h1 l1 =>
      cases hf
      exact .inl ⟨_, _, rfl, .inl ⟨_, SqL.of (Fz.le _ _ h1), l1.length.symm⟩, k _ H (Ex.refl _) (.int _)⟩
    | tup h1 l1 =>
      cases hf
      exact .inl ⟨_, _, rfl, .inr ⟨_, Fz.le.sqt h1, l1.length.symm⟩, k _ H (Ex.refl _) (.int _)⟩
    | dct h1 l1 =>
      cases hf
      exact .inr ⟨_, _, rfl, Fz.le _ _ h1, by rw [l1.length]; exact k _ H (Ex.refl _) (.int _)⟩
    | _ => cases hf
/-- all, any, sum, min, max of a list -/
def asBls : List D → Option (List Bool)
  | [] => some []
  | .bl b :: ds => (asBls ds).map fun bs => b :: bs
  | _ => none
def asInts : List D → Option (List Int)
  | [] => some []
  | .int b :: ds => (asInts ds).map fun bs => b :: bs
  | _ => none
def asStrs : List D → Option (List Str)
  | [] => some []
  | .str b :: ds => (asStrs ds).map fun bs => b :: bs
  | _ => none
theorem asBls_eq : ∀ {ds : List D} {bs : List Bool}, asBls ds = some bs → ds = bs.map D.bl
  | [], _, h => by cases h; rfl
  | d :: ds, bs, h => by
    cases d <;> first | (cases h; done) | skip
    simp only [asBls, Option.map_eq_some_iff] at h
    obtain ⟨cs, e, rfl⟩ := h
    rw [asBls_eq e, List.map_cons]
theorem asInts_eq : ∀ {ds : List D} {bs : List Int}, asInts ds = some bs → ds = bs.map D.int
  | [], _, h => by cases h; rfl
  | d :: ds, bs, h => by
    cases d <;> first | (cases h; done) | skip
    simp only [asInts, Option.map_eq_some_iff] at h
    obtain ⟨cs, e, rfl⟩ := h
    rw [asInts_eq e, List.map_cons]
theorem asStrs_eq : ∀ {ds : List D} {bs : List Str}, asStrs ds = some bs → ds = bs.map D.str
  | [], _, h => by cases h; rfl
  | d :: ds, bs, h => by
    cases d <;> first | (cases h; done) | skip
    simp only [asStrs, Option.map_eq_some_iff] at h
    obtain ⟨cs, e, rfl⟩ := h
    rw [asStrs_eq e, List.map_cons]
@[simp] theorem asBls_map : ∀ bs : List Bool, asBls (bs.map D.bl) = some bs
  | [] => rfl
  | b :: bs => by simp [asBls, asBls_map bs]
@[simp] theorem asInts_map : ∀ bs : List Int, asInts (bs.map D.int) = some bs
  | [] => rfl
  | b :: bs => by simp [asInts, asInts_map bs]
@[simp] theorem asStrs_map : ∀ bs : List Str, asStrs (bs.map D.str) = some bs
  | [] => rfl
  | b :: bs => by simp [asStrs, asStrs_map bs]
def dAll1 : D → Option D
  | .lst ds => (asBls ds).map fun bs => .bl (bs.all id)
  | _ => none
def dAll : List D → Option D := one dAll1
def dAny1 : D → Option D
  | .lst ds => (asBls ds).map fun bs => .bl (bs.any id)
  | _ => none
def dAny : List D → Option D := one dAny1
def dSum1 : D → Option D
  | .lst ds => (asInts ds).map fun bs => .int bs.sum
  | _ => none
def dSum : List D → Option D := one dSum1
def dMax1 : D → Option D
  | .lst ds => (asInts ds).bind fun bs => bs.max?.map .int
  | _ => none
def dMax : List D → Option D := one dMax1
def dMin1 : D → Option D
  | .lst ds => (asInts ds).bind fun bs => bs.min?.map .int
  | _ => none
def dMin : List D → Option D := one dMin1
theorem rc_all : RC K (rAll K) dAll := by
  refine rc_one fun S H x a d Q r hf t k => ?_
  case _ =>
    cases r with
    | lst h1 l1 =>
      simp only [dAll1, Option.map_eq_some_iff] at hf
      obtain ⟨bs, e, rfl⟩ := hf
      rw [asBls_eq e] at l1
      have := l1.bools; subst this
      exact ⟨_, bs, rfl, SqL.of (Fz.le _ _ h1), k _ H (Ex.refl _) (.bl _)⟩
    | _ => cases hf
theorem rc_any : RC K (rAny K) dAny := by
  refine rc_one fun S H x a d Q r hf t k => ?_
  case _ =>
    cases r with
    | lst h1 l1 =>
      simp only [dAny1, Option.map_eq_some_iff] at hf
      obtain ⟨bs, e, rfl⟩ := hf
      rw [asBls_eq e] at l1
      have := l1.bools; subst this
      exact ⟨_, bs, rfl, SqL.of (Fz.le _ _ h1), k _ H (Ex.refl _) (.bl _)⟩
    | _ => cases hf
theorem rc_sum : RC K (rSum K) dSum := by
  refine rc_one fun S H x a d Q r hf t k => ?_
  case _ =>
    cases r with
    | lst h1 l1 =>
      simp only [dSum1, Option.map_eq_some_iff] at hf
      obtain ⟨bs, e, rfl⟩ := hf
      rw [asInts_eq e] at l1
      have := l1.ints; subst this
      exact ⟨_, bs, rfl, SqL.of (Fz.le _ _ h1), k _ H (Ex.refl _) (.int _)⟩
    | _ => cases hf
theorem rc_max : RC K (rMax K) dMax := by
  refine rc_one fun S H x a d Q r hf t k => ?_
  case _ =>
    cases r with
    | lst h1 l1 =>
      simp only [dMax1, Option.bind_eq_some_iff, Option.map_eq_some_iff] at hf
      obtain ⟨bs, e, m, em, rfl⟩ := hf
      rw [asInts_eq e] at l1
      have := l1.ints; subst this
      obtain ⟨m1, m2⟩ := List.max?_eq_some_iff.mp em
      refine ⟨_, bs, rfl, SqL.of (Fz.le _ _ h1), List.length_pos_of_mem m1, fun z z1 z2 => ?_⟩
      have : z = m := Int.le_antisymm (m2 z z1) (z2 m m1)
      subst this
      exact k _ H (Ex.refl _) (.int _)
    | _ => cases hf
theorem rc_min : RC K (rMin K) dMin := by
  refine rc_one fun S H x a d Q r hf t k => ?_
  case _ =>
    cases r with
    | lst h1 l1 =>
      simp only [dMin1, Option.bind_eq_some_iff, Option.map_eq_some_iff] at hf
      obtain ⟨bs, e, m, em, rfl⟩ := hf
      rw [asInts_eq e] at l1
      have := l1.ints; subst this
      obtain ⟨m1, m2⟩ := List.min?_eq_some_iff.mp em
      refine ⟨_, bs, rfl, SqL.of (Fz.le _ _ h1), List.length_pos_of_mem m1, fun z z1 z2 => ?_⟩
      have : z = m := Int.le_antisymm (z2 m m1) (m2 z z1)
      subst this
      exact k _ H (Ex.refl _) (.int _)
    | _ => cases hf
def signV (x : Str) : List V := x.cps.toList.map fun c => .str ⟨#[c]⟩
theorem rep_signs {K : PySem.W.Frag} {H : Hp} (x : Str) : RepL K H (signV x) (signs x) := by
  unfold signV signs
  generalize x.cps.toList = l
  induction l with
  | nil => exact .nil
  | cons c l ih => exact .cons (.str _) ih
theorem vals_signs {x : Str} {acc : Array Value} (h : ItemsOf (SignAt x) acc x.cps.size) : Vals (signV x) acc.toList := by
  have key : ∀ (l : List Nat) (us : List Value) (k : Nat), us.length = l.length → (∀ j c, l[j]? = some c → x.cps[k + j]? = some c) → (∀ j v, us[j]? = some v → SignAt x (k + j) v) → Vals (l.map fun c => V.str ⟨#[c]⟩) us := by
    intro l
    induction l with
    | nil => intro us k hl _ _; cases us with
      | nil => exact .nil
      | cons _ _ => cases hl
    | cons c l ih =>
      intro us k hl h1 h2
      cases us with
      | nil => cases hl
      | cons u us =>
        refine .cons ?_ (ih us (k + 1) (by simpa using hl) (fun j d hj => ?_) fun j v hj => ?_)
        · obtain ⟨d, w, e1, e2⟩ := h2 0 u rfl
          have e3 := h1 0 c rfl
          rw [e1] at e3
          cases e3
          exact ⟨w, e2⟩
        · have := h1 (j + 1) d (by simpa using hj)
          rw [← this]; congr 1; omega
        · have := h2 (j + 1) v (by simpa using hj)
          have e : k + (j + 1) = k + 1 + j := by omega
          rw [e] at this; exact this
  refine key x.cps.toList acc.toList 0 (by simp [h.1]) (fun j c hj => ?_) fun j v hj => ?_
  · rw [Nat.zero_add]; simpa using hj
  · rw [Nat.zero_add]; exact h.2 j v (by simpa using hj)
def rListS : List V → Hp → VK → Prop := fun xs H Q => ∃ x, xs = [.str x] ∧ x.length ≤ sizeLine ∧ ∀ l, H l = none → Q (.ref l) (upd H l (.lst (signV x)))
def rTupleS : List V → Hp → VK → Prop := fun xs H Q => ∃ x, xs = [.str x] ∧ x.length ≤ sizeLine ∧ ∀ l, H l = none → Q (.ref l) (upd H l (.tup (signV x)))
section
variable {X : Cx}
theorem call_listS (hc : X.calm = true) : CallR X (.type "list") rListS := by
  intro pins s σ H xs us Q I r h
  obtain ⟨x, rfl, hz, q⟩ := h
  obtain ⟨u, ws, rfl, ru, rw'⟩ := Vals.cons_inv r
  cases rw'
  obtain ⟨t, rfl⟩ := ru
  refine call_list_str (I.ok.hd hc) x t (fun h' tk acc c' hk ho hi => ?_) hz
  refine ⟨.ref s.heap.objs.size, _, I.laid (t' := tk) hk (Nat.le_refl _) (show ObjOk X.prog X.w _ h' _ (.lst (signV x)) from ⟨?_, acc.toList, c', vals_signs hi, ?_⟩), rfl, q _ (I.hok.fresh (Nat.le_refl _))⟩
  · show (signV x).length ≤ sizeLine
    unfold signV
    rw [List.length_map]
    simpa [Str.length] using hz
  · simpa using ho
theorem call_tupleS (hc : X.calm = true) : CallR X (.type "tuple") rTupleS := by
  intro pins s σ H xs us Q I r h
  obtain ⟨x, rfl, hz, q⟩ := h
  obtain ⟨u, ws, rfl, ru, rw'⟩ := Vals.cons_inv r
  cases rw'
  obtain ⟨t, rfl⟩ := ru
  refine call_tuple_str (I.ok.hd hc) x t (fun h' tk acc hk hi => ?_) hz
  have I1 : Inv X pins σ H { s with heap := h', toks := tk } := I.kept (t' := tk) hk
  have I2 : Inv X pins σ (upd H h'.objs.size (.tup (signV x))) { s with heap := h'.push { cls := .type "tuple", data := .seq acc }, toks := tk } :=
    I1.laid (t' := tk) (fun b o e => Heap.get?_push_of_some _ e) (Nat.le_refl _) (show ObjOk X.prog X.w _ _ _ (.tup (signV x)) from ⟨?_, acc.toList, vals_signs hi, ⟨_, Heap.get?_push_size _ rfl, rfl, 0, rfl⟩⟩)
  · exact ⟨.ref h'.objs.size, _, I2, rfl, q _ (I1.hok.fresh (Nat.le_refl _))⟩
  · show (signV x).length ≤ sizeLine
    unfold signV
    rw [List.length_map]
    simpa [Str.length] using hz
end

/-- tuple(x), list(x), int(x) -/
def dTuple1 : D → Option D
  | .str x => if x.length ≤ sizeLine then some (.tup (signs x)) else none
  | .lst ds => some (.tup ds)
  | .tup ds => some (.tup ds)
  | _ => none
def dTuple : List D → Option D := one dTuple1
def dList1 : D → Option D
  | .str x => if x.length ≤ sizeLine then some (.lst (signs x)) else none
  | .lst ds => some (.lst ds)
  | .tup ds => some (.lst ds)
  | _ => none
def dList : List D → Option D := one dList1
def dInt1 : D → Option D
  | .int i => some (.int i)
  | .bl b => some (.int (if b then 1 else 0))
  | .str a => if a.length ≤ 640 then (PySem.intText? a).map .int else none
  | _ => none
def dInt : List D → Option D := one dInt1
def rTuple (K : PySem.W.Frag) : List V → Hp → VK → Prop := fun xs H Q => ∃ p ys, xs = [.ref p] ∧ ((SqL K H p ys ∧ ∀ l, H l = none → Q (.ref l) (upd H l (.tup ys))) ∨ (SqT K H p ys ∧ Q (.ref p) H))
def rListOf (K : PySem.W.Frag) : List V → Hp → VK → Prop := fun xs H Q => ∃ p ys, xs = [.ref p] ∧ (SqL K H p ys ∨ SqT K H p ys) ∧ ∀ l, H l = none → Q (.ref l) (upd H l (.lst ys))
def rTupleA (K : PySem.W.Frag) : List V → Hp → VK → Prop := fun xs H Q => rTuple K xs H Q ∨ rTupleS xs H Q
def rListA (K : PySem.W.Frag) : List V → Hp → VK → Prop := fun xs H Q => rListOf K xs H Q ∨ rListS xs H Q
def rIntA : List V → Hp → VK → Prop := fun xs H Q => ((∃ i, xs = [.int i] ∧ Q (.int i) H) ∨ ∃ k, xs = [.bl k] ∧ Q (.int (if k then 1 else 0)) H) ∨ ∃ a n, xs = [.str a] ∧ PySem.intText? a = some n ∧ a.length ≤ 640 ∧ Q (.int n) H
theorem call_tupleA {X : Cx} (hc : X.calm = true) : CallR X (.type "tuple") (rTupleA X.K) := CallR.or call_tuple_of (call_tupleS hc)
theorem call_listA {X : Cx} (hc : X.calm = true) : CallR X (.type "list") (rListA X.K) := CallR.or call_list_of (call_listS hc)
theorem call_intA {X : Cx} : CallR X (.type "int") rIntA := CallR.or call_int1 call_int_str
theorem rc_tuple : RC K (rTupleA K) dTuple := by
  refine rc_one fun S H x a d Q r hf t k => ?_
  cases r with
  | lst h1 l1 =>
    cases hf
    exact .inl ⟨_, _, rfl, .inl ⟨SqL.of (Fz.le _ _ h1), fun p hp => k _ _ (Ex.new hp) (.tup (SqT.of (fz_new t hp)) (l1.mono (Fz.ex (Ex.new hp))))⟩⟩
  | tup h1 l1 => cases hf; exact .inl ⟨_, _, rfl, .inr ⟨Fz.le.sqt h1, k _ H (Ex.refl _) (.tup h1 l1)⟩⟩
  | str y =>
    simp only [dTuple1] at hf
    split at hf
    · rename_i hz
      cases hf
      exact .inr ⟨y, rfl, hz, fun p hp => k _ _ (Ex.new hp) (.tup (SqT.of (fz_new t hp)) (rep_signs y))⟩
    · cases hf
  | _ => cases hf
theorem rc_list : RC K (rListA K) dList := by
  refine rc_one fun S H x a d Q r hf t k => ?_
  cases r with
  | lst h1 l1 =>
    cases hf
    exact .inl ⟨_, _, rfl, .inl (SqL.of (Fz.le _ _ h1)), fun p hp => k _ _ (Ex.new hp) (.lst (fz_new t hp) (l1.mono (Fz.ex (Ex.new hp))))⟩
  | tup h1 l1 => cases hf; exact .inl ⟨_, _, rfl, .inr (Fz.le.sqt h1), fun p hp => k _ _ (Ex.new hp) (.lst (fz_new t hp) (l1.mono (Fz.ex (Ex.new hp))))⟩
  | str y =>
    simp only [dList1] at hf
    split at hf
    · rename_i hz
      cases hf
      exact .inr ⟨y, rfl, hz, fun p hp => k _ _ (Ex.new hp) (.lst (fz_new t hp) (rep_signs y))⟩
    · cases hf
  | _ => cases hf
theorem rc_int : RC K rIntA dInt := by
  refine rc_one fun S H x a d Q r hf t k => ?_
  case _ =>
    cases r with
    | int i => cases hf; exact .inl (.inl ⟨i, rfl, k _ H (Ex.refl _) (.int _)⟩)
    | bl b => cases hf; exact .inl (.inr ⟨b, rfl, k _ H (Ex.refl _) (.int _)⟩)
    | str z =>
      simp only [dInt1] at hf
      split at hf
      · rename_i h
        simp only [Option.map_eq_some_iff] at hf
        obtain ⟨n, e, rfl⟩ := hf
        exact .inr ⟨z, n, rfl, e, h, k _ H (Ex.refl _) (.int _)⟩
      · cases hf
    | _ => cases hf
/-- is None, is not None -/
def dIsN : D → D → Option D
  | .non, .non => some (.bl true)
  | _, .non => some (.bl false)
  | _, _ => none
def dNotN : D → D → Option D
  | .non, .non => some (.bl false)
  | _, .non => some (.bl true)
  | _, _ => none
theorem ro_isN : RO K rIsN dIsN := by
  intro S H x y a b d Q ra rb hf t k
  cases rb <;> first | (cases ra <;> cases hf; done) | skip
  cases ra <;> cases hf <;> exact ⟨rfl, k _ H (Ex.refl _) (.bl _)⟩
theorem ro_notN : RO K rNotN dNotN := by
  intro S H x y a b d Q ra rb hf t k
  cases rb <;> first | (cases ra <;> cases hf; done) | skip
  cases ra <;> cases hf <;> exact ⟨rfl, k _ H (Ex.refl _) (.bl _)⟩
/-- isinstance(x, T), T a built-in type -/
def dTy : D → Option String
  | .non => some "NoneType"
  | .bl _ => some "bool"
  | .int _ => some "int"
  | .str _ => some "str"
  | .tup _ => some "tuple"
  | .lst _ => some "list"
  | .dct _ => some "dict"
  | .obj _ _ => none
  | .exc _ _ _ _ => none
  | .scr _ => none
def dIsi (T : String) : D → Option D := fun d => (dTy d).bind fun t => (kitB t T).map .bl
theorem Rep.ty {H : Hp} {v : V} {d : D} {t : String} (r : Rep K H v d) (h : dTy d = some t) : TyX K H v (.type t) := by
  cases r with
  | non => cases h; exact .base .non
  | bl b => cases h; exact .base (.bl b)
  | int b => cases h; exact .base (.int b)
  | str b => cases h; exact .base (.str b)
  | tup h1 _ =>
    cases h
    rcases h1 with (h1 | ⟨o, h1⟩) | ⟨o, _, _, h1, h2, _⟩
    · exact .base (.tup h1)
    · exact .fTuple h1
    · exact .kTuple h1 h2
  | lst h1 _ => cases h; exact .base (.lst h1)
  | dct h1 _ => cases h; exact .base (.dK h1)
  | obj _ _ => cases h
  | exc _ _ => cases h
  | exb => cases h
  | scr _ => cases h
end
section
variable {X : Cx} {x : Str} {p pos : Pos} {e : Expr} {es : List Expr} {id : String} {mr : MA} {ma : ME} {f : List D → Option D} {r : List V → Hp → VK → Prop}
theorem pem_callB (hc : CallR X (.builtin id) r) (hr : RC X.K r f) (hg : Gl X x) (hm : X.mg x = none) (hv : bootBuiltins x = some (.builtin id)) (ha : PAM X (e :: es) mr) (hn : x ≠ "__name__" := by decide) (hdb : (x == ("__debug__" : Str)) = false := by decide)
    (he : starEach (e :: es) X.env = (false, eval e X.env) :: starEach es X.env := by rfl) (hpl : (backTo pos (starEach es X.env)).any (·.1) = false := by rfl) : PEM X (.Call (.Name x p) (e :: es) [] pos) (mApp f mr) :=
  PE.to (pe_callB hc hg hm hv ha hn hdb he hpl) fun _ _ _ q => em_cb hr _ _ _ q
theorem pem_callTy {T : String} (hc : CallR X (.type T) r) (hr : RC X.K r f) (hg : Gl X x) (hm : X.mg x = none) (hv : bootBuiltins x = some (.type T)) (ha : PAM X (e :: es) mr) (hn : x ≠ "__name__" := by decide) (hdb : (x == ("__debug__" : Str)) = false := by decide)
    (he : starEach (e :: es) X.env = (false, eval e X.env) :: starEach es X.env := by rfl) (hpl : (backTo pos (starEach es X.env)).any (·.1) = false := by rfl) : PEM X (.Call (.Name x p) (e :: es) [] pos) (mApp f mr) :=
  PE.to (pe_callTy hc hg hm hv ha hn hdb he hpl) fun _ _ _ q => em_cb hr _ _ _ q
theorem pem_isi {y : Str} {T : String} {p2 : Pos} (hg : Gl X "isinstance") (hm : X.mg "isinstance" = none) (hg2 : Gl X y) (hm2 : X.mg y = none) (hv2 : bootBuiltins y = some (.type T)) (ha : PEM X e ma) (hn : y ≠ "__name__" := by decide) (hdb : (y == ("__debug__" : Str)) = false := by decide)
    (he : starEach [e, .Name y p2] X.env = (false, eval e X.env) :: starEach [.Name y p2] X.env := by rfl) (hpl : (backTo pos (starEach [.Name y p2] X.env)).any (·.1) = false := by rfl) (hs : starEach [.Name y p2] X.env = (false, eval (.Name y p2) X.env) :: starEach [] X.env := by rfl) :
    PEM X (.Call (.Name "isinstance" p) [e, .Name y p2] [] pos) (mUn (dIsi T) ma) :=
  PE.to (pe_callB call_isi hg hm (by rfl) (pa_cons ha (pa_cons (pe_bltn (v := .ty T) hg2 hm2 hv2 rfl hn hdb) pa_nil hs) he) (by decide) (by decide) he hpl) fun σ H Q h => by
    obtain ⟨c, S, own, ρ, d, ρ', sr, hm, k⟩ := h
    unfold mUn at hm
    simp only [Option.bind_eq_some_iff, Option.map_eq_some_iff] at hm
    obtain ⟨⟨a, ρ1⟩, h1, d', h3, e⟩ := hm
    cases e
    refine ⟨c, S, own, ρ, a, ρ1, sr, h1, fun v H1 e1 sr1 r1 => ?_⟩
    simp only [dIsi, Option.bind_eq_some_iff, Option.map_eq_some_iff] at h3
    obtain ⟨t, e2, b, e3, rfl⟩ := h3
    exact ⟨v, .ty T, .type t, .type T, b, rfl, .ty T, (r1.mono Fz.le).ty e2, kit_ty e3, k _ H1 e1 sr1 (.bl b)⟩
end
end TL

namespace TL
open PySem L2

/-! ### x[::-1] -/
def revS (x : Str) : Str := Txt.sliceBy x none none (-1, 0)
theorem revS_list (x : Str) : (revS x).cps.toList = x.cps.toList.reverse := by
  unfold revS
  rw [PyProof.Rows.step_rev_list]
  refine List.ext_getElem (by simp [Str.length]) fun i h1 h2 => ?_
  simp only [List.length_map, List.length_range] at h1
  simp only [List.getElem_map, List.getElem_range, List.getElem_reverse, Array.getElem_toList, Array.length_toList]
  have hb : x.length - 1 - i < x.cps.size := by have : x.length = x.cps.size := rfl; omega
  rw [Array.getD_eq_getD_getElem?, Array.getElem?_eq_getElem hb]
  rfl
def tRevA (K : PySem.W.Frag) (te : TE) : TE := fun σ H Q => te σ H fun x H1 => (∃ a xs, x = .ref a ∧ SqL K H1 a xs ∧ ∀ p, H1 p = none → Q (.ref p) (upd H1 p (.lst xs.reverse))) ∨ ∃ y, x = .str y ∧ y.length ≤ sizeLine ∧ Q (.str (revS y)) H1
section
variable {X : Cx} {e : Expr} {ma : ME}
theorem pe_revA {te : TE} {k : Nat} {p1 p2 p3 pos : Pos} (he : PE X e te) : PE X (.Subscript e (.Slice none none (some (.UnaryOp .USub (.Constant (.int 1) k p1) p2)) p3) pos) (tRevA X.K te) := by
  refine ⟨fun pins s σ H Q I h => ?_⟩
  refine PyProof.Rows.Subscript_ (thn (he.run pins s σ H _ I h) fun v s1 ⟨x, H1, I1, r1, q1⟩ => ?_)
  have hst : PO X (some (.UnaryOp .USub (.Constant (.int 1) k p1) p2)) (tPart (tUn (rU fun i => .int (-i)) (tC (.int 1)))) := po_some (pe_un un_neg pe_int)
  refine wpAny_Slice (thn (po_none.run pins s1 σ H1 (fun o H2 => o = none ∧ H2 = H1) I1 ⟨rfl, rfl⟩) fun vl s2 ⟨l, H2, I2, pl, el, e2⟩ => ?_)
  subst el; subst e2
  refine thn (po_none.run pins s2 σ H2 (fun o H3 => o = none ∧ H3 = H2) I2 ⟨rfl, rfl⟩) fun vu s3 ⟨u, H3, I3, pu, eu, e3⟩ => ?_
  subst eu; subst e3
  refine thn (hst.run pins s3 σ H3 (fun o H4 => o = some (-1) ∧ H4 = H3) I3 ⟨1, rfl, -1, rfl, rfl, rfl⟩) fun vs s4 ⟨o, H4, I4, ps, eo, e4⟩ => ?_
  subst eo; subst e4
  have I5 : Inv X pins σ H4 { s4 with heap := s4.heap.push { cls := .type "slice", data := .fields #[vl, vu, vs] } } := I4.kept (t' := s4.toks) fun b ob q => Heap.get?_push_of_some _ q
  rcases q1 with ⟨a, xs, ex, hx, q⟩ | ⟨y, ex, hy, q⟩
  · subst ex
    cases r1
    obtain ⟨its, r, ht, hz⟩ := I5.list hx
    have hlen := r.length
    refine PyProof.Rows.tail_any (ops := [.ref a, .ref s4.heap.objs.size]) ht.isList.typeIs (PySem.slot_list_getitem.lookup) ?_ (by with_unfolding_all rfl)
    refine wpAny_getItem_list_slice ht.isList (Heap.IsSliceOf.new _ vl vu vs) pl pu ps (by decide) ?_ (by rw [List.size_toArray]; omega)
    rw [PySem.W.krv_pick]
    refine ⟨.ref _, _, I5.laid (t' := s4.toks) (o := .lst xs.reverse) (fun b ob q => Heap.get?_push_of_some _ q) (Nat.le_refl _) ?_, rfl, q _ (I5.hok.fresh (Nat.le_refl _))⟩
    exact ⟨by rw [List.length_reverse]; exact hz, _, 0, r.reverse, Heap.get?_push_size _ rfl⟩
  · subst ex
    obtain ⟨t, rfl⟩ := r1
    cases pl
    cases pu
    cases ps
    rename_i tk _
    refine PyProof.Rows.tail_any (ops := [.ref s4.heap.objs.size, .str y t]) (typeIs_str _ _ _) F.slot_str_getitem.lookup ?_ (by with_unfolding_all rfl)
    refine wpAny_getItem_str_slice (l := none) (u := none) (st := some (-1, tk)) ⟨_, Heap.get?_push_size _ rfl, rfl, rfl⟩ rfl (post_val_or_str ⟨Nat.le_trans (Txt.sliceBy_le y none none (-1, tk) (by intro z; cases z)) hy, fun t' c => ?_⟩)
    exact ⟨.str (revS y), _, I5.kept (t' := c) fun _ _ z => z, ⟨t', rfl⟩, q⟩
def dRev : D → Option D
  | .lst ds => some (.lst ds.reverse)
  | .str x => if x.length ≤ sizeLine then some (.str (revS x)) else none
  | _ => none
theorem pem_rev {k : Nat} {p1 p2 p3 pos : Pos} (he : PEM X e ma) : PEM X (.Subscript e (.Slice none none (some (.UnaryOp .USub (.Constant (.int 1) k p1) p2)) p3) pos) (mUn dRev ma) := PE.to (pe_revA he) fun σ H Q q =>
  em_un (K := X.K) (r := fun x H1 Q => (∃ a xs, x = .ref a ∧ SqL X.K H1 a xs ∧ ∀ p, H1 p = none → Q (.ref p) (upd H1 p (.lst xs.reverse))) ∨ ∃ y, x = .str y ∧ y.length ≤ sizeLine ∧ Q (.str (revS y)) H1) (fun S H x a d Q ra hf t k => by
    cases ra with
    | lst h1 l1 => cases hf; exact .inl ⟨_, _, rfl, SqL.of (Fz.le _ _ h1), fun p hp => k _ _ (Ex.new hp) (.lst (fz_new t hp) (l1.reverse.mono (Fz.ex (Ex.new hp))))⟩
    | str y =>
      simp only [dRev] at hf
      split at hf
      · rename_i h; cases hf; exact .inr ⟨y, rfl, h, k _ H (Ex.refl _) (.str _)⟩
      · cases hf
    | _ => cases hf) σ H Q q
end

/-! ### join, index -/
def dJoin : D → D → Option D
  | .str a, .lst ds => (asStrs ds).bind fun ys => if (ys.map (·.length)).sum + ys.length * a.length ≤ 16777216 then some (.str (Txt.join a ys)) else none
  | .str a, .tup ds => (asStrs ds).bind fun ys => if (ys.map (·.length)).sum + ys.length * a.length ≤ 16777216 then some (.str (Txt.join a ys)) else none
  | _, _ => none
def dIndex : D → D → Option D
  | .lst ds, .str x => (asStrs ds).bind fun ys => (ys.findIdx? (· == x)).map fun i => .int (i : Nat)
  | .lst ds, .int x => (asInts ds).bind fun ys => (ys.findIdx? (· == x)).map fun i => .int (i : Nat)
  | _, _ => none
section
variable {X : Cx} {o e : Expr} {mo me : ME} {apos pos : Pos}
theorem pem_join (ho : PEM X o mo) (he : PEM X e me) (hs : starEach [e] X.env = [(false, eval e X.env)] := by rfl) (hbase : attributeBase o "join" X.env (eval o X.env) = eval o X.env := by rfl) (hline : (apos.endLine == pos.line) = true := by rfl) :
    PEM X (.Call (.Attribute o "join" apos) [e] [] pos) (mBin dJoin mo me) := PE.to (pe_join ho he hs hbase hline) fun σ H Q h => by
  obtain ⟨c, S, own, ρ, d, ρ', sr, hm, k⟩ := h
  unfold mBin at hm
  simp only [Option.bind_eq_some_iff, Option.map_eq_some_iff] at hm
  obtain ⟨⟨a, ρ1⟩, h1, ⟨b, ρ2⟩, h2, d', h3, e⟩ := hm
  cases e
  refine ⟨c, S, own, ρ, a, ρ1, sr, h1, fun v H1 e1 sr1 r1 => ?_⟩
  cases a <;> first | (cases h3; done) | skip
  rename_i x
  cases r1
  refine ⟨⟨_, rfl⟩, c, S, own, ρ1, b, ρ2, sr1, h2, fun u H2 e2 sr2 r2 => ?_⟩
  cases r2 with
  | lst g1 l1 =>
    simp only [dJoin, Option.bind_eq_some_iff] at h3
    obtain ⟨ys, e3, h3⟩ := h3
    split at h3
    · rename_i hb
      cases h3
      rw [asStrs_eq e3] at l1
      have := l1.strs; subst this
      exact ⟨x, _, ys, rfl, rfl, .inl (SqL.of (Fz.le _ _ g1)), hb, k _ H2 (e1.trans e2) sr2 (.str _)⟩
    · cases h3
  | tup g1 l1 =>
    simp only [dJoin, Option.bind_eq_some_iff] at h3
    obtain ⟨ys, e3, h3⟩ := h3
    split at h3
    · rename_i hb
      cases h3
      rw [asStrs_eq e3] at l1
      have := l1.strs; subst this
      exact ⟨x, _, ys, rfl, rfl, .inr (Fz.le.sqt g1), hb, k _ H2 (e1.trans e2) sr2 (.str _)⟩
    · cases h3
  | _ => cases h3
theorem flat_ints (ns : List Int) : (ns.map V.int).all flatV = true := List.all_eq_true.mpr fun x hx => by
  obtain ⟨n, _, rfl⟩ := List.mem_map.mp hx
  rfl
theorem flat_strs (ns : List Str) : (ns.map V.str).all flatV = true := List.all_eq_true.mpr fun x hx => by
  obtain ⟨n, _, rfl⟩ := List.mem_map.mp hx
  rfl
theorem pem_index (ho : PEM X o mo) (he : PEM X e me) (hbase : attributeBase o "index" X.env (eval o X.env) = eval o X.env := by rfl)
    (hfew : ((backTo pos (starEach [e] X.env)).all (fun x => !x.1) && (backToKw pos (keywordEach [] X.env)).all (fun x => x.1.isSome)
      && decide ([e].length + ([] : List Keyword).length + (if ([] : List Keyword).isEmpty then 0 else 1) < 30)) = true := by rfl)
    (hline : (apos.endLine == pos.line) = true := by rfl) (hs : starEach [e] X.env = (false, eval e X.env) :: starEach [] X.env := by rfl) (hplain : (backTo pos (starEach [] X.env)).any (·.1) = false := by rfl) :
    PEM X (.Call (.Attribute o "index" apos) [e] [] pos) (mBin dIndex mo me) := PE.to (pe_bm PySem.F.plainAttrs_list PySem.F.slot_list_index PySem.F.type_list_index mt_index ho (pa_cons he pa_nil hs) hbase hfew hline hs hplain) fun σ H Q h => by
  obtain ⟨c, S, own, ρ, d, ρ', sr, hm, k⟩ := h
  unfold mBin at hm
  simp only [Option.bind_eq_some_iff, Option.map_eq_some_iff] at hm
  obtain ⟨⟨a, ρ1⟩, h1, ⟨b, ρ2⟩, h2, d', h3, e⟩ := hm
  cases e
  refine ⟨c, S, own, ρ, a, ρ1, sr, h1, fun v H1 e1 sr1 r1 => ?_⟩
  cases a <;> first | (cases b <;> cases h3; done) | skip
  rename_i ds
  cases r1 with
  | lst g1 l1 =>
    refine ⟨.inl ⟨rfl, _, SqL.of (Fz.le _ _ g1)⟩, c, S, own, ρ1, b, ρ2, sr1, h2, fun u H2 e2 sr2 r2 => ?_⟩
    cases r2 with
    | str x =>
      simp only [dIndex, Option.bind_eq_some_iff, Option.map_eq_some_iff] at h3
      obtain ⟨ys, e3, i, e4, rfl⟩ := h3
      rw [asStrs_eq e3] at l1
      have := l1.strs; subst this
      obtain ⟨hi, f1, f2⟩ := List.findIdx?_eq_some_iff_getElem.mp e4
      refine ⟨_, _, _, i, .str ys[i], rfl, rfl, SqL.of (Fz.le _ _ (e2 _ _ g1)), rfl, flat_strs ys, by simp [hi], f1, fun m z hm hz => ?_, k _ H2 (e1.trans e2) sr2 (.int _)⟩
      rw [List.getElem?_map, List.getElem?_eq_getElem (Nat.lt_trans hm hi)] at hz
      cases hz
      have := f2 m hm
      simpa [eqV] using this
    | int x =>
      simp only [dIndex, Option.bind_eq_some_iff, Option.map_eq_some_iff] at h3
      obtain ⟨ys, e3, i, e4, rfl⟩ := h3
      rw [asInts_eq e3] at l1
      have := l1.ints; subst this
      obtain ⟨hi, f1, f2⟩ := List.findIdx?_eq_some_iff_getElem.mp e4
      refine ⟨_, _, _, i, .int ys[i], rfl, rfl, SqL.of (Fz.le _ _ (e2 _ _ g1)), rfl, flat_ints ys, by simp [hi], f1, fun m z hm hz => ?_, k _ H2 (e1.trans e2) sr2 (.int _)⟩
      rw [List.getElem?_map, List.getElem?_eq_getElem (Nat.lt_trans hm hi)] at hz
      cases hz
      have := f2 m hm
      simpa [eqV] using this
    | _ => cases h3
end

/-! ### a text, a list or a tuple, many times -/
def rMulS : R2 := fun x y H Q => ∃ z k, x = .str z ∧ y = .int k ∧ z.length ≤ sizeLine ∧ 0 ≤ k ∧ k < 2 ^ 40 ∧ z.length * k.toNat ≤ sizeLine ∧ Q (.str (strMul z k.toNat)) H
theorem foldl_cat (c : Array Nat) : ∀ (n : Nat) (acc : Array Nat), ((List.replicate n c).foldl (· ++ ·) acc).toList = acc.toList ++ (List.replicate n c.toList).flatten
  | 0, acc => by simp
  | n + 1, acc => by
    rw [List.replicate_succ, List.foldl_cons, foldl_cat c n, List.replicate_succ, List.flatten_cons, Array.toList_append, List.append_assoc]
theorem strMul_fold (z : Str) (n : Nat) : (⟨(List.replicate n z.cps).foldl (· ++ ·) #[]⟩ : Str) = strMul z n := by
  unfold strMul
  congr 1
  refine Array.ext' ?_
  rw [foldl_cat, List.nil_append]
theorem strMul_one (z : Str) : strMul z 1 = z := by
  unfold strMul
  show (⟨(z.cps.toList ++ []).toArray⟩ : Str) = z
  rw [List.append_nil]
theorem strMul_nil (z : Str) (n : Nat) (h : z.length = 0) : strMul z n = z := by
  have e : z.cps = #[] := Array.eq_empty_of_size_eq_zero h
  obtain ⟨c⟩ := z
  subst e
  unfold strMul
  congr 1
  refine Array.ext' ?_
  simp
theorem strMul_zero (z : Str) : strMul z 0 = Str.empty := rfl
section
variable {X : Cx}
theorem op_mulS : OpR X (binaryOp .Mult) rMulS := by
  intro pins s σ H x y v u Q I rx ry h
  obtain ⟨z, k, rfl, rfl, hz, h0, h1, h2, q⟩ := h
  obtain ⟨t, rfl⟩ := rx
  obtain ⟨t2, rfl⟩ := ry
  refine PySem.P.mul_str ?_ (fun hn _ => ?_) (fun hn _ => ?_) ?_
  · rw [decide_eq_false (by omega), decide_eq_false (by omega)]; rfl
  · have hk : (0 : Int) < k := by omega
    have hs : (sizeLine : Nat) ≤ 2 ^ 60 := by decide
    have : (z.length : Int) * k ≤ 2 ^ 63 - 1 := by
      have e : (k.toNat : Int) = k := Int.toNat_of_nonneg h0
      have : ((z.length * k.toNat : Nat) : Int) ≤ 2 ^ 60 := by exact_mod_cast Nat.le_trans h2 hs
      rw [Int.natCast_mul, e] at this
      omega
    have := (Int.le_ediv_iff_mul_le hk).mpr this
    omega
  · exact decide_eq_false (Nat.not_lt.mpr h2)
  · split
    · rename_i hn
      have e : k.toNat = 0 := by omega
      rw [e, strMul_zero] at q
      exact ⟨by decide, .str _, H, I.tok _, ⟨_, rfl⟩, q⟩
    · split
      · rename_i hn hc
        simp only [Bool.or_eq_true, beq_iff_eq] at hc
        have e : strMul z k.toNat = z := by
          rcases hc with rfl | hc
          · exact strMul_one z
          · exact strMul_nil z _ hc
        rw [e] at q
        exact ⟨.str _, H, I, ⟨_, rfl⟩, q⟩
      · rw [strMul_fold]
        refine ⟨?_, .str _, H, I.tok _, ⟨_, rfl⟩, q⟩
        show (strMul z k.toNat).cps.size ≤ sizeLine
        have : (strMul z k.toNat).cps.size = z.length * k.toNat := by
          unfold strMul
          simp [Str.length, Nat.mul_comm]
        rw [this]; exact h2
end
def rMulA (K : PySem.W.Frag) : R2 := fun x y H Q => rI CMulW (fun i j => .int (i * j)) x y H Q ∨ (rMulS x y H Q ∨ rRep x y H Q)
theorem op_mulA {X : Cx} : OpR X (binaryOp .Mult) (rMulA X.K) := OpR.or op_mulW (OpR.or op_mulS op_rep)
def dMulA : D → D → Option D
  | .int i, .int j => if mulOk i j = true then some (.int (i * j)) else none
  | .str z, .int k => if z.length ≤ sizeLine ∧ 0 ≤ k ∧ k < 2 ^ 40 ∧ z.length * k.toNat ≤ sizeLine then some (.str (strMul z k.toNat)) else none
  | .lst ds, .int k => if 0 ≤ k ∧ k < 2 ^ 40 ∧ ds.length * k.toNat ≤ sizeLine then some (.lst (List.replicate k.toNat ds).flatten) else none
  | _, _ => none
theorem RepL.times {K : PySem.W.Frag} {H : Hp} {xs : List V} {ds : List D} (r : RepL K H xs ds) : ∀ n : Nat, RepL K H (List.replicate n xs).flatten (List.replicate n ds).flatten
  | 0 => .nil
  | n + 1 => by rw [List.replicate_succ, List.replicate_succ, List.flatten_cons, List.flatten_cons]; exact r.append (r.times n)
theorem ro_mulA {K : PySem.W.Frag} : RO K (rMulA K) dMulA := by
  intro S H x y a b d Q ra rb hf t k
  cases ra with
  | int i =>
    cases rb <;> first | (cases hf; done) | skip
    exact .inl (ro_mul S H _ _ _ _ d Q (.int i) (.int _) hf t k)
  | str z =>
    cases rb <;> first | (cases hf; done) | skip
    simp only [dMulA] at hf
    split at hf
    · rename_i h; cases hf; exact .inr (.inl ⟨z, _, rfl, rfl, h.1, h.2.1, h.2.2.1, h.2.2.2, k _ H (Ex.refl _) (.str _)⟩)
    · cases hf
  | lst h1 l1 =>
    cases rb <;> first | (cases hf; done) | skip
    simp only [dMulA] at hf
    split at hf
    · rename_i h; cases hf
      exact .inr (.inr ⟨_, _, _, rfl, rfl, Fz.le _ _ h1, by omega, by omega, by rw [l1.length]; exact h.2.2, fun p hp => k _ _ (Ex.new hp) (.lst (fz_new t hp) ((l1.times _).mono (Fz.ex (Ex.new hp))))⟩)
    · cases hf
  | _ => cases hf
end TL

namespace TL
open PySem L2

/-! ### two clauses -/
def lc2Go (f : MG) (mt : MT) (mi1 : MI) (f1 : MG) (mt1 : MT) (me : ME) (vs vs1 : List Nat) : List D → List Cell → Option (List D × List Cell)
  | [], ρ => some ([], ρ)
  | d :: ds, ρ => (f d ρ).bind fun ρ1 => (mt ρ1).bind fun q => if q.1 = true then (mi1 q.2).bind fun p => (lcGo f1 mt1 me vs1 p.1 (wipeC p.2 vs1)).bind fun r => (lc2Go f mt mi1 f1 mt1 me vs vs1 ds (wipeC r.2 vs)).map fun z => (r.1 ++ z.1, z.2)
      else lc2Go f mt mi1 f1 mt1 me vs vs1 ds (wipeC q.2 vs)
def mLc2 (mi : MI) (f : MG) (mt : MT) (mi1 : MI) (f1 : MG) (mt1 : MT) (me : ME) (vs vs1 : List Nat) : ME := fun ρ => (mi ρ).bind fun p => if plainC p.2 vs = true then (lc2Go f mt mi1 f1 mt1 me vs vs1 p.1 (wipeC p.2 vs)).bind fun z =>
  if z.1.length ≤ sizeLine then some (.lst z.1, backC p.2 z.2 vs) else none else none
theorem nil_of_sub {own own' : Nat → List Addr} {vs : List Nat} (h : ∀ i a, a ∈ own' i → a ∈ own i) (hv : ∀ j ∈ vs, own j = []) : ∀ j ∈ vs, own' j = [] := fun j hj =>
  List.eq_nil_iff_forall_not_mem.mpr fun a ha => by have := h j a ha; rw [hv j hj] at this; cases this
theorem wipe_both {σ : L2.St} {vs vs1 : List Nat} (h : ∀ i ∈ vs1, i ∈ vs) : L2.wipe (L2.wipe σ vs1) vs = L2.wipe σ vs :=
  wipe_eq (wipe_length ..) fun i hi => wipe_out fun m => hi (h i m)
theorem em_lc2 {K : PySem.W.Frag} {mi mi1 : MI} {g g1 : TG} {ts ts1 vs vs1 : List Nat} {f f1 : MG} {mt mt1 : MT} {me : ME} (hg : GM K g ts f) (hts : ∀ i ∈ ts, i ∈ vs) (hg1 : GM K g1 ts1 f1) (hts1 : ∀ i ∈ ts1, i ∈ vs1) (hvs1 : ∀ i ∈ vs1, i ∈ vs) {σ : L2.St} {H : Hp} {Q : VK} :
    teOf K (mLc2 mi f mt mi1 f1 mt1 me vs vs1) σ H Q → tLc2 (wiOf K mi) g (ttOf K mt) (wiOf K mi1) g1 (ttOf K mt1) (teOf K me) vs vs1 σ H Q := by
  rintro ⟨c, S, own, ρ, d, ρ', sr, hm, k⟩
  simp only [mLc2, Option.bind_eq_some_iff] at hm
  obtain ⟨⟨ds, ρ1⟩, h1, h2⟩ := hm
  split at h2
  case isFalse => cases h2
  rename_i hpl
  simp only [Option.bind_eq_some_iff] at h2
  obtain ⟨⟨out, ρb⟩, h3, h4⟩ := h2
  split at h4
  case isFalse => cases h4
  rename_i hsz
  cases h4
  refine ⟨c, S, own, ρ, ds, ρ1, sr, h1, fun J H1 e1 sr1 w p hp => ?_⟩
  have hpS : p ∉ S := sr1.new hp
  have hp0 : c.H0 p = none := sr1.fresh0 hp
  have hown : ∀ i, p ∉ own i := fun i m => hpS (sr1.ownS i p m).1
  have hvs : ∀ i ∈ vs, own i = [] := fun i hi => sr1.plain (List.all_eq_true.mp hpl i hi)
  have w' : Wk K J (p :: S) (upd H1 p (.lst [])) ds := w.later (Fz.upd_new hp)
  refine ⟨fun i m H' => ∃ own' ρi acc as rest, m = ds.length - i ∧ i ≤ ds.length ∧ Ex (Fz (p :: S) (upd H1 p (.lst []))) (Fz (p :: S) H') ∧ SR K c (p :: S) own' (L2.wipe σ vs) H' ρi ∧ (∀ j, j ∉ vs → own' j = own j) ∧ (∀ j, p ∉ own' j) ∧ (∀ j ∈ vs, own' j = []) ∧
    H' p = some (.lst acc) ∧ RepL K (Fz (p :: S) H') acc as ∧ as ++ rest = out ∧ lc2Go f mt mi1 f1 mt1 me vs vs1 (ds.drop i) ρi = some (rest, ρb), ?_, ?_⟩
  · exact ⟨_, own, wipeC ρ1 vs, [], [], out, rfl, Nat.zero_le _, Ex.refl _, (sr1.aside hp).wipe vs hvs, fun _ _ => rfl, hown, hvs, upd_same, .nil, rfl, h3⟩
  · rintro i m H' ⟨own', ρi, acc, as, rest, rfl, hi, ei, si, hoi, hpi, hvi, ha, hr, hout, hl⟩
    by_cases hlt : i < ds.length
    · right
      refine ⟨w'.go (p :: S) H' i ei si.trk hlt, fun H2 => ∃ own' ρi acc as rest, Ex (Fz (p :: S) (upd H1 p (.lst []))) (Fz (p :: S) H2) ∧ SR K c (p :: S) own' (L2.wipe σ vs) H2 ρi ∧ (∀ j, j ∉ vs → own' j = own j) ∧ (∀ j, p ∉ own' j) ∧ (∀ j ∈ vs, own' j = []) ∧
        H2 p = some (.lst acc) ∧ RepL K (Fz (p :: S) H2) acc as ∧ as ++ rest = out ∧ lc2Go f mt mi1 f1 mt1 me vs vs1 (ds.drop (i + 1)) ρi = some (rest, ρb), ?_, ?_⟩
      · rintro H2 ⟨own2, ρ2, acc2, as2, rest2, a1, a2, a3, a4, a5, a6, a7, a8, a9⟩
        exact ⟨ds.length - (i + 1), by omega, own2, ρ2, acc2, as2, rest2, rfl, hlt, a1, a2, a3, a4, a5, a6, a7, a8, a9⟩
      · intro x H2 hy
        obtain ⟨e2, q⟩ := w'.yld (p :: S) H' i x H2 ei si.trk hy ds[i] (by simp [hlt])
        rw [List.drop_eq_getElem_cons hlt] at hl
        simp only [lc2Go, Option.bind_eq_some_iff] at hl
        obtain ⟨ρ2, f1', ⟨b, ρ3⟩, f2, f3⟩ := hl
        have ei2 : Ex (Fz (p :: S) (upd H1 p (.lst []))) (Fz (p :: S) H2) := ei.trans (Fz.ex e2)
        refine hg c (p :: S) own' (L2.wipe σ vs) H2 ρi x ds[i] ρ2 _ (si.ex e2) q f1' fun own2 σ2 hl2 hk2 hn2 s2 => ?_
        have hw : L2.wipe σ2 vs = L2.wipe σ vs := by
          have e := wipe_eq (σ := L2.wipe σ vs) (σ' := σ2) (vs := vs) hl2 fun j hj => (hk2 j fun m => hj (hts j m)).1
          rw [e]
          exact wipe_eq (by rw [wipe_length]) fun j hj => wipe_out hj
        have ho2 : ∀ j, j ∉ vs → own2 j = own j := fun j hj => ((hk2 j fun m => hj (hts j m)).2.2).trans (hoi j hj)
        have hp2 : ∀ j, p ∉ own2 j := fun j m => hpi j (hn2 j p m)
        have hv2 : ∀ j ∈ vs, own2 j = [] := nil_of_sub hn2 hvi
        refine ⟨hw, ttOf.mk s2 f2 fun H3 e3 s3 fr3 => ?_⟩
        have ei3 := ei2.trans e3
        have ha3 : H3 p = some (.lst acc) := fr3 p _ hp2 (e2 p _ ha)
        have hr3 : RepL K (Fz (p :: S) H3) acc as := (hr.mono (Fz.ex e2)).mono e3
        cases b with
        | false =>
          simp only [Bool.false_eq_true, if_false] at f3 ⊢
          have s4 := s3.wipe vs hv2
          rw [hw] at s4
          exact ⟨own2, _, acc, as, rest, ei3, s4, ho2, hp2, hv2, ha3, hr3, hout, f3⟩
        | true =>
          simp only [if_true, Option.bind_eq_some_iff, Option.map_eq_some_iff] at f3 ⊢
          obtain ⟨⟨ds1, ρ4⟩, f4, ⟨mid, ρ5⟩, f5, ⟨rest', ρ6⟩, f6, ez⟩ := f3
          cases ez
          have sE := s3.enter
          refine ⟨_, p :: S, own2, ρ3, ds1, ρ4, sE, f4, fun J1 H4 e4 s4' w1 => ?_⟩
          have s4 := s3.leave s4'
          have fr4 : H4 p = some (.lst acc) := s4'.keep p _ ha3 fun ⟨i, m⟩ => hp2 i m
          have ei4 := ei3.trans e4
          have hr4 : RepL K (Fz (p :: S) H4) acc as := hr3.mono e4
          have hv1 : ∀ j ∈ vs1, own2 j = [] := fun j hj => hv2 j (hvs1 j hj)
          refine ⟨fun j n H' => ∃ own3 ρj acc3 as3 rest3, n = ds1.length - j ∧ j ≤ ds1.length ∧ Ex (Fz (p :: S) H4) (Fz (p :: S) H') ∧ SR K c (p :: S) own3 (L2.wipe σ2 vs1) H' ρj ∧ (∀ j, j ∉ vs → own3 j = own j) ∧ (∀ j, p ∉ own3 j) ∧ (∀ j ∈ vs, own3 j = []) ∧
            H' p = some (.lst acc3) ∧ RepL K (Fz (p :: S) H') acc3 as3 ∧ as3 ++ (rest3 ++ rest') = out ∧ lcGo f1 mt1 me vs1 (ds1.drop j) ρj = some (rest3, ρ5), ?_, ?_⟩
          · exact ⟨_, own2, _, acc, as, mid, rfl, Nat.zero_le _, Ex.refl _, s4.wipe vs1 hv1, ho2, hp2, hv2, fr4, hr4, hout, f5⟩
          · rintro j n H' ⟨own3, ρj, acc3, as3, rest3, rfl, hj, ej, sj, hoj, hpj, hvj, haj, hrj, houtj, hlj⟩
            by_cases hlt1 : j < ds1.length
            · right
              refine ⟨w1.go (p :: S) H' j ej sj.trk hlt1, fun H2 => ∃ own3 ρj acc3 as3 rest3, Ex (Fz (p :: S) H4) (Fz (p :: S) H2) ∧ SR K c (p :: S) own3 (L2.wipe σ2 vs1) H2 ρj ∧ (∀ j, j ∉ vs → own3 j = own j) ∧ (∀ j, p ∉ own3 j) ∧ (∀ j ∈ vs, own3 j = []) ∧
                H2 p = some (.lst acc3) ∧ RepL K (Fz (p :: S) H2) acc3 as3 ∧ as3 ++ (rest3 ++ rest') = out ∧ lcGo f1 mt1 me vs1 (ds1.drop (j + 1)) ρj = some (rest3, ρ5), ?_, ?_⟩
              · rintro H2 ⟨own2, ρ2, acc2, as2, rest2, a1, a2, a3, a4, a5, a6, a7, a8, a9⟩
                exact ⟨ds1.length - (j + 1), by omega, own2, ρ2, acc2, as2, rest2, rfl, hlt1, a1, a2, a3, a4, a5, a6, a7, a8, a9⟩
              · intro y H5 hy5
                obtain ⟨e5, q5⟩ := w1.yld (p :: S) H' j y H5 ej sj.trk hy5 ds1[j] (by simp [hlt1])
                rw [List.drop_eq_getElem_cons hlt1] at hlj
                simp only [lcGo, Option.bind_eq_some_iff] at hlj
                obtain ⟨ρ7, f7, ⟨b, ρ8⟩, f8, f9⟩ := hlj
                have ej5 : Ex (Fz (p :: S) H4) (Fz (p :: S) H5) := ej.trans (Fz.ex e5)
                refine hg1 c (p :: S) own3 (L2.wipe σ2 vs1) H5 ρj y ds1[j] ρ7 _ (sj.ex e5) q5 f7 fun own6 σ6 hl6 hk6 hn6 s6 => ?_
                have hw6 : L2.wipe σ6 vs1 = L2.wipe σ2 vs1 := by
                  have e := wipe_eq (σ := L2.wipe σ2 vs1) (σ' := σ6) (vs := vs1) hl6 fun j hj => (hk6 j fun m => hj (hts1 j m)).1
                  rw [e]
                  exact wipe_eq (by rw [wipe_length]) fun j hj => wipe_out hj
                have ho6 : ∀ j, j ∉ vs → own6 j = own j := fun j hj => ((hk6 j fun m => hj (hvs1 j (hts1 j m))).2.2).trans (hoj j hj)
                have hp6 : ∀ j, p ∉ own6 j := fun j m => hpj j (hn6 j p m)
                have hv6 : ∀ j ∈ vs, own6 j = [] := nil_of_sub hn6 hvj
                refine ⟨hw6, ttOf.mk s6 f8 fun H8 e8 s8 fr8 => ?_⟩
                have ej8 := ej5.trans e8
                have ha8 : H8 p = some (.lst acc3) := fr8 p _ hp6 (e5 p _ haj)
                have hr8 : RepL K (Fz (p :: S) H8) acc3 as3 := (hrj.mono (Fz.ex e5)).mono e8
                have again : ∀ {H4 : Hp} {ρ4 : List Cell}, SR K c (p :: S) own6 σ6 H4 ρ4 → SR K c (p :: S) own6 (L2.wipe σ2 vs1) H4 (wipeC ρ4 vs1) := fun s9 => by
                  have := s9.wipe vs1 fun j hj => hv6 j (hvs1 j hj)
                  rw [hw6] at this
                  exact this
                cases b with
                | false =>
                  simp only [Bool.false_eq_true, if_false] at f9 ⊢
                  exact ⟨own6, _, acc3, as3, rest3, ej8, again s8, ho6, hp6, hv6, ha8, hr8, houtj, f9⟩
                | true =>
                  simp only [if_true, Option.bind_eq_some_iff, Option.map_eq_some_iff] at f9 ⊢
                  obtain ⟨⟨z, ρ9⟩, f10, ⟨rest4, ρ10⟩, f11, ez⟩ := f9
                  cases ez
                  refine teOf.mk s8 f10 fun v H9 e9 s9 q9 fr9 => ?_
                  have ha9 : H9 p = some (.lst acc3) := fr9 p _ hp6 ha8
                  have fz : Fz (p :: S) (upd H9 p (.lst (acc3 ++ [v]))) = Fz (p :: S) H9 := Fz.upd_own List.mem_cons_self
                  refine ⟨acc3, ha9, ?_, own6, _, acc3 ++ [v], as3 ++ [z], rest4, ?_, (again s9).touch List.mem_cons_self ha9 hp6 hp0, ho6, hp6, hv6, upd_same, ?_, by rw [List.append_assoc]; exact houtj, f11⟩
                  · have l1 := hr8.length
                    have l2 := congrArg List.length houtj
                    simp only [List.length_append, List.length_cons] at l2
                    have l3 : out.length ≤ sizeLine := hsz
                    have l4 : as3.length < sizeLine := by omega
                    omega
                  · rw [fz]; exact ej8.trans e9
                  · rw [fz]; exact (hr8.mono e9).snoc q9
            · left
              have e : j = ds1.length := by omega
              subst e
              rw [List.drop_length] at hlj
              cases hlj
              have s9 := sj.wipe vs hvj
              rw [wipe_both hvs1, hw] at s9
              exact ⟨w1.stop (p :: S) H' ej, own3, _, acc3, as3, rest', ei4.trans ej, s9, hoj, hpj, hvj, haj, hrj, houtj, f6⟩
    · left
      have e : i = ds.length := by omega
      subst e
      rw [List.drop_length] at hl
      cases hl
      rw [List.append_nil] at hout
      subst hout
      have ex : Ex (Fz S H1) (Fz S H') := ((Fz.upd_new hp).trans ei).trans (Fz.sub fun _ m => List.mem_cons_of_mem _ m)
      exact ⟨w'.stop (p :: S) H' ei, k _ H' (e1.trans ex) (SR.back sr1 hpl ex si hoi) (.lst (by rw [Fz.out hpS]; exact ha) (hr.mono (Fz.sub fun _ m => List.mem_cons_of_mem _ m)))⟩
section
variable {X : Cx} {elt tg iter tg1 iter1 : Expr} {ifs ifs1 : List Expr} {scope : Scope} {own : List (Str × Nat)} {pos spos py : Pos} {mi mi1 : MI} {g g1 : TG} {ts ts1 vs1 : List Nat} {f f1 : MG} {mt mt1 : MT} {me : ME} {i : Nat} {y : Str}
theorem psm_setLc (hc : X.calm = true) (hN : X.N.Nodup) (hy : X.N[i]? = some y) (hyl : X.env.scope.names.lookup y = some .local)
    (hsw : swapsWith (.ListComp elt [⟨tg, iter, ifs, 0⟩] scope pos) (some (.Name y py)) spos.line X.env = pure true) (hi : PIM X tg iter mi) (ok : blkC X.N X.env.scope scope own = true)
    (hg : ∀ (s : Shared) (H : Hp) (C : Addr) (cl : List (Str × Addr)) (fp : List Addr), PG (X.blk s H scope (compEnvC scope cl C X.env) fp) tg g) (hf : GM X.K g ts f) (hts : ∀ i ∈ ts, i ∈ own.map (·.2))
    (ht : ∀ (s : Shared) (H : Hp) (C : Addr) (cl : List (Str × Addr)) (fp : List Addr), PTMs (X.blk s H scope (compEnvC scope cl C X.env) fp) ifs mt)
    (he : ∀ (s : Shared) (H : Hp) (C : Addr) (cl : List (Str × Addr)) (fp : List Addr), PEM (X.blk s H scope (compEnvC scope cl C X.env) fp) elt me) (hs : ∀ x, foldedSetIterable iter X.env x = pure x := by intro _; rfl) :
    PSM X (.Assign [.Name y py] (.ListComp elt [⟨tg, iter, ifs, 0⟩] scope pos) spos) (mAsg (mLc mi f mt me (own.map (·.2))) (gmName i)) :=
  PS.to (ps_setLc hc hN hy hyl hsw hi (blkOk_by ok) hg ht he hs) fun _ _ _ q => em_lc hf hts (sm_asg (gm_name i) q)
theorem pem_lc2 (hc : X.calm = true) (hN : X.N.Nodup) (hi : PIM X tg iter mi) (ok : blkC X.N X.env.scope scope own = true) (hv : ∀ i ∈ vs1, i ∈ own.map (·.2))
    (hg : ∀ (s : Shared) (H : Hp) (C : Addr) (cl : List (Str × Addr)) (fp : List Addr), PG (X.blk s H scope (compEnvC scope cl C X.env) fp) tg g) (hf : GM X.K g ts f) (hts : ∀ i ∈ ts, i ∈ own.map (·.2))
    (ht : ∀ (s : Shared) (H : Hp) (C : Addr) (cl : List (Str × Addr)) (fp : List Addr), PTMs (X.blk s H scope (compEnvC scope cl C X.env) fp) ifs mt)
    (hi1 : ∀ (s : Shared) (H : Hp) (C : Addr) (cl : List (Str × Addr)) (fp : List Addr), PIM (X.blk s H scope (compEnvC scope cl C X.env) fp) tg1 iter1 mi1)
    (hg1 : ∀ (s : Shared) (H : Hp) (C : Addr) (cl : List (Str × Addr)) (fp : List Addr), PG (X.blk s H scope (compEnvC scope cl C X.env) fp) tg1 g1) (hf1 : GM X.K g1 ts1 f1) (hts1 : ∀ i ∈ ts1, i ∈ vs1)
    (ht1 : ∀ (s : Shared) (H : Hp) (C : Addr) (cl : List (Str × Addr)) (fp : List Addr), PTMs (X.blk s H scope (compEnvC scope cl C X.env) fp) ifs1 mt1)
    (he : ∀ (s : Shared) (H : Hp) (C : Addr) (cl : List (Str × Addr)) (fp : List Addr), PEM (X.blk s H scope (compEnvC scope cl C X.env) fp) elt me) (hs : ∀ x, foldedSetIterable iter X.env x = pure x := by intro _; rfl) (hs1 : ∀ env x, foldedSetIterable iter1 env x = pure x := by intro _ _; rfl) :
    PEM X (.ListComp elt [⟨tg, iter, ifs, 0⟩, ⟨tg1, iter1, ifs1, 0⟩] scope pos) (mLc2 mi f mt mi1 f1 mt1 me (own.map (·.2)) vs1) :=
  PE.to (pe_lc2 hc hN hi (blkOk_by ok) hv hg ht hi1 hg1 ht1 he hs hs1) fun _ _ _ q => em_lc2 hf hts hf1 hts1 hv q
theorem psm_setLc2 (hc : X.calm = true) (hN : X.N.Nodup) (hy : X.N[i]? = some y) (hyl : X.env.scope.names.lookup y = some .local)
    (hsw : swapsWith (.ListComp elt [⟨tg, iter, ifs, 0⟩, ⟨tg1, iter1, ifs1, 0⟩] scope pos) (some (.Name y py)) spos.line X.env = pure true) (hi : PIM X tg iter mi) (ok : blkC X.N X.env.scope scope own = true) (hv : ∀ i ∈ vs1, i ∈ own.map (·.2))
    (hg : ∀ (s : Shared) (H : Hp) (C : Addr) (cl : List (Str × Addr)) (fp : List Addr), PG (X.blk s H scope (compEnvC scope cl C X.env) fp) tg g) (hf : GM X.K g ts f) (hts : ∀ i ∈ ts, i ∈ own.map (·.2))
    (ht : ∀ (s : Shared) (H : Hp) (C : Addr) (cl : List (Str × Addr)) (fp : List Addr), PTMs (X.blk s H scope (compEnvC scope cl C X.env) fp) ifs mt)
    (hi1 : ∀ (s : Shared) (H : Hp) (C : Addr) (cl : List (Str × Addr)) (fp : List Addr), PIM (X.blk s H scope (compEnvC scope cl C X.env) fp) tg1 iter1 mi1)
    (hg1 : ∀ (s : Shared) (H : Hp) (C : Addr) (cl : List (Str × Addr)) (fp : List Addr), PG (X.blk s H scope (compEnvC scope cl C X.env) fp) tg1 g1) (hf1 : GM X.K g1 ts1 f1) (hts1 : ∀ i ∈ ts1, i ∈ vs1)
    (ht1 : ∀ (s : Shared) (H : Hp) (C : Addr) (cl : List (Str × Addr)) (fp : List Addr), PTMs (X.blk s H scope (compEnvC scope cl C X.env) fp) ifs1 mt1)
    (he : ∀ (s : Shared) (H : Hp) (C : Addr) (cl : List (Str × Addr)) (fp : List Addr), PEM (X.blk s H scope (compEnvC scope cl C X.env) fp) elt me) (hs : ∀ x, foldedSetIterable iter X.env x = pure x := by intro _; rfl) (hs1 : ∀ env x, foldedSetIterable iter1 env x = pure x := by intro _ _; rfl) :
    PSM X (.Assign [.Name y py] (.ListComp elt [⟨tg, iter, ifs, 0⟩, ⟨tg1, iter1, ifs1, 0⟩] scope pos) spos) (mAsg (mLc2 mi f mt mi1 f1 mt1 me (own.map (·.2)) vs1) (gmName i)) :=
  PS.to (ps_setLc2 hc hN hy hyl hsw hi (blkOk_by ok) hv hg ht hi1 hg1 ht1 he hs hs1) fun _ _ _ q => em_lc2 hf hts hf1 hts1 hv (sm_asg (gm_name i) q)
end

/-! ### a, b = x, y -/
def mPar (i j : Nat) (ma : MA) : MS := fun ρ => (ma ρ).bind fun p => match p.1 with
  | [x, y] => (gmName i x p.2).bind fun ρ1 => (gmName j y ρ1).map .nx
  | _ => none
theorem sm_par {K : PySem.W.Frag} {D : Ends} {σ : L2.St} {H : Hp} {i j : Nat} {ma : MA} : tsOf K (mPar i j ma) D σ H → tPar i j (taOf K ma) D σ H := by
  rintro ⟨c, S, own, ρ, r, sr, hm, k⟩
  simp only [mPar, Option.bind_eq_some_iff] at hm
  obtain ⟨⟨ds, ρ1⟩, h1, h2⟩ := hm
  refine ⟨c, S, own, ρ, ds, ρ1, sr, h1, fun vs H' e' sr' q => ?_⟩
  match ds, q, h2 with
  | [x, y], .cons (v := v) q1 (.cons (v := w) q2 .nil), h2 =>
    simp only [Option.bind_eq_some_iff, Option.map_eq_some_iff] at h2
    obtain ⟨ρ2, f1, ρ3, f2, rfl⟩ := h2
    refine ⟨v, w, rfl, ?_⟩
    refine gm_name i c S own σ H' ρ1 v x ρ2 (fun σ' H'' => D.nx (σ'.set j (some w)) H'') sr' q1 f1 fun own2 σ2 _ _ _ s2 => ?_
    exact gm_name j c S own2 σ2 H' ρ2 w y ρ3 D.nx s2 q2 f2 fun own3 σ3 _ _ _ s3 => k S own3 σ3 H' e' s3
  | [], _, h2 => cases h2
  | [_], _, h2 => cases h2
  | _ :: _ :: _ :: _, _, h2 => cases h2
def mPar3 (i j l : Nat) (ma : MA) : MS := fun ρ => (ma ρ).bind fun p => match p.1 with
  | [x, y, z] => (gmName i x p.2).bind fun ρ1 => (gmName j y ρ1).bind fun ρ2 => (gmName l z ρ2).map .nx
  | _ => none
section
variable {X : Cx} {i j : Nat} {x y : Str} {a b : Expr} {ma : MA} {px py pt pos : Pos} {kt k2 : Nat} {pt2 : Pos}
theorem psm_par (hc : X.calm = true) (hN : X.N.Nodup) (hi : X.N[i]? = some x) (hj : X.N[j]? = some y) (hij : i ≠ j)
    (hx : X.env.scope.names.lookup x = some .local) (hy : X.env.scope.names.lookup y = some .local) (ha : PAM X [a, b] ma)
    (hw : swappedStores [.Tuple [.Name x px, .Name y py] kt pt] (.Tuple [a, b] k2 pt2) X.env = pure (some [x, y]))
    (hs : swapsWithSole [.Tuple [.Name x px, .Name y py] kt pt] (.Tuple [a, b] k2 pt2) pos.line X.env = pure false := by rfl) :
    PSM X (.Assign [.Tuple [.Name x px, .Name y py] kt pt] (.Tuple [a, b] k2 pt2) pos) (mPar i j ma) := PS.to (ps_par hc hN hi hj hij hx hy ha hw hs) fun _ _ _ q => sm_par q
end
end TL

namespace TL
open PySem L2

/-! ### sources: a list, a tuple, a text -/
inductive Sc where
  | lst (a : Addr) | tup (a : Addr) | txt (x : Str) (t : Tok)
def Sc.val : Sc → Value
  | .lst a => .ref a
  | .tup a => .ref a
  | .txt x t => .str x t
def Sc.new : Sc → Obj
  | .lst a => { cls := .type "list_iterator", data := .fields #[.ref a, .int 0 0] }
  | .tup a => { cls := .type "tuple_iterator", data := .fields #[.ref a, .int 0 0] }
  | .txt x t => { cls := .type (strIterType x), data := .fields #[.str x t, .int 0 0] }
def Sc.iter (h : Heap) (it : Addr) (i : Nat) : Sc → Prop
  | .lst a => h.IsListIter it a i
  | .tup a => h.IsTupleIter it a i
  | .txt x t => h.IsStrIter it (strIterType x) x t i
def Sc.has (K : PySem.W.Frag) (H : Hp) (xs : List V) : Sc → Prop
  | .lst a => SqL K H a xs
  | .tup a => SqT K H a xs
  | .txt x _ => xs = signV x
theorem Sc.has_ex {K : PySem.W.Frag} {H H' : Hp} (e : Ex H H') {xs : List V} : ∀ {c : Sc}, c.has K H xs → c.has K H' xs
  | .lst _, h => e.sql h
  | .tup _, h => e.sqt h
  | .txt _ _, h => h
theorem Sc.iter_new {h : Heap} {it : Addr} : ∀ {c : Sc}, h.get? it = some c.new → c.iter h it 0
  | .lst _, e => ⟨_, e, rfl, rfl⟩
  | .tup _, e => ⟨_, e, rfl, rfl⟩
  | .txt _ _, e => ⟨_, e, rfl, rfl⟩
theorem Sc.iter_at {h h' : Heap} {it : Addr} {i : Nat} : ∀ {c : Sc}, c.iter h it i → (∀ o, h.get? it = some o → h'.get? it = some o) → c.iter h' it i
  | .lst _, ⟨o, e, r⟩, k => ⟨o, k o e, r⟩
  | .tup _, ⟨o, e, r⟩, k => ⟨o, k o e, r⟩
  | .txt _ _, ⟨o, e, r⟩, k => ⟨o, k o e, r⟩
theorem Sc.iter_obj {h : Heap} {it : Addr} {i : Nat} : ∀ {c : Sc}, c.iter h it i → ∃ o, h.get? it = some o ∧ ∀ v, o.data ≠ .cell v
  | .lst _, ⟨o, e, _, d⟩ => ⟨o, e, fun v q => by rw [d] at q; cases q⟩
  | .tup _, ⟨o, e, _, d⟩ => ⟨o, e, fun v q => by rw [d] at q; cases q⟩
  | .txt _ _, ⟨o, e, _, d⟩ => ⟨o, e, fun v q => by rw [d] at q; cases q⟩
section
variable {X : Cx} {pins : List (Addr × Obj)} {σ : L2.St} {H : Hp} {s : Shared}
theorem Sc.inj (I : Inv X pins σ H s) {xs ys : List V} : ∀ {c : Sc}, c.has X.K H xs → c.has X.K H ys → xs = ys
  | .lst _, h, h' => I.list_inj h h'
  | .tup _, h, h' => I.tuple_inj h h'
  | .txt _ _, h, h' => h.trans h'.symm
/-- iter of a source -/
theorem Sc.begin (I : Inv X pins σ H s) {xs : List V} : ∀ {c : Sc}, c.has X.K H xs → ∃ Hd : Heap → Prop, Begins c.val c.new Hd ∧ Hd s.heap
  | .lst a, h => by
    obtain ⟨its, rv, p, _⟩ := I.list h
    exact ⟨_, begins_list a its.toArray, p.isList⟩
  | .tup a, h => by
    obtain ⟨its, rv, p, _⟩ := I.tuple h
    exact ⟨_, begins_tuple a its.toArray, show s.heap.IsTuple a its.toArray from p⟩
  | .txt x t, h => ⟨_, begins_text x t, trivial⟩
theorem Vals.getV : ∀ {xs : List V} {us : List Value} {i : Nat} {u : Value}, Vals xs us → us[i]? = some u → ∃ x, xs[i]? = some x ∧ RelV x u
  | _, _, _, _, .nil, e => by simp at e
  | _, _, 0, _, .cons r _, e => by simp at e; subst e; exact ⟨_, rfl, r⟩
  | _, _, i + 1, x, .cons _ t, e => by
    obtain ⟨v, h1, h2⟩ := Vals.getV (i := i) t (by simpa using e)
    exact ⟨v, by simpa using h1, h2⟩
def Sc.fp : Sc → List Addr
  | .lst a => [a]
  | .tup a => [a]
  | .txt _ _ => []
theorem Sc.fp_lt (I : Inv X pins σ H s) {xs : List V} : ∀ {c : Sc}, c.has X.K H xs → ∀ b ∈ c.fp, b < s.heap.objs.size
  | .lst a, h, b, hb => by
    obtain ⟨its, rv, p, _⟩ := I.list h
    rw [List.mem_singleton.mp hb]; exact p.lt
  | .tup a, h, b, hb => by
    obtain ⟨its, rv, ⟨o, e, _⟩, _⟩ := I.tuple h
    rw [List.mem_singleton.mp hb]; exact Heap.lt_size e
  | .txt _ _, _, b, hb => by cases hb
/-- what its iterator draws -/
theorem Sc.draws (I : Inv X pins σ H s) {P : Program} {w : World} {A : Around} (hh : A.handled = none) {it : Addr} {xs : List V} : ∀ {c : Sc}, c.has X.K H xs → it ∉ c.fp →
    ∃ (Pv : Nat → Value → Prop) (St : Nat → Heap → Prop), Draws P w A it (it :: c.fp) xs.length Pv St ∧ (∀ i, c.iter s.heap it i → St i s.heap) ∧ (∀ i h, St i h → c.iter h it i) ∧ (∀ i v, Pv i v → ∃ x, xs[i]? = some x ∧ RelV x v)
  | .lst a, h, hk => by
    obtain ⟨its, rv, p, _⟩ := I.list h
    have e : its.toArray.size = xs.length := by rw [List.size_toArray, rv.length]
    have ne : a ≠ it := fun z => hk (by rw [z]; exact List.mem_cons_self)
    refine ⟨_, _, e ▸ Draws.list hh it a ne its.toArray, fun i st => ⟨st, p.isList⟩, fun i h st => st.1, fun i v hv => ?_⟩
    have hv : its.toArray[i]? = some v := hv
    rw [List.getElem?_toArray] at hv
    exact Vals.getV rv hv
  | .tup a, h, hk => by
    obtain ⟨its, rv, p, _⟩ := I.tuple h
    have e : its.toArray.size = xs.length := by rw [List.size_toArray, rv.length]
    have ne : a ≠ it := fun z => hk (by rw [z]; exact List.mem_cons_self)
    refine ⟨_, _, e ▸ Draws.tuple hh it a ne its.toArray, fun i st => ⟨st, p⟩, fun i h st => st.1, fun i v hv => ?_⟩
    have hv : its.toArray[i]? = some v := hv
    rw [List.getElem?_toArray] at hv
    exact Vals.getV rv hv
  | .txt x t, h, hk => by
    have h : xs = signV x := h
    subst h
    have e : x.cps.size = (signV x).length := by simp [signV]
    refine ⟨_, _, e ▸ Draws.text hh it x t, fun i st => st, fun i h st => st, fun i v hv => ?_⟩
    obtain ⟨c, u, h1, rfl⟩ := hv
    exact ⟨.str ⟨#[c]⟩, by simp [signV, h1], u, rfl⟩
end

/-! ### zip of two -/
def ItG (K : PySem.W.Frag) (c1 c2 : Sc) : It :=
  ⟨fun i H => ∃ xs ys : List V, c1.has K H xs ∧ c2.has K H ys ∧ i < xs.length ∧ i < ys.length,
    fun i H v H' => ∃ T x y, v = .ref T ∧ H T = none ∧ H' = upd H T (.tup [x, y]) ∧ (∀ xs, c1.has K H xs → xs[i]? = some x) ∧ ∀ ys, c2.has K H ys → ys[i]? = some y,
    fun i H => ∃ xs ys : List V, c1.has K H xs ∧ c2.has K H ys ∧ i = min xs.length ys.length⟩
theorem turn_zipG {P : Program} {w : World} {K : PySem.W.Frag} {elts : List Expr} {kk : Nat} {tpos : Pos} {c1 c2 : Sc} {z TI TO i1 i2 : Addr} (D : ZipSep2 z TI TO i1 i2 (i1 :: c1.fp) (i2 :: c2.fp)) (n1 : i1 ∉ c1.fp) (n2 : i2 ∉ c2.fp) :
    Turn P w K (.Tuple elts kk tpos) (ItG K c1 c2) [z, TI, TO, i1, i2] z (fun i h => IsZip h z TI TO .none ∧ IsTupOf2 h TI (.ref i1) (.ref i2) ∧ (∃ a1 a2, IsTupOf2 h TO a1 a2) ∧ c1.iter h i1 i ∧ c2.iter h i2 i) where
  mem := by simp
  obj := fun i h st c hc => by
    obtain ⟨hz, hTI, ⟨x, y, hTO⟩, h1, h2⟩ := st
    have e' : c = z ∨ c = TI ∨ c = TO ∨ c = i1 ∨ c = i2 := by simpa using hc
    rcases e' with q | q | q | q | q
    · rw [q]; exact ⟨_, hz, fun v q => nomatch q⟩
    · rw [q]; exact ⟨_, hTI, fun v q => nomatch q⟩
    · rw [q]; exact ⟨_, hTO, fun v q => nomatch q⟩
    · rw [q]; exact Sc.iter_obj h1
    · rw [q]; exact Sc.iter_obj h2
  keep := fun i h h' st k => by
    obtain ⟨hz, hTI, ⟨x, y, hTO⟩, h1, h2⟩ := st
    exact ⟨k z (by simp) _ hz, k TI (by simp) _ hTI, ⟨x, y, k TO (by simp) _ hTO⟩, Sc.iter_at h1 fun o q => k i1 (by simp) o q, Sc.iter_at h2 fun o q => k i2 (by simp) o q⟩
  item := by
    intro X hP hw hK hc i pins s σ H E I hf st hg
    subst hP hw hK
    obtain ⟨hz, hTI, hTO, h1, h2⟩ := st
    obtain ⟨xs, ys, hqx, hqy, hx, hy⟩ := hg
    have hh : X.A.in1.handled = none := I.ok.hd hc
    obtain ⟨P1, St1, D1, a1, b1, p1⟩ := Sc.draws (P := X.prog) (w := X.w) I hh hqx n1
    obtain ⟨P2, St2, D2, a2, b2, p2⟩ := Sc.draws (P := X.prog) (w := X.w) I hh hqy n2
    have G := GoesN.zip2 (elts := elts) (x1 := kk) (pos := tpos) D D1 D2
    have hzl : z < s.heap.objs.size := Heap.lt_size hz
    refine wpAny_mono (G.goes i s (fun u s2 => ∃ x H', Inv X pins σ H' s2 ∧ RelV x u ∧ (ItG X.K c1 c2).yld i H x H' ∧ (IsZip s2.heap z TI TO .none ∧ IsTupOf2 s2.heap TI (.ref i1) (.ref i2) ∧ (∃ a1 a2, IsTupOf2 s2.heap TO a1 a2) ∧ c1.iter s2.heap i1 (i + 1) ∧ c2.iter s2.heap i2 (i + 1)) ∧ ∀ b ∈ [z, TI, TO, i1, i2], H' b = none) E (by omega) ⟨hz, hTI, hTO, a1 i h1, a2 i h2⟩ ?_) (fun r s1 ⟨v, e, q⟩ => ⟨v, e, q⟩) fun _ _ e => e
    rintro v h' tk ⟨T, u1, u2, rfl, hT, hP1, hP2, hTT⟩ ⟨gz, gTI, gTO, g1, g2⟩ hk htk
    obtain ⟨x, ex, rx⟩ := p1 i u1 hP1
    obtain ⟨y, ey, ry⟩ := p2 i u2 hP2
    have new : ObjOk X.prog X.w (upd H T (.tup [x, y])) h' T (.tup [x, y]) :=
      ⟨by show 2 ≤ sizeLine; decide, [u1, u2], .cons rx (.cons ry .nil), hTT⟩
    have I1 : Inv X pins σ (upd H T (.tup [x, y])) { s with heap := h', toks := tk } :=
      I.turnedNew (t' := tk) (ch := [z, TO, i1, i2]) (fun c o hb q => hk c o hb q) (fun b hb => hf b (by
        have e' : b = z ∨ b = TO ∨ b = i1 ∨ b = i2 := by simpa using hb
        rcases e' with q | q | q | q <;> rw [q] <;> simp)) hT new
    refine ⟨.ref T, _, I1, rfl, ⟨T, x, y, rfl, I.hok.fresh hT, rfl, fun l hl => by rw [Sc.inj I hl hqx]; exact ex, fun l hl => by rw [Sc.inj I hl hqy]; exact ey⟩, ⟨gz, gTI, gTO, b1 _ _ g1, b2 _ _ g2⟩, fun c hcm => ?_⟩
    have hlt : c < s.heap.objs.size := by
      have e' : c = z ∨ c = TI ∨ c = TO ∨ c = i1 ∨ c = i2 := by simpa using hcm
      rcases e' with q | q | q | q | q
      · rw [q]; exact hzl
      · rw [q]; exact Heap.lt_size hTI
      · obtain ⟨_, _, hTO⟩ := hTO; rw [q]; exact Heap.lt_size hTO
      · rw [q]; obtain ⟨_, e1, _⟩ := Sc.iter_obj h1; exact Heap.lt_size e1
      · rw [q]; obtain ⟨_, e2, _⟩ := Sc.iter_obj h2; exact Heap.lt_size e2
    rw [upd_ne (Nat.ne_of_lt (Nat.lt_of_lt_of_le hlt hT))]
    exact (hf c hcm).1
  done := by
    intro X hP hw hK hc i pins s σ H E I hf st hg
    subst hP hw hK
    obtain ⟨hz, hTI, hTO, h1, h2⟩ := st
    obtain ⟨xs, ys, hqx, hqy, rfl⟩ := hg
    have hh : X.A.in1.handled = none := I.ok.hd hc
    obtain ⟨P1, St1, D1, a1, b1, p1⟩ := Sc.draws (P := X.prog) (w := X.w) I hh hqx n1
    obtain ⟨P2, St2, D2, a2, b2, p2⟩ := Sc.draws (P := X.prog) (w := X.w) I hh hqy n2
    have G := GoesN.zip2 (elts := elts) (x1 := kk) (pos := tpos) D D1 D2
    refine G.stops s (fun s1 => Inv X pins σ H s1) E ⟨hz, hTI, hTO, a1 _ h1, a2 _ h2⟩ fun h' tk hk htk => ?_
    exact I.turnedL (t' := tk) (ch := [z, TO, i1, i2]) (fun c o hb q => hk c o hb q) fun b hb => hf b (by
        have e' : b = z ∨ b = TO ∨ b = i1 ∨ b = i2 := by simpa using hb
        rcases e' with q | q | q | q <;> rw [q] <;> simp)
  self := fun A i s Q E st h => wpAny_pyIter_zip st.1 h

def ScV (K : PySem.W.Frag) (H : Hp) (v : V) (xs : List V) (c : Sc) : Prop := match c with
  | .lst a => v = .ref a ∧ SqL K H a xs
  | .tup a => v = .ref a ∧ SqT K H a xs
  | .txt x _ => v = .str x ∧ xs = signV x
def Sc.wt (t : Tok) : Sc → Sc
  | .txt x _ => .txt x t
  | c => c
def iZipG (K : PySem.W.Frag) (ta : TA) : TI := fun σ H R => ta σ H fun vs H1 => ∃ v1 v2 xs ys c1 c2, vs = [v1, v2] ∧ ScV K H1 v1 xs c1 ∧ ScV K H1 v2 ys c2 ∧ ∀ t1 t2, R (ItG K (c1.wt t1) (c2.wt t2)) H1
theorem scv {X : Cx} {pins : List (Addr × Obj)} {σ : L2.St} {H : Hp} {s : Shared} {K : PySem.W.Frag} {v : V} {u : Value} {xs : List V} {c : Sc} (h : ScV K H v xs c) (r : RelV v u) : ∃ t, u = (c.wt t).val ∧ (c.wt t).has K H xs := by
  cases c with
  | lst a => obtain ⟨rfl, h⟩ := h; cases r; exact ⟨0, rfl, h⟩
  | tup a => obtain ⟨rfl, h⟩ := h; cases r; exact ⟨0, rfl, h⟩
  | txt x _ => obtain ⟨rfl, h⟩ := h; obtain ⟨t, rfl⟩ := r; exact ⟨t, rfl, h⟩
theorem pi_zipG {X : Cx} {e e2 : Expr} {ta : TA} {p pos tpos : Pos} {elts : List Expr} {kk : Nat} (hg : Gl X "zip") (hm : X.mg "zip" = none) (ha : PA X [e, e2] ta)
    (hs : starEach [e, e2] X.env = (false, eval e X.env) :: starEach [e2] X.env := by rfl) (hpl : (backTo pos (starEach [e2] X.env)).any (·.1) = false := by rfl) :
    PI X (.Tuple elts kk tpos) (.Call (.Name "zip" p) [e, e2] [] pos) (iZipG X.K ta) := by
  refine ⟨fun pins s σ H R I h => ?_⟩
  refine PyProof.Rows.Call_ (ld_blt I hg hm PyProof.Rows.boot_zip (PyProof.Rows.callWith_type1 (thn (ha.run pos pins s σ H _ I h) fun us s1 ⟨vs, H1, I1, r1, q1⟩ => ?_) hs hpl))
  obtain ⟨v1, v2, xs, ys, c1, c2, ex, k1, k2, q⟩ := q1
  subst ex
  obtain ⟨u1, ws, rfl, r, rr⟩ := Vals.cons_inv r1
  obtain ⟨u2, ws, rfl, r', rr⟩ := Vals.cons_inv rr
  cases rr
  obtain ⟨t1, e1, m1⟩ := scv (X := X) (pins := pins) (σ := σ) (s := s1) k1 r
  obtain ⟨t2, e2', m2⟩ := scv (X := X) (pins := pins) (σ := σ) (s := s1) k2 r'
  have q := q t1 t2
  revert e1 m1 e2' m2 q
  generalize (c1.wt t1) = d1
  generalize (c2.wt t2) = d2
  intro e1 m1 e2' m2 q
  subst e1
  subst e2'
  have fresh5 : ∀ c, c ∈ [s1.heap.objs.size + 4, s1.heap.objs.size + 2, s1.heap.objs.size + 3, s1.heap.objs.size, s1.heap.objs.size + 1] → FpOk X pins H1 c := fun c hcm => by
    have e' : c = s1.heap.objs.size + 4 ∨ c = s1.heap.objs.size + 2 ∨ c = s1.heap.objs.size + 3 ∨ c = s1.heap.objs.size ∨ c = s1.heap.objs.size + 1 := by simpa using hcm
    have hle : s1.heap.objs.size ≤ c := by
      rcases e' with z | z | z | z | z
      · rw [z]; exact Nat.le_add_right _ _
      · rw [z]; exact Nat.le_add_right _ _
      · rw [z]; exact Nat.le_add_right _ _
      · rw [z]; exact Nat.le_refl _
      · rw [z]; exact Nat.le_add_right _ _
    exact I1.fpOk hle (I1.hok.fresh hle)
  obtain ⟨Hd1, B1, w1⟩ := Sc.begin I1 m1
  obtain ⟨Hd2, B2, w2⟩ := Sc.begin I1 m2
  refine zip_begins2 B1 B2 w1 w2 fun h' hz hTI hTO g1 g2 hsz hk => wpAny_pyIter_zip hz ?_
  have I2 : Inv X pins σ H1 { s1 with heap := h' } := I1.kept (t' := s1.toks) hk
  have lt1 := Sc.fp_lt I1 m1
  have lt2 := Sc.fp_lt I1 m2
  exact ⟨s1.heap.objs.size + 4, [s1.heap.objs.size + 4, s1.heap.objs.size + 2, s1.heap.objs.size + 3, s1.heap.objs.size, s1.heap.objs.size + 1], _, _, H1, rfl, I2,
    turn_zipG (zip_sep2 lt1 lt2) (fun m => Nat.lt_irrefl _ (lt1 _ m)) (fun m => by have h : (s1.heap.objs.size + 1 : Nat) < s1.heap.objs.size := lt2 _ m; omega), ⟨hz, hTI, ⟨_, _, hTO⟩, Sc.iter_new g1, Sc.iter_new g2⟩, fresh5, q⟩

/-! ### in data -/
def dZip : List D → Option (List D)
  | [a, b] => (dItems a).bind fun xs => (dItems b).map fun ys => List.zipWith (fun x y => D.tup [x, y]) xs ys
  | _ => none
def mZip (ma : MA) : MI := fun ρ => (ma ρ).bind fun p => (dZip p.1).map fun ds => (ds, p.2)
theorem rep_sc {K : PySem.W.Frag} {H : Hp} {v : V} {d : D} {ds : List D} (r : Rep K H v d) (h : dItems d = some ds) : ∃ xs c, RepL K H xs ds ∧ ScV K H v xs c := by
  cases r with
  | lst h1 l1 => cases h; exact ⟨_, .lst _, l1, rfl, SqL.of h1⟩
  | tup h1 l1 => cases h; exact ⟨_, .tup _, l1, rfl, h1⟩
  | str x => cases h; exact ⟨_, .txt x 0, rep_signs x, rfl, rfl⟩
  | _ => cases h
theorem scv_ex {K : PySem.W.Frag} {H H' : Hp} (e : Ex H H') {v : V} {xs : List V} : ∀ {c : Sc}, ScV K H v xs c → ScV K H' v xs c
  | .lst _, ⟨h, q⟩ => ⟨h, e.sql q⟩
  | .tup _, ⟨h, q⟩ => ⟨h, e.sqt q⟩
  | .txt _ _, h => h
theorem scv_has {K : PySem.W.Frag} {H : Hp} {v : V} {xs : List V} (t : Tok) : ∀ {c : Sc}, ScV K H v xs c → (c.wt t).has K H xs
  | .lst _, ⟨_, q⟩ => q
  | .tup _, ⟨_, q⟩ => q
  | .txt _ _, ⟨_, q⟩ => q
theorem wk_zip {K : PySem.W.Frag} {S : List Addr} {H : Hp} {c1 c2 : Sc} {xs ys : List V} {ds es : List D} (h1 : c1.has K (Fz S H) xs) (h2 : c2.has K (Fz S H) ys) (r1 : RepL K (Fz S H) xs ds) (r2 : RepL K (Fz S H) ys es) :
    Wk K (ItG K c1 c2) S H (List.zipWith (fun x y => D.tup [x, y]) ds es) where
  go := fun S' H1 i e _ hi => by
    rw [List.length_zipWith] at hi
    exact ⟨xs, ys, Sc.has_ex Fz.le (Sc.has_ex e h1), Sc.has_ex Fz.le (Sc.has_ex e h2), by rw [r1.length]; omega, by rw [r2.length]; omega⟩
  yld := fun S' H1 i v H2 e t y d hd => by
    obtain ⟨T, x, y, rfl, hT, rfl, f1, f2⟩ := y
    have g1 := f1 xs (Sc.has_ex Fz.le (Sc.has_ex e h1))
    have g2 := f2 ys (Sc.has_ex Fz.le (Sc.has_ex e h2))
    obtain ⟨d1, k1, q1⟩ := r1.getV g1
    obtain ⟨d2, k2, q2⟩ := r2.getV g2
    simp only [List.getElem?_zipWith, k1, k2] at hd
    cases hd
    refine ⟨Ex.new hT, .tup (SqT.of (fz_new t hT)) (.cons ?_ (.cons ?_ .nil))⟩
    · exact (q1.mono e).mono (Fz.ex (Ex.new hT))
    · exact (q2.mono e).mono (Fz.ex (Ex.new hT))
  stop := fun S' H1 e => ⟨xs, ys, Sc.has_ex Fz.le (Sc.has_ex e h1), Sc.has_ex Fz.le (Sc.has_ex e h2), by rw [List.length_zipWith, r1.length, r2.length]⟩
theorem pim_zip {X : Cx} {e e2 : Expr} {ma : MA} {p pos tpos : Pos} {elts : List Expr} {kk : Nat} (hg : Gl X "zip") (hm : X.mg "zip" = none) (ha : PAM X [e, e2] ma)
    (hs : starEach [e, e2] X.env = (false, eval e X.env) :: starEach [e2] X.env := by rfl) (hpl : (backTo pos (starEach [e2] X.env)).any (·.1) = false := by rfl) :
    PIM X (.Tuple elts kk tpos) (.Call (.Name "zip" p) [e, e2] [] pos) (mZip ma) := PI.to (pi_zipG hg hm ha hs hpl) fun σ H R => by
  rintro ⟨c, S, own, ρ, ds, ρ', sr, hm, k⟩
  simp only [mZip, Option.bind_eq_some_iff, Option.map_eq_some_iff] at hm
  obtain ⟨⟨as, ρ1⟩, h1, ds', h2, e⟩ := hm
  cases e
  refine ⟨c, S, own, ρ, as, ρ1, sr, h1, fun vs H' e' sr' q => ?_⟩
  match as, q, h2 with
  | [a, b], .cons (v := v1) q1 (.cons (v := v2) q2 .nil), h2 =>
    simp only [dZip, Option.bind_eq_some_iff, Option.map_eq_some_iff] at h2
    obtain ⟨as, e1, bs, e2, rfl⟩ := h2
    obtain ⟨xs, c1, l1, s1⟩ := rep_sc q1 e1
    obtain ⟨ys, c2, l2, s2⟩ := rep_sc q2 e2
    exact ⟨v1, v2, xs, ys, c1, c2, rfl, scv_ex Fz.le s1, scv_ex Fz.le s2, fun t1 t2 => k _ H' e' sr' (wk_zip (scv_has t1 s1) (scv_has t2 s2) l1 l2)⟩
  | [], _, h2 => cases h2
  | [_], _, h2 => cases h2
  | _ :: _ :: _ :: _, _, h2 => cases h2
end TL

namespace TL
open PySem L2

/-! ### dicts as data -/
def keyD : D → Option Key
  | .int i => some (.inl i)
  | .str x => some (.inr x)
  | _ => none
def valD (kvs : List (Key × D)) (k : Key) : Option D := (kvs.find? fun kv => decide (kv.1 = k)).map (·.2)
def putD (kvs : List (Key × D)) (k : Key) (v : D) : List (Key × D) :=
  if (kvs.any fun kv => decide (kv.1 = k)) = true then kvs.map (fun kv => if kv.1 = k then (kv.1, v) else kv) else kvs ++ [(k, v)]
def mergeD (kvs more : List (Key × D)) : List (Key × D) := more.foldl (fun acc kv => putD acc kv.1 kv.2) kvs
section
variable {K : PySem.W.Frag} {H : Hp}
theorem RepK.keys : ∀ {xs : List (Key × V)} {ds : List (Key × D)}, RepK K H xs ds → xs.map (·.1) = ds.map (·.1)
  | _, _, .nil => rfl
  | _, _, .cons _ t => by rw [List.map_cons, List.map_cons, RepK.keys t]
theorem RepK.val {k : Key} {d : D} : ∀ {xs : List (Key × V)} {ds : List (Key × D)}, RepK K H xs ds → valD ds k = some d → ∃ v, valV xs k = some v ∧ Rep K H v d
  | _, _, .nil, h => by cases h
  | (j, x) :: xs, (_, y) :: ds, .cons q t, h => by
    by_cases e : j = k
    · simp only [valD, List.find?_cons, e, decide_true, Option.map_some] at h
      cases h
      exact ⟨x, by simp [valV, List.find?_cons, e], q⟩
    · simp only [valD, List.find?_cons, e, decide_false] at h
      obtain ⟨v, h1, h2⟩ := RepK.val t h
      exact ⟨v, by rw [← h1]; exact valV_neg e, h2⟩
theorem RepK.any {k : Key} : ∀ {xs : List (Key × V)} {ds : List (Key × D)}, RepK K H xs ds → (xs.any fun kv => decide (kv.1 = k)) = (ds.any fun kv => decide (kv.1 = k))
  | _, _, .nil => rfl
  | _, _, .cons _ t => by rw [List.any_cons, List.any_cons, RepK.any t]
theorem RepK.setAll {k : Key} {v : V} {d : D} (q : Rep K H v d) : ∀ {xs : List (Key × V)} {ds : List (Key × D)}, RepK K H xs ds → RepK K H (xs.map fun kv => if kv.1 = k then (kv.1, v) else kv) (ds.map fun kv => if kv.1 = k then (kv.1, d) else kv)
  | _, _, .nil => .nil
  | (j, x) :: xs, (_, y) :: ds, .cons z t => by
    rw [List.map_cons, List.map_cons]
    by_cases e : j = k
    · simp only [e, if_true]; exact .cons q (RepK.setAll q t)
    · simp only [e, if_false]; exact .cons z (RepK.setAll q t)
theorem RepK.append : ∀ {xs ys : List (Key × V)} {ds es : List (Key × D)}, RepK K H xs ds → RepK K H ys es → RepK K H (xs ++ ys) (ds ++ es)
  | _, _, _, _, .nil, r => r
  | _, _, _, _, .cons h t, r => .cons h (t.append r)
theorem RepK.put {xs : List (Key × V)} {ds : List (Key × D)} {k : Key} {v : V} {d : D} (r : RepK K H xs ds) (q : Rep K H v d) : RepK K H (putK xs k v) (putD ds k d) := by
  unfold putK putD
  rw [r.any]
  split
  · exact RepK.setAll q r
  · exact r.append (.cons q .nil)
theorem RepK.merge : ∀ {more : List (Key × V)} {mo : List (Key × D)} {xs : List (Key × V)} {ds : List (Key × D)}, RepK K H more mo → RepK K H xs ds → RepK K H (mergeK xs more) (mergeD ds mo)
  | [], [], _, _, .nil, r => r
  | _ :: _, _ :: _, _, _, .cons q t, r => RepK.merge (xs := putK _ _ _) (ds := putD _ _ _) t (r.put q)
end
def mPairs : List (ME × ME) → List Cell → Option (List (D × D) × List Cell)
  | [], ρ => some ([], ρ)
  | (mk, mv) :: ms, ρ => (mk ρ).bind fun p => (mv p.2).bind fun q => (mPairs ms q.2).map fun z => ((p.1, q.1) :: z.1, z.2)
def keysD : List (D × D) → Option (List (Key × D))
  | [] => some []
  | (k, v) :: r => (keyD k).bind fun kk => (keysD r).map fun z => (kk, v) :: z
def mDisp (ms : List (ME × ME)) : ME := fun ρ => (mPairs ms ρ).bind fun p => (keysD p.1).bind fun kvs => if kvs.length ≤ 15 then some (.dct (mergeD [] kvs), p.2) else none
def mDict0 : ME := mC (.dct [])
section
variable {K : PySem.W.Frag}
theorem em_pairs : ∀ {ms : List (ME × ME)} {σ : L2.St} {H : Hp} {Q : List (V × V) → Hp → Prop} {c : Cn} {S : List Addr} {own : Nat → List Addr} {ρ ρ' : List Cell} {xs : List (D × D)}, SR K c S own σ H ρ → mPairs ms ρ = some (xs, ρ') →
    (∀ vs H', Ex (Fz S H) (Fz S H') → SR K c S own σ H' ρ' → RepL K (Fz S H') (vs.map (·.1)) (xs.map (·.1)) → RepL K (Fz S H') (vs.map (·.2)) (xs.map (·.2)) → Q vs H') → tPairs (ms.map fun m => (teOf K m.1, teOf K m.2)) σ H Q
  | [], σ, H, Q, c, S, own, ρ, ρ', xs, sr, hm, k => by cases hm; exact k [] H (Ex.refl _) sr .nil .nil
  | (mk, mv) :: ms, σ, H, Q, c, S, own, ρ, ρ', xs, sr, hm, k => by
    simp only [mPairs, Option.bind_eq_some_iff, Option.map_eq_some_iff] at hm
    obtain ⟨⟨x, ρ1⟩, h1, ⟨y, ρ2⟩, h2, ⟨zs, ρ3⟩, h3, e⟩ := hm
    cases e
    refine ⟨c, S, own, ρ, x, ρ1, sr, h1, fun v H1 e1 s1 q1 => ⟨c, S, own, ρ1, y, ρ2, s1, h2, fun u H2 e2 s2 q2 => ?_⟩⟩
    exact em_pairs s2 h3 fun vs H3 e3 s3 r1 r2 => k _ H3 ((e1.trans e2).trans e3) s3 (.cons (q1.mono (e2.trans e3)) r1) (.cons (q2.mono e3) r2)
theorem SR.unaside {c : Cn} {S : List Addr} {own : Nat → List Addr} {σ : L2.St} {H H' : Hp} {ρ ρ' : List Cell} {p : Addr} (r0 : SR K c S own σ H ρ) (r : SR K c (p :: S) own σ H' ρ') : SR K c S own σ H' ρ' :=
  ⟨r.len, fun i x h => (r.cell i x h).less, r0.apart, r0.ownS, r0.sub, fun a h => r.trk a (List.mem_cons_of_mem _ h), r0.trk0, r.keep, r0.tS, r0.tdk⟩
theorem keys_rep {H : Hp} : ∀ {vs : List (V × V)} {xs : List (D × D)} {kvs : List (Key × D)}, RepL K H (vs.map (·.1)) (xs.map (·.1)) → RepL K H (vs.map (·.2)) (xs.map (·.2)) → keysD xs = some kvs → ∃ ks : List (Key × V), vs = ks.map (fun kv => (kV kv.1, kv.2)) ∧ RepK K H ks kvs
  | [], [], _, .nil, .nil, h => by cases h; exact ⟨[], rfl, .nil⟩
  | (v, u) :: vs, (x, y) :: xs, kvs, .cons q1 t1, .cons q2 t2, h => by
    simp only [keysD, Option.bind_eq_some_iff, Option.map_eq_some_iff] at h
    obtain ⟨k, e1, zs, e2, rfl⟩ := h
    obtain ⟨ks, rfl, r⟩ := keys_rep t1 t2 e2
    refine ⟨(k, u) :: ks, ?_, .cons q2 r⟩
    rw [List.map_cons]
    congr 1
    cases q1 with
    | int i => cases e1; rfl
    | str i => cases e1; rfl
    | _ => cases e1
  | [], _ :: _, _, h, _, _ => nomatch h
  | _ :: _, [], _, h, _, _ => nomatch h
theorem em_disp {ms : List (ME × ME)} {σ : L2.St} {H : Hp} {Q : VK} : teOf K (mDisp ms) σ H Q → tDisp (ms.map fun m => (teOf K m.1, teOf K m.2)) σ H Q := by
  rintro ⟨c, S, own, ρ, d, ρ', sr, hm, k⟩
  simp only [mDisp, Option.bind_eq_some_iff] at hm
  obtain ⟨⟨xs, ρ1⟩, h1, kvs, h2, h3⟩ := hm
  split at h3
  case isFalse => cases h3
  rename_i hl
  cases h3
  intro p hp
  have hpS := sr.new hp
  have hown : ∀ i, p ∉ own i := fun i m => hpS (sr.ownS i p m).1
  have s1 := sr.aside (o := .dK []) hp
  refine em_pairs s1.enter h1 fun vs H2 e2 s2 r1 r2 => ?_
  have hp2 : H2 p = some (.dK []) := s2.keep p _ upd_same fun ⟨i, m⟩ => hown i m
  obtain ⟨ks, rfl, r⟩ := keys_rep r1 r2 h2
  refine ⟨hp2, ks, rfl, by rw [r.length]; exact hl, ?_⟩
  have s3 := s1.leave s2
  have s4 := s3.touch (o := .dK (mergeK [] ks)) List.mem_cons_self hp2 hown (sr.fresh0 hp)
  have fz : Fz (p :: S) (upd H2 p (.dK (mergeK [] ks))) = Fz (p :: S) H2 := Fz.upd_own List.mem_cons_self
  have sub : Ex (Fz (p :: S) (upd H2 p (.dK (mergeK [] ks)))) (Fz S (upd H2 p (.dK (mergeK [] ks)))) := Fz.sub fun _ m => List.mem_cons_of_mem _ m
  refine k _ _ ?_ (sr.unaside s4) (.dct (xs := mergeK [] ks) (by rw [Fz.out hpS, upd_same]) ?_)
  · exact ((Fz.upd_new hp).trans e2).trans (fz ▸ sub)
  · exact ((RepK.merge r .nil).mono (fz ▸ Ex.refl _)).mono sub
end
/-- x[i], x a list, a tuple, a text, a dict -/
def dItemA : D → D → Option D
  | .dct kvs, k => (keyD k).bind fun kk => valD kvs kk
  | a, b => dItem a b
section
variable {X : Cx} {a b : Expr} {ma mb : ME} {pos : Pos}
theorem PE.or {e : Expr} {t t' : TE} (h : PE X e t) (h' : PE X e t') : PE X e fun σ H Q => t σ H Q ∨ t' σ H Q :=
  ⟨fun pins s σ H Q I z => z.elim (h.run pins s σ H Q I) (h'.run pins s σ H Q I)⟩
theorem pem_itemA (hu : X.A.units + 1 < cLine) (ha : PEM X a ma) (hb : PEM X b mb) (hs : PlainIx b) : PEM X (.Subscript a b pos) (mBin dItemA ma mb) := PE.to (PE.or (pe_ix ix_seq ha hb hs) (pe_dget hu ha hb hs)) fun σ H Q h => by
  obtain ⟨c, S, own, ρ, d, ρ', sr, hm, k⟩ := h
  have hm0 := hm
  unfold mBin at hm
  simp only [Option.bind_eq_some_iff, Option.map_eq_some_iff] at hm
  obtain ⟨⟨x, ρ1⟩, h1, ⟨y, ρ2⟩, h2, d', h3, e⟩ := hm
  cases e
  by_cases hd : ∃ kvs, x = .dct kvs
  · obtain ⟨kvs, rfl⟩ := hd
    refine .inr ⟨c, S, own, ρ, _, ρ1, sr, h1, fun v H1 e1 s1 q1 => ⟨c, S, own, ρ1, y, ρ2, s1, h2, fun u H2 e2 s2 q2 => ?_⟩⟩
    have h3 : ((keyD y).bind fun kk => valD kvs kk) = some d := h3
    simp only [Option.bind_eq_some_iff] at h3
    obtain ⟨kk, e3, e4⟩ := h3
    have hu : u = kV kk := by cases q2 <;> cases e3 <;> rfl
    subst hu
    have q1 := q1.mono e2
    cases q1 with
    | dct g1 l1 =>
      obtain ⟨z, e5, q3⟩ := l1.val e4
      exact ⟨_, z, rfl, e5 ▸ DGet.k (Fz.le _ _ g1), k z H2 (e1.trans e2) s2 q3⟩
  · refine .inl (em_op ro_item σ H Q ⟨c, S, own, ρ, d, _, sr, ?_, k⟩)
    unfold mBin
    simp only [Option.bind_eq_some_iff, Option.map_eq_some_iff]
    refine ⟨_, h1, _, h2, d, ?_, rfl⟩
    cases x <;> first | exact h3 | exact absurd ⟨_, rfl⟩ hd
theorem pem_dict0 : PEM X (.Dict [] [] pos) mDict0 := PE.to pe_dnewK fun σ H Q h => by
  obtain ⟨c, S, own, ρ, d, ρ', sr, hm, k⟩ := h
  cases hm
  exact fun p hp => k _ _ (Fz.ex (Ex.new hp)) (sr.ex (Ex.new hp)) (.dct (fz_new sr.trk hp) .nil)
abbrev PPM (X : Cx) (pos : Pos) (keys : List (Option Expr)) (values : List Expr) (ms : List (ME × ME)) : Prop := PPs X pos keys values (ms.map fun m => (teOf X.K m.1, teOf X.K m.2))
theorem ppm_nil : PPM X pos [] [] [] := pps_nil
theorem ppm_cons {k v : Expr} {ks : List (Option Expr)} {vs : List Expr} {ms : List (ME × ME)} (hk : PEM X k ma) (hv : PEM X v mb) (hr : PPM X pos ks vs ms) : PPM X pos (some k :: ks) (v :: vs) ((ma, mb) :: ms) := pps_cons hk hv hr
theorem pem_disp {keys : List (Option Expr)} {values : List Expr} {ms : List (ME × ME)} (h : PPM X pos keys values ms) (hall : keys.all (·.isSome) = true) (hl : keys.length = values.length) (h0 : keys ≠ []) (h15 : keys.length ≤ 15) : PEM X (.Dict keys values pos) (mDisp ms) :=
  PE.to (pe_disp h hall hl h0 h15) fun _ _ _ q => em_disp q
end
end TL

namespace TL
open PySem L2

/-! ### own lists -/
section
variable {K : PySem.W.Frag} {c : Cn} {S : List Addr} {own own' : Nat → List Addr} {σ σ' : L2.St} {H H' : Hp} {ρ ρ' : List Cell}
theorem CellR.other {p : Addr} {o : HO} {S : List Addr} (hp : p ∈ S) {as : List Addr} (hn : p ∉ as) {v : Option V} : ∀ {x : Cell}, CellR K S H as v x → CellR K S (upd H p o) as v x
  | .no, h => h
  | .d _, ⟨ha, v, h, r⟩ => ⟨ha, v, h, by rw [Fz.upd_own hp]; exact r⟩
  | .ol _, ⟨a, xs, ha, h, h1, r⟩ => by
    subst ha
    exact ⟨a, xs, rfl, h, by rw [upd_ne (fun e => hn (by rw [e]; exact List.mem_cons_self))]; exact h1, by rw [Fz.upd_own hp]; exact r⟩
  | .od _, ⟨a, xs, ha, h, h1, r⟩ => by
    subst ha
    exact ⟨a, xs, rfl, h, by rw [upd_ne (fun e => hn (by rw [e]; exact List.mem_cons_self))]; exact h1, by rw [Fz.upd_own hp]; exact r⟩
  | .dk _, ⟨d, l, ha, h, h1, h2, h3⟩ => by
    subst ha
    exact ⟨d, l, rfl, h, by rw [upd_ne (fun e => hn (by rw [e]; exact List.mem_cons_self))]; exact h1, by rw [upd_ne (fun e => hn (by rw [e]; exact List.mem_cons_of_mem _ List.mem_cons_self))]; exact h2, h3⟩
  | .ns _ _, ⟨a, dx, C, xs, ha, h, h1, h2, h3, n, r⟩ => by
    subst ha
    exact ⟨a, dx, C, xs, rfl, h, by rw [upd_ne (fun e => hn (by rw [e]; exact List.mem_cons_self))]; exact h1, by rw [upd_ne (fun e => hn (by rw [e]; exact List.mem_cons_of_mem _ List.mem_cons_self))]; exact h2, h3, n, by rw [Fz.upd_own hp]; exact r⟩
/-- an own object of slot i is changed -/
theorem SR.touchOwn {i : Nat} {p : Addr} {u o : HO} {x : Cell} (r : SR K c S own σ H ρ) (hp : p ∈ own i) (hu : H p = some u) (hi : i < ρ.length) (hx : CellR K S (upd H p o) (own i) (σ[i]?.join) x) : SR K c S own σ (upd H p o) (ρ.set i x) := by
  have hpS := (r.ownS i p hp).1
  refine ⟨by rw [List.length_set]; exact r.len, fun j y hy => ?_, r.apart, r.ownS, r.sub, fun a ha => ?_, r.trk0, fun a v ha n => ?_, r.tS, r.tdk⟩
  · by_cases e : j = i
    · subst e
      rw [List.getElem?_set_self hi] at hy
      cases hy
      exact hx
    · rw [List.getElem?_set_ne (fun z => e z.symm)] at hy
      exact (r.cell j y hy).other hpS (fun m => r.apart j i e p m hp)
  · by_cases e : a = p
    · rw [e, upd_same]; rfl
    · rw [upd_ne e]; exact r.trk a ha
  · have ne : a ≠ p := fun e => by
      subst e
      rcases (r.ownS i a hp).2 with z | z
      · exact n z
      · rw [z] at ha; cases ha
    rw [upd_ne ne]; exact r.keep a v ha n
/-- a new list becomes slot i's own -/
theorem SR.owns {i : Nat} {p : Addr} {xs : List V} {ds : List D} (r : SR K c (p :: S) own σ H ρ) (hp : own i = []) (hn : ∀ j, p ∉ own j) (h0 : c.H0 p = none) (hH : H p = some (.lst xs)) (q : RepL K (Fz (p :: S) H) xs ds) (hi : i < ρ.length) :
    SR K c (p :: S) (fun j => if j = i then [p] else own j) (σ.set i (some (.ref p))) H (ρ.set i (.ol ds)) := by
  refine ⟨by rw [List.length_set, List.length_set]; exact r.len, fun j x h => ?_, fun j k n a h => ?_, fun j a h => ?_, r.sub, r.trk, r.trk0, r.keep, r.tS, fun l n => ?_⟩
  · by_cases e : j = i
    · subst e
      rw [List.getElem?_set_self hi] at h
      cases h
      exact ⟨p, xs, if_pos rfl, by rw [List.getElem?_set_self (by rw [r.len]; exact hi)]; rfl, hH, q⟩
    · rw [List.getElem?_set_ne (fun z => e z.symm)] at h ⊢
      simp only [if_neg e]
      exact r.cell j x h
  · by_cases e : j = i
    · simp only [if_pos e] at h
      have e2 : k ≠ i := fun z => n (e.trans z.symm)
      simp only [if_neg e2]
      rw [List.mem_singleton.mp h]; exact hn k
    · simp only [if_neg e] at h
      by_cases e2 : k = i
      · simp only [if_pos e2]
        intro z
        rw [List.mem_singleton.mp z] at h
        exact hn j h
      · simp only [if_neg e2]; exact r.apart j k n a h
  · by_cases e : j = i
    · simp only [if_pos e] at h
      rw [List.mem_singleton.mp h]
      exact ⟨List.mem_cons_self, .inr h0⟩
    · simp only [if_neg e] at h; exact r.ownS j a h
  · have := r.tdk l n
    by_cases e : 0 = i
    · rw [e, hp] at this; exact absurd this.symm n
    · simp only [if_neg e]; exact this
/-- an own list is given away: from now on it is data -/
theorem SR.freeze {c : CnL} {i : Nat} {ds : List D} (r : SR K c S own σ H ρ) (h : ρ[i]? = some (.ol ds)) : ∃ S' own', Ex (Fz S H) (Fz S' H) ∧ SR K c S' own' σ H (ρ.set i (.d (.lst ds))) := by
  obtain ⟨p, xs, ha, hv, hH, q⟩ := r.cell i _ h
  have hpi : p ∈ own i := by rw [ha]; exact List.mem_cons_self
  have hi : i < ρ.length := (List.getElem?_eq_some_iff.mp h).1
  have two : c.tl ≠ [] → own 0 = c.tl := r.tdk True.intro
  have hT : p ∉ c.tl := fun m => by
    have ne : c.tl ≠ [] := fun e => by rw [e] at m; cases m
    have e0 := two ne
    have i0 : i = 0 := Classical.byContradiction fun n => r.apart i 0 n p hpi (by rw [e0]; exact m)
    rcases c.two with e | ⟨a, b, hab, e⟩
    · exact ne e
    · rw [← i0, ha, e] at e0; cases e0
  have h0 : c.H0 p = none := (r.ownS i p hpi).2.elim (fun z => absurd z hT) id
  have hS0 : p ∉ c.S0 := fun m => by have := r.trk0 p m; rw [show c.up.H0 p = none from h0] at this; cases this
  let S' := S.filter fun a => decide (a ≠ p)
  have memS : ∀ a, a ∈ S' ↔ a ∈ S ∧ a ≠ p := fun a => by simp [S', List.mem_filter]
  have ex : Ex (Fz S H) (Fz S' H) := Fz.sub fun a m => ((memS a).mp m).1
  refine ⟨S', fun j => if j = i then [] else own j, ex, by rw [List.length_set]; exact r.len, fun j x hj => ?_, fun j k n a hj => ?_, fun j a hj => ?_, fun a m => (memS a).mpr ⟨r.sub a m, fun e => hS0 (e ▸ m)⟩, fun a m => r.trk a ((memS a).mp m).1, r.trk0, r.keep, r.tS, fun l n => ?_⟩
  · by_cases e : j = i
    · subst e
      rw [List.getElem?_set_self hi] at hj
      cases hj
      refine ⟨if_pos rfl, .ref p, hv, .lst (xs := xs) ?_ (q.mono ex)⟩
      rw [Fz.out (fun m => ((memS p).mp m).2 rfl)]; exact hH
    · rw [List.getElem?_set_ne (fun z => e z.symm)] at hj
      simp only [if_neg e]
      have q := r.cell j x hj
      cases x with
      | no => exact q
      | d y => obtain ⟨u, v, e1, z⟩ := q; exact ⟨u, v, e1, z.mono ex⟩
      | ol ds => obtain ⟨a, xs, e1, e2, e3, z⟩ := q; exact ⟨a, xs, e1, e2, e3, z.mono ex⟩
      | od ds => obtain ⟨a, xs, e1, e2, e3, z⟩ := q; exact ⟨a, xs, e1, e2, e3, z.mono ex⟩
      | dk s => exact q
      | ns c fs => obtain ⟨a, dx, C, xs, e1, e2, e3, e4, e5, n, z⟩ := q; exact ⟨a, dx, C, xs, e1, e2, e3, e4, e5, n, z.mono ex⟩
  · by_cases e : j = i
    · simp only [if_pos e] at hj; cases hj
    · by_cases e2 : k = i
      · simp only [if_pos e2]; intro z; cases z
      · simp only [if_neg e] at hj; simp only [if_neg e2]; exact r.apart j k n a hj
  · by_cases e : j = i
    · simp only [if_pos e] at hj; cases hj
    · simp only [if_neg e] at hj
      exact ⟨(memS a).mpr ⟨(r.ownS j a hj).1, fun z => r.apart j i e a hj (z ▸ hpi)⟩, (r.ownS j a hj).2⟩
  · have := two n
    by_cases e : 0 = i
    · subst e
      rw [ha] at this
      exact absurd (by rw [← this]; exact List.mem_cons_self) hT
    · simp only [if_neg e]; exact this
end
def mFrz (i : Nat) : MS := fun ρ => match ρ[i]? with
  | some (.ol ds) => some (.nx (ρ.set i (.d (.lst ds))))
  | _ => none
theorem sm_frz {K : PySem.W.Frag} {D : Ends} {σ : L2.St} {H : Hp} {i : Nat} {m : MS} : tsOf K (mSeq (mFrz i) m) D σ H → tsOf K m D σ H := by
  rintro ⟨c, S, own, ρ, r, sr, hm, k⟩
  simp only [mSeq, Option.bind_eq_some_iff] at hm
  obtain ⟨r1, h1, h2⟩ := hm
  unfold mFrz at h1
  split at h1
  · rename_i ds e
    cases h1
    obtain ⟨S', own', ex, sr'⟩ := sr.freeze e
    exact ⟨c, S', own', _, r, sr', h2, k.later ex⟩
  · cases h1
section
variable {X : Cx} {st : Stmt} {sts : List Stmt} {m : MS} {i : Nat}
theorem psm_frz (h : PSM X st m) : PSM X st (mSeq (mFrz i) m) := PS.to h fun _ _ _ q => sm_frz q
theorem pssm_frz (h : PSSM X sts m) : PSSM X sts (mSeq (mFrz i) m) := PSs.to h fun _ _ _ q => sm_frz q
end

/-! ### new lists -/
abbrev MN := List Cell → Option (List D × List Cell)
/-- an expression whose value is a list that nothing else holds -/
def teN (K : PySem.W.Frag) (m : MN) : TE := fun σ H Q => ∃ c S own ρ ds ρ', SR K c S own σ H ρ ∧ m ρ = some (ds, ρ') ∧
  ∀ p xs H', Ex (Fz S H) (Fz (p :: S) H') → SR K c (p :: S) own σ H' ρ' → (∀ j, p ∉ own j) → c.H0 p = none → H' p = some (.lst xs) → RepL K (Fz (p :: S) H') xs ds → Q (.ref p) H'
abbrev PEN (X : Cx) (e : Expr) (m : MN) : Prop := PE X e (teN X.K m)
def mNLst (ma : MA) : MN := fun ρ => (ma ρ).bind fun p => if p.1.length ≤ sizeLine then some p else none
def mOwn (i : Nat) (m : MN) : MS := fun ρ => (m ρ).bind fun p => if plainAt p.2 i = true then some (.nx (p.2.set i (.ol p.1))) else none
theorem plainAt_lt {ρ : List Cell} {i : Nat} (h : plainAt ρ i = true) : i < ρ.length := by
  unfold plainAt at h
  split at h
  · rename_i e; exact (List.getElem?_eq_some_iff.mp e).1
  · rename_i e; exact (List.getElem?_eq_some_iff.mp e).1
  · cases h
theorem sm_own {K : PySem.W.Frag} {D : Ends} {σ : L2.St} {H : Hp} {i : Nat} {m : MN} : tsOf K (mOwn i m) D σ H → tAsg (teN K m) (gName i) D σ H := by
  rintro ⟨c, S, own, ρ, r, sr, hm, k⟩
  simp only [mOwn, Option.bind_eq_some_iff] at hm
  obtain ⟨⟨ds, ρ1⟩, h1, h2⟩ := hm
  split at h2
  · rename_i hp
    cases h2
    exact ⟨c, S, own, ρ, ds, ρ1, sr, h1, fun p xs H' ex s1 hn h0 hH q => k (p :: S) _ _ H' ex (s1.owns (s1.plain hp) hn h0 hH q (plainAt_lt hp))⟩
  · cases h2
section
variable {X : Cx} {e : Expr} {es : List Expr} {ma : MA} {pos : Pos}
theorem pen_lst (h : PAM X es ma) : PEN X (.List es pos) (mNLst ma) := PE.to (pe_lst h) fun σ H Q h => by
  obtain ⟨c, S, own, ρ, d, ρ', sr, hm, k⟩ := h
  simp only [mNLst, Option.bind_eq_some_iff] at hm
  obtain ⟨⟨ds, ρ1⟩, h1, h2⟩ := hm
  split at h2
  · rename_i hl
    cases h2
    refine ⟨c, S, own, ρ, _, _, sr, h1, fun vs H1 e1 s1 q1 => ⟨by rw [q1.length]; exact hl, fun p hp => ?_⟩⟩
    exact k p vs _ (e1.trans (Fz.upd_new hp)) (s1.aside hp) (fun i m => s1.new hp (s1.ownS i p m).1) (s1.fresh0 hp) upd_same (q1.mono (Fz.upd_new hp))
  · cases h2
theorem psm_own {i : Nat} {x : Str} {m : MN} {pos' : Pos} (hN : X.N.Nodup) (hi : X.N[i]? = some x) (hx : Loc X.env.scope x) (he : PEN X e m) (hs : swapsWith e (some (.Name x pos')) pos.line X.env = pure false := by rfl)
    (hf : X.fn x = true ∨ X.env.scope.names.lookup x = some .local := by first | exact .inl rfl | exact .inr rfl | assumption) : PSM X (.Assign [.Name x pos'] e pos) (mOwn i m) := PS.to (ps_set hN hi hx he hs hf) fun _ _ _ q => sm_own q
end

/-! ### what is done to them -/
def mPush (i : Nat) (me : ME) : MS := fun ρ => match ρ[i]? with
  | some (.ol _) => (me ρ).bind fun p => match p.2[i]? with
    | some (.ol ds) => if ds.length < sizeLine then some (.nx (p.2.set i (.ol (ds ++ [p.1])))) else none
    | _ => none
  | _ => none
def mExt (i : Nat) (me : ME) : MS := fun ρ => match ρ[i]? with
  | some (.ol _) => (me ρ).bind fun p => match p.1, p.2[i]? with
    | .lst es, some (.ol ds) => if ds.length + es.length ≤ sizeLine then some (.nx (p.2.set i (.ol (ds ++ es)))) else none
    | _, _ => none
  | _ => none
def mPop (i : Nat) : ME := fun ρ => match ρ[i]? with
  | some (.ol ds) => ds.getLast?.map fun d => (d, ρ.set i (.ol ds.dropLast))
  | _ => none
section
variable {K : PySem.W.Frag} {c : Cn} {S : List Addr} {own : Nat → List Addr} {σ : L2.St} {H : Hp} {ρ : List Cell}
theorem SR.put {i : Nat} {p : Addr} {xs xs' : List V} {ds' : List D} (r : SR K c S own σ H ρ) (ha : own i = [p]) (hv : σ[i]?.join = some (.ref p)) (hH : H p = some (.lst xs)) (hi : i < ρ.length) (q : RepL K (Fz S H) xs' ds') :
    SR K c S own σ (upd H p (.lst xs')) (ρ.set i (.ol ds')) :=
  r.touchOwn (by rw [ha]; exact List.mem_cons_self) hH hi ⟨p, xs', ha, hv, upd_same, by rw [Fz.upd_own (r.ownS i p (by rw [ha]; exact List.mem_cons_self)).1]; exact q⟩
theorem SR.slot {i : Nat} {v : V} (r : SR K c S own σ H ρ) (h : σ[i]?.join = some v) : σ[i]? = some (some v) := by
  cases e : σ[i]? with
  | none => rw [e] at h; cases h
  | some o => rw [e] at h; exact congrArg some h
theorem sm_push {D : Ends} {σ : L2.St} {H : Hp} {i : Nat} {me : ME} : tsOf K (mPush i me) D σ H → tDrop (tBM K "list" rAppend (tVar i) (tCons (teOf K me) tNil)) D σ H := by
  rintro ⟨c, S, own, ρ, r, sr, hm, k⟩
  unfold mPush at hm
  split at hm
  · rename_i ds0 h0
    simp only [Option.bind_eq_some_iff] at hm
    obtain ⟨⟨d, ρ1⟩, h1, h2⟩ := hm
    split at h2
    · rename_i ds h3
      split at h2
      · rename_i hl
        cases h2
        obtain ⟨p, xs, ha, hv, hH, q⟩ := sr.cell i _ h0
        refine ⟨.ref p, sr.slot hv, .inl ⟨rfl, _, SqL.of hH⟩, c, S, own, ρ, d, ρ1, sr, h1, fun v H1 e1 s1 q1 => ?_⟩
        obtain ⟨p', xs1, ha', hv', hH1, q2⟩ := s1.cell i _ h3
        rw [ha] at ha'; cases ha'
        have hpS := (s1.ownS i p (by rw [ha]; exact List.mem_cons_self)).1
        refine ⟨p, xs1, v, rfl, rfl, hH1, by rw [q2.length]; exact hl, ?_⟩
        refine k S own σ _ ?_ (s1.put ha hv hH1 (List.getElem?_eq_some_iff.mp h3).1 (q2.snoc q1))
        rw [Fz.upd_own hpS]; exact e1
      · cases h2
    · cases h2
  · cases hm
theorem sm_ext {D : Ends} {σ : L2.St} {H : Hp} {i : Nat} {me : ME} : tsOf K (mExt i me) D σ H → tDrop (tBM K "list" rExtend (tVar i) (tCons (teOf K me) tNil)) D σ H := by
  rintro ⟨c, S, own, ρ, r, sr, hm, k⟩
  unfold mExt at hm
  split at hm
  · rename_i ds0 h0
    simp only [Option.bind_eq_some_iff] at hm
    obtain ⟨⟨d, ρ1⟩, h1, h2⟩ := hm
    split at h2
    · rename_i es ds h3 h4
      have h3 : d = .lst es := h3
      have h4 : ρ1[i]? = some (.ol ds) := h4
      subst h3
      split at h2
      · rename_i hl
        cases h2
        obtain ⟨p, xs, ha, hv, hH, q⟩ := sr.cell i _ h0
        refine ⟨.ref p, sr.slot hv, .inl ⟨rfl, _, SqL.of hH⟩, c, S, own, ρ, _, ρ1, sr, h1, fun v H1 e1 s1 q1 => ?_⟩
        obtain ⟨p', xs1, ha', hv', hH1, q2⟩ := s1.cell i _ h4
        rw [ha] at ha'; cases ha'
        have hpS := (s1.ownS i p (by rw [ha]; exact List.mem_cons_self)).1
        cases q1 with
        | lst g1 l1 =>
          refine ⟨p, _, xs1, _, rfl, rfl, hH1, Fz.le _ _ g1, by rw [q2.length, l1.length]; exact hl, ?_⟩
          refine k S own σ _ ?_ (s1.put ha hv hH1 (List.getElem?_eq_some_iff.mp h4).1 (q2.append l1))
          rw [Fz.upd_own hpS]; exact e1
      · cases h2
    · cases h2
  · cases hm
theorem em_pop {σ : L2.St} {H : Hp} {i : Nat} {Q : VK} : teOf K (mPop i) σ H Q → tBM0 K "list" rPop (tVar i) σ H Q := by
  rintro ⟨c, S, own, ρ, d, ρ', sr, hm, k⟩
  unfold mPop at hm
  split at hm
  · rename_i ds h0
    simp only [Option.map_eq_some_iff] at hm
    obtain ⟨d', h1, e⟩ := hm
    cases e
    obtain ⟨p, xs, ha, hv, hH, q⟩ := sr.cell i _ h0
    have hpS := (sr.ownS i p (by rw [ha]; exact List.mem_cons_self)).1
    rw [List.getLast?_eq_getElem?] at h1
    obtain ⟨v, hx, qv⟩ := q.get h1
    rw [← q.length] at hx
    refine ⟨.ref p, sr.slot hv, .inl ⟨rfl, _, SqL.of hH⟩, p, xs, v, rfl, rfl, hH, hx, ?_⟩
    have fz : Fz S (upd H p (.lst xs.dropLast)) = Fz S H := Fz.upd_own hpS
    exact k v _ (fz ▸ Ex.refl _) (sr.put ha hv hH (List.getElem?_eq_some_iff.mp h0).1 q.dropLast) (by rw [fz]; exact qv)
  · cases hm
end
section
variable {X : Cx} {e : Expr} {x : Str} {px apos cpos pos : Pos} {me : ME} {i : Nat}
theorem psm_push (hv : PE X (.Name x px) (tVar i)) (he : PEM X e me)
    (hbase : attributeBase (.Name x px) "append" X.env (eval (.Name x px) X.env) = eval (.Name x px) X.env := by rfl)
    (hfew : ((backTo cpos (starEach [e] X.env)).all (fun x => !x.1) && (backToKw cpos (keywordEach [] X.env)).all (fun x => x.1.isSome)
      && decide ([e].length + ([] : List Keyword).length + (if ([] : List Keyword).isEmpty then 0 else 1) < 30)) = true := by rfl)
    (hline : (apos.endLine == cpos.line) = true := by rfl) (hs : starEach [e] X.env = (false, eval e X.env) :: starEach [] X.env := by rfl) (hplain : (backTo cpos (starEach [] X.env)).any (·.1) = false := by rfl) (hw : swapsWith (.Call (.Attribute (.Name x px) "append" apos) [e] [] cpos) none pos.line X.env = pure false := by rfl) :
    PSM X (.Expr (.Call (.Attribute (.Name x px) "append" apos) [e] [] cpos) pos) (mPush i me) :=
  PS.to (ps_expr (pe_bm PySem.F.plainAttrs_list PySem.F.slot_list_append PySem.F.type_list_append mt_append hv (pa_cons he pa_nil hs) hbase hfew hline hs hplain) hw) fun _ _ _ q => sm_push q
theorem psm_ext (hv : PE X (.Name x px) (tVar i)) (he : PEM X e me)
    (hbase : attributeBase (.Name x px) "extend" X.env (eval (.Name x px) X.env) = eval (.Name x px) X.env := by rfl)
    (hfew : ((backTo cpos (starEach [e] X.env)).all (fun x => !x.1) && (backToKw cpos (keywordEach [] X.env)).all (fun x => x.1.isSome)
      && decide ([e].length + ([] : List Keyword).length + (if ([] : List Keyword).isEmpty then 0 else 1) < 30)) = true := by rfl)
    (hline : (apos.endLine == cpos.line) = true := by rfl) (hs : starEach [e] X.env = (false, eval e X.env) :: starEach [] X.env := by rfl) (hplain : (backTo cpos (starEach [] X.env)).any (·.1) = false := by rfl) (hw : swapsWith (.Call (.Attribute (.Name x px) "extend" apos) [e] [] cpos) none pos.line X.env = pure false := by rfl) :
    PSM X (.Expr (.Call (.Attribute (.Name x px) "extend" apos) [e] [] cpos) pos) (mExt i me) :=
  PS.to (ps_expr (pe_bm PySem.F.plainAttrs_list PySem.F.slot_list_extend PySem.F.type_list_extend mt_extend hv (pa_cons he pa_nil hs) hbase hfew hline hs hplain) hw) fun _ _ _ q => sm_ext q
theorem pem_pop (hv : PE X (.Name x px) (tVar i)) (hbase : attributeBase (.Name x px) "pop" X.env (eval (.Name x px) X.env) = eval (.Name x px) X.env := by rfl) (hline : (apos.endLine == cpos.line) = true := by rfl) :
    PEM X (.Call (.Attribute (.Name x px) "pop" apos) [] [] cpos) (mPop i) :=
  PE.to (pe_bm0 PySem.F.plainAttrs_list PySem.F.slot_list_pop PySem.F.type_list_pop mt_pop hv hbase hline) fun _ _ _ q => em_pop q
end
end TL

namespace TL
open PySem L2

/-! ### the deck -/
def kCells : Str := "cells"
def kMixed : Str := "mixed"
def Dk.get (s : Dk) (k : Str) : Option Int := if k = "mixed" then some s.mixed else if k = s.kt then some s.turn else none
def mDkGet (i : Nat) (k : Str) : ME := fun ρ => match ρ[i]? with
  | some (.dk s) => (s.get k).map fun n => (.int n, ρ)
  | _ => none
def mDkSet (i : Nat) (k : Str) (me : ME) : MS := fun ρ => match ρ[i]? with
  | some (.dk _) => (me ρ).bind fun p => match p.1, p.2[i]? with
    | .int n, some (.dk s) => if k = s.kt then some (.nx (p.2.set i (.dk { s with turn := n }))) else none
    | _, _ => none
  | _ => none
def mDkPop (i : Nat) : ME := fun ρ => match ρ[i]? with
  | some (.dk s) => s.cells.getLast?.map fun n => (.int n, ρ.set i (.dk { s with cells := s.cells.dropLast }))
  | _ => none
def mDkPush (i : Nat) (me : ME) : MS := fun ρ => match ρ[i]? with
  | some (.dk _) => (me ρ).bind fun p => match p.1, p.2[i]? with
    | .int n, some (.dk s) => if s.cells.length < sizeLine then some (.nx (p.2.set i (.dk { s with cells := s.cells ++ [n] }))) else none
    | _, _ => none
  | _ => none
def mDkHas (i : Nat) : MT := fun ρ => match ρ[i]? with
  | some (.dk s) => some (!s.cells.isEmpty, ρ)
  | _ => none
theorem kt_ne (s : Dk) : s.kt ≠ "mixed" ∧ s.kt ≠ "cells" := by
  unfold Dk.kt
  split <;> constructor <;> decide
section
variable {K : PySem.W.Frag} {c : Cn} {S : List Addr} {own : Nat → List Addr} {σ : L2.St} {H : Hp} {ρ : List Cell}
theorem dk_val {H : Hp} {d l : Addr} {s : Dk} (h : DkAt H d l s) {k : Str} {n : Int} (e : s.get k = some n) : DGet H d (.str k) (some (.int n)) := by
  have h1 := DGet.k (k := Sum.inr k) h.1
  have : valV [((Sum.inr "cells" : Key), V.ref l), (.inr "mixed", .int s.mixed), (.inr s.kt, .int s.turn)] (.inr k) = some (.int n) := by
    unfold Dk.get at e
    split at e
    · rename_i z; cases e; subst z
      rw [valV_neg (by intro z; cases z), valV_pos rfl]
    · split at e
      · rename_i z z2; cases e; subst z2
        rw [valV_neg (fun z => (kt_ne s).2 (Sum.inr.inj z).symm), valV_neg (fun z => (kt_ne s).1 (Sum.inr.inj z).symm), valV_pos rfl]
      · cases e
  rw [this] at h1
  exact h1
theorem dk_cells {H : Hp} {d l : Addr} {s : Dk} (h : DkAt H d l s) : DGet H d (.str "cells") (some (.ref l)) := by
  have h1 := DGet.k (k := Sum.inr "cells") h.1
  rw [valV_pos rfl] at h1
  exact h1
theorem em_dkGet {i : Nat} {k : Str} {Q : VK} : teOf K (mDkGet i k) σ H Q → tDGet (tVar i) (tC (.str k)) σ H Q := by
  rintro ⟨c, S, own, ρ, d, ρ', sr, hm, q⟩
  unfold mDkGet at hm
  split at hm
  · rename_i s h0
    simp only [Option.map_eq_some_iff] at hm
    obtain ⟨n, h1, e⟩ := hm
    cases e
    obtain ⟨da, la, ha, hv, hD⟩ := sr.cell i _ h0
    exact ⟨.ref da, sr.slot hv, da, .int n, rfl, dk_val hD h1, q _ H (Ex.refl _) sr (.int n)⟩
  · cases hm
theorem SR.dkSet {i : Nat} {da la p : Addr} {u o : HO} {s' : Dk} (r : SR K c S own σ H ρ) (ha : own i = [da, la]) (hv : σ[i]?.join = some (.ref da)) (hi : i < ρ.length) (hp : p = da ∨ p = la) (hu : H p = some u) (hD : DkAt (upd H p o) da la s') :
    SR K c S own σ (upd H p o) (ρ.set i (.dk s')) ∧ Fz S (upd H p o) = Fz S H := by
  have hpi : p ∈ own i := by rw [ha]; rcases hp with rfl | rfl <;> simp
  exact ⟨r.touchOwn hpi hu hi ⟨da, la, ha, hv, hD⟩, Fz.upd_own (r.ownS i p hpi).1⟩
theorem sm_dkSet {D : Ends} {i : Nat} {k : Str} {me : ME} : tsOf K (mDkSet i k me) D σ H → sDPut (tVar i) (tC (.str k)) (teOf K me) D σ H := by
  rintro ⟨c, S, own, ρ, r, sr, hm, q⟩
  unfold mDkSet at hm
  split at hm
  · rename_i s0 h0
    simp only [Option.bind_eq_some_iff] at hm
    obtain ⟨⟨d, ρ1⟩, h1, h2⟩ := hm
    split at h2
    · rename_i n s h3 h4
      have h3 : d = .int n := h3
      have h4 : ρ1[i]? = some (.dk s) := h4
      subst h3
      split at h2
      · rename_i ek
        cases h2
        refine ⟨c, S, own, ρ, _, ρ1, sr, h1, fun v H1 e1 s1 q1 => ?_⟩
        cases q1
        obtain ⟨da, la, ha, hv, hD⟩ := s1.cell i _ h4
        have hput : putK [((Sum.inr "cells" : Key), V.ref la), (.inr "mixed", .int s.mixed), (.inr s.kt, .int s.turn)] (.inr k) (.int n) = [((Sum.inr "cells" : Key), V.ref la), (.inr "mixed", .int s.mixed), (.inr s.kt, .int n)] := by
          subst ek
          unfold putK
          rw [if_pos (by simp)]
          have a1 : ((Sum.inr "cells" : Key) = .inr s.kt) = False := eq_false fun z => (kt_ne s).2 (Sum.inr.inj z).symm
          have a2 : ((Sum.inr "mixed" : Key) = .inr s.kt) = False := eq_false fun z => (kt_ne s).1 (Sum.inr.inj z).symm
          simp only [List.map_cons, List.map_nil, a1, a2, if_false, if_true]
        have hput2 := DPut.k (k := Sum.inr k) (v := .int n) hD.1 (by show 3 < sizeLine; decide)
        rw [hput] at hput2
        have hne : la ≠ da := fun z => hD.2.2 z.symm
        obtain ⟨s2, fz⟩ := s1.dkSet (i := i) (p := da) (o := .dK [(.inr "cells", .ref la), (.inr "mixed", .int s.mixed), (.inr s.kt, .int n)]) (s' := { s with turn := n }) ha hv (List.getElem?_eq_some_iff.mp h4).1 (.inl rfl) hD.1 ⟨upd_same, by rw [upd_ne hne]; exact hD.2.1, hD.2.2⟩
        exact ⟨.ref da, s1.slot hv, da, _, rfl, hput2, q S own σ _ (fz ▸ e1) s2⟩
      · cases h2
    · cases h2
  · cases hm
theorem em_dkPop {i : Nat} {Q : VK} : teOf K (mDkPop i) σ H Q → tBM0 K "list" rPop (tDGet (tVar i) (tC (.str "cells"))) σ H Q := by
  rintro ⟨c, S, own, ρ, d, ρ', sr, hm, q⟩
  unfold mDkPop at hm
  split at hm
  · rename_i s h0
    simp only [Option.map_eq_some_iff] at hm
    obtain ⟨n, h1, e⟩ := hm
    cases e
    obtain ⟨da, la, ha, hv, hD⟩ := sr.cell i _ h0
    rw [List.getLast?_eq_getElem?] at h1
    obtain ⟨s2, fz⟩ := sr.dkSet (i := i) (p := la) (o := .lst (s.cells.dropLast.map V.int)) (s' := { s with cells := s.cells.dropLast }) ha hv (List.getElem?_eq_some_iff.mp h0).1 (.inr rfl) hD.2.1 ⟨by rw [upd_ne hD.2.2]; exact hD.1, upd_same, hD.2.2⟩
    refine ⟨.ref da, sr.slot hv, da, .ref la, rfl, dk_cells hD, .inl ⟨rfl, _, SqL.of hD.2.1⟩, la, _, .int n, rfl, rfl, hD.2.1, ?_, ?_⟩
    · rw [List.length_map, List.getElem?_map, h1]; rfl
    · rw [← List.map_dropLast]
      exact q (.int n) _ (fz ▸ Ex.refl _) s2 (.int n)
  · cases hm
theorem sm_dkPush {D : Ends} {i : Nat} {me : ME} : tsOf K (mDkPush i me) D σ H → tDrop (tBM K "list" rAppend (tDGet (tVar i) (tC (.str "cells"))) (tCons (teOf K me) tNil)) D σ H := by
  rintro ⟨c, S, own, ρ, r, sr, hm, q⟩
  unfold mDkPush at hm
  split at hm
  · rename_i s0 h0
    simp only [Option.bind_eq_some_iff] at hm
    obtain ⟨⟨d, ρ1⟩, h1, h2⟩ := hm
    split at h2
    · rename_i n s h3 h4
      have h3 : d = .int n := h3
      have h4 : ρ1[i]? = some (.dk s) := h4
      subst h3
      split at h2
      · rename_i hl
        cases h2
        obtain ⟨da, la, ha, hv, hD⟩ := sr.cell i _ h0
        refine ⟨.ref da, sr.slot hv, da, .ref la, rfl, dk_cells hD, .inl ⟨rfl, _, SqL.of hD.2.1⟩, c, S, own, ρ, _, ρ1, sr, h1, fun v H1 e1 s1 q1 => ?_⟩
        cases q1
        obtain ⟨da', la', ha', hv', hD'⟩ := s1.cell i _ h4
        rw [ha] at ha'; cases ha'
        obtain ⟨s2, fz⟩ := s1.dkSet (i := i) (p := la) (o := .lst ((s.cells ++ [n]).map V.int)) (s' := { s with cells := s.cells ++ [n] }) ha hv (List.getElem?_eq_some_iff.mp h4).1 (.inr rfl) hD'.2.1 ⟨by rw [upd_ne hD.2.2]; exact hD'.1, upd_same, hD.2.2⟩
        refine ⟨la, _, .int n, rfl, rfl, hD'.2.1, by rw [List.length_map]; exact hl, ?_⟩
        rw [show s.cells.map V.int ++ [V.int n] = (s.cells ++ [n]).map V.int by rw [List.map_append]; rfl]
        exact q S own σ _ (fz ▸ e1) s2
      · cases h2
    · cases h2
  · cases hm
theorem eqv_ints (l : List Int) : PyData.eqv (.list (l.map PyData.int)) (.list []) = l.isEmpty := by
  cases l <;> rfl
theorem pys_ints : ∀ l : List Int, D.pys (l.map D.int) = some (l.map PyData.int)
  | [] => rfl
  | a :: l => by simp only [List.map_cons, D.pys, D.py, Option.bind_some, pys_ints l, Option.map_some]
theorem plain_ints (l : List Int) : PyData.plain (.list (l.map PyData.int)) = true := by
  show PyData.plainAll (l.map PyData.int) = true
  induction l with
  | nil => rfl
  | cons a l ih => simp [PyData.plainAll, PyData.plain, ih]
theorem depth_ints (l : List Int) : PyData.depth (.list (l.map PyData.int)) ≤ 64 := by
  have : PyData.depthAll (l.map PyData.int) = 0 := by
    induction l with
    | nil => rfl
    | cons a l ih => simp [PyData.depthAll, PyData.depth, ih]
  show PyData.depthAll (l.map PyData.int) + 1 ≤ 64
  omega
theorem em_dkHas {i : Nat} {Q : Bool → Hp → Prop} : ttOf K (mDkHas i) σ H Q → tTest (tOp (rP K fNe) (tDGet (tVar i) (tC (.str "cells"))) (teOf K (mApp dLst mNil))) σ H Q := by
  rintro ⟨c, S, own, ρ, b, ρ', sr, hm, q⟩
  unfold mDkHas at hm
  split at hm
  · rename_i s h0
    cases hm
    obtain ⟨da, la, ha, hv, hD⟩ := sr.cell i _ h0
    refine ⟨.ref da, sr.slot hv, da, .ref la, rfl, dk_cells hD, c, S, own, _, .lst [], _, sr, rfl, fun v H1 e1 s1 q1 => ?_⟩
    obtain ⟨da', la', ha', hv', hD'⟩ := s1.cell i _ h0
    rw [ha] at ha'; cases ha'
    refine ⟨.lst (s.cells.map D.int), .lst [], .list (s.cells.map PyData.int), .list [], !s.cells.isEmpty, .lst hD'.2.1 (RepL.of_ints _), q1.mono Fz.le, ?_, rfl, ?_, ?_, _, rfl, q H1 e1 s1⟩
    · simp only [D.py, pys_ints, Option.map_some]
    · exact depth_ints _
    · unfold fNe
      rw [if_pos ⟨plain_ints _, rfl⟩, eqv_ints]
  · cases hm
/-! ### calls with the deck -/
def mCallD (i : Nat) (f : Dk → List D → Option (D × Dk)) (ma : MA) : ME := fun ρ => match ρ[i]? with
  | some (.dk _) => (ma ρ).bind fun p => match p.2[i]? with
    | some (.dk s) => (f s p.1).map fun z => (z.1, p.2.set i (.dk z.2))
    | _ => none
  | _ => none
theorem SR.called {i : Nat} {da la : Addr} {s' : Dk} {H' : Hp} (r : SR K c S own σ H ρ) (ha : own i = [da, la]) (hv : σ[i]?.join = some (.ref da)) (hi : i < ρ.length) (fr : ∀ a o, a ≠ da → a ≠ la → H a = some o → H' a = some o) (hD : DkAt H' da la s') :
    SR K c S own σ H' (ρ.set i (.dk s')) ∧ Ex (Fz S H) (Fz S H') := by
  have da_i : da ∈ own i := by rw [ha]; exact List.mem_cons_self
  have la_i : la ∈ own i := by rw [ha]; exact List.mem_cons_of_mem _ List.mem_cons_self
  have daS := (r.ownS i da da_i).1
  have laS := (r.ownS i la la_i).1
  have ex : Ex (Fz S H) (Fz S H') := fun a o h => by
    have h2 := Fz.le a o h
    have n : a ∉ S := fun m => by rw [Fz.own m] at h; cases h
    rw [Fz.out n]
    exact fr a o (fun e => n (e ▸ daS)) (fun e => n (e ▸ laS)) h2
  refine ⟨⟨by rw [List.length_set]; exact r.len, fun j x hx => ?_, r.apart, r.ownS, r.sub, fun a m => ?_, r.trk0, fun a o h n => ?_, r.tS, r.tdk⟩, ex⟩
  · by_cases e : j = i
    · subst e
      rw [List.getElem?_set_self hi] at hx
      cases hx
      exact ⟨da, la, ha, hv, hD⟩
    · rw [List.getElem?_set_ne (fun z => e z.symm)] at hx
      have q := r.cell j x hx
      have ne : ∀ a, a ∈ own j → a ≠ da ∧ a ≠ la := fun a m => ⟨fun z => r.apart j i e a m (z ▸ da_i), fun z => r.apart j i e a m (z ▸ la_i)⟩
      cases x with
      | no => exact q
      | d y => obtain ⟨u, v, e1, z⟩ := q; exact ⟨u, v, e1, z.mono ex⟩
      | ol ds =>
        obtain ⟨a, xs, e1, e2, e3, z⟩ := q
        have := ne a (by rw [e1]; exact List.mem_cons_self)
        exact ⟨a, xs, e1, e2, fr a _ this.1 this.2 e3, z.mono ex⟩
      | od ds =>
        obtain ⟨a, xs, e1, e2, e3, z⟩ := q
        have := ne a (by rw [e1]; exact List.mem_cons_self)
        exact ⟨a, xs, e1, e2, fr a _ this.1 this.2 e3, z.mono ex⟩
      | dk s =>
        obtain ⟨a, b, e1, e2, e3, e4, e5⟩ := q
        have h1 := ne a (by rw [e1]; exact List.mem_cons_self)
        have h2 := ne b (by rw [e1]; exact List.mem_cons_of_mem _ List.mem_cons_self)
        exact ⟨a, b, e1, e2, fr a _ h1.1 h1.2 e3, fr b _ h2.1 h2.2 e4, e5⟩
      | ns c fs =>
        obtain ⟨a, dx, C, xs, e1, e2, e3, e4, e5, n, z⟩ := q
        have h1 := ne a (by rw [e1]; exact List.mem_cons_self)
        have h2 := ne dx (by rw [e1]; exact List.mem_cons_of_mem _ List.mem_cons_self)
        exact ⟨a, dx, C, xs, e1, e2, fr a _ h1.1 h1.2 e3, fr dx _ h2.1 h2.2 e4, e5, n, z.mono ex⟩
  · by_cases e1 : a = da
    · rw [e1, hD.1]; rfl
    · by_cases e2 : a = la
      · rw [e2, hD.2.1]; rfl
      · have := r.trk a m
        cases q : H a with
        | none => rw [q] at this; cases this
        | some o => rw [fr a o e1 e2 q]; rfl
  · have h2 := r.keep a o h n
    refine fr a o (fun e => ?_) (fun e => ?_) h2
    · rcases (r.ownS i da da_i).2 with z | z
      · exact n (e ▸ z)
      · rw [← e, h] at z; cases z
    · rcases (r.ownS i la la_i).2 with z | z
      · exact n (e ▸ z)
      · rw [← e, h] at z; cases z
theorem pick_range (vs : List V) : ((List.range vs.length).map fun i => vs.getD i .non) = vs := by
  refine List.ext_getElem (by simp) fun i h1 h2 => ?_
  simp [List.getD_eq_getElem?_getD, h2]
theorem em_callD {i n : Nat} {f : Dk → List D → Option (D × Dk)} {ma : MA} {E : XK} {Q : VK} (hn : ∀ ρ ds ρ', ma ρ = some (ds, ρ') → ds.length + 1 = n) : teOf K (mCallD i f ma) σ H Q → tCallG n 0 (List.range n) (spD K n f) E (tCons (tVar i) (taOf K ma)) tNil σ H Q := by
  rintro ⟨c, S, own, ρ, d, ρ', sr, hm, q⟩
  unfold mCallD at hm
  split at hm
  · rename_i s0 h0
    simp only [Option.bind_eq_some_iff] at hm
    obtain ⟨⟨ds, ρ1⟩, h1, h2⟩ := hm
    split at h2
    · rename_i s h3
      simp only [Option.map_eq_some_iff] at h2
      obtain ⟨⟨d', s'⟩, h4, e⟩ := h2
      cases e
      obtain ⟨da, la, ha, hv, hD⟩ := sr.cell i _ h0
      refine ⟨.ref da, sr.slot hv, c, S, own, ρ, ds, ρ1, sr, h1, fun vs H1 e1 s1 q1 => ?_⟩
      obtain ⟨da', la', ha', hv', hD'⟩ := s1.cell i _ h3
      rw [ha] at ha'; cases ha'
      have hl : (V.ref da :: vs).length = n := by rw [List.length_cons, q1.length]; exact hn _ _ _ h1
      refine ⟨hl, rfl, ?_⟩
      rw [List.append_nil, ← hl, pick_range, hl]
      refine ⟨S, da, la, vs, s, ds, _, s', rfl, hl, s1.trk, (s1.ownS i da (by rw [ha]; exact List.mem_cons_self)).1, (s1.ownS i la (by rw [ha]; exact List.mem_cons_of_mem _ List.mem_cons_self)).1, hD', q1, h4, fun v H' fr hD2 qv => ?_⟩
      obtain ⟨s2, ex⟩ := s1.called ha hv (List.getElem?_eq_some_iff.mp h3).1 fr hD2
      exact q v H' (e1.trans ex) s2 qv
    · cases h2
  · cases hm
end
/-- a call that changes nothing -/
def mCallP (f : List D → Option D) (pm : List Nat) (ma mk : MA) : ME := fun ρ => (ma ρ).bind fun p => (mk p.2).bind fun q => (f (pm.map fun i => (p.1 ++ q.1).getD i .non)).map fun d => (d, q.2)
def Fix (ma : MA) (n : Nat) : Prop := ∀ ρ ds ρ', ma ρ = some (ds, ρ') → ds.length = n
theorem fix_nil : Fix mNil 0 := fun ρ ds ρ' h => by cases h; rfl
theorem fix_cons {ma : ME} {mr : MA} {n : Nat} (h : Fix mr n) : Fix (mCons ma mr) (n + 1) := fun ρ ds ρ' e => by
  simp only [mCons, Option.bind_eq_some_iff] at e
  obtain ⟨p, h1, q, h2, e⟩ := e
  cases e
  rw [List.length_cons, h _ _ _ h2]
theorem em_callP {K : PySem.W.Frag} {σ : L2.St} {H : Hp} {n m : Nat} {pm : List Nat} {f : List D → Option D} {ma mk : MA} {E : XK} {Q : VK} (hn : Fix ma n) (hk : Fix mk m) (hp : ∀ i ∈ pm, i < n + m) {k : Nat} (hpk : pm.length = k) :
    teOf K (mCallP f pm ma mk) σ H Q → tCallG n m pm (spP K k f) E (taOf K ma) (taOf K mk) σ H Q := by
  rintro ⟨c, S, own, ρ, d, ρ', sr, hm, q⟩
  simp only [mCallP, Option.bind_eq_some_iff, Option.map_eq_some_iff] at hm
  obtain ⟨⟨ds, ρ1⟩, h1, ⟨es, ρ2⟩, h2, d', h3, e⟩ := hm
  cases e
  refine ⟨c, S, own, ρ, ds, ρ1, sr, h1, fun vs H1 e1 s1 q1 => ⟨c, S, own, ρ1, es, ρ2, s1, h2, fun zs H2 e2 s2 q2 => ⟨by rw [q1.length]; exact hn _ _ _ h1, by rw [q2.length]; exact hk _ _ _ h2, S, _, d, by rw [List.length_map]; exact hpk, s2.trk, ?_, h3, fun v H' ex qv => q v H' ((e1.trans e2).trans (Fz.ex ex)) (s2.ex ex) qv⟩⟩⟩
  have ra := (q1.mono e2).append q2
  have hl : (ds ++ es).length = n + m := by rw [List.length_append, hn _ _ _ h1, hk _ _ _ h2]
  clear h3 hpk
  induction pm with
  | nil => exact .nil
  | cons i pm ih =>
    refine .cons ?_ (ih fun j hj => hp j (List.mem_cons_of_mem _ hj))
    have hi : i < (ds ++ es).length := by rw [hl]; exact hp i List.mem_cons_self
    obtain ⟨v, hv, qv⟩ := ra.get (i := i) (List.getElem?_eq_getElem hi)
    show Rep K (Fz S H2) ((vs ++ zs).getD i .non) ((ds ++ es).getD i .non)
    rw [List.getD_eq_getElem?_getD, List.getD_eq_getElem?_getD, hv, List.getElem?_eq_getElem hi]
    exact qv
section
variable {X : Cx} {k n : Nat} {f : Addr} {fd : FuncData} {ps ks : List Str} {pm : List Nat} {x : Str} {p pos px : Pos} {e : Expr} {es : List Expr} {kws : List Keyword} {ma mk : MA} {g : List D → Option D} {gd : Dk → List D → Option (D × Dk)}
abbrev PKM (X : Cx) (kws : List Keyword) (m : MA) : Prop := PK X kws (taOf X.K m)
/-- a call is let -/
structure Hk (X : Cx) (k : Nat) : Prop where
  room : Room k X.A
  gd : X.A.guards = some []
theorem pem_callP (h : Hk X k) (F : FnG X.prog X.w X.K X.mg X.base CX0 k f fd ps (spP X.K ps.length g)) (hg : Gl X x) (hm : X.mg x = some (.ref f)) (hk : PySem.W.keepIn X.K (.ref f) = true) (hb : Bd fd ps n [] pm) (hn : Fix ma n) (hp : ∀ i ∈ pm, i < n) (hpk : pm.length = ps.length)
    (ha : PAM X (e :: es) ma) (hdb : (x == ("__debug__" : Str)) = false := by decide) (he : starEach (e :: es) X.env = (false, eval e X.env) :: starEach es X.env := by rfl) (hpl : (backTo pos (starEach es X.env)).any (·.1) = false := by rfl) :
    PEM X (.Call (.Name x p) (e :: es) [] pos) (mCallP g pm ma mNil) := PE.to (pe_callG (E := fun _ _ _ => False) F h.room h.gd hg hm hk hb pass0 ha hdb he hpl) fun σ H Q q => by
  obtain ⟨c, S, own, ρ, d, ρ', sr, hm, q⟩ := em_callP (E := fun _ _ _ => False) hn fix_nil (m := 0) hp hpk q
  exact ⟨c, S, own, ρ, d, ρ', sr, hm, fun v H' e' s' r' => ea_nil _ _ _ (q v H' e' s' r')⟩
end
end TL

namespace TL
open PySem L2
open PyProof.Rows (envOfC)

theorem un_nil {K : PySem.W.Frag} {n m : Nat} {pm : List Nat} {sp : Sp} {E : XK} {ta : TA} {σ : L2.St} {H : Hp} {Q : VK} : tCallG n m pm sp E ta (taOf K mNil) σ H Q → (∀ σ H (R R' : List V → Hp → Prop), (∀ v H', R v H' → R' v H') → ta σ H R → ta σ H R') → tCallG n m pm sp E ta tNil σ H Q := fun h mono =>
  mono _ _ _ _ (fun v H' q => ea_nil _ _ _ q) h
theorem ta_mono {K : PySem.W.Frag} {m : MA} : ∀ σ H (R R' : List V → Hp → Prop), (∀ v H', R v H' → R' v H') → taOf K m σ H R → taOf K m σ H R' := by
  rintro σ H R R' h ⟨c, S, own, ρ, ds, ρ', sr, hm, k⟩
  exact ⟨c, S, own, ρ, ds, ρ', sr, hm, fun vs H' e s r => h _ _ (k vs H' e s r)⟩
def XF : XK := fun _ _ _ => False
section
variable {X : Cx} {k n m : Nat} {f : Addr} {fd : FuncData} {ps ks : List Str} {pm : List Nat} {x : Str} {p pos px : Pos} {e : Expr} {es : List Expr} {kws : List Keyword} {ma mk : MA} {g : List D → Option D} {gd : Dk → List D → Option (D × Dk)}
theorem pkm_nil : PKM X [] mNil := ⟨fun pos pins s σ H Q I z => pk_nil.run pos pins s σ H Q I (ea_nil σ H Q z)⟩
theorem pkm_cons {me : ME} {nm : Option Str} {kpos : Pos} (ha : PEM X e me) (hr : PKM X kws mk) : PKM X (⟨nm, e, kpos⟩ :: kws) (mCons me mk) := ⟨fun pos pins s σ H Q I z => (pk_cons ha hr).run pos pins s σ H Q I (ea_cons σ H Q z)⟩
theorem pem_callP0 (h : Hk X k) (F : FnG X.prog X.w X.K X.mg X.base CX0 k f fd ps (spP X.K ps.length g)) (hg : Gl X x) (hm : X.mg x = some (.ref f)) (hk : PySem.W.keepIn X.K (.ref f) = true) (hb : Bd fd ps 0 [] []) (hpk : ps.length = 0)
    (hdb : (x == ("__debug__" : Str)) = false := by decide) : PEM X (.Call (.Name x p) [] [] pos) (mCallP g [] mNil mNil) := PE.to (pe_callG0 (E := XF) F h.room h.gd hg hm hk hb pass0 hdb) fun σ H Q q => by
  have := un_nil (em_callP (E := XF) (n := 0) (m := 0) (pm := []) fix_nil fix_nil (fun i hi => by cases hi) (k := ps.length) (by rw [hpk]; rfl) q) ta_mono
  exact ea_nil _ _ _ this
theorem pem_callPK (h : Hk X k) (F : FnG X.prog X.w X.K X.mg X.base CX0 k f fd ps (spP X.K ps.length g)) (hg : Gl X x) (hm : X.mg x = some (.ref f)) (hk : PySem.W.keepIn X.K (.ref f) = true) (hb : Bd fd ps n ks pm) (hn : Fix ma n) (hl : Fix mk ks.length) (hp : ∀ i ∈ pm, i < n + ks.length) (hpk : pm.length = ps.length)
    (ha : PAM X (e :: es) ma) (hkw : PKM X kws mk) (hall : (backToKw pos (keywordEach kws X.env)).all (·.1.isSome) = true := by rfl) (hks : (backToKw pos (keywordEach kws X.env)).filterMap (·.1) = ks := by rfl)
    (hdb : (x == ("__debug__" : Str)) = false := by decide) (he : starEach (e :: es) X.env = (false, eval e X.env) :: starEach es X.env := by rfl)
    (hpl : ((backTo pos (starEach (e :: es) X.env)).any (·.1) || (backToKw pos (keywordEach kws X.env)).any (·.1.isNone)) = false := by rfl) :
    PEM X (.Call (.Name x p) (e :: es) kws pos) (mCallP g pm ma mk) := PE.to (pe_callGK (E := XF) F h.room h.gd hg hm hk hb pass0 ha hkw hall hks hdb he hpl) fun _ _ _ q => em_callP (E := XF) hn hl hp hpk q
theorem pem_callPK0 (h : Hk X k) (F : FnG X.prog X.w X.K X.mg X.base CX0 k f fd ps (spP X.K ps.length g)) (hg : Gl X x) (hm : X.mg x = some (.ref f)) (hk : PySem.W.keepIn X.K (.ref f) = true) (hb : Bd fd ps 0 ks pm) (hl : Fix mk ks.length) (hp : ∀ i ∈ pm, i < ks.length) (hpk : pm.length = ps.length)
    (hkw : PKM X kws mk) (hall : (backToKw pos (keywordEach kws X.env)).all (·.1.isSome) = true := by rfl) (hks : (backToKw pos (keywordEach kws X.env)).filterMap (·.1) = ks := by rfl)
    (hdb : (x == ("__debug__" : Str)) = false := by decide)
    (hpl : ((backTo pos (starEach [] X.env)).any (·.1) || (backToKw pos (keywordEach kws X.env)).any (·.1.isNone)) = false := by rfl) :
    PEM X (.Call (.Name x p) [] kws pos) (mCallP g pm mNil mk) := PE.to (pe_callGK0 (E := XF) F h.room h.gd hg hm hk hb pass0 hkw hall hks hdb hpl) fun _ _ _ q =>
  ea_nil _ _ _ (em_callP (E := XF) (n := 0) fix_nil hl (by simpa using hp) hpk q)
theorem pem_callD {i : Nat} {y : Str} (h : Hk X k) (F : FnG X.prog X.w X.K X.mg X.base CX0 k f fd ps (spD X.K n gd)) (hg : Gl X x) (hm : X.mg x = some (.ref f)) (hk : PySem.W.keepIn X.K (.ref f) = true) (hb : Bd fd ps n [] (List.range n)) (hn : Fix ma m) (hnm : m + 1 = n)
    (hv : PE X (.Name y px) (tVar i)) (ha : PAM X es ma) (hdb : (x == ("__debug__" : Str)) = false := by decide) (he : starEach (.Name y px :: es) X.env = (false, eval (.Name y px) X.env) :: starEach es X.env := by rfl) (hpl : (backTo pos (starEach es X.env)).any (·.1) = false := by rfl) :
    PEM X (.Call (.Name x p) (.Name y px :: es) [] pos) (mCallD i gd ma) := PE.to (pe_callG (E := XF) F h.room h.gd hg hm hk hb pass0 (pa_cons hv ha he) hdb he hpl) fun σ H Q q =>
  em_callD (E := XF) (fun ρ ds ρ' e => by rw [hn ρ ds ρ' e]; exact hnm) q
end

section
variable {P : Program} {w : World} {K : PySem.W.Frag} {mg : Str → Option Value} {base : Heap} {x qual : Str} {st : Stmt} {f : Addr} {fd : FuncData} {N ps : List Str} {k : Nat}
/-- a def whose first parameter is the deck -/
theorem fn_deck (F : Fun K x qual st f fd) (S : FnScope N ps (defScope st)) (m : MS)
    (hbody : ∀ (cdv : Value) (A : Around) (outer : List Env) (s : Shared) (H : Hp) (E : XK), Room k (A.deeper (envOfC qual (defScope st) s.heap.objs.size f cdv)) → (A.deeper (envOfC qual (defScope st) s.heap.objs.size f cdv)).guards = some [] →
      PSSM (cxOf CX0 P w K mg base N qual (defScope st) f cdv A outer s H E).nox (defBody st) m) : FnG P w K mg base CX0 (k + 1) f fd ps (spD K ps.length (runD N.length m)) := by
  refine fnG_of F S (fun vs H Q E h => ?_) fun cdv A outer s H vs Q E hr hg h => ?_
  · obtain ⟨_, _, _, _, _, _, _, _, _, e, _⟩ := h
    exact e
  · obtain ⟨T, da, la, ws, dk, ds, d, dk', rfl, e, t, h1, h2, hD, r, hf, q⟩ := h
    refine ⟨_, (hbody cdv A outer s H E hr hg).nox, ?_⟩
    have hpl : ps.length ≤ N.length := by have := congrArg List.length S.pre; rw [List.length_take] at this; omega
    have ends : ∀ {S' : List Addr} {own' : Nat → List Addr} {σ' : L2.St} {H' : Hp} {ρ' : List Cell}, SR K (CnL.up ⟨H, T, [da, la], .inr ⟨da, la, hD.2.2, rfl⟩⟩) S' own' σ' H' (.dk dk' :: ρ') → (∀ a o, a ≠ da → a ≠ la → H a = some o → H' a = some o) ∧ DkAt H' da la dk' := fun s' => by
      refine ⟨fun a o n1 n2 ha => s'.keep a o ha fun m => ?_, ?_⟩
      · have m : a ∈ [da, la] := m
        simp only [List.mem_cons, List.not_mem_nil, or_false] at m
        rcases m with m | m
        · exact n1 m
        · exact n2 m
      · obtain ⟨da', la', ha, hv, hD'⟩ := s'.cell 0 _ rfl
        have e0 : _ = [da, la] := s'.tdk True.intro (by simp [CnL.up])
        rw [ha] at e0; cases e0
        exact hD'
    unfold runD at hf
    split at hf
    · rename_i d' s2 ρ' hm
      cases hf
      exact ⟨_, T, _, _, _, sr_startD (by have := e; rw [List.length_cons] at this; omega) t h1 h2 hD r, hm, fun v S' own' σ' H' _ s' rv => q v H' (ends s').1 (ends s').2 rv⟩
    · rename_i s2 ρ' hm
      cases hf
      exact ⟨_, T, _, _, _, sr_startD (by have := e; rw [List.length_cons] at this; omega) t h1 h2 hD r, hm, fun S' own' σ' H' _ s' => q .non H' (ends s').1 (ends s').2 .non⟩
    · cases hf
end

/-! ### a new deck -/
def spN (K : PySem.W.Frag) (n : Nat) (f : List D → Option Dk) : Sp := fun vs H Q _ => ∃ S ds s, vs.length = n ∧ (∀ a ∈ S, (H a).isSome = true) ∧ RepL K (Fz S H) vs ds ∧ f ds = some s ∧ ∀ d l H', Ex H H' → H d = none → H l = none → DkAt H' d l s → Q (.ref d) H'
def endN (i j : Nat) (dr : Bool) : Res → Option Dk
  | .nx ρ => match ρ[i]?, ρ[j]? with
    | some (.d (.lst ds)), some (.d (.int n)) => (asInts ds).map fun ns => ⟨ns.reverse, n, 0, dr⟩
    | _, _ => none
  | _ => none
def runN (N : Nat) (m : MS) (i j : Nat) (dr : Bool) : List D → Option Dk := fun ds => (m (ds.map Cell.d ++ List.replicate (N - ds.length) .no)).bind (endN i j dr)
def tNew (K : PySem.W.Frag) (i j : Nat) (kt : Str) : TS := tRet (tDisp [(tC (.str "cells"), tRevA K (tVar i)), (tC (.str "mixed"), tVar j), (tC (.str kt), tC (.int 0))])
def PSL (X : Cx) (sts : List Stmt) (m : MS) (tl : TS) : Prop := PSs X sts (tSeq (tsOf X.K m) tl)
section
variable {X : Cx} {st : Stmt} {sts : List Stmt} {a b : MS} {tl : TS}
theorem psl_cons (h1 : PSM X st a) (h2 : PSL X sts b tl) : PSL X (st :: sts) (mSeq a b) tl := PSs.to (pss_cons h1 h2) fun D σ H q => sm_seq (D := { D with nx := tl D }) q
theorem psl_one (h : PS X st tl) : PSL X [st] mSkip tl := PSs.to (pss_one h) fun D σ H q => sm_skip (D := { D with nx := tl D }) q
end
theorem kt_keys {kt : Str} (h : kt = "turn" ∨ kt = "draws") (l : Addr) (n : Int) : mergeK [] [((Sum.inr "cells" : Key), V.ref l), (.inr "mixed", .int n), (.inr kt, .int 0)] = [((Sum.inr "cells" : Key), V.ref l), (.inr "mixed", .int n), (.inr kt, .int 0)] := by
  rcases h with rfl | rfl <;> rfl
theorem new_dk {K : PySem.W.Frag} {c : CnL} {S : List Addr} {own : Nat → List Addr} {σ : L2.St} {H : Hp} {ρ : List Cell} {i j : Nat} {dr : Bool} {s : Dk} {D : Ends} (hc : c.tl = []) (sr : SR K c S own σ H ρ) (he : endN i j dr (.nx ρ) = some s)
    (k : ∀ d l H', Ex c.H0 H' → c.H0 d = none → c.H0 l = none → DkAt H' d l s → D.rt (.ref d) H') : tNew K i j (if dr = true then "draws" else "turn") D σ H := by
  simp only [endN] at he
  split at he
  · rename_i ds n h1 h2
    simp only [Option.map_eq_some_iff] at he
    obtain ⟨ns, e, rfl⟩ := he
    obtain ⟨v, hv, q⟩ := sr.dat h1
    obtain ⟨u, hu, q2⟩ := sr.dat h2
    cases q2
    rw [asInts_eq e] at q
    cases q with
    | lst g l1 =>
      have := l1.ints; subst this
      intro p hp
      have ex0 : Ex c.H0 H := fun a o h => sr.keep a o h fun m => by have m : a ∈ c.tl := m; rw [hc] at m; cases m
      refine ⟨_, hv, .inl ⟨_, _, rfl, SqL.of (Ex.new hp _ _ (Fz.le _ _ g)), fun l hl => ?_⟩⟩
      have hpl : p ≠ l := fun z => by rw [← z, upd_same] at hl; cases hl
      have hHl : H l = none := by rw [upd_ne (fun z => hpl z.symm)] at hl; exact hl
      refine ⟨_, hu, by rw [upd_ne hpl, upd_same], [(.inr "cells", .ref l), (.inr "mixed", .int n), (.inr (if dr = true then "draws" else "turn"), .int 0)], rfl, by show 3 ≤ 15; decide, ?_⟩
      rw [kt_keys (by cases dr <;> simp)]
      refine k p l _ (fun a o h => ?_) (sr.fresh0 hp) (sr.fresh0 hHl) ⟨upd_same, ?_, hpl⟩
      · have h := ex0 a o h
        rw [upd_ne (ne_of_none h hp), upd_ne (ne_of_none h hHl), upd_ne (ne_of_none h hp)]
        exact h
      · rw [upd_ne (fun z => hpl z.symm), upd_same, ← List.map_reverse]
  · cases he
section
variable {P : Program} {w : World} {K : PySem.W.Frag} {mg : Str → Option Value} {base : Heap} {x qual : Str} {st : Stmt} {f : Addr} {fd : FuncData} {N ps : List Str} {k : Nat}
theorem fn_new (F : Fun K x qual st f fd) (S : FnScope N ps (defScope st)) (m : MS) (i j : Nat) (dr : Bool)
    (hbody : ∀ (cdv : Value) (A : Around) (outer : List Env) (s : Shared) (H : Hp) (E : XK), Room k (A.deeper (envOfC qual (defScope st) s.heap.objs.size f cdv)) → (A.deeper (envOfC qual (defScope st) s.heap.objs.size f cdv)).guards = some [] →
      PSL (cxOf CX0 P w K mg base N qual (defScope st) f cdv A outer s H E).nox (defBody st) m (tNew K i j (if dr = true then "draws" else "turn"))) : FnG P w K mg base CX0 (k + 1) f fd ps (spN K ps.length (runN N.length m i j dr)) := by
  refine fnG_of F S (fun vs H Q E h => ?_) fun cdv A outer s H vs Q E hr hg h => ?_
  · obtain ⟨_, _, _, e, _⟩ := h
    exact e
  · obtain ⟨T, ds, dk, e, t, r, hf, q⟩ := h
    refine ⟨_, (hbody cdv A outer s H E hr hg).nox, ?_⟩
    have hpl : ps.length ≤ N.length := by have := congrArg List.length S.pre; rw [List.length_take] at this; omega
    simp only [runN, Option.bind_eq_some_iff] at hf
    obtain ⟨r0, hm, he⟩ := hf
    cases r0 with
    | nx ρ' => exact ⟨_, T, _, _, _, sr_start (by rw [e]; exact hpl) t r, hm, fun S' own' σ' H' _ s' => new_dk rfl s' he fun d l H'' ex h1 h2 hD => q d l H'' ex h1 h2 hD⟩
    | _ => cases he
end
def mSetDk (i : Nat) (f : List D → Option Dk) (ma : MA) : MS := fun ρ => (ma ρ).bind fun p => (f p.1).bind fun s => if plainAt p.2 i = true then some (.nx (p.2.set i (.dk s))) else none
theorem SR.ownsDk {K : PySem.W.Frag} {c : Cn} {S : List Addr} {own : Nat → List Addr} {σ : L2.St} {H H' : Hp} {ρ : List Cell} {i : Nat} {da la : Addr} {s : Dk} (r : SR K c S own σ H ρ) (hp : plainAt ρ i = true) (ex : Ex H H') (h1 : H da = none) (h2 : H la = none) (hD : DkAt H' da la s) :
    SR K c (da :: la :: S) (fun j => if j = i then [da, la] else own j) (σ.set i (some (.ref da))) H' (ρ.set i (.dk s)) ∧ Ex (Fz S H) (Fz (da :: la :: S) H') := by
  have hi := plainAt_lt hp
  have hoi := r.plain hp
  have n1 : da ∉ S := r.new h1
  have n2 : la ∉ S := r.new h2
  have fz : Ex (Fz S H) (Fz (da :: la :: S) H') := fun a o h => by
    have g := Fz.le a o h
    have n : a ∉ S := fun m => by rw [Fz.own m] at h; cases h
    rw [Fz.out]
    · exact ex a o g
    · intro m
      rcases List.mem_cons.mp m with e | m
      · rw [e, h1] at g; cases g
      · rcases List.mem_cons.mp m with e | m
        · rw [e, h2] at g; cases g
        · exact n m
  refine ⟨⟨by rw [List.length_set, List.length_set]; exact r.len, fun j x h => ?_, fun j k n a h => ?_, fun j a h => ?_, fun a m => List.mem_cons_of_mem _ (List.mem_cons_of_mem _ (r.sub a m)), fun a m => ?_, r.trk0, fun a o h n => ex a o (r.keep a o h n), r.tS, fun l n => ?_⟩, fz⟩
  · by_cases e : j = i
    · subst e
      rw [List.getElem?_set_self hi] at h
      cases h
      exact ⟨da, la, if_pos rfl, by rw [List.getElem?_set_self (by rw [r.len]; exact hi)]; rfl, hD⟩
    · rw [List.getElem?_set_ne (fun z => e z.symm)] at h ⊢
      simp only [if_neg e]
      have q := r.cell j x h
      cases x with
      | no => exact q
      | d y => obtain ⟨u, v, e1, z⟩ := q; exact ⟨u, v, e1, z.mono fz⟩
      | ol ds => obtain ⟨a, xs, e1, e2, e3, z⟩ := q; exact ⟨a, xs, e1, e2, ex _ _ e3, z.mono fz⟩
      | od ds => obtain ⟨a, xs, e1, e2, e3, z⟩ := q; exact ⟨a, xs, e1, e2, ex _ _ e3, z.mono fz⟩
      | dk s => obtain ⟨a, b, e1, e2, e3, e4, e5⟩ := q; exact ⟨a, b, e1, e2, ex _ _ e3, ex _ _ e4, e5⟩
      | ns c fs => obtain ⟨a, dx, C, xs, e1, e2, e3, e4, e5, n, z⟩ := q; exact ⟨a, dx, C, xs, e1, e2, ex _ _ e3, ex _ _ e4, e5, n, z.mono fz⟩
  · have nin : ∀ j a, a ∈ own j → a ≠ da ∧ a ≠ la := fun j a m => ⟨fun z => n1 (z ▸ (r.ownS j a m).1), fun z => n2 (z ▸ (r.ownS j a m).1)⟩
    by_cases e : j = i
    · simp only [if_pos e] at h
      have e2 : k ≠ i := fun z => n (e.trans z.symm)
      simp only [if_neg e2]
      intro m
      have := nin k a m
      simp only [List.mem_cons, List.not_mem_nil, or_false] at h
      rcases h with z | z
      · exact this.1 z
      · exact this.2 z
    · simp only [if_neg e] at h
      by_cases e2 : k = i
      · simp only [if_pos e2]
        intro m
        have := nin j a h
        simp only [List.mem_cons, List.not_mem_nil, or_false] at m
        rcases m with z | z
        · exact this.1 z
        · exact this.2 z
      · simp only [if_neg e2]; exact r.apart j k n a h
  · by_cases e : j = i
    · simp only [if_pos e] at h
      simp only [List.mem_cons, List.not_mem_nil, or_false] at h
      rcases h with rfl | rfl
      · exact ⟨List.mem_cons_self, .inr (r.fresh0 h1)⟩
      · exact ⟨List.mem_cons_of_mem _ List.mem_cons_self, .inr (r.fresh0 h2)⟩
    · simp only [if_neg e] at h
      exact ⟨List.mem_cons_of_mem _ (List.mem_cons_of_mem _ (r.ownS j a h).1), (r.ownS j a h).2⟩
  · rcases List.mem_cons.mp m with rfl | m
    · rw [hD.1]; rfl
    · rcases List.mem_cons.mp m with rfl | m
      · rw [hD.2.1]; rfl
      · have := r.trk a m
        cases q : H a with
        | none => rw [q] at this; cases this
        | some o => rw [ex a o q]; rfl
  · have := r.tdk l n
    by_cases e : 0 = i
    · rw [e, hoi] at this; exact absurd this.symm n
    · simp only [if_neg e]; exact this
section
variable {X : Cx} {k n i : Nat} {f : Addr} {fd : FuncData} {ps : List Str} {x y : Str} {p py cpos pos : Pos} {e : Expr} {es : List Expr} {ma : MA} {g : List D → Option Dk}
theorem psm_setDk (h : Hk X k) (F : FnG X.prog X.w X.K X.mg X.base CX0 k f fd ps (spN X.K n g)) (hg : Gl X x) (hm : X.mg x = some (.ref f)) (hk : PySem.W.keepIn X.K (.ref f) = true) (hb : Bd fd ps n [] (List.range n)) (hn : Fix ma n)
    (ha : PAM X (e :: es) ma) (hN : X.N.Nodup) (hi : X.N[i]? = some y) (hx : Loc X.env.scope y) (hdb : (x == ("__debug__" : Str)) = false := by decide) (he : starEach (e :: es) X.env = (false, eval e X.env) :: starEach es X.env := by rfl) (hpl : (backTo cpos (starEach es X.env)).any (·.1) = false := by rfl)
    (hs : swapsWith (.Call (.Name x p) (e :: es) [] cpos) (some (.Name y py)) pos.line X.env = pure false := by rfl) (hf : X.fn y = true ∨ X.env.scope.names.lookup y = some .local := by first | exact .inl rfl | exact .inr rfl | assumption) :
    PSM X (.Assign [.Name y py] (.Call (.Name x p) (e :: es) [] cpos) pos) (mSetDk i g ma) := PS.to (ps_set hN hi hx (pe_callG (E := XF) F h.room h.gd hg hm hk hb pass0 ha hdb he hpl) hs hf) fun D σ H q => by
  obtain ⟨c, S, own, ρ, r, sr, hm, q⟩ := q
  simp only [mSetDk, Option.bind_eq_some_iff] at hm
  obtain ⟨⟨ds, ρ1⟩, h1, s, h2, h3⟩ := hm
  split at h3
  · rename_i hp
    cases h3
    refine ⟨c, S, own, ρ, ds, ρ1, sr, h1, fun vs H1 e1 s1 q1 => ?_⟩
    have hl : vs.length = n := by rw [q1.length]; exact hn _ _ _ h1
    refine ⟨hl, rfl, ?_⟩
    rw [List.append_nil, ← hl, pick_range, hl]
    refine ⟨S, ds, s, hl, s1.trk, q1, h2, fun d l H' ex g1 g2 hD => ?_⟩
    obtain ⟨s2, fz⟩ := s1.ownsDk hp ex g1 g2 hD
    exact q _ _ _ H' (e1.trans fz) s2
  · cases h3
end
end TL

namespace TL
open PySem L2
open PyProof.Rows (AllBare)

/-! ### the law's own call -/
/-- the heap that a call of the law begins with: the script and nothing else -/
structure Beg (K : PySem.W.Frag) (t : Shared) (a : Addr) (us : List Value) (ms : List Int) (G : Hp) : Prop where
  only : Only G
  seq : SqL K G a (ms.map V.int)
  one : ∀ b u, G b = some u → b = a
  nok : (∃ u, G a = some u) → K.lookup a = none
theorem begin_hp {P : Program} {w : World} {K : PySem.W.Frag} {t : Shared} {a : Addr} {us : List Value} {ms : List Int} (hin : K.In t.heap) (hob : t.heap.get? a = some { cls := .type "list", data := .seq us.toArray }) (hi : PyProof.Rows.IntsAre us ms) (hz : ms.length ≤ sizeLine) :
    ∃ G : Hp, Beg K t a us ms G ∧ HOk P w G t.heap := by
  have hv := vals_ints hi
  have hlen : us.length ≤ sizeLine := by rw [hi.length]; exact hz
  cases hq : K.lookup a with
  | some ob =>
    have h2 := hin a ob hq
    rw [hob] at h2
    cases h2
    refine ⟨fun _ => none, ⟨fun _ => .inl rfl, .inr ⟨_, us.toArray, _, hq, rfl, rfl, rfl, ?_, ?_⟩, fun b u z => (by cases z), fun ⟨u, z⟩ => (by cases z)⟩, fun b u z => (by cases z)⟩
    · rw [List.size_toArray]; exact hlen
    · simpa using hv
  | none =>
    let ob : Obj := { cls := .type "list", data := .seq us.toArray }
    let G : Hp := fun b => if b = a then some (.frz ob (.lst (ms.map V.int))) else none
    have ga : G a = some (.frz ob (.lst (ms.map V.int))) := if_pos rfl
    have go : ∀ b, b ≠ a → G b = none := fun b n => if_neg n
    refine ⟨G, ⟨fun b => ?_, .inl (.inr ⟨ob, ga⟩), fun b u z => ?_, fun _ => hq⟩, fun b u z => ?_⟩
    · by_cases e : b = a
      · subst e; exact .inr ⟨_, _, ga⟩
      · exact .inl (go b e)
    · by_cases e : b = a
      · exact e
      · rw [go b e] at z; cases z
    · by_cases e : b = a
      · subst e
        rw [ga] at z
        cases z
        exact ⟨hob, by rw [List.length_map]; exact hz, us, _, hv, hob⟩
      · rw [go b e] at z; cases z
theorem law_runs {P : Program} {w : World} {K : PySem.W.Frag} {mg mb : Str → Option Value} {k : Nat} {fa a : Addr} {fd : FuncData} {y : Str} {sp : Sp} {t : Shared} {us : List Value} {ms : List Int}
    (hin : K.In t.heap) (n1 : t.heap.Ns mainGlobals mg) (n2 : t.heap.Ns builtinsNs mb) (n3 : ∀ z : Str, z ≠ "__name__" → mb z = bootBuiltins z) (n4 : t.heap.NoLimit) (n5 : t.gens = #[])
    (hob : t.heap.get? a = some { cls := .type "list", data := .seq us.toArray }) (hi : PyProof.Rows.IntsAre us ms) (hz : ms.length ≤ sizeLine) (hr : Room k callerA)
    (F : ∀ bs : Heap, K.In bs → bs.Ns mainGlobals mg → FnG P w K mg bs CX0 k fa fd [y] sp) (hb : ∀ (z : Shared) (v : Value), BindsTo z fd ⟨[v], []⟩ [(y, v)])
    (hs : ∀ G : Hp, Only G → SqL K G a (ms.map V.int) → sp [.ref a] G (fun v _ => v = .bl true) XF) :
    codeAny (model P w) callerA (.call (.ref fa) ⟨[.ref a], []⟩) (fun r z => r = .ok (.ret (.bool true)) ∧ OldK t.heap z.heap ∧ z.os = t.os ∧ AllBare z.gens) t := by
  obtain ⟨G, B, hok⟩ := begin_hp (P := P) (w := w) hin hob hi hz
  let bs := hidT t.heap G
  have keep : ∀ {b : Addr} {o : Obj}, t.heap.get? b = some o → G b = none → bs.get? b = some o := fun h n => hidT_get h n
  have free : ∀ {b : Addr} {o : Obj} {es : Array DictEntry} {ep : Nat}, t.heap.get? b = some o → o.data = .dict es ep → G b = none := fun {b o es ep} h hd => by
    cases hg : G b with
    | none => rfl
    | some u =>
      have := B.one b u hg
      subst this
      rw [hob] at h
      cases h
      exact nomatch (show Data.seq us.toArray _ = Data.dict es ep from hd)
  have ns : ∀ {b : Addr} {m : Str → Option Value}, t.heap.Ns b m → bs.Ns b m := fun ⟨o, es, ep, h, hd, hr⟩ => ⟨o, es, ep, keep h (free h hd), hd, hr⟩
  have hinb : K.In bs := fun b o h => keep (hin b o h) (by
    cases hg : G b with
    | none => rfl
    | some u =>
      have e := B.one b u hg
      subst e
      rw [B.nok ⟨u, hg⟩] at h
      cases h)
  obtain ⟨mc, l1, l2⟩ := n4
  have hM : Mod K mg bs := ⟨hinb, ns n1, ⟨mb, ns n2, n3⟩, mc, ns l1, l2⟩
  have hE : Env0 P w K mg bs callerA [] t G := ⟨rfl, hM, fun b o h => of_hidT h, Nat.le_of_eq (hidT_size _ _), trivial, fun b m => (nomatch (show b ∈ ([] : List Addr) from m)), hok, .of_eq n5⟩
  refine codeAny_mono ((F bs hinb (ns n1)).go callerA [] t G ⟨[.ref a], []⟩ [.ref a] [.ref a] _ _ hr rfl hE (hb t (.ref a)) (.cons rfl .nil) (hs G B.only B.seq)) fun r z q => ?_
  match r, q with
  | .error e, q => exact q.elim
  | .ok .next, q => exact q.elim
  | .ok .brk, q => exact q.elim
  | .ok .cont, q => exact q.elim
  | .ok (.ret u), q =>
    obtain ⟨v, G', q1, q2, q3, q4, q5, q6⟩ := q
    have q6 : v = .bl true := q6
    subst q6
    have : u = Value.bool true := q5
    subst this
    refine ⟨rfl, OldK.of_keep fun b o h => ?_, q1, q2⟩
    cases hg : G b with
    | none => exact q3.keep b o h hg (fun m => nomatch (show b ∈ ([] : List Addr) from m)) (fun m => nomatch m)
    | some u =>
      rcases B.only b with e | ⟨ob, xs, e⟩
      · rw [hg] at e; cases e
      · have e2 := q3.frzs b ob _ e
        obtain ⟨a1, _⟩ := hok b _ e
        obtain ⟨a2, _⟩ := q4 b _ e2
        rw [h] at a1
        cases a1
        exact a2
/-- the goal behind k_head and k_fill, from the law's mirror -/
theorem walkG {l : PySem.W.OpenLaw} {n k : Nat} {q : Program} {loose : List Str} {XP : (Str → Option Value) → Heap → Prop} {YP : World → Heap → Prop} {d : DefRec} {K : Params → PySem.W.Frag} {y : Str} {f : List D → Option D}
    (hn : l.most = some n) (hn2 : n ≤ sizeLine) (hdf : d.params.defaults = []) (hr : Room k callerA) (hY : ∀ (w : World) (h : Heap), YP w h → (K w.params).In h)
    (F : ∀ (w : World) (mg : Str → Option Value) (fa : Addr) (h : Heap), (K w.params).In h → h.Ns mainGlobals mg → mg d.name = some (.ref fa) →
      ∃ fd : FuncData, (∀ (z : Shared) (v : Value), BindsTo z fd ⟨[v], []⟩ [(y, v)]) ∧ ∀ bs : Heap, (K w.params).In bs → bs.Ns mainGlobals mg → FnG l.prog w (K w.params) mg bs CX0 k fa fd [y] (spP (K w.params) 1 f))
    (hf : ∀ ms : List Int, ms.length ≤ n → f [.scr ms] = some (.bl true)) : PySem.W.WalkO q loose XP YP l.row.toRowW d [] (fun f vs => PySem.call f vs) := by
  refine Att.attach_call hn hdf fun w s0 t mg mb fa o pm cd doc a us ms G Y ho hd hcd hmg hob hints hlen hg => ?_
  have hin := hY w _ Y
  obtain ⟨fd, hb, hF⟩ := F w mg fa _ hin G.T.g hmg
  refine law_runs hin G.T.g G.T.b G.T.builtins G.T.nolimit hg hob hints (Nat.le_trans hlen hn2) hr hF hb fun H hO hS => ?_
  refine ⟨[], [.scr ms], .bl true, rfl, ?_, .cons (.scr ?_) .nil, hf ms hlen, fun v H' _ r => ?_⟩
  · intro b m; cases m
  · have : Fz [] H = H := funext fun b => Fz.out (fun m => nomatch m)
    rw [this]; exact hS
  · cases r; rfl
end TL

namespace TL
open PySem L2

section
variable {X : Cx} {e : Expr} {x : Str} {px p2 p3 p4 apos cpos pos : Pos} {me : ME} {i j n : Nat} {k : Str}
theorem pem_dkGet (hu : X.A.units + 64 < cLine) (hv : PE X (.Name x px) (tVar i)) : PEM X (.Subscript (.Name x px) (.Constant (.str k) n p2) pos) (mDkGet i k) :=
  PE.to (pe_dget (by omega) hv pe_str (fun _ _ => rfl)) fun _ _ _ q => em_dkGet q
theorem ptm_dkHas (hu : X.A.units + 64 < cLine) (hv : PE X (.Name x px) (tVar i)) : PTM X (.Compare (.Subscript (.Name x px) (.Constant (.str "cells") n p2) p3) [.NotEq] [.List [] p4] pos) (mDkHas i) :=
  PT.to (pt_cmpR (op_neP hu) (pe_dget (by omega) hv pe_str (fun _ _ => rfl)) (pem_lst pam_nil) (nomark _)) fun _ _ _ q => em_dkHas q
theorem pem_dkPop (hu : X.A.units + 64 < cLine) (hv : PE X (.Name x px) (tVar i))
    (hbase : attributeBase (.Subscript (.Name x px) (.Constant (.str "cells") n p2) pos) "pop" X.env (eval (.Subscript (.Name x px) (.Constant (.str "cells") n p2) pos) X.env) = eval (.Subscript (.Name x px) (.Constant (.str "cells") n p2) pos) X.env := by rfl) (hline : (apos.endLine == cpos.line) = true := by rfl) :
    PEM X (.Call (.Attribute (.Subscript (.Name x px) (.Constant (.str "cells") n p2) pos) "pop" apos) [] [] cpos) (mDkPop i) :=
  PE.to (pe_bm0 PySem.F.plainAttrs_list PySem.F.slot_list_pop PySem.F.type_list_pop mt_pop (pe_dget (by omega) hv pe_str (fun _ _ => rfl)) hbase hline) fun _ _ _ q => em_dkPop q
theorem psm_dkSet (hu : X.A.units + 64 < cLine) (hv : PE X (.Name x px) (tVar i)) (he : PEM X e me) (hs : swapsWith e (some (.Subscript (.Name x px) (.Constant (.str k) n p2) p3)) pos.line X.env = pure false := by rfl) :
    PSM X (.Assign [.Subscript (.Name x px) (.Constant (.str k) n p2) p3] e pos) (mDkSet i k me) :=
  PS.to (ps_dput (by omega) hv pe_str he hs) fun _ _ _ q => sm_dkSet q
theorem psm_dkPush (hu : X.A.units + 64 < cLine) (hv : PE X (.Name x px) (tVar i)) (he : PEM X e me)
    (hbase : attributeBase (.Subscript (.Name x px) (.Constant (.str "cells") n p2) p3) "append" X.env (eval (.Subscript (.Name x px) (.Constant (.str "cells") n p2) p3) X.env) = eval (.Subscript (.Name x px) (.Constant (.str "cells") n p2) p3) X.env := by rfl)
    (hfew : ((backTo cpos (starEach [e] X.env)).all (fun x => !x.1) && (backToKw cpos (keywordEach [] X.env)).all (fun x => x.1.isSome)
      && decide ([e].length + ([] : List Keyword).length + (if ([] : List Keyword).isEmpty then 0 else 1) < 30)) = true := by rfl)
    (hline : (apos.endLine == cpos.line) = true := by rfl) (hs : starEach [e] X.env = (false, eval e X.env) :: starEach [] X.env := by rfl) (hplain : (backTo cpos (starEach [] X.env)).any (·.1) = false := by rfl)
    (hw : swapsWith (.Call (.Attribute (.Subscript (.Name x px) (.Constant (.str "cells") n p2) p3) "append" apos) [e] [] cpos) none pos.line X.env = pure false := by rfl) :
    PSM X (.Expr (.Call (.Attribute (.Subscript (.Name x px) (.Constant (.str "cells") n p2) p3) "append" apos) [e] [] cpos) pos) (mDkPush i me) :=
  PS.to (ps_expr (pe_bm PySem.F.plainAttrs_list PySem.F.slot_list_append PySem.F.type_list_append mt_append (pe_dget (by omega) hv pe_str (fun _ _ => rfl)) (pa_cons he pa_nil hs) hbase hfew hline hs hplain) hw) fun _ _ _ q => sm_dkPush q
theorem ps_new {y : Str} {py p5 p6 p7 p8 p9 p10 : Pos} {n1 n2 n3 n4 n5 : Nat} {kt : Str} (hv : PE X (.Name x px) (tVar i)) (hw : PE X (.Name y py) (tVar j)) :
    PS X (.Return (some (.Dict [some (.Constant (.str "cells") n1 p2), some (.Constant (.str "mixed") n2 p3), some (.Constant (.str kt) n3 p4)]
      [.Subscript (.Name x px) (.Slice none none (some (.UnaryOp .USub (.Constant (.int 1) n4 p5) p6)) p7) p8, .Name y py, .Constant (.int 0) n5 p9] p10)) pos) (tNew X.K i j kt) :=
  ps_ret (pe_disp (pps_cons pe_str (pe_revA hv) (pps_cons pe_str hw (pps_cons pe_str pe_int pps_nil))) rfl rfl (by intro z; cases z) (by show 3 ≤ 15; decide))
end
/-- a def of the module and its name -/
structure At (K : PySem.W.Frag) (mg : Str → Option Value) (x : Str) (f : Addr) : Prop where
  mg : mg x = some (.ref f)
  kp : PySem.W.keepIn K (.ref f) = true
end TL

namespace TL
open PySem L2

/-! ### mirrors are worked out -/
def isP : Cell → Bool
  | .d _ => true
  | .no => true
  | _ => false
theorem plainAt_eq (ρ : List Cell) (i : Nat) : plainAt ρ i = match ρ[i]? with
    | some c => isP c
    | none => false := by
  unfold plainAt
  cases ρ[i]? with
  | none => rfl
  | some c => cases c <;> rfl
@[simp] theorem isP_d (d : D) : isP (.d d) = true := rfl
@[simp] theorem isP_no : isP .no = true := rfl
theorem wipeC_one (ρ : List Cell) (i : Nat) : wipeC ρ [i] = ρ.set i .no := rfl
theorem lcGo_pure {f : MG} {mt : MT} {me : ME} {vs : List Nat} {ρ : List Cell} (p : D → Bool) (e : D → D) : ∀ (ds : List D), (∀ d ∈ ds, ∃ ρ1, f d ρ = some ρ1 ∧ mt ρ1 = some (p d, ρ1) ∧ (p d = true → me ρ1 = some (e d, ρ1)) ∧ wipeC ρ1 vs = ρ) →
    lcGo f mt me vs ds ρ = some ((ds.filter p).map e, ρ)
  | [], _ => rfl
  | d :: ds, h => by
    obtain ⟨ρ1, h1, h2, h3, h4⟩ := h d List.mem_cons_self
    have ih := lcGo_pure p e ds fun x hx => h x (List.mem_cons_of_mem _ hx)
    simp only [lcGo, h1, h2, Option.bind_some]
    by_cases hp : p d = true
    · rw [if_pos hp, h3 hp]
      simp only [Option.bind_some, h4, ih, Option.map_some, List.filter_cons, hp, if_true, List.map_cons]
    · rw [if_neg hp, h4, ih, List.filter_cons, if_neg hp]
/-- a block whose turns change what they go by: Iv holds ahead of each turn -/
theorem lcGo_inv {f : MG} {mt : MT} {me : ME} {vs : List Nat} (Iv : Nat → List Cell → Prop) (Pd : D → Prop) : ∀ (ds : List D) (k : Nat) (ρ : List Cell), Iv k ρ → (∀ i d, ds[i]? = some d → ∀ ρ, Iv (k + i) ρ → ∃ ρ1 b ρ2, f d ρ = some ρ1 ∧ mt ρ1 = some (b, ρ2) ∧ (b = false → Iv (k + i + 1) (wipeC ρ2 vs)) ∧ (b = true → ∃ x ρ3, me ρ2 = some (x, ρ3) ∧ Pd x ∧ Iv (k + i + 1) (wipeC ρ3 vs))) →
    ∃ out ρ', lcGo f mt me vs ds ρ = some (out, ρ') ∧ Iv (k + ds.length) ρ' ∧ (∀ x ∈ out, Pd x) ∧ out.length ≤ ds.length
  | [], k, ρ, h0, _ => ⟨[], ρ, rfl, h0, (fun x hx => by cases hx), Nat.le_refl _⟩
  | d :: ds, k, ρ, h0, h => by
    obtain ⟨ρ1, b, ρ2, h1, h2, h3, h4⟩ := h 0 d rfl ρ h0
    have next : ∀ ρ, Iv (k + 1) ρ → ∃ out ρ', lcGo f mt me vs ds ρ = some (out, ρ') ∧ Iv (k + 1 + ds.length) ρ' ∧ (∀ x ∈ out, Pd x) ∧ out.length ≤ ds.length := fun ρ hρ =>
      lcGo_inv Iv Pd ds (k + 1) ρ hρ fun i x hx ρ hi => by
        have := h (i + 1) x (by simpa using hx) ρ (by rw [show k + (i + 1) = k + 1 + i by omega]; exact hi)
        rw [show k + (i + 1) = k + 1 + i by omega] at this
        exact this
    have hl : k + (d :: ds).length = k + 1 + ds.length := by rw [List.length_cons]; omega
    cases b with
    | false =>
      obtain ⟨out, ρ', e1, e2, e3, e4⟩ := next _ (h3 rfl)
      refine ⟨out, ρ', ?_, hl ▸ e2, e3, by rw [List.length_cons]; omega⟩
      simp only [lcGo, h1, h2, Option.bind_some, Bool.false_eq_true, if_false, e1]
    | true =>
      obtain ⟨x, ρ3, g1, g2, g3⟩ := h4 rfl
      obtain ⟨out, ρ', e1, e2, e3, e4⟩ := next _ g3
      refine ⟨x :: out, ρ', ?_, hl ▸ e2, fun y hy => ?_, by rw [List.length_cons, List.length_cons]; omega⟩
      · simp only [lcGo, h1, h2, Option.bind_some, if_true, g1, e1, Option.map_some]
      · rcases List.mem_cons.mp hy with rfl | hy
        · exact g2
        · exact e3 y hy
theorem forGo_inv {f : MG} {body : MS} (Iv : Nat → List Cell → Prop) : ∀ (ds : List D) (k : Nat) (ρ : List Cell), Iv k ρ → (∀ i d, ds[i]? = some d → ∀ ρ, Iv (k + i) ρ → ∃ ρ1 ρ2, f d ρ = some ρ1 ∧ body ρ1 = some (.nx ρ2) ∧ Iv (k + i + 1) ρ2) →
    ∃ ρ', forGo f body ds ρ = some (.nx ρ') ∧ Iv (k + ds.length) ρ'
  | [], k, ρ, h0, _ => ⟨ρ, rfl, h0⟩
  | d :: ds, k, ρ, h0, h => by
    obtain ⟨ρ1, ρ2, h1, h2, h3⟩ := h 0 d rfl ρ h0
    obtain ⟨ρ', e1, e2⟩ := forGo_inv Iv ds (k + 1) ρ2 h3 fun i x hx ρ hi => by
      have := h (i + 1) x (by simpa using hx) ρ (by rw [show k + (i + 1) = k + 1 + i by omega]; exact hi)
      rw [show k + (i + 1) = k + 1 + i by omega] at this
      exact this
    refine ⟨ρ', ?_, ?_⟩
    · simp only [forGo, h1, h2, Option.bind_some, e1]
    · rw [List.length_cons, show k + (ds.length + 1) = k + 1 + ds.length by omega]; exact e2
/-! ### data that are texts, numbers, bools -/
theorem dLt_str (a b : Str) : dLt (.str a) (.str b) = some (.bl (decide (a.cps.toList < b.cps.toList))) := by
  unfold dLt cmpP fOrd
  simp only [D.py, Option.bind_some]
  rw [if_pos (by show 0 ≤ 64; omega)]
  simp [PySem.W.alike, PySem.W.dataLt_str]
theorem dLt_int (a b : Int) : dLt (.int a) (.int b) = some (.bl (decide (a < b))) := by
  unfold dLt cmpP fOrd
  simp only [D.py, Option.bind_some]
  rw [if_pos (by show 0 ≤ 64; omega)]
  simp [PySem.W.alike, PySem.W.dataLt_int]
theorem dGe_int (a b : Int) : dGe (.int a) (.int b) = some (.bl (decide (b ≤ a))) := by
  unfold dGe cmpP fOrd
  simp only [D.py, Option.bind_some]
  rw [if_pos (by show 0 ≤ 64; omega)]
  simp only [PySem.W.alike, PySem.W.dataLt_int, if_true, Option.map_some]
  by_cases h : b ≤ a
  · rw [decide_eq_true h, decide_eq_false (by omega)]; rfl
  · rw [decide_eq_false h, decide_eq_true (by omega)]; rfl
theorem dLe_int (a b : Int) : dLe (.int a) (.int b) = some (.bl (decide (a ≤ b))) := by
  unfold dLe cmpP fOrd
  simp only [D.py, Option.bind_some]
  rw [if_pos (by show 0 ≤ 64; omega)]
  simp only [PySem.W.alike, PySem.W.dataLt_int, if_true, Option.map_some]
  by_cases h : a ≤ b
  · rw [decide_eq_true h, decide_eq_false (by omega)]; rfl
  · rw [decide_eq_false h, decide_eq_true (by omega)]; rfl
theorem dEq_int (a b : Int) : dEq (.int a) (.int b) = some (.bl (decide (a = b))) := by
  unfold dEq cmpP fEq
  simp only [D.py, Option.bind_some]
  rw [if_pos (by show 0 ≤ 64; omega)]
  simp [PyData.plain, PyData.eqv]
  rfl
theorem dEq_str (a b : Str) : dEq (.str a) (.str b) = some (.bl (a == b)) := by
  unfold dEq cmpP fEq
  simp only [D.py, Option.bind_some]
  rw [if_pos (by show 0 ≤ 64; omega)]
  simp [PyData.plain, PyData.eqv]
theorem dNe_str (a b : Str) : dNe (.str a) (.str b) = some (.bl (!(a == b))) := by
  unfold dNe cmpP fNe
  simp only [D.py, Option.bind_some]
  rw [if_pos (by show 0 ≤ 64; omega)]
  simp [PyData.plain, PyData.eqv]
theorem str_beq_self (a : Str) : (a == a) = true := by
  rw [beq_iff_eq]
theorem pys_strs : ∀ l : List Str, D.pys (l.map D.str) = some (l.map PyData.str)
  | [] => rfl
  | a :: l => by simp only [List.map_cons, D.pys, D.py, Option.bind_some, pys_strs l, Option.map_some]
theorem plainAll_strs (l : List Str) : PyData.plainAll (l.map PyData.str) = true := by
  induction l with
  | nil => rfl
  | cons a l ih => simp [PyData.plainAll, PyData.plain, ih]
theorem depthAll_strs (l : List Str) : PyData.depthAll (l.map PyData.str) = 0 := by
  induction l with
  | nil => rfl
  | cons a l ih => simp [PyData.depthAll, PyData.depth, ih]
theorem plainAll_ints (l : List Int) : PyData.plainAll (l.map PyData.int) = true := by
  induction l with
  | nil => rfl
  | cons a l ih => simp [PyData.plainAll, PyData.plain, ih]
theorem depthAll_ints (l : List Int) : PyData.depthAll (l.map PyData.int) = 0 := by
  induction l with
  | nil => rfl
  | cons a l ih => simp [PyData.depthAll, PyData.depth, ih]
theorem eqvAll_strs : ∀ l m : List Str, PyData.eqvAll (l.map PyData.str) (m.map PyData.str) = decide (l = m)
  | [], [] => rfl
  | [], b :: m => by simp [PyData.eqvAll]
  | a :: l, [] => by simp [PyData.eqvAll]
  | a :: l, b :: m => by
    simp only [List.map_cons, PyData.eqvAll, PyData.eqv, eqvAll_strs l m, List.cons.injEq, Bool.decide_and]
    by_cases h : a = b
    · subst h; simp
    · rw [decide_eq_false h, Bool.false_and]
      have : (a == b) = false := by rw [beq_eq_false_iff_ne]; exact h
      rw [this, Bool.false_and]
theorem eqvAll_ints : ∀ l m : List Int, PyData.eqvAll (l.map PyData.int) (m.map PyData.int) = decide (l = m)
  | [], [] => rfl
  | [], b :: m => by simp [PyData.eqvAll]
  | a :: l, [] => by simp [PyData.eqvAll]
  | a :: l, b :: m => by
    simp only [List.map_cons, PyData.eqvAll, PyData.eqv, eqvAll_ints l m, List.cons.injEq, Bool.decide_and]
    by_cases h : a = b
    · subst h; simp
    · rw [decide_eq_false h, Bool.false_and]
      have : (a == b) = false := by rw [beq_eq_false_iff_ne]; exact h
      rw [this, Bool.false_and]
theorem dEq_strs (l m : List Str) : dEq (.lst (l.map D.str)) (.lst (m.map D.str)) = some (.bl (decide (l = m))) := by
  unfold dEq cmpP fEq
  simp only [D.py, pys_strs, Option.map_some, Option.bind_some]
  rw [if_pos (by show PyData.depthAll _ + 1 ≤ 64; rw [depthAll_strs]; omega), if_pos ⟨plainAll_strs l, plainAll_strs m⟩]
  simp only [Option.map_some, PyData.eqv, eqvAll_strs]
theorem dNe_strs (l m : List Str) : dNe (.lst (l.map D.str)) (.lst (m.map D.str)) = some (.bl (!decide (l = m))) := by
  unfold dNe cmpP fNe
  simp only [D.py, pys_strs, Option.map_some, Option.bind_some]
  rw [if_pos (by show PyData.depthAll _ + 1 ≤ 64; rw [depthAll_strs]; omega), if_pos ⟨plainAll_strs l, plainAll_strs m⟩]
  simp only [Option.map_some, PyData.eqv, eqvAll_strs]
theorem dEq_ints (l m : List Int) : dEq (.lst (l.map D.int)) (.lst (m.map D.int)) = some (.bl (decide (l = m))) := by
  unfold dEq cmpP fEq
  simp only [D.py, pys_ints, Option.map_some, Option.bind_some]
  rw [if_pos (by show PyData.depthAll _ + 1 ≤ 64; rw [depthAll_ints]; omega), if_pos ⟨plainAll_ints l, plainAll_ints m⟩]
  simp only [Option.map_some, PyData.eqv, eqvAll_ints]
theorem strIn_one (c : Nat) (x : Str) : strIn ⟨#[c]⟩ x = decide (c ∈ x.cps.toList) := by
  unfold strIn
  exact PySem.StrLaws.found_one x c
/-! ### types -/
theorem kit_NoneType_str : kitB "NoneType" "str" = some false := by decide +kernel
theorem kit_bool_str : kitB "bool" "str" = some false := by decide +kernel
theorem kit_int_str : kitB "int" "str" = some false := by decide +kernel
theorem kit_str_str : kitB "str" "str" = some true := by decide +kernel
theorem kit_tuple_str : kitB "tuple" "str" = some false := by decide +kernel
theorem kit_list_str : kitB "list" "str" = some false := by decide +kernel
theorem kit_dict_str : kitB "dict" "str" = some false := by decide +kernel
theorem kit_NoneType_int : kitB "NoneType" "int" = some false := by decide +kernel
theorem kit_bool_int : kitB "bool" "int" = some true := by decide +kernel
theorem kit_int_int : kitB "int" "int" = some true := by decide +kernel
theorem kit_str_int : kitB "str" "int" = some false := by decide +kernel
theorem kit_tuple_int : kitB "tuple" "int" = some false := by decide +kernel
theorem kit_list_int : kitB "list" "int" = some false := by decide +kernel
theorem kit_dict_int : kitB "dict" "int" = some false := by decide +kernel
theorem kit_NoneType_bool : kitB "NoneType" "bool" = some false := by decide +kernel
theorem kit_bool_bool : kitB "bool" "bool" = some true := by decide +kernel
theorem kit_int_bool : kitB "int" "bool" = some false := by decide +kernel
theorem kit_str_bool : kitB "str" "bool" = some false := by decide +kernel
theorem kit_tuple_bool : kitB "tuple" "bool" = some false := by decide +kernel
theorem kit_list_bool : kitB "list" "bool" = some false := by decide +kernel
theorem kit_dict_bool : kitB "dict" "bool" = some false := by decide +kernel
theorem kit_NoneType_tuple : kitB "NoneType" "tuple" = some false := by decide +kernel
theorem kit_bool_tuple : kitB "bool" "tuple" = some false := by decide +kernel
theorem kit_int_tuple : kitB "int" "tuple" = some false := by decide +kernel
theorem kit_str_tuple : kitB "str" "tuple" = some false := by decide +kernel
theorem kit_tuple_tuple : kitB "tuple" "tuple" = some true := by decide +kernel
theorem kit_list_tuple : kitB "list" "tuple" = some false := by decide +kernel
theorem kit_dict_tuple : kitB "dict" "tuple" = some false := by decide +kernel
theorem kit_NoneType_list : kitB "NoneType" "list" = some false := by decide +kernel
theorem kit_bool_list : kitB "bool" "list" = some false := by decide +kernel
theorem kit_int_list : kitB "int" "list" = some false := by decide +kernel
theorem kit_str_list : kitB "str" "list" = some false := by decide +kernel
theorem kit_tuple_list : kitB "tuple" "list" = some false := by decide +kernel
theorem kit_list_list : kitB "list" "list" = some true := by decide +kernel
theorem kit_dict_list : kitB "dict" "list" = some false := by decide +kernel
theorem kit_NoneType_dict : kitB "NoneType" "dict" = some false := by decide +kernel
theorem kit_bool_dict : kitB "bool" "dict" = some false := by decide +kernel
theorem kit_int_dict : kitB "int" "dict" = some false := by decide +kernel
theorem kit_str_dict : kitB "str" "dict" = some false := by decide +kernel
theorem kit_tuple_dict : kitB "tuple" "dict" = some false := by decide +kernel
theorem kit_list_dict : kitB "list" "dict" = some false := by decide +kernel
theorem kit_dict_dict : kitB "dict" "dict" = some true := by decide +kernel
theorem lcGo_map {α : Type} {f : MG} {mt : MT} {me : ME} {vs : List Nat} {ρ : List Cell} (emb : α → D) (p : α → Bool) (e : α → D) (l : List α) (h : ∀ a ∈ l, ∃ ρ1, f (emb a) ρ = some ρ1 ∧ mt ρ1 = some (p a, ρ1) ∧ (p a = true → me ρ1 = some (e a, ρ1)) ∧ wipeC ρ1 vs = ρ) :
    lcGo f mt me vs (l.map emb) ρ = some ((l.filter p).map e, ρ) := by
  induction l with
  | nil => rfl
  | cons d ds ih =>
    obtain ⟨ρ1, h1, h2, h3, h4⟩ := h d List.mem_cons_self
    have ih := ih fun x hx => h x (List.mem_cons_of_mem _ hx)
    simp only [List.map_cons, lcGo, h1, h2, Option.bind_some]
    by_cases hp : p d = true
    · rw [if_pos hp, h3 hp]
      simp only [Option.bind_some, h4, ih, Option.map_some, List.filter_cons, hp, if_true, List.map_cons]
    · rw [if_neg hp, h4, ih, List.filter_cons, if_neg hp]
theorem asBls_mapf {α : Type} (q : α → Bool) : ∀ l : List α, asBls (l.map fun a => D.bl (q a)) = some (l.map q)
  | [] => rfl
  | a :: l => by simp only [List.map_cons, asBls, asBls_mapf q l, Option.map_some]
theorem asStrs_mapf {α : Type} (q : α → Str) : ∀ l : List α, asStrs (l.map fun a => D.str (q a)) = some (l.map q)
  | [] => rfl
  | a :: l => by simp only [List.map_cons, asStrs, asStrs_mapf q l, Option.map_some]
theorem len_cps (x : Str) : x.length = x.cps.toList.length := by simp [Str.length]
def one1 (c : Nat) : Str := ⟨#[c]⟩
theorem signs_eq (x : Str) : signs x = x.cps.toList.map fun c => .str (one1 c) := rfl
theorem one1_cps (c : Nat) : (one1 c).cps.toList = [c] := rfl
theorem strIn_one1 (c : Nat) (x : Str) : strIn (one1 c) x = decide (c ∈ x.cps.toList) := strIn_one c x
theorem lt_one (a b : Nat) : (([a] : List Nat) < [b]) = (a < b) := by
  rw [eq_iff_iff]
  constructor
  · intro h
    cases h with
    | rel h => exact h
    | cons h => cases h
  · intro h; exact .rel h
theorem lcGo_mapT {α : Type} {f : MG} {mt : MT} {me : ME} {vs : List Nat} {ρ : List Cell} (emb : α → D) (e : α → D) (l : List α) (h : ∀ a ∈ l, ∃ ρ1, f (emb a) ρ = some ρ1 ∧ mt ρ1 = some (true, ρ1) ∧ me ρ1 = some (e a, ρ1) ∧ wipeC ρ1 vs = ρ) :
    lcGo f mt me vs (l.map emb) ρ = some (l.map e, ρ) := by
  have := lcGo_map (f := f) (mt := mt) (me := me) (vs := vs) (ρ := ρ) emb (fun _ => true) e l fun a ha => by
    obtain ⟨ρ1, h1, h2, h3, h4⟩ := h a ha
    exact ⟨ρ1, h1, h2, fun _ => h3, h4⟩
  rw [this, List.filter_eq_self.mpr fun _ _ => rfl]
/-- a text of its letters -/
def Tx (l : List Nat) : Str := ⟨l.toArray⟩
theorem Tx_cps (l : List Nat) : (Tx l).cps.toList = l := rfl
theorem Tx_len (l : List Nat) : (Tx l).length = l.length := rfl
theorem Tx_signs (l : List Nat) : signs (Tx l) = l.map fun c => .str (Tx [c]) := rfl
theorem Tx_inj {a b : List Nat} : Tx a = Tx b ↔ a = b := ⟨fun h => by have := congrArg (fun x => x.cps.toList) h; exact this, fun h => by rw [h]⟩
theorem Tx_beq (a b : List Nat) : (Tx a == Tx b) = decide (a = b) := by
  by_cases h : a = b
  · subst h; simp
  · rw [decide_eq_false h, beq_eq_false_iff_ne]
    exact fun z => h (Tx_inj.mp z)
theorem Tx_app (a b : List Nat) : Tx a ++ Tx b = Tx (a ++ b) := by
  refine PySem.W.str_of_cps ?_
  show (Tx a ++ Tx b).cps.toList = a ++ b
  have : (Tx a ++ Tx b).cps = (Tx a).cps ++ (Tx b).cps := rfl
  rw [this, Array.toList_append]; rfl
theorem Tx_rev (a : List Nat) : revS (Tx a) = Tx a.reverse := PySem.W.str_of_cps (by rw [revS_list]; rfl)
theorem strIn_Tx (c : Nat) (l : List Nat) : strIn (Tx [c]) (Tx l) = decide (c ∈ l) := strIn_one c (Tx l)
theorem dLt_Tx (a b : List Nat) : dLt (.str (Tx a)) (.str (Tx b)) = some (.bl (decide (a < b))) := dLt_str _ _
theorem dEq_nil_strs {α : Type} (q : α → Str) (l : List α) : dEq (.lst (l.map fun a => D.str (q a))) (.lst []) = some (.bl l.isEmpty) := by
  have := dEq_strs (l.map q) []
  rw [List.map_map] at this
  rw [show (List.map (fun a => D.str (q a)) l) = List.map (D.str ∘ q) l from rfl, show (D.lst []) = D.lst (List.map D.str []) from rfl, this]
  cases l <;> simp
theorem dNe_nil_strs {α : Type} (q : α → Str) (l : List α) : dNe (.lst (l.map fun a => D.str (q a))) (.lst []) = some (.bl (!l.isEmpty)) := by
  have := dNe_strs (l.map q) []
  rw [List.map_map] at this
  rw [show (List.map (fun a => D.str (q a)) l) = List.map (D.str ∘ q) l from rfl, show (D.lst []) = D.lst (List.map D.str []) from rfl, this]
  cases l <;> simp
theorem dEq_nil_ints {α : Type} (q : α → Int) (l : List α) : dEq (.lst (l.map fun a => D.int (q a))) (.lst []) = some (.bl l.isEmpty) := by
  have := dEq_ints (l.map q) []
  rw [List.map_map] at this
  rw [show (List.map (fun a => D.int (q a)) l) = List.map (D.int ∘ q) l from rfl, show (D.lst []) = D.lst (List.map D.int []) from rfl, this]
  cases l <;> simp
theorem filter_empty {α : Type} (p : α → Bool) (l : List α) : (l.filter fun a => !p a).isEmpty = l.all p := by
  induction l with
  | nil => rfl
  | cons a l ih =>
    rw [List.filter_cons, List.all_cons]
    cases h : p a <;> simp [ih]
/-! ### step by step -/
section
variable {ρ ρ1 ρ2 ρ3 : List Cell} {a b d : D} {ds es : List D} {ma mb : ME} {mr : MA} {ta tb : MT} {s u : MS} {k : Bool}
theorem ev_var {i : Nat} (h : ρ[i]? = some (.d d)) : mVar i ρ = some (d, ρ) := by unfold mVar; rw [h]
theorem ev_c : mC d ρ = some (d, ρ) := rfl
theorem ev_nil : mNil ρ = some ([], ρ) := rfl
theorem ev_cons (h1 : ma ρ = some (a, ρ1)) (h2 : mr ρ1 = some (ds, ρ2)) : mCons ma mr ρ = some (a :: ds, ρ2) := by
  simp only [mCons, h1, h2, Option.bind_some]
theorem ev_bin {f : D → D → Option D} (h1 : ma ρ = some (a, ρ1)) (h2 : mb ρ1 = some (b, ρ2)) (h3 : f a b = some d) : mBin f ma mb ρ = some (d, ρ2) := by
  simp only [mBin, h1, h2, h3, Option.bind_some, Option.map_some]
theorem ev_un {f : D → Option D} (h1 : ma ρ = some (a, ρ1)) (h3 : f a = some d) : mUn f ma ρ = some (d, ρ1) := by
  simp only [mUn, h1, h3, Option.bind_some, Option.map_some]
theorem ev_app {f : List D → Option D} (h1 : mr ρ = some (ds, ρ1)) (h3 : f ds = some d) : mApp f mr ρ = some (d, ρ1) := by
  simp only [mApp, h1, h3, Option.bind_some, Option.map_some]
theorem ev_test (h1 : ma ρ = some (.bl k, ρ1)) : mTest ma ρ = some (k, ρ1) := by
  simp only [mTest, h1, Option.bind_some]
theorem ev_not (h1 : ta ρ = some (k, ρ1)) : mNotT ta ρ = some (!k, ρ1) := by
  simp only [mNotT, h1, Option.map_some]
theorem ev_notV (h1 : ma ρ = some (.bl k, ρ1)) : mNotV ma ρ = some (.bl (!k), ρ1) := by
  simp only [mNotV, h1, Option.bind_some]
theorem ev_andT (h1 : ta ρ = some (true, ρ1)) : mAndT ta tb ρ = tb ρ1 := by simp only [mAndT, h1, Option.bind_some, if_true]
theorem ev_andF (h1 : ta ρ = some (false, ρ1)) : mAndT ta tb ρ = some (false, ρ1) := by simp only [mAndT, h1, Option.bind_some, Bool.false_eq_true, if_false]
theorem ev_orT (h1 : ta ρ = some (true, ρ1)) : mOrT ta tb ρ = some (true, ρ1) := by simp only [mOrT, h1, Option.bind_some, if_true]
theorem ev_orF (h1 : ta ρ = some (false, ρ1)) : mOrT ta tb ρ = tb ρ1 := by simp only [mOrT, h1, Option.bind_some, Bool.false_eq_true, if_false]
theorem ev_seq (h1 : s ρ = some (.nx ρ1)) : mSeq s u ρ = u ρ1 := by simp only [mSeq, h1, Option.bind_some]
theorem ev_seqR {x : D} (h1 : s ρ = some (.rt x ρ1)) : mSeq s u ρ = some (.rt x ρ1) := by simp only [mSeq, h1, Option.bind_some]
theorem ev_ret (h1 : ma ρ = some (d, ρ1)) : mRet ma ρ = some (.rt d ρ1) := by simp only [mRet, h1, Option.map_some]
theorem ev_ifT (h1 : ta ρ = some (true, ρ1)) : mIfS ta s u ρ = s ρ1 := by simp only [mIfS, h1, Option.bind_some, if_true]
theorem ev_ifF (h1 : ta ρ = some (false, ρ1)) : mIfS ta s u ρ = u ρ1 := by simp only [mIfS, h1, Option.bind_some, Bool.false_eq_true, if_false]
theorem ev_skip : mSkip ρ = some (.nx ρ) := rfl
theorem ev_set {i : Nat} (h1 : ma ρ = some (d, ρ1)) (h2 : plainAt ρ1 i = true) : mAsg ma (gmName i) ρ = some (.nx (ρ1.set i (.d d))) := by
  simp only [mAsg, gmName, h1, Option.bind_some, if_pos h2, Option.map_some]
theorem ev_par {i j : Nat} (h1 : mr ρ = some ([a, b], ρ1)) (h2 : plainAt ρ1 i = true) (h3 : plainAt (ρ1.set i (.d a)) j = true) : mPar i j mr ρ = some (.nx ((ρ1.set i (.d a)).set j (.d b))) := by
  simp only [mPar, gmName, h1, Option.bind_some, if_pos h2, if_pos h3, Option.map_some]
theorem ev_items (h1 : ma ρ = some (a, ρ1)) (h2 : dItems a = some ds) : mItems ma ρ = some (ds, ρ1) := by simp only [mItems, h1, h2, Option.bind_some, Option.map_some]
theorem ev_range (h1 : mr ρ = some (es, ρ1)) (h2 : dRange es = some ds) : mRange mr ρ = some (ds, ρ1) := by simp only [mRange, h1, h2, Option.bind_some, Option.map_some]
theorem ev_lc {mi : MI} {f : MG} {mt : MT} {vs : List Nat} (h1 : mi ρ = some (ds, ρ1)) (h2 : plainC ρ1 vs = true) (h3 : lcGo f mt ma vs ds (wipeC ρ1 vs) = some (es, ρ2)) (h4 : es.length ≤ sizeLine) : mLc mi f mt ma vs ρ = some (.lst es, backC ρ1 ρ2 vs) := by
  simp only [mLc, h1, h3, Option.bind_some, if_pos h2, if_pos h4]
theorem ev_for {mi : MI} {f : MG} {r : Res} (h1 : mi ρ = some (ds, ρ1)) (h2 : forGo f s ds ρ1 = some r) : mFor mi f s ρ = some r := by
  simp only [mFor, h1, h2, Option.bind_some]
theorem ev_callP {f : List D → Option D} {pm : List Nat} {mk : MA} (h1 : mr ρ = some (ds, ρ1)) (h2 : mk ρ1 = some (es, ρ2)) (h3 : f (pm.map fun i => (ds ++ es).getD i .non) = some d) : mCallP f pm mr mk ρ = some (d, ρ2) := by
  simp only [mCallP, h1, h2, h3, Option.bind_some, Option.map_some]
theorem ev_callD {i : Nat} {f : Dk → List D → Option (D × Dk)} {k0 k1 k2 : Dk} (h0 : ρ[i]? = some (.dk k0)) (h1 : mr ρ = some (ds, ρ1)) (h2 : ρ1[i]? = some (.dk k1)) (h3 : f k1 ds = some (d, k2)) : mCallD i f mr ρ = some (d, ρ1.set i (.dk k2)) := by
  simp only [mCallD, h0, h1, h2, h3, Option.bind_some, Option.map_some]
theorem ev_runP {N : Nat} {m : MS} (h : m (ds.map Cell.d ++ List.replicate (N - ds.length) .no) = some (.rt d ρ)) : runP N m ds = some d := by unfold runP; rw [h]
theorem ev_runD {N : Nat} {m : MS} {k0 k1 : Dk} (h : m (.dk k0 :: ds.map Cell.d ++ List.replicate (N - (ds.length + 1)) .no) = some (.rt d (.dk k1 :: ρ))) : runD N m k0 ds = some (d, k1) := by unfold runD; rw [h]
end
end TL

namespace TL
open PySem L2

/-! ### the deck's draws -/
section
variable {ρ ρ1 : List Cell} {i : Nat} {k : Str} {s k0 : Dk} {n : Int} {me : ME}
theorem ev_dkGet (h : ρ[i]? = some (.dk s)) (e : s.get k = some n) : mDkGet i k ρ = some (.int n, ρ) := by
  unfold mDkGet; rw [h]; simp only [e, Option.map_some]
theorem ev_dkSet (h0 : ρ[i]? = some (.dk k0)) (h1 : me ρ = some (.int n, ρ1)) (h2 : ρ1[i]? = some (.dk s)) (hk : k = s.kt) : mDkSet i k me ρ = some (.nx (ρ1.set i (.dk { s with turn := n }))) := by
  unfold mDkSet; rw [h0]; simp only [h1, h2, Option.bind_some, if_pos hk]
theorem ev_dkHas (h : ρ[i]? = some (.dk s)) : mDkHas i ρ = some (!s.cells.isEmpty, ρ) := by
  unfold mDkHas; rw [h]
theorem ev_dkPop (h : ρ[i]? = some (.dk s)) (e : s.cells.getLast? = some n) : mDkPop i ρ = some (.int n, ρ.set i (.dk { s with cells := s.cells.dropLast })) := by
  unfold mDkPop; rw [h]; simp only [e, Option.map_some]
theorem ev_dkPush (h0 : ρ[i]? = some (.dk k0)) (h1 : me ρ = some (.int n, ρ1)) (h2 : ρ1[i]? = some (.dk s)) (hk : s.cells.length < sizeLine) : mDkPush i me ρ = some (.nx (ρ1.set i (.dk { s with cells := s.cells ++ [n] }))) := by
  unfold mDkPush; rw [h0]; simp only [h1, h2, Option.bind_some, if_pos hk]
end
theorem log2_small {n : Nat} (h : n < 2 ^ 400000) : n.log2 < 400000 := by
  by_cases h0 : n = 0
  · subst h0; simp
  · exact (Nat.log2_lt h0).mpr h
theorem mul_ok {a b : Int} (ha : a.natAbs.log2 < 400000) (hb : b.natAbs.log2 < 400000) : dMulA (.int a) (.int b) = some (.int (a * b)) := by
  have : mulOk a b = true := by unfold mulOk; exact decide_eq_true (by omega)
  simp only [dMulA, this, if_true]
theorem lg {a : Int} (h : a.natAbs < 2 ^ 200) : a.natAbs.log2 < 400000 := by
  by_cases h0 : a.natAbs = 0
  · rw [h0]; decide
  · exact Nat.lt_trans ((Nat.log2_lt h0).mpr h) (by decide)
theorem mod_ok {a b : Int} (h : 0 < b) : dMod (.int a) (.int b) = some (.int (a % b)) := if_pos h
theorem fdiv_ok {a b : Int} (h : 0 < b) (h2 : b.natAbs < 2 ^ 200) : dFdiv (.int a) (.int b) = some (.int (a / b)) := if_pos ⟨h, by
  by_cases h0 : b.natAbs = 0
  · rw [h0]; decide
  · exact Nat.lt_trans ((Nat.log2_lt h0).mpr h2) (by decide)⟩
theorem int_ok {a : Int} : dInt [.int a] = some (.int a) := rfl
theorem add_ok {a b : Int} : dAdd (.int a) (.int b) = some (.int (a + b)) := rfl
/-- the deck is in order, n draws may follow -/
structure Fine (s : Dk) (n : Nat) : Prop where
  cells : s.cells.length ≤ 63
  m0 : 0 ≤ s.mixed
  m1 : s.mixed < 2 ^ 40
  t0 : 0 ≤ s.turn
  t1 : s.turn + n ≤ 2 ^ 40
theorem Fine.le {s : Dk} {n m : Nat} (h : Fine s n) (l : m ≤ n) : Fine s m := ⟨h.cells, h.m0, h.m1, h.t0, by have := h.t1; omega⟩
/-- a draw below many, and the deck behind it -/
structure Drew (s s' : Dk) : Prop where
  cells : s'.cells.length ≤ s.cells.length
  mixed : s'.mixed = s.mixed
  turn : s'.turn = s.turn + 1
  dr : s'.dr = s.dr
theorem Drew.fine {s s' : Dk} {n : Nat} (h : Drew s s') (f : Fine s (n + 1)) : Fine s' n :=
  ⟨Nat.le_trans h.cells f.cells, by rw [h.mixed]; exact f.m0, by rw [h.mixed]; exact f.m1, by have := f.t0; rw [h.turn]; omega, by have := f.t1; rw [h.turn]; omega⟩
/-- the law's draw, of the form with "turn" -/
noncomputable def drawA (c1 c2 : Int) : MS := (mSeq (mDkSet 0 "turn" (mBin dAdd (mDkGet 0 "turn") (mC (.int 1)))) (mSeq (mAsg (mBin dAdd (mDkGet 0 "mixed") (mBin dMulA (mBin dMulA (mC (.int c1)) (mDkGet 0 "turn")) (mDkGet 0 "turn"))) (gmName 2)) (mSeq (mIfS (mDkHas 0) (mSeq (mAsg (mDkPop 0) (gmName 3)) (mSeq (mIfS (mTest (mBin dGe (mVar 3) (mBin dPow (mC (.int 10)) (mC (.int 18))))) (mSeq (mDkPush 0 (mBin dFdiv (mVar 3) (mVar 1))) (mRet (mBin dMod (mApp dInt (mCons (mVar 3) mNil)) (mVar 1)))) mSkip) (mAsg (mBin dAdd (mVar 2) (mApp dInt (mCons (mVar 3) mNil))) (gmName 2)))) mSkip) (mSeq (mAsg (mBin dMod (mBin dMulA (mApp dInt (mCons (mBin dAdd (mBin dMod (mApp dInt (mCons (mVar 2) mNil)) (mC (.int 2147483579))) (mC (.int c2))) mNil)) (mC (.int 48271))) (mC (.int 2147483647))) (gmName 2)) (mSeq (mAsg (mBin dMod (mApp dInt (mCons (mBin dAdd (mBin dAdd (mBin dMulA (mVar 2) (mVar 2)) (mBin dMulA (mC (.int 69621)) (mDkGet 0 "turn"))) (mC (.int 29))) mNil)) (mC (.int 2147483563))) (gmName 2)) (mRet (mBin dMod (mBin dFdiv (mBin dMod (mApp dInt (mCons (mBin dMulA (mVar 2) (mC (.int 40692))) mNil)) (mC (.int 2147483587))) (mC (.int 64))) (mVar 1))))))))
theorem get_turn {s : Dk} (h : s.dr = false) : s.get "turn" = some s.turn := by
  unfold Dk.get Dk.kt
  rw [h]; rfl
theorem get_mixed {s : Dk} : s.get "mixed" = some s.mixed := by
  unfold Dk.get
  rw [if_pos rfl]
theorem kt_turn {s : Dk} (h : s.dr = false) : ("turn" : Str) = s.kt := by
  unfold Dk.kt
  rw [h]; rfl
/-- the figures' end -/
theorem draw_tail {c2 many F : Int} {s : Dk} {c : Cell} (hd : s.dr = false) (hc : 0 ≤ c2 ∧ c2 < 2 ^ 40) (hm : 0 < many) (t0 : 0 ≤ s.turn) (t1 : s.turn ≤ 2 ^ 41) : ∃ r ρ, 0 ≤ r ∧ r < many ∧
    (mSeq (mAsg (mBin dMod (mBin dMulA (mApp dInt (mCons (mBin dAdd (mBin dMod (mApp dInt (mCons (mVar 2) mNil)) (mC (.int 2147483579))) (mC (.int c2))) mNil)) (mC (.int 48271))) (mC (.int 2147483647))) (gmName 2)) (mSeq (mAsg (mBin dMod (mApp dInt (mCons (mBin dAdd (mBin dAdd (mBin dMulA (mVar 2) (mVar 2)) (mBin dMulA (mC (.int 69621)) (mDkGet 0 "turn"))) (mC (.int 29))) mNil)) (mC (.int 2147483563))) (gmName 2)) (mRet (mBin dMod (mBin dFdiv (mBin dMod (mApp dInt (mCons (mBin dMulA (mVar 2) (mC (.int 40692))) mNil)) (mC (.int 2147483587))) (mC (.int 64))) (mVar 1))))) [.dk s, .d (.int many), .d (.int F), c] = some (.rt (.int r) (.dk s :: ρ)) := by
  have b1 := Int.emod_nonneg F (b := 2147483579) (by decide)
  have b2 := Int.emod_lt_of_pos F (b := 2147483579) (by decide)
  generalize hg1 : (F % 2147483579 + c2) * 48271 % 2147483647 = F1
  have b3 : 0 ≤ F1 := by rw [← hg1]; exact Int.emod_nonneg _ (by decide)
  have b4 : F1 < 2147483647 := by rw [← hg1]; exact Int.emod_lt_of_pos _ (by decide)
  generalize hg2 : (F1 * F1 + 69621 * s.turn + 29) % 2147483563 = F2
  have b5 : 0 ≤ F2 := by rw [← hg2]; exact Int.emod_nonneg _ (by decide)
  have b6 : F2 < 2147483563 := by rw [← hg2]; exact Int.emod_lt_of_pos _ (by decide)
  have s1 : (mAsg (mBin dMod (mBin dMulA (mApp dInt (mCons (mBin dAdd (mBin dMod (mApp dInt (mCons (mVar 2) mNil)) (mC (.int 2147483579))) (mC (.int c2))) mNil)) (mC (.int 48271))) (mC (.int 2147483647))) (gmName 2)) [.dk s, .d (.int many), .d (.int F), c] = some (.nx [.dk s, .d (.int many), .d (.int F1), c]) := by
    rw [ev_set (d := .int F1) (ev_bin (ev_bin (ev_app (ev_cons (ev_bin (ev_bin (ev_app (ev_cons (ev_var rfl) ev_nil) int_ok) ev_c (mod_ok (by decide))) ev_c add_ok) ev_nil) int_ok) ev_c (mul_ok (lg (by omega)) (lg (by decide)))) ev_c (by rw [mod_ok (by decide), hg1])) rfl]
    rfl
  have s2 : (mAsg (mBin dMod (mApp dInt (mCons (mBin dAdd (mBin dAdd (mBin dMulA (mVar 2) (mVar 2)) (mBin dMulA (mC (.int 69621)) (mDkGet 0 "turn"))) (mC (.int 29))) mNil)) (mC (.int 2147483563))) (gmName 2)) [.dk s, .d (.int many), .d (.int F1), c] = some (.nx [.dk s, .d (.int many), .d (.int F2), c]) := by
    rw [ev_set (d := .int F2) (ev_bin (ev_app (ev_cons (ev_bin (ev_bin (ev_bin (ev_var rfl) (ev_var rfl) (mul_ok (lg (by omega)) (lg (by omega)))) (ev_bin ev_c (ev_dkGet rfl (get_turn hd)) (mul_ok (lg (by decide)) (lg (by omega)))) add_ok) ev_c add_ok) ev_nil) int_ok) ev_c (by rw [mod_ok (by decide), hg2])) rfl]
    rfl
  refine ⟨F2 * 40692 % 2147483587 / 64 % many, [.d (.int many), .d (.int F2), c], Int.emod_nonneg _ (by omega), Int.emod_lt_of_pos _ hm, ?_⟩
  rw [ev_seq s1, ev_seq s2]
  exact ev_ret (ev_bin (ev_bin (ev_bin (ev_app (ev_cons (ev_bin (ev_var rfl) ev_c (mul_ok (lg (by omega)) (lg (by decide)))) ev_nil) int_ok) ev_c (mod_ok (by decide))) ev_c (fdiv_ok (by decide) (by decide))) (ev_var rfl) (mod_ok hm))
theorem draw_spec {c1 c2 many : Int} {s : Dk} {n : Nat} (hd : s.dr = false) (h1 : 0 ≤ c1 ∧ c1 < 2 ^ 40) (h2 : 0 ≤ c2 ∧ c2 < 2 ^ 40) (hm : 0 < many) (hm2 : many < 2 ^ 40) (hf : Fine s (n + 1)) :
    ∃ r s', runD 4 (drawA c1 c2) s [.int many] = some (.int r, s') ∧ 0 ≤ r ∧ r < many ∧ Drew s s' := by
  obtain ⟨k1, k2, k3, k4, k5⟩ := hf
  let s1 : Dk := { s with turn := s.turn + 1 }
  let F : Int := s.mixed + c1 * (s.turn + 1) * (s.turn + 1)
  have hd1 : s1.dr = false := hd
  have e1 : (mDkSet 0 "turn" (mBin dAdd (mDkGet 0 "turn") (mC (.int 1)))) [.dk s, .d (.int many), .no, .no] = some (.nx [.dk s1, .d (.int many), .no, .no]) :=
    ev_dkSet rfl (ev_bin (ev_dkGet rfl (get_turn hd)) ev_c add_ok) rfl (kt_turn hd)
  have hq : (c1 * (s.turn + 1)).natAbs < 2 ^ 200 := by
    have a1 : c1.natAbs < 2 ^ 40 := by omega
    have a2 : (s.turn + 1).natAbs < 2 ^ 42 := by omega
    rw [Int.natAbs_mul]
    exact Nat.lt_of_lt_of_le (Nat.mul_lt_mul'' a1 a2) (by decide)
  have e2 : (mAsg (mBin dAdd (mDkGet 0 "mixed") (mBin dMulA (mBin dMulA (mC (.int c1)) (mDkGet 0 "turn")) (mDkGet 0 "turn"))) (gmName 2)) [.dk s1, .d (.int many), .no, .no] = some (.nx [.dk s1, .d (.int many), .d (.int F), .no]) := by
    rw [ev_set (d := .int F) (ev_bin (ev_dkGet (s := s1) rfl get_mixed) (ev_bin (ev_bin ev_c (ev_dkGet rfl (get_turn hd1)) (mul_ok (lg (by omega)) (lg (by show (s.turn + 1).natAbs < _; omega)))) (ev_dkGet rfl (get_turn hd1)) (mul_ok (lg hq) (lg (by show (s.turn + 1).natAbs < _; omega)))) add_ok) rfl]
    rfl
  have fin : ∀ {r : Int} {s' : Dk} {ρ : List Cell}, drawA c1 c2 [.dk s, .d (.int many), .no, .no] = some (.rt (.int r) (.dk s' :: ρ)) → runD 4 (drawA c1 c2) s [.int many] = some (.int r, s') := fun h => ev_runD h
  by_cases hc : s.cells = []
  · have e3 : mDkHas 0 [.dk s1, .d (.int many), .d (.int F), .no] = some (false, [.dk s1, .d (.int many), .d (.int F), .no]) := by
      rw [ev_dkHas (s := s1) rfl]
      show some (!s.cells.isEmpty, _) = _
      rw [hc]; rfl
    obtain ⟨r, ρ, r0, r1, e4⟩ := draw_tail (c := .no) (F := F) hd1 h2 hm (by show 0 ≤ s.turn + 1; omega) (by show s.turn + 1 ≤ _; omega)
    refine ⟨r, s1, fin (ρ := ρ) ?_, r0, r1, Nat.le_refl _, rfl, rfl, rfl⟩
    unfold drawA
    rw [ev_seq e1, ev_seq e2, ev_seq ((ev_ifF e3).trans ev_skip)]
    exact e4
  · obtain ⟨x, hx⟩ : ∃ x, s.cells.getLast? = some x := by
      cases h : s.cells.getLast? with
      | none => exact absurd (List.getLast?_eq_none_iff.mp h) hc
      | some x => exact ⟨x, rfl⟩
    let s2 : Dk := { s1 with cells := s.cells.dropLast }
    have hl : s.cells.dropLast.length = s.cells.length - 1 := List.length_dropLast
    have hl2 : 0 < s.cells.length := List.length_pos_iff.mpr hc
    have e3 : mDkHas 0 [.dk s1, .d (.int many), .d (.int F), .no] = some (true, [.dk s1, .d (.int many), .d (.int F), .no]) := by
      rw [ev_dkHas (s := s1) rfl]
      show some (!s.cells.isEmpty, _) = _
      cases hs : s.cells with
      | nil => exact absurd hs hc
      | cons a l => rfl
    have e5 : (mAsg (mDkPop 0) (gmName 3)) [.dk s1, .d (.int many), .d (.int F), .no] = some (.nx [.dk s2, .d (.int many), .d (.int F), .d (.int x)]) := by
      rw [ev_set (ev_dkPop (s := s1) rfl hx) rfl]; rfl
    by_cases hb : (10 : Int) ^ 18 ≤ x
    · let s3 : Dk := { s2 with cells := s.cells.dropLast ++ [x / many] }
      have e6 : mTest (mBin dGe (mVar 3) (mBin dPow (mC (.int 10)) (mC (.int 18)))) [.dk s2, .d (.int many), .d (.int F), .d (.int x)] = some (true, [.dk s2, .d (.int many), .d (.int F), .d (.int x)]) :=
        ev_test (ev_bin (ev_var rfl) (ev_bin ev_c ev_c (d := .int ((10 : Int) ^ 18)) (by rfl)) (by rw [dGe_int, decide_eq_true hb]))
      have e7 : mDkPush 0 (mBin dFdiv (mVar 3) (mVar 1)) [.dk s2, .d (.int many), .d (.int F), .d (.int x)] = some (.nx [.dk s3, .d (.int many), .d (.int F), .d (.int x)]) :=
        ev_dkPush (s := s2) (k0 := s2) rfl (ev_bin (ev_var rfl) (ev_var rfl) (fdiv_ok hm (by omega))) rfl (by show s.cells.dropLast.length < sizeLine; exact Nat.lt_of_lt_of_le (show s.cells.dropLast.length < 64 by omega) (by decide))
      refine ⟨x % many, s3, fin (ρ := [.d (.int many), .d (.int F), .d (.int x)]) ?_, Int.emod_nonneg _ (by omega), Int.emod_lt_of_pos _ hm, by show (s.cells.dropLast ++ [x / many]).length ≤ _; rw [List.length_append, hl, List.length_singleton]; omega, rfl, rfl, rfl⟩
      unfold drawA
      rw [ev_seq e1, ev_seq e2]
      refine ev_seqR ?_
      rw [ev_ifT e3, ev_seq e5]
      refine ev_seqR ?_
      rw [ev_ifT e6, ev_seq e7]
      exact ev_ret (ev_bin (ev_app (ev_cons (ev_var rfl) ev_nil) int_ok) (ev_var rfl) (mod_ok hm))
    · have e6 : mTest (mBin dGe (mVar 3) (mBin dPow (mC (.int 10)) (mC (.int 18)))) [.dk s2, .d (.int many), .d (.int F), .d (.int x)] = some (false, [.dk s2, .d (.int many), .d (.int F), .d (.int x)]) :=
        ev_test (ev_bin (ev_var rfl) (ev_bin ev_c ev_c (d := .int ((10 : Int) ^ 18)) (by rfl)) (by rw [dGe_int, decide_eq_false hb]))
      have e7 : (mAsg (mBin dAdd (mVar 2) (mApp dInt (mCons (mVar 3) mNil))) (gmName 2)) [.dk s2, .d (.int many), .d (.int F), .d (.int x)] = some (.nx [.dk s2, .d (.int many), .d (.int (F + x)), .d (.int x)]) := by
        rw [ev_set (ev_bin (ev_var rfl) (ev_app (ev_cons (ev_var rfl) ev_nil) int_ok) add_ok) rfl]; rfl
      obtain ⟨r, ρ, r0, r1, e4⟩ := draw_tail (s := s2) (c := .d (.int x)) (F := F + x) hd h2 hm (by show 0 ≤ s.turn + 1; omega) (by show s.turn + 1 ≤ _; omega)
      refine ⟨r, s2, fin (ρ := ρ) ?_, r0, r1, by show s.cells.dropLast.length ≤ _; rw [hl]; omega, rfl, rfl, rfl⟩
      unfold drawA
      rw [ev_seq e1, ev_seq e2]
      have : mIfS (mDkHas 0) (mSeq (mAsg (mDkPop 0) (gmName 3)) (mSeq (mIfS (mTest (mBin dGe (mVar 3) (mBin dPow (mC (.int 10)) (mC (.int 18))))) (mSeq (mDkPush 0 (mBin dFdiv (mVar 3) (mVar 1))) (mRet (mBin dMod (mApp dInt (mCons (mVar 3) mNil)) (mVar 1)))) mSkip) (mAsg (mBin dAdd (mVar 2) (mApp dInt (mCons (mVar 3) mNil))) (gmName 2)))) mSkip [.dk s1, .d (.int many), .d (.int F), .no] = some (.nx [.dk s2, .d (.int many), .d (.int (F + x)), .d (.int x)]) := by
        rw [ev_ifT e3, ev_seq e5, ev_seq ((ev_ifF e6).trans ev_skip)]
        exact e7
      rw [ev_seq this]
      exact e4
end TL

namespace TL
open PySem L2

theorem glue_nil : ∀ (parts : List Str) (acc : Array Nat), (parts.foldl (fun acc p => acc ++ (Tx []).cps ++ p.cps) acc).toList = acc.toList ++ (parts.map (·.cps.toList)).flatten
  | [], acc => by simp
  | p :: ps, acc => by
    rw [List.foldl_cons, glue_nil ps, List.map_cons, List.flatten_cons, Array.toList_append, Array.toList_append, Tx_cps, List.append_nil, List.append_assoc]
theorem join_cat (parts : List Str) : Txt.join (Tx []) parts = Tx (parts.map (·.cps.toList)).flatten := by
  refine PySem.W.str_of_cps ?_
  rw [Tx_cps]
  unfold Txt.join Builtin.Str.glued
  show ((parts.drop 1).foldl (fun acc p => acc ++ (Tx []).cps ++ p.cps) (parts.headD Str.empty).cps).toList = _
  rw [glue_nil]
  cases parts with
  | nil => rfl
  | cons p ps => rfl
theorem empty_Tx : ("" : Str) = Tx [] := rfl
theorem join_signs (p : List Nat) (h : p.length ≤ 100000) : dJoin (.str "") (.lst (p.map fun c => .str (Tx [c]))) = some (.str (Tx p)) := by
  have e : Txt.join (Tx []) (p.map fun c => Tx [c]) = Tx p := by
    rw [join_cat, List.map_map]
    congr 1
    induction p with
    | nil => rfl
    | cons a p ih => rw [List.map_cons, List.flatten_cons, ih (by rw [List.length_cons] at h; omega)]; rfl
  have l : ((p.map fun c => Tx [c]).map (·.length)).sum = p.length := by
    clear e h
    induction p with
    | nil => rfl
    | cons a p ih => rw [List.map_cons, List.map_cons, List.sum_cons, ih, List.length_cons, Tx_len]; simp only [List.length_singleton]; omega
  rw [empty_Tx]
  simp only [dJoin]
  rw [asStrs_mapf, Option.bind_some, l, e, if_pos (by rw [Tx_len]; simp only [List.length_nil, Nat.mul_zero]; omega)]
/-- a draw function -/
def Draws (fd : Dk → List D → Option (D × Dk)) (dr : Bool) : Prop := ∀ (s : Dk) (n : Nat) (many : Int), s.dr = dr → Fine s (n + 1) → 0 < many → many < 2 ^ 40 → ∃ r s', fd s [.int many] = some (.int r, s') ∧ 0 ≤ r ∧ r < many ∧ Drew s s'
noncomputable def pickM (fd : Dk → List D → Option (D × Dk)) : MS := (mRet (mBin dItemA (mVar 1) (mCallD 0 fd (mCons (mApp dLen (mCons (mVar 1) mNil)) mNil))))
theorem item_nat {ds : List D} {r : Int} (h0 : 0 ≤ r) (h1 : r < ds.length) : ∃ d, dItemA (.lst ds) (.int r) = some d ∧ ds[r.toNat]? = some d := by
  have hl : r.toNat < ds.length := by omega
  have e : ((r.toNat : Nat) : Int) = r := Int.toNat_of_nonneg h0
  have := atI_nat (xs := ds) (j := r.toNat) (v := ds[r.toNat]) (List.getElem?_eq_getElem hl)
  rw [e] at this
  exact ⟨_, this, List.getElem?_eq_getElem hl⟩
theorem pick_spec {fd : Dk → List D → Option (D × Dk)} {dr : Bool} (hf : Draws fd dr) {s : Dk} {n : Nat} {ds : List D} (hd : s.dr = dr) (h : Fine s (n + 1)) (h0 : ds ≠ []) (h1 : ds.length < 2 ^ 40) : ∃ d s', runD 2 (pickM fd) s [.lst ds] = some (d, s') ∧ d ∈ ds ∧ Drew s s' := by
  have hl : 0 < ds.length := List.length_pos_iff.mpr h0
  obtain ⟨r, s', e, r0, r1, hs⟩ := hf s n ds.length hd h (by omega) (by omega)
  obtain ⟨d, e2, e3⟩ := item_nat r0 r1
  refine ⟨d, s', ev_runD (ρ := [.d (.lst ds)]) (ev_ret (ev_bin (ev_var rfl) (ev_callD (k0 := s) rfl (ev_cons (ev_app (ev_cons (ev_var rfl) ev_nil) rfl) ev_nil) rfl e) e2)), List.mem_of_getElem? e3, hs⟩
theorem pick_str {fd : Dk → List D → Option (D × Dk)} {dr : Bool} (hf : Draws fd dr) {s : Dk} {n : Nat} {l : List Nat} (hd : s.dr = dr) (h : Fine s (n + 1)) (h0 : l ≠ []) (h1 : l.length ≤ 100000) : ∃ c s', runD 2 (pickM fd) s [.str (Tx l)] = some (.str (Tx [c]), s') ∧ c ∈ l ∧ Drew s s' := by
  have hl : 0 < l.length := List.length_pos_iff.mpr h0
  have hz : l.length ≤ sizeLine := Nat.le_trans h1 (by decide)
  obtain ⟨r, s', e, r0, r1, hs⟩ := hf s n l.length hd h (by omega) (by omega)
  have hr : r.toNat < l.length := by omega
  have er : ((r.toNat : Nat) : Int) = r := Int.toNat_of_nonneg r0
  have := atI_nat (xs := l) (j := r.toNat) (v := l[r.toNat]) (List.getElem?_eq_getElem hr)
  rw [er] at this
  have e2 : dItemA (.str (Tx l)) (.int r) = some (.str (Tx [l[r.toNat]])) := by
    show (if (Tx l).length ≤ sizeLine then (atI (Tx l).cps.toList r).map (fun c => D.str ⟨#[c]⟩) else none) = _
    rw [if_pos (by rw [Tx_len]; exact hz), Tx_cps, this]; rfl
  have e3 : dLen [.str (Tx l)] = some (.int l.length) := if_pos hz
  exact ⟨_, s', ev_runD (ρ := [.d (.str (Tx l))]) (ev_ret (ev_bin (ev_var rfl) (ev_callD (k0 := s) rfl (ev_cons (ev_app (ev_cons (ev_var rfl) ev_nil) e3) ev_nil) rfl e) e2)), List.getElem_mem hr, hs⟩
/-- what is drawn sign by sign -/
theorem texts_of {l : List Nat} : ∀ {out : List D}, (∀ x ∈ out, ∃ c ∈ l, x = .str (Tx [c])) → ∃ p : List Nat, out = p.map (fun c => .str (Tx [c])) ∧ ∀ c ∈ p, c ∈ l
  | [], _ => ⟨[], rfl, fun c h => by cases h⟩
  | x :: out, h => by
    obtain ⟨p, rfl, hp⟩ := texts_of fun y hy => h y (List.mem_cons_of_mem _ hy)
    obtain ⟨c, hc, rfl⟩ := h x List.mem_cons_self
    exact ⟨c :: p, rfl, fun d hd => (List.mem_cons.mp hd).elim (fun e => e ▸ hc) (hp d)⟩
noncomputable def pageM (fd fp : Dk → List D → Option (D × Dk)) : MS := (mRet (mBin dJoin (mC (.str "")) (mLc (mRange (mCons (mCallD 0 fd (mCons (mBin dAdd (mVar 2) (mC (.int 1))) mNil)) mNil)) (gmName 3) mYes (mCallD 0 fp (mCons (mVar 1) mNil)) [3])))
/-- behind k draws or fewer -/
structure After (s s' : Dk) (n : Nat) : Prop where
  fine : Fine s' n
  dr : s'.dr = s.dr
theorem page_spec {fd : Dk → List D → Option (D × Dk)} {dr : Bool} (hf : Draws fd dr) {s : Dk} {n most : Nat} {l : List Nat} (hd : s.dr = dr) (h : Fine s (n + most + 2)) (h0 : l ≠ []) (h1 : l.length ≤ 100000) (hm : most ≤ 1000) :
    ∃ p s', runD 4 (pageM fd (runD 2 (pickM fd))) s [.str (Tx l), .int most] = some (.str (Tx p), s') ∧ (∀ c ∈ p, c ∈ l) ∧ p.length ≤ most ∧ Fine s' n ∧ s'.dr = dr := by
  obtain ⟨r, s1, e, r0, r1, hs⟩ := hf s (n + most + 1) (most + 1) hd h (by omega) (by omega)
  have f1 : Fine s1 (n + most + 1) := hs.fine h
  have hd1 : s1.dr = dr := hs.dr.trans hd
  have hrange : dRange [.int r] = some ((List.range r.toNat).map fun i : Nat => .int (0 + (i : Int))) := by
    show (if _ then _ else _) = _
    rw [if_pos (by omega)]; rfl
  obtain ⟨out, ρ', g1, g2, g3, g4⟩ := lcGo_inv (f := gmName 3) (mt := mYes) (me := mCallD 0 (runD 2 (pickM fd)) (mCons (mVar 1) mNil)) (vs := [3]) (fun k ρ => ∃ s', ρ = [.dk s', .d (.str (Tx l)), .d (.int most), .no] ∧ k ≤ r.toNat ∧ Fine s' (n + (r.toNat - k)) ∧ s'.dr = dr) (fun x => ∃ c ∈ l, x = .str (Tx [c]))
    ((List.range r.toNat).map fun i : Nat => .int (0 + (i : Int))) 0 [.dk s1, .d (.str (Tx l)), .d (.int most), .no] ⟨s1, rfl, Nat.zero_le _, f1.le (by omega), hd1⟩ (fun i d hi ρ hI => by
      obtain ⟨s2, rfl, hk, f2, hd2⟩ := hI
      have hi := (List.getElem?_eq_some_iff.mp hi).1
      simp only [List.length_map, List.length_range] at hi
      obtain ⟨c, s3, e3, hc, hs3⟩ := pick_str hf (s := s2) (n := n + (r.toNat - (i + 1))) (l := l) hd2 (f2.le (by omega)) h0 h1
      refine ⟨[.dk s2, .d (.str (Tx l)), .d (.int most), .d d], true, _, rfl, rfl, fun z => (by cases z), fun _ => ⟨.str (Tx [c]), [.dk s3, .d (.str (Tx l)), .d (.int most), .d d], ev_callD (k0 := s2) rfl (ev_cons (ev_var rfl) ev_nil) rfl e3, ⟨c, hc, rfl⟩, s3, rfl, by omega, (hs3.fine (n := n + (r.toNat - (i + 1))) (f2.le (by omega))).le (by omega), hs3.dr.trans hd2⟩⟩)
  obtain ⟨s2, rfl, _, f2, hd2⟩ := g2
  obtain ⟨p, rfl, hp⟩ := texts_of g3
  simp only [List.length_map, List.length_range] at g4
  have hpl : p.length ≤ most := by omega
  refine ⟨p, s2, ev_runD (ρ := [.d (.str (Tx l)), .d (.int most), .no]) (ev_ret (ev_bin ev_c (ev_lc (ρ1 := [.dk s1, .d (.str (Tx l)), .d (.int most), .no]) (ev_range (ev_cons (ev_callD (k0 := s) rfl (ev_cons (ev_bin (ev_var rfl) ev_c add_ok) ev_nil) rfl e) ev_nil) hrange) rfl g1 ?_) (join_signs p (by omega)))), hp, hpl, f2.le (by omega), hd2⟩
  rw [List.length_map]
  exact Nat.le_trans hpl (Nat.le_trans hm (by decide))
end TL

namespace TL
open PySem L2

theorem lc2Go_map {α β : Type} {f f1 : MG} {mt mt1 : MT} {mi1 : MI} {me : ME} {vs vs1 : List Nat} {ρ : List Cell} (emb : α → D) (emb1 : β → D) (inn : α → List β) (e : α → β → D) (l : List α)
    (h : ∀ a ∈ l, ∃ ρ1, f (emb a) ρ = some ρ1 ∧ mt ρ1 = some (true, ρ1) ∧ mi1 ρ1 = some ((inn a).map emb1, ρ1) ∧ lcGo f1 mt1 me vs1 ((inn a).map emb1) (wipeC ρ1 vs1) = some ((inn a).map (e a), wipeC ρ1 vs1) ∧ wipeC (wipeC ρ1 vs1) vs = ρ) :
    lc2Go f mt mi1 f1 mt1 me vs vs1 (l.map emb) ρ = some (l.flatMap fun a => (inn a).map (e a), ρ) := by
  induction l with
  | nil => rfl
  | cons a l ih =>
    obtain ⟨ρ1, h1, h2, h3, h4, h5⟩ := h a List.mem_cons_self
    have ih := ih fun x hx => h x (List.mem_cons_of_mem _ hx)
    simp only [List.map_cons, lc2Go, h1, h2, h3, h4, h5, ih, Option.bind_some, if_true, Option.map_some, List.flatMap_cons]
section
variable {ρ ρ1 ρ2 : List Cell} {ds es : List D} {me : ME}
theorem ev_lc2 {mi mi1 : MI} {f f1 : MG} {mt mt1 : MT} {vs vs1 : List Nat} (h1 : mi ρ = some (ds, ρ1)) (h2 : plainC ρ1 vs = true) (h3 : lc2Go f mt mi1 f1 mt1 me vs vs1 ds (wipeC ρ1 vs) = some (es, ρ2)) (h4 : es.length ≤ sizeLine) : mLc2 mi f mt mi1 f1 mt1 me vs vs1 ρ = some (.lst es, backC ρ1 ρ2 vs) := by
  simp only [mLc2, h1, h3, Option.bind_some, if_pos h2, if_pos h4]
theorem ev_own {i : Nat} {m : MN} (h1 : m ρ = some (ds, ρ1)) (h2 : plainAt ρ1 i = true) : mOwn i m ρ = some (.nx (ρ1.set i (.ol ds))) := by
  simp only [mOwn, h1, Option.bind_some, if_pos h2]
theorem ev_ext {i : Nat} {ds0 ds1 : List D} (h0 : ρ[i]? = some (.ol ds0)) (h1 : me ρ = some (.lst es, ρ1)) (h2 : ρ1[i]? = some (.ol ds1)) (h3 : ds1.length + es.length ≤ sizeLine) : mExt i me ρ = some (.nx (ρ1.set i (.ol (ds1 ++ es)))) := by
  simp only [mExt, h0, h1, h2, Option.bind_some, if_pos h3]
theorem ev_frz {i : Nat} (h0 : ρ[i]? = some (.ol ds)) : mFrz i ρ = some (.nx (ρ.set i (.d (.lst ds)))) := by
  simp only [mFrz, h0]
end
/-- all texts of k letters of l -/
def lv (l : List Nat) : Nat → List (List Nat)
  | 0 => [[]]
  | k + 1 => (lv l k).flatMap fun p => l.map fun c => p ++ [c]
def lvs (l : List Nat) (k : Nat) : List (List Nat) := (List.range (k + 1)).flatMap (lv l)
theorem flat_len {α β : Type} {n : Nat} (f : α → List β) : ∀ xs : List α, (∀ x ∈ xs, (f x).length = n) → (xs.flatMap f).length = xs.length * n
  | [], _ => by simp
  | x :: xs, h => by
    rw [List.flatMap_cons, List.length_append, flat_len f xs fun y hy => h y (List.mem_cons_of_mem _ hy), h x List.mem_cons_self, List.length_cons, Nat.succ_mul, Nat.add_comm]
theorem lv_len (l : List Nat) : ∀ k, (lv l k).length = l.length ^ k
  | 0 => rfl
  | k + 1 => by
    rw [lv, flat_len (n := l.length) _ _ fun p _ => by rw [List.length_map], lv_len l k, Nat.pow_succ]
theorem lvs_succ (l : List Nat) (k : Nat) : lvs l (k + 1) = lvs l k ++ lv l (k + 1) := by
  unfold lvs
  rw [List.range_succ, List.flatMap_append]
  simp
theorem lv_size (l : List Nat) : ∀ k, ∀ p ∈ lv l k, p.length = k
  | 0, p, h => by rw [lv, List.mem_singleton] at h; rw [h]; rfl
  | k + 1, p, h => by
    rw [lv, List.mem_flatMap] at h
    obtain ⟨q, hq, h⟩ := h
    obtain ⟨c, _, rfl⟩ := List.mem_map.mp h
    rw [List.length_append, lv_size l k q hq]; rfl
abbrev tx (p : List Nat) : D := .str (Tx p)
theorem add_Tx {a b : List Nat} (h : a.length + b.length ≤ 100000) : dAdd (tx a) (tx b) = some (tx (a ++ b)) := by
  show (if (Tx a).length + (Tx b).length ≤ sizeLine then some (D.str (Tx a ++ Tx b)) else none) = _
  rw [if_pos (by rw [Tx_len, Tx_len]; exact Nat.le_trans h (by decide)), Tx_app]
theorem add_lst {a b : List D} (h : a.length + b.length ≤ sizeLine) : dAdd (.lst a) (.lst b) = some (.lst (a ++ b)) := if_pos h
theorem range_n (n : Nat) (h : n ≤ 100000) : dRange [.int (n : Int)] = some ((List.range n).map fun i : Nat => .int (0 + (i : Int))) := by
  have e : ((n : Int)).toNat = n := by omega
  simp only [dRange, e]
  rw [if_pos (by omega)]; rfl
/-! ### the law's own pages -/
noncomputable def pagesM : MS := (mSeq (mPar 2 3 (mCons (mApp dLst (mCons (mC (.str "")) mNil)) (mCons (mApp dLst (mCons (mC (.str "")) mNil)) mNil))) (mSeq (mFor (mRange (mCons (mVar 1) mNil)) (gmName 4) (mSeq (mOwn 5 (mNLst mNil)) (mSeq (mFor (mItems (mVar 3)) (gmName 6) (mExt 5 (mLc (mItems (mVar 0)) (gmName 7) mYes (mBin dAdd (mVar 6) (mVar 7)) [7]))) (mSeq (mFrz 5) (mPar 2 3 (mCons (mBin dAdd (mVar 2) (mVar 5)) (mCons (mVar 5) mNil))))))) (mRet (mVar 2))))
theorem pages_spec {l : List Nat} {most : Nat} (hl : l.length ≤ 1000) (hm : most ≤ 1000) (hs : ∀ j, j ≤ most → (lvs l j).length ≤ 100000) : runP 8 pagesM [.str (Tx l), .int most] = some (.lst ((lvs l most).map tx)) := by
  have big : (100000 : Nat) ≤ sizeLine := by decide
  have hrange := range_n most (by omega)
  have s1 : (mPar 2 3 (mCons (mApp dLst (mCons (mC (.str "")) mNil)) (mCons (mApp dLst (mCons (mC (.str "")) mNil)) mNil))) [.d (tx l), .d (.int most), .no, .no, .no, .no, .no, .no] = some (.nx [.d (tx l), .d (.int most), .d (.lst ((lvs l 0).map tx)), .d (.lst ((lv l 0).map tx)), .no, .no, .no, .no]) := by
    rw [ev_par (ev_cons (ev_app (ev_cons ev_c ev_nil) rfl) (ev_cons (ev_app (ev_cons ev_c ev_nil) rfl) ev_nil)) rfl rfl]
    rfl
  obtain ⟨ρ', g1, g2⟩ := forGo_inv (f := gmName 4) (body := (mSeq (mOwn 5 (mNLst mNil)) (mSeq (mFor (mItems (mVar 3)) (gmName 6) (mExt 5 (mLc (mItems (mVar 0)) (gmName 7) mYes (mBin dAdd (mVar 6) (mVar 7)) [7]))) (mSeq (mFrz 5) (mPar 2 3 (mCons (mBin dAdd (mVar 2) (mVar 5)) (mCons (mVar 5) mNil)))))))
    (fun j ρ => ∃ c4 c5 c6, isP c4 = true ∧ isP c5 = true ∧ isP c6 = true ∧ j ≤ most ∧ ρ = [.d (tx l), .d (.int most), .d (.lst ((lvs l j).map tx)), .d (.lst ((lv l j).map tx)), c4, c5, c6, .no])
    ((List.range most).map fun i : Nat => .int (0 + (i : Int))) 0 _ ⟨.no, .no, .no, rfl, rfl, rfl, Nat.zero_le _, rfl⟩ (fun j d hj ρ hI => by
      rw [Nat.zero_add] at hI ⊢
      obtain ⟨c4, c5, c6, p4, p5, p6, _, rfl⟩ := hI
      have hj := (List.getElem?_eq_some_iff.mp hj).1
      simp only [List.length_map, List.length_range] at hj
      have hsz := hs (j + 1) hj
      rw [lvs_succ, List.length_append] at hsz
      let R : List D → Cell → List Cell := fun acc c => [.d (tx l), .d (.int most), .d (.lst ((lvs l j).map tx)), .d (.lst ((lv l j).map tx)), .d d, .ol acc, c, .no]
      have t1 : mOwn 5 (mNLst mNil) [.d (tx l), .d (.int most), .d (.lst ((lvs l j).map tx)), .d (.lst ((lv l j).map tx)), .d d, c5, c6, .no] = some (.nx (R [] c6)) := by
        rw [ev_own (ds := []) (ρ1 := [.d (tx l), .d (.int most), .d (.lst ((lvs l j).map tx)), .d (.lst ((lv l j).map tx)), .d d, c5, c6, .no]) rfl (by rw [plainAt_eq]; exact p5)]
        rfl
      obtain ⟨ρ2, q1, q2⟩ := forGo_inv (f := gmName 6) (body := (mExt 5 (mLc (mItems (mVar 0)) (gmName 7) mYes (mBin dAdd (mVar 6) (mVar 7)) [7])))
        (fun i ρ => ∃ c, isP c = true ∧ i ≤ (lv l j).length ∧ ρ = R ((((lv l j).take i).flatMap fun p => l.map fun c => p ++ [c]).map tx) c) ((lv l j).map tx) 0 (R [] c6) ⟨c6, p6, Nat.zero_le _, rfl⟩ (fun i x hi ρ hI => by
          rw [Nat.zero_add] at hI ⊢
          obtain ⟨c, pc, _, rfl⟩ := hI
          have hi' := (List.getElem?_eq_some_iff.mp hi).1
          rw [List.length_map] at hi'
          rw [List.getElem?_map, List.getElem?_eq_getElem hi'] at hi
          cases hi
          generalize hp : (lv l j)[i] = p
          have hpm : p ∈ lv l j := hp ▸ List.getElem_mem hi'
          have hpl : p.length = j := lv_size l j p hpm
          have lc := lcGo_mapT (f := gmName 7) (mt := mYes) (me := mBin dAdd (mVar 6) (mVar 7)) (vs := [7]) (ρ := R ((((lv l j).take i).flatMap fun p => l.map fun c => p ++ [c]).map tx) (.d (tx p))) (fun c => tx [c]) (fun c => tx (p ++ [c])) l (fun c hc =>
            ⟨(R ((((lv l j).take i).flatMap fun p => l.map fun c => p ++ [c]).map tx) (.d (tx p))).set 7 (.d (tx [c])), rfl, rfl, ev_bin (ev_var rfl) (ev_var rfl) (add_Tx (by rw [hpl]; simp only [List.length_singleton]; omega)), rfl⟩)
          have lc2 : mLc (mItems (mVar 0)) (gmName 7) mYes (mBin dAdd (mVar 6) (mVar 7)) [7] (R ((((lv l j).take i).flatMap fun p => l.map fun c => p ++ [c]).map tx) (.d (tx p))) = some (.lst (l.map fun c => tx (p ++ [c])), R ((((lv l j).take i).flatMap fun p => l.map fun c => p ++ [c]).map tx) (.d (tx p))) :=
            ev_lc (ρ1 := R ((((lv l j).take i).flatMap fun p => l.map fun c => p ++ [c]).map tx) (.d (tx p))) (ρ2 := R ((((lv l j).take i).flatMap fun p => l.map fun c => p ++ [c]).map tx) (.d (tx p))) (vs := [7]) (ds := l.map fun c => tx [c]) (es := l.map fun c => tx (p ++ [c])) (ev_items (a := tx l) (ev_var rfl) rfl) rfl lc (by rw [List.length_map]; omega)
          have hlen : (((lv l j).take i).flatMap fun p => l.map fun c => p ++ [c]).length + l.length ≤ sizeLine := by
            rw [flat_len (n := l.length) _ _ fun p _ => by rw [List.length_map], List.length_take, Nat.min_eq_left (Nat.le_of_lt hi'), ← Nat.succ_mul]
            change (i + 1) * l.length ≤ sizeLine
            have h1 : (i + 1) * l.length ≤ (lv l j).length * l.length := Nat.mul_le_mul_right _ hi'
            have h2 : (lv l (j + 1)).length = (lv l j).length * l.length := by rw [lv, flat_len (n := l.length) _ _ fun p _ => by rw [List.length_map]]
            omega
          refine ⟨R ((((lv l j).take i).flatMap fun p => l.map fun c => p ++ [c]).map tx) (.d (tx p)), R ((((lv l j).take (i + 1)).flatMap fun p => l.map fun c => p ++ [c]).map tx) (.d (tx p)), ?_, ?_, .d (tx p), rfl, hi', rfl⟩
          · show gmName 6 (tx p) (R _ c) = _
            unfold gmName
            rw [if_pos (by rw [plainAt_eq]; exact pc)]; rfl
          · rw [ev_ext rfl lc2 rfl (by rw [List.length_map, List.length_map]; exact hlen)]
            rw [List.take_add_one, List.getElem?_eq_getElem hi', hp, List.flatMap_append, List.map_append]
            simp only [Option.toList_some, List.flatMap_cons, List.flatMap_nil, List.append_nil, List.map_map]
            rfl)
      obtain ⟨c, pc, _, rfl⟩ := q2
      rw [Nat.zero_add, List.length_map, List.take_length] at q1
      have t2 : mFor (mItems (mVar 3)) (gmName 6) (mExt 5 (mLc (mItems (mVar 0)) (gmName 7) mYes (mBin dAdd (mVar 6) (mVar 7)) [7])) (R [] c6) = some (.nx (R ((lv l (j + 1)).map tx) c)) := ev_for (ev_items (ev_var rfl) rfl) q1
      refine ⟨[.d (tx l), .d (.int most), .d (.lst ((lvs l j).map tx)), .d (.lst ((lv l j).map tx)), .d d, c5, c6, .no], [.d (tx l), .d (.int most), .d (.lst ((lvs l (j + 1)).map tx)), .d (.lst ((lv l (j + 1)).map tx)), .d d, .d (.lst ((lv l (j + 1)).map tx)), c, .no], ?_, ?_, .d d, _, c, rfl, rfl, pc, hj, rfl⟩
      · unfold gmName
        rw [if_pos (by rw [plainAt_eq]; exact p4)]; rfl
      · rw [ev_seq t1, ev_seq t2, ev_seq (ev_frz rfl)]
        rw [ev_par (ev_cons (ev_bin (ev_var rfl) (ev_var rfl) (add_lst (by rw [List.length_map, List.length_map]; omega))) (ev_cons (ev_var rfl) ev_nil)) rfl rfl]
        rw [lvs_succ, List.map_append]
        rfl)
  obtain ⟨c4, c5, c6, _, _, _, _, rfl⟩ := g2
  rw [Nat.zero_add, List.length_map, List.length_range] at g1
  have h : ∃ ρ, pagesM [.d (tx l), .d (.int most), .no, .no, .no, .no, .no, .no] = some (.rt (.lst ((lvs l most).map tx)) ρ) := by
    unfold pagesM
    rw [ev_seq s1, ev_seq (ev_for (ev_range (ev_cons (ev_var rfl) ev_nil) hrange) g1)]
    exact ⟨_, ev_ret (ev_var rfl)⟩
  obtain ⟨ρ, h⟩ := h
  exact ev_runP h
end TL

namespace TL
open PySem L2

/-! ### what repr shows is not too long -/
/-- shown in n signs at most, nested k deep at most -/
def Shw (d : D) (k n : Nat) : Prop := ∃ p, d.py = some p ∧ p.showable = true ∧ p.hasDict = false ∧ p.depth ≤ k ∧ p.shown.length ≤ n
theorem Shw.le {d : D} {k n k' n' : Nat} (h : Shw d k n) (a : k ≤ k') (b : n ≤ n') : Shw d k' n' := by
  obtain ⟨p, h1, h2, h3, h4, h5⟩ := h
  exact ⟨p, h1, h2, h3, Nat.le_trans h4 a, Nat.le_trans h5 b⟩
theorem Shw.repr {d : D} {k n : Nat} (h : Shw d k n) (a : k ≤ 60) (b : n ≤ 10000000) : ∃ t, dRepr [d] = some (.str t) := by
  obtain ⟨p, h1, h2, h3, h4, h5⟩ := h
  have hs : shows d p = true := by
    unfold shows
    simp only [h2, h3, Bool.true_and, Bool.and_eq_true, decide_eq_true_eq, Bool.not_false, Bool.true_or, and_true]
    exact ⟨Nat.le_trans h5 (Nat.le_trans b (by decide)), by omega⟩
  refine ⟨p.shown, ?_⟩
  show (d.py.bind fun p => if shows d p = true then some (D.str p.shown) else none) = _
  rw [h1, Option.bind_some, if_pos hs]
theorem shw_str {l : List Nat} (h : ∀ c ∈ l, c < 1114112) : Shw (tx l) 0 (10 * l.length + 2) :=
  ⟨_, rfl, rfl, rfl, Nat.le_refl _, by
    show (PyData.shown (.str (Tx l))).length ≤ _
    simp only [PyData.shown]
    have := PySem.StrLaws.reprText_len (Tx l) (fun c hc => Nat.lt_of_lt_of_le (h c hc) (by decide))
    rw [Tx_len] at this
    exact this⟩
theorem shw_bl (b : Bool) : Shw (.bl b) 0 5 := ⟨_, rfl, rfl, rfl, Nat.le_refl _, by cases b <;> decide⟩
theorem shw_non : Shw .non 0 4 := ⟨_, rfl, rfl, rfl, Nat.le_refl _, by decide⟩
theorem textFrom_le : ∀ (ts : List Str) (k : Nat) (acc : Str), (PySem.textFrom k acc ts).length ≤ acc.length + (ts.map fun t => t.length + 2).sum
  | [], k, acc => by simp [PySem.textFrom]
  | t :: ts, k, acc => by
    have ih := textFrom_le ts (k + 1) (acc ++ (if k > 0 then ", " else "" : String) ++ t)
    rw [PySem.textFrom]
    rw [PySem.strLen_append, PySem.strLen_append] at ih
    rw [List.map_cons, List.sum_cons]
    have : ((if k > 0 then ", " else "" : String) : Str).length ≤ 2 := by split <;> decide
    omega
theorem sum_le {n : Nat} : ∀ (ts : List Str), (∀ t ∈ ts, t.length ≤ n) → (ts.map fun t => t.length + 2).sum ≤ ts.length * (n + 2)
  | [], _ => by simp
  | t :: ts, h => by
    have ih := sum_le ts fun x hx => h x (List.mem_cons_of_mem _ hx)
    have := h t List.mem_cons_self
    rw [List.map_cons, List.sum_cons, List.length_cons, Nat.succ_mul]
    omega
theorem shw_all {k n : Nat} : ∀ {ds : List D}, (∀ d ∈ ds, Shw d k n) → ∃ ps, D.pys ds = some ps ∧ PyData.showableAll ps = true ∧ PyData.hasDictAll ps = false ∧ PyData.depthAll ps ≤ k ∧ (∀ t ∈ PyData.shownAll ps, t.length ≤ n) ∧ (PyData.shownAll ps).length = ds.length
  | [], _ => ⟨[], rfl, rfl, rfl, Nat.zero_le _, (fun t h => by cases h), rfl⟩
  | d :: ds, h => by
    obtain ⟨p, h1, h2, h3, h4, h5⟩ := h d List.mem_cons_self
    obtain ⟨ps, g1, g2, g3, g4, g5, g6⟩ := shw_all fun x hx => h x (List.mem_cons_of_mem _ hx)
    refine ⟨p :: ps, ?_, ?_, ?_, ?_, ?_, ?_⟩
    · simp only [D.pys, h1, g1, Option.bind_some, Option.map_some]
    · simp only [PyData.showableAll, h2, g2, Bool.and_self]
    · simp only [PyData.hasDictAll, h3, g3, Bool.or_self]
    · simp only [PyData.depthAll]; omega
    · intro t ht
      simp only [PyData.shownAll] at ht
      rcases List.mem_cons.mp ht with rfl | ht
      · exact h5
      · exact g5 t ht
    · simp only [PyData.shownAll, List.length_cons, g6]
theorem shw_lst {k n : Nat} {ds : List D} (h : ∀ d ∈ ds, Shw d k n) : Shw (.lst ds) (k + 1) (ds.length * (n + 2) + 2) := by
  obtain ⟨ps, g1, g2, g3, g4, g5, g6⟩ := shw_all h
  refine ⟨.list ps, ?_, ?_, ?_, ?_, ?_⟩
  · simp only [D.py, g1, Option.map_some]
  · simp only [PyData.showable, g2]
  · simp only [PyData.hasDict, g3]
  · simp only [PyData.depth]; omega
  · simp only [PyData.shown, PySem.listText]
    rw [PySem.strLen_append]
    have a := textFrom_le (PyData.shownAll ps) 0 "["
    have b := sum_le _ g5
    rw [g6] at b
    have c1 : ("[" : Str).length = 1 := by decide
    have c2 : ("]" : Str).length = 1 := by decide
    rw [c1] at a
    rw [c2]
    omega
theorem shw_tup {k n : Nat} {ds : List D} (h : ∀ d ∈ ds, Shw d k n) : Shw (.tup ds) (k + 1) (ds.length * (n + 2) + 3) := by
  obtain ⟨ps, g1, g2, g3, g4, g5, g6⟩ := shw_all h
  refine ⟨.tuple ps, ?_, ?_, ?_, ?_, ?_⟩
  · simp only [D.py, g1, Option.map_some]
  · simp only [PyData.showable, g2]
  · simp only [PyData.hasDict, g3]
  · simp only [PyData.depth]; omega
  · simp only [PyData.shown, PySem.tupleText]
    rw [PySem.strLen_append, PySem.strLen_append]
    have b := sum_le _ g5
    rw [g6] at b
    have c1 : ("(" : Str).length = 1 := by decide
    have c2 : ((if ((PyData.shownAll ps).length == 1) = true then ",)" else ")" : String) : Str).length ≤ 2 := by split <;> decide
    have c3 : (Str.join ", " (PyData.shownAll ps)).length ≤ ((PyData.shownAll ps).map fun t => t.length + 2).sum := by
      by_cases e : PyData.shownAll ps = []
      · rw [e]; exact Nat.zero_le _
      · have := PySem.join_length_add _ e
        have e2 : PySem.piled (PyData.shownAll ps) = ((PyData.shownAll ps).map fun t => t.length + 2).sum := rfl
        omega
    rw [c1]
    omega
theorem dNe_same (t : Str) : dNe (.str t) (.str t) = some (.bl false) := by rw [dNe_str, str_beq_self]; rfl
theorem ev_callQ {ρ ρ1 ρ2 : List Cell} {ds es xs : List D} {d : D} {mr mk : MA} {f : List D → Option D} {pm : List Nat} (h1 : mr ρ = some (ds, ρ1)) (h2 : mk ρ1 = some (es, ρ2)) (hx : (pm.map fun i => (ds ++ es).getD i .non) = xs) (h3 : f xs = some d) : mCallP f pm mr mk ρ = some (d, ρ2) :=
  ev_callP h1 h2 (by rw [hx]; exact h3)
end TL

namespace TL
open PySem L2

/-! ### three at once; x += e of whole numbers -/
theorem sm_par3 {K : PySem.W.Frag} {D : Ends} {σ : L2.St} {H : Hp} {i j l : Nat} {ma : MA} : tsOf K (mPar3 i j l ma) D σ H → tPar3 i j l (taOf K ma) D σ H := by
  rintro ⟨c, S, own, ρ, r, sr, hm, k⟩
  simp only [mPar3, Option.bind_eq_some_iff] at hm
  obtain ⟨⟨ds, ρ1⟩, h1, h2⟩ := hm
  refine ⟨c, S, own, ρ, ds, ρ1, sr, h1, fun vs H' e' sr' q => ?_⟩
  match ds, q, h2 with
  | [x, y, z], .cons (v := v) q1 (.cons (v := w) q2 (.cons (v := u) q3 .nil)), h2 =>
    simp only [Option.bind_eq_some_iff, Option.map_eq_some_iff] at h2
    obtain ⟨ρ2, f1, ρ3, f2, ρ4, f3, rfl⟩ := h2
    refine ⟨v, w, u, rfl, ?_⟩
    refine gm_name i c S own σ H' ρ1 v x ρ2 (fun σ' H'' => D.nx ((σ'.set j (some w)).set l (some u)) H'') sr' q1 f1 fun own2 σ2 _ _ _ s2 => ?_
    refine gm_name j c S own2 σ2 H' ρ2 w y ρ3 (fun σ' H'' => D.nx (σ'.set l (some u)) H'') s2 q2 f2 fun own3 σ3 _ _ _ s3 => ?_
    exact gm_name l c S own3 σ3 H' ρ3 u z ρ4 D.nx s3 q3 f3 fun own4 σ4 _ _ _ s4 => k S own4 σ4 H' e' s4
  | [], _, h2 => cases h2
  | [_], _, h2 => cases h2
  | [_, _], _, h2 => cases h2
  | _ :: _ :: _ :: _ :: _, _, h2 => cases h2
def mAug (i : Nat) (f : D → D → Option D) (me : ME) : MS := fun ρ => match ρ[i]? with
  | some (.d x) => (me ρ).bind fun p => (f x p.1).bind fun d => (gmName i d p.2).map .nx
  | _ => none
theorem sm_aug {K : PySem.W.Frag} {En : Ends} {σ : L2.St} {H : Hp} {i : Nat} {f : D → D → Option D} {g : Int → Int → Int} {me : ME} (hf : ∀ a b d, f a b = some d → ∃ i j, a = .int i ∧ b = .int j ∧ d = .int (g i j)) : tsOf K (mAug i f me) En σ H → tAug i (teOf K me) (ipI g) En σ H := by
  rintro ⟨c, S, own, ρ, r, sr, hm, k⟩
  unfold mAug at hm
  split at hm
  · rename_i x h0
    simp only [Option.bind_eq_some_iff, Option.map_eq_some_iff] at hm
    obtain ⟨⟨b, ρ1⟩, h1, d, h2, ρ2, h3, rfl⟩ := hm
    obtain ⟨v, hv, q⟩ := sr.dat h0
    obtain ⟨n, m, rfl, rfl, rfl⟩ := hf _ _ _ h2
    cases q
    refine ⟨_, hv, c, S, own, ρ, _, ρ1, sr, h1, fun u H1 e1 s1 q1 => ?_⟩
    cases q1
    exact ⟨n, m, rfl, rfl, gm_name i c S own σ H1 ρ1 _ _ ρ2 En.nx s1 (.int _) h3 fun own2 σ2 _ _ _ s2 => k S own2 σ2 H1 e1 s2⟩
  · cases hm
def dAddN : D → D → Option D
  | .int i, .int j => some (.int (i + j))
  | _, _ => none
section
variable {X : Cx} {i j l : Nat} {x y z : Str} {a b c e : Expr} {ma : MA} {me : ME} {px py pz pt pos pos' : Pos} {kt k2 : Nat} {pt2 : Pos}
theorem psm_par3 (hc : X.calm = true) (hN : X.N.Nodup) (hi : X.N[i]? = some x) (hj : X.N[j]? = some y) (hl : X.N[l]? = some z) (hij : i ≠ j) (hil : i ≠ l) (hjl : j ≠ l)
    (hx : X.env.scope.names.lookup x = some .local) (hy : X.env.scope.names.lookup y = some .local) (hz : X.env.scope.names.lookup z = some .local) (ha : PAM X [a, b, c] ma)
    (hw : swappedStores [.Tuple [.Name x px, .Name y py, .Name z pz] kt pt] (.Tuple [a, b, c] k2 pt2) X.env = pure (some [x, y, z]))
    (hs : swapsWithSole [.Tuple [.Name x px, .Name y py, .Name z pz] kt pt] (.Tuple [a, b, c] k2 pt2) pos.line X.env = pure false := by rfl) :
    PSM X (.Assign [.Tuple [.Name x px, .Name y py, .Name z pz] kt pt] (.Tuple [a, b, c] k2 pt2) pos) (mPar3 i j l ma) := PS.to (ps_par3 hc hN hi hj hl hij hil hjl hx hy hz ha hw hs) fun _ _ _ q => sm_par3 q
theorem psm_augAdd (hN : X.N.Nodup) (hi : X.N[i]? = some x) (hx : Loc X.env.scope x) (he : PEM X e me) (hf : X.fn x = true ∨ X.env.scope.names.lookup x = some .local := by first | exact .inl rfl | exact .inr rfl | assumption) :
    PSM X (.AugAssign (.Name x pos') .Add e pos) (mAug i dAddN me) := PS.to (ps_aug hN hi hx he ip_add hf) fun _ _ _ q => sm_aug (g := fun i j => i + j) (fun a b d h => by
  cases a <;> first | (cases h; done) | skip
  cases b <;> first | (cases h; done) | skip
  cases h; exact ⟨_, _, rfl, rfl, rfl⟩) q
end
end TL

namespace TL
open PySem L2

/-! ### enumerate of a list, a tuple, a text -/
theorem meets_enum1 {v : Value} {ob : Obj} {Hd : Heap → Prop} (B : Begins v ob Hd) :
    Meets (Builtin.«enumerate.__new__» ⟨[.type "enumerate", v], []⟩) (fun _ R z => Hd z.heap ∧
      R (.ok (.ret (.ref (z.heap.push ob).objs.size))) { z with heap := (z.heap.push ob).push { cls := .type "enumerate", data := .fields #[.none, .bool false, .ref z.heap.objs.size, rawInt 0, .none, .none] } }) :=
  .of_wp fun pg wd An R z hz => by
    obtain ⟨hp, ge, dr, tk, oo⟩ := z
    obtain ⟨hv, hz⟩ := hz
    have sb := sub_enumerate
    have step : ∀ {An' : Around} {Er : Value → Shared → Prop} {Qz : Value → Shared → Prop}, Qz (.ref hp.objs.size) ⟨hp.push ob, ge, dr, tk, oo⟩ → wpAny (model pg wd) An' (pyIter v) Qz Er ⟨hp, ge, dr, tk, oo⟩ :=
      fun q => B.iter pg wd _ _ ⟨hp, ge, dr, tk, oo⟩ _ hv q
    wp_walk using step
    refine wpAny_stack_any fun st => wpAny_pure ?_
    split
    · rename_i c _ _ _ _ _
      cases (c == Value.type "enumerate")
      · wp_walk using step
        exact ⟨_, rfl, hz⟩
      · wp_walk using step
        exact ⟨_, rfl, hz⟩
    · wp_walk using step
      exact ⟨_, rfl, hz⟩
theorem enum_begin1 {prog : Program} {w : World} {A : Around} {E : Value → Shared → Prop} {z : Shared} {v : Value} {ob : Obj} {Hd : Heap → Prop} {Q : Value → Shared → Prop} (B : Begins v ob Hd) (hv : Hd z.heap)
    (k : ∀ h', IsEnum h' (z.heap.objs.size + 1) z.heap.objs.size 0 .none → h'.get? z.heap.objs.size = some ob → (∀ b o, z.heap.get? b = some o → h'.get? b = some o) → Q (.ref (z.heap.objs.size + 1)) { z with heap := h' }) :
    wpAny (model prog w) A (call (.type "enumerate") [v]) Q E z := by
  refine callType_new F.called_enumerate (by decide) (F.typeCall_enumerate_1 _) (F.newCall_enumerate_1 _) (fun obj => F.args_object_init_2 obj _) F.entry_enumerate_new (meets_enum1 B) ⟨hv, ?_⟩
  have sz : (z.heap.push ob).objs.size = z.heap.objs.size + 1 := Heap.size_push ..
  have he := Heap.get?_push_size (z.heap.push ob) (o := { cls := .type "enumerate", data := .fields #[.none, .bool false, .ref z.heap.objs.size, rawInt 0, .none, .none] }) rfl
  show _ ∧ _
  rw [sz]
  rw [sz] at he
  exact ⟨⟨_, he, rfl⟩, k _ he (Heap.get?_push_of_some _ (Heap.get?_push_size _ B.free)) fun b o q => Heap.get?_push_of_some _ (Heap.get?_push_of_some _ q)⟩
def ItE (K : PySem.W.Frag) (c : Sc) : It :=
  ⟨fun i H => ∃ xs : List V, c.has K H xs ∧ i < xs.length,
    fun i H v H' => ∃ T x, v = .ref T ∧ H T = none ∧ H' = upd H T (.tup [.int (i : Nat), x]) ∧ ∀ xs, c.has K H xs → xs[i]? = some x,
    fun i H => ∃ xs : List V, c.has K H xs ∧ i = xs.length⟩
theorem turn_enumG {P : Program} {w : World} {K : PySem.W.Frag} {elts : List Expr} {kk : Nat} {tpos : Pos} {c : Sc} {e it : Addr} (h1 : e ≠ it) (h2 : e ∉ it :: c.fp) (h3 : it ∉ c.fp) :
    Turn P w K (.Tuple elts kk tpos) (ItE K c) [e, it] e (fun i h => (∃ old, IsEnum h e it ((0 : Int) + (i : Int)) old) ∧ c.iter h it i) where
  mem := by simp
  obj := fun i h st b hb => by
    obtain ⟨⟨old, he⟩, hi⟩ := st
    have e' : b = e ∨ b = it := by simpa using hb
    rcases e' with q | q
    · rw [q]; exact ⟨_, he, fun v q => nomatch q⟩
    · rw [q]; exact Sc.iter_obj hi
  keep := fun i h h' st k => by
    obtain ⟨⟨old, he⟩, hi⟩ := st
    exact ⟨⟨old, k e (by simp) _ he⟩, Sc.iter_at hi fun o q => k it (by simp) o q⟩
  item := by
    intro X hP hw hK hc i pins s σ H E I hf st hg
    subst hP hw hK
    obtain ⟨he, hi⟩ := st
    obtain ⟨xs, hq, hx⟩ := hg
    have hh : X.A.in1.handled = none := I.ok.hd hc
    obtain ⟨P1, St1, D1, a1, b1, p1⟩ := Sc.draws (P := X.prog) (w := X.w) I hh hq h3
    have G := GoesN.enumFrom (elts := elts) (x1 := kk) (pos := tpos) 0 D1 e h1 h2 List.mem_cons_self
    refine wpAny_mono (G.goes i s (fun u s2 => ∃ x H', Inv X pins σ H' s2 ∧ RelV x u ∧ (ItE X.K c).yld i H x H' ∧ ((∃ old, IsEnum s2.heap e it ((0 : Int) + ((i + 1 : Nat) : Int)) old) ∧ c.iter s2.heap it (i + 1)) ∧ ∀ b ∈ [e, it], H' b = none) E hx ⟨he, a1 i hi⟩ ?_) (fun r s1 ⟨v, e, q⟩ => ⟨v, e, q⟩) fun _ _ e => e
    rintro v h' tk ⟨T, t, u, rfl, hT, hP1, hTT⟩ ⟨ge, g1⟩ hk htk
    obtain ⟨x, ex, rx⟩ := p1 i u hP1
    have new : ObjOk X.prog X.w (upd H T (.tup [.int (i : Nat), x])) h' T (.tup [.int (i : Nat), x]) :=
      ⟨by show 2 ≤ sizeLine; decide, [.int ((0 : Int) + (i : Int)) t, u], .cons ⟨t, by rw [Int.zero_add]⟩ (.cons rx .nil), hTT⟩
    have I1 : Inv X pins σ (upd H T (.tup [.int (i : Nat), x])) { s with heap := h', toks := tk } :=
      I.turnedNew (t' := tk) (ch := [e, it]) (fun c o hb q => hk c o hb q) hf hT new
    refine ⟨.ref T, _, I1, rfl, ⟨T, x, rfl, I.hok.fresh hT, rfl, fun l hl => by rw [Sc.inj I hl hq]; exact ex⟩, ⟨ge, b1 _ _ g1⟩, fun b hb => ?_⟩
    have hlt : b < s.heap.objs.size := by
      have e' : b = e ∨ b = it := by simpa using hb
      rcases e' with q | q
      · obtain ⟨_, he⟩ := he; rw [q]; exact Heap.lt_size he
      · rw [q]; obtain ⟨_, e1, _⟩ := Sc.iter_obj hi; exact Heap.lt_size e1
    rw [upd_ne (Nat.ne_of_lt (Nat.lt_of_lt_of_le hlt hT))]
    exact (hf b hb).1
  done := by
    intro X hP hw hK hc i pins s σ H E I hf st hg
    subst hP hw hK
    obtain ⟨he, hi⟩ := st
    obtain ⟨xs, hq, rfl⟩ := hg
    have hh : X.A.in1.handled = none := I.ok.hd hc
    obtain ⟨P1, St1, D1, a1, b1, p1⟩ := Sc.draws (P := X.prog) (w := X.w) I hh hq h3
    have G := GoesN.enumFrom (elts := elts) (x1 := kk) (pos := tpos) 0 D1 e h1 h2 List.mem_cons_self
    refine G.stops s (fun s1 => Inv X pins σ H s1) E ⟨he, a1 _ hi⟩ fun h' tk hk htk => ?_
    exact I.turnedL (t' := tk) (ch := [e, it]) (fun c o hb q => hk c o hb q) hf
  self := fun A i s Q E st h => by obtain ⟨⟨old, he⟩, _⟩ := st; exact wpAny_pyIter_enum he h
def iEnumG (K : PySem.W.Frag) (ta : TA) : TI := fun σ H R => ta σ H fun vs H1 => ∃ v1 xs c1, vs = [v1] ∧ ScV K H1 v1 xs c1 ∧ ∀ t1, R (ItE K (c1.wt t1)) H1
theorem pi_enumG {X : Cx} {e : Expr} {ta : TA} {p pos tpos : Pos} {elts : List Expr} {kk : Nat} (hg : Gl X "enumerate") (hm : X.mg "enumerate" = none) (ha : PA X [e] ta) (hs : starEach [e] X.env = [(false, eval e X.env)] := by rfl) :
    PI X (.Tuple elts kk tpos) (.Call (.Name "enumerate" p) [e] [] pos) (iEnumG X.K ta) := by
  refine ⟨fun pins s σ H R I h => ?_⟩
  refine PyProof.Rows.Call_ (ld_blt I hg hm (show bootBuiltins "enumerate" = some (.type "enumerate") by rfl) (PyProof.Rows.callWith_type1 (thn (ha.run pos pins s σ H _ I h) fun us s1 ⟨vs, H1, I1, r1, q1⟩ => ?_) hs rfl))
  obtain ⟨v1, xs, c1, ex, k1, q⟩ := q1
  subst ex
  obtain ⟨u1, ws, rfl, r, rr⟩ := Vals.cons_inv r1
  cases rr
  obtain ⟨t1, e1, m1⟩ := scv (X := X) (pins := pins) (σ := σ) (s := s1) k1 r
  have q := q t1
  revert e1 m1 q
  generalize (c1.wt t1) = d1
  intro e1 m1 q
  subst e1
  obtain ⟨Hd1, B1, w1⟩ := Sc.begin I1 m1
  have lt1 := Sc.fp_lt I1 m1
  refine enum_begin1 B1 w1 fun h' he g1 hk => wpAny_pyIter_enum he ?_
  have I2 : Inv X pins σ H1 { s1 with heap := h' } := I1.kept (t' := s1.toks) hk
  refine ⟨s1.heap.objs.size + 1, [s1.heap.objs.size + 1, s1.heap.objs.size], _, _, H1, rfl, I2, turn_enumG (Nat.succ_ne_self _) (fun m => ?_) (fun m => Nat.lt_irrefl _ (lt1 _ m)), ⟨⟨.none, he⟩, Sc.iter_new g1⟩, fun b hb => ?_, q⟩
  · rcases List.mem_cons.mp m with z | z
    · exact Nat.succ_ne_self _ z
    · have := lt1 _ z
      have : (s1.heap.objs.size + 1 : Nat) < s1.heap.objs.size := this
      omega
  · have e' : b = s1.heap.objs.size + 1 ∨ b = s1.heap.objs.size := by simpa using hb
    have hle : s1.heap.objs.size ≤ b := by
      rcases e' with z | z
      · rw [z]; exact Nat.le_add_right _ _
      · rw [z]; exact Nat.le_refl _
    exact I1.fpOk hle (I1.hok.fresh hle)
def enumD (ds : List D) : List D := ds.zipIdx.map fun p => .tup [.int (p.2 : Nat), p.1]
def dEnum : List D → Option (List D)
  | [a] => (dItems a).map enumD
  | _ => none
def mEnum (ma : MA) : MI := fun ρ => (ma ρ).bind fun p => (dEnum p.1).map fun ds => (ds, p.2)
theorem enumD_get (ds : List D) (i : Nat) : (enumD ds)[i]? = ds[i]?.map fun d => .tup [.int (i : Nat), d] := by
  unfold enumD
  rw [List.getElem?_map, List.getElem?_zipIdx]
  cases ds[i]? <;> simp
theorem wk_enum {K : PySem.W.Frag} {S : List Addr} {H : Hp} {c : Sc} {xs : List V} {ds : List D} (h1 : c.has K (Fz S H) xs) (r1 : RepL K (Fz S H) xs ds) : Wk K (ItE K c) S H (enumD ds) where
  go := fun S' H1 i e _ hi => by
    have : (enumD ds).length = ds.length := by unfold enumD; rw [List.length_map, List.length_zipIdx]
    exact ⟨xs, Sc.has_ex Fz.le (Sc.has_ex e h1), by rw [r1.length]; omega⟩
  yld := fun S' H1 i v H2 e t y d hd => by
    obtain ⟨T, x, rfl, hT, rfl, f1⟩ := y
    obtain ⟨d1, k1, q1⟩ := r1.getV (f1 xs (Sc.has_ex Fz.le (Sc.has_ex e h1)))
    rw [enumD_get, k1] at hd
    cases hd
    exact ⟨Ex.new hT, .tup (SqT.of (fz_new t hT)) (.cons (.int _) (.cons ((q1.mono e).mono (Fz.ex (Ex.new hT))) .nil))⟩
  stop := fun S' H1 e => ⟨xs, Sc.has_ex Fz.le (Sc.has_ex e h1), by unfold enumD; rw [List.length_map, List.length_zipIdx, r1.length]⟩
theorem pim_enum {X : Cx} {e : Expr} {ma : MA} {p pos tpos : Pos} {elts : List Expr} {kk : Nat} (hg : Gl X "enumerate") (hm : X.mg "enumerate" = none) (ha : PAM X [e] ma) (hs : starEach [e] X.env = [(false, eval e X.env)] := by rfl) :
    PIM X (.Tuple elts kk tpos) (.Call (.Name "enumerate" p) [e] [] pos) (mEnum ma) := PI.to (pi_enumG hg hm ha hs) fun σ H R => by
  rintro ⟨c, S, own, ρ, ds, ρ', sr, hm, k⟩
  simp only [mEnum, Option.bind_eq_some_iff, Option.map_eq_some_iff] at hm
  obtain ⟨⟨as, ρ1⟩, h1, ds', h2, e⟩ := hm
  cases e
  refine ⟨c, S, own, ρ, as, ρ1, sr, h1, fun vs H' e' sr' q => ?_⟩
  match as, q, h2 with
  | [a], .cons (v := v1) q1 .nil, h2 =>
    simp only [dEnum, Option.map_eq_some_iff] at h2
    obtain ⟨as, e1, rfl⟩ := h2
    obtain ⟨xs, c1, l1, s1⟩ := rep_sc q1 e1
    exact ⟨v1, xs, c1, rfl, scv_ex Fz.le s1, fun t1 => k _ H' e' sr' (wk_enum (scv_has t1 s1) l1)⟩
  | [], _, h2 => cases h2
  | _ :: _ :: _, _, h2 => cases h2
end TL

namespace TL
open PySem L2

/-! ### own lists are read by place, and counted -/
def mOItem (i : Nat) (mb : ME) : ME := fun ρ => match ρ[i]? with
  | some (.ol _) => (mb ρ).bind fun p => match p.2[i]? with
    | some (.ol ds) => (dItem (.lst ds) p.1).map fun d => (d, p.2)
    | _ => none
  | _ => none
def mOLen (i : Nat) : ME := fun ρ => match ρ[i]? with
  | some (.ol ds) => some (.int ds.length, ρ)
  | _ => none
theorem em_oitem {K : PySem.W.Frag} {σ : L2.St} {H : Hp} {i : Nat} {mb : ME} {Q : VK} : teOf K (mOItem i mb) σ H Q → tOp (rIx K) (tVar i) (teOf K mb) σ H Q := by
  rintro ⟨c, S, own, ρ, d, ρ', sr, hm, k⟩
  unfold mOItem at hm
  split at hm
  · rename_i ds0 h0
    simp only [Option.bind_eq_some_iff] at hm
    obtain ⟨⟨b, ρ1⟩, h1, h2⟩ := hm
    split at h2
    · rename_i ds h3
      simp only [Option.map_eq_some_iff] at h2
      obtain ⟨d', h4, e⟩ := h2
      have h3 : ρ1[i]? = some (.ol ds) := h3
      have h4 : dItem (.lst ds) b = some d' := h4
      cases e
      obtain ⟨p, xs, ha, hv, hH, q⟩ := sr.cell i _ h0
      refine ⟨.ref p, sr.slot hv, c, S, own, ρ, b, _, sr, h1, fun u H1 e1 s1 q1 => ?_⟩
      obtain ⟨p', xs1, ha', hv', hH1, q2⟩ := s1.cell i _ h3
      rw [ha] at ha'; cases ha'
      cases q1 <;> first | (cases h4; done) | skip
      obtain ⟨v, e4, q4⟩ := q2.atI h4
      exact .inl ⟨_, _, _, v, rfl, rfl, SqL.of hH1, e4, k v H1 e1 s1 q4⟩
    · cases h2
  · cases hm
theorem em_olen {K : PySem.W.Frag} {σ : L2.St} {H : Hp} {i : Nat} {Q : VK} : teOf K (mOLen i) σ H Q → tCB (rLenA K) (tCons (tVar i) tNil) σ H Q := by
  rintro ⟨c, S, own, ρ, d, ρ', sr, hm, k⟩
  unfold mOLen at hm
  split at hm
  · rename_i ds h0
    cases hm
    obtain ⟨p, xs, ha, hv, hH, q⟩ := sr.cell i _ h0
    exact ⟨.ref p, sr.slot hv, .inl ⟨_, _, rfl, .inl ⟨xs, SqL.of hH, q.length.symm⟩, k _ H (Ex.refl _) sr (.int _)⟩⟩
  · cases hm
section
variable {X : Cx} {x : Str} {b : Expr} {px p pos : Pos} {mb : ME} {i : Nat}
theorem pem_oitem (hv : PE X (.Name x px) (tVar i)) (hb : PEM X b mb) (hs : PlainIx b) : PEM X (.Subscript (.Name x px) b pos) (mOItem i mb) := PE.to (pe_ix ix_seq hv hb hs) fun _ _ _ q => em_oitem q
theorem pem_olen (hg : Gl X "len") (hm : X.mg "len" = none) (hv : PE X (.Name x px) (tVar i)) (he : starEach [.Name x px] X.env = (false, eval (.Name x px) X.env) :: starEach [] X.env := by rfl) (hpl : (backTo pos (starEach [] X.env)).any (·.1) = false := by rfl) :
    PEM X (.Call (.Name "len" p) [.Name x px] [] pos) (mOLen i) := PE.to (pe_callB call_lenA hg hm (by rfl) (pa_cons hv pa_nil he) (by decide) (by decide) he hpl) fun _ _ _ q => em_olen q
end
end TL

namespace TL
open PySem L2

/-! ### gcd; reversed -/
def dGcd : List D → Option D
  | [.int a, .int b] => some (.int ((Nat.gcd a.natAbs b.natAbs : Nat) : Int))
  | _ => none
theorem rc_gcd {K : PySem.W.Frag} : RC K rGcd dGcd := by
  intro S H xs as d Q r hf t k
  match as, r, hf with
  | [.int a, .int b], .cons (.int _) (.cons (.int _) .nil), hf => cases hf; exact ⟨a, b, rfl, k _ H (Ex.refl _) (.int _)⟩
section
variable {X : Cx} {x : Str} {p pos : Pos} {e tg : Expr} {es : List Expr} {id : String} {mr : MA} {ma : ME} {f : List D → Option D} {r : List V → Hp → VK → Prop}
theorem pem_callBf (hc : CallR X (.builtin id) r) (hr : RC X.K r f) (hg : Gl X x) (hm : X.mg x = some (.builtin id)) (ha : PAM X (e :: es) mr) (hdb : (x == ("__debug__" : Str)) = false := by decide)
    (he : starEach (e :: es) X.env = (false, eval e X.env) :: starEach es X.env := by rfl) (hpl : (backTo pos (starEach es X.env)).any (·.1) = false := by rfl) : PEM X (.Call (.Name x p) (e :: es) [] pos) (mApp f mr) :=
  PE.to (pe_callBfun hc hg hm ha hdb he hpl) fun _ _ _ q => em_cb hr _ _ _ q
def dRevI : D → Option (List D)
  | .lst ds => some ds.reverse
  | .tup ds => some ds.reverse
  | _ => none
theorem wk_revL {K : PySem.W.Frag} {S : List Addr} {H : Hp} {a : Addr} {xs : List V} {ds : List D} (h : SqL K (Fz S H) a xs) (r : RepL K (Fz S H) xs ds) : Wk K (Itv K a xs.length) S H ds.reverse where
  go := fun S' H1 i e _ hi => by
    rw [List.length_reverse, ← r.length] at hi
    have hl : xs.length - 1 - i < xs.length := by omega
    exact ⟨hi, xs, _, Fz.le.sql (e.sql h), List.getElem?_eq_getElem hl⟩
  yld := fun S' H1 i x H2 e _ y d hd => by
    obtain ⟨rfl, hx⟩ := y
    have hi : i < ds.length := by
      have := (List.getElem?_eq_some_iff.mp hd).1
      simpa using this
    rw [List.getElem?_reverse hi] at hd
    have hx := hx xs (Fz.le.sql (e.sql h))
    rw [r.length] at hx
    obtain ⟨v, hv, q⟩ := r.get hd
    rw [hv] at hx; cases hx
    exact ⟨Ex.refl _, q.mono e⟩
  stop := fun S' H1 e => by show xs.length ≤ _; rw [List.length_reverse, r.length]; exact Nat.le_refl _
theorem wk_revT {K : PySem.W.Frag} {S : List Addr} {H : Hp} {a : Addr} {xs : List V} {ds : List D} (h : SqT K (Fz S H) a xs) (r : RepL K (Fz S H) xs ds) : Wk K (RT.ItvT K a xs.length) S H ds.reverse where
  go := fun S' H1 i e _ hi => by
    rw [List.length_reverse, ← r.length] at hi
    have hl : xs.length - 1 - i < xs.length := by omega
    exact ⟨hi, xs, _, Fz.le.sqt (e.sqt h), List.getElem?_eq_getElem hl⟩
  yld := fun S' H1 i x H2 e _ y d hd => by
    obtain ⟨rfl, hx⟩ := y
    have hi : i < ds.length := by
      have := (List.getElem?_eq_some_iff.mp hd).1
      simpa using this
    rw [List.getElem?_reverse hi] at hd
    have hx := hx xs (Fz.le.sqt (e.sqt h))
    rw [r.length] at hx
    obtain ⟨v, hv, q⟩ := r.get hd
    rw [hv] at hx; cases hx
    exact ⟨Ex.refl _, q.mono e⟩
  stop := fun S' H1 e => by show xs.length ≤ _; rw [List.length_reverse, r.length]; exact Nat.le_refl _
def mRevI (ma : ME) : MI := fun ρ => (ma ρ).bind fun p => (dRevI p.1).map fun ds => (ds, p.2)
theorem pim_rev (hg : Gl X "reversed") (hm : X.mg "reversed" = none) (he : PEM X e ma) (hs : starEach [e] X.env = [(false, eval e X.env)] := by rfl) : PIM X tg (.Call (.Name "reversed" p) [e] [] pos) (mRevI ma) := PI.to (RT.pi_revA hg hm he hs) fun σ H R => by
  rintro ⟨c, S, own, ρ, ds, ρ', sr, hm, k⟩
  simp only [mRevI, Option.bind_eq_some_iff, Option.map_eq_some_iff] at hm
  obtain ⟨⟨d, ρ1⟩, h1, ds', h2, e⟩ := hm
  cases e
  refine ⟨c, S, own, ρ, d, ρ1, sr, h1, fun v H' e' sr' q => ?_⟩
  cases q with
  | lst g l => cases h2; exact ⟨_, _, rfl, .inl ⟨SqL.of (Fz.le _ _ g), k _ H' e' sr' (wk_revL (SqL.of g) l)⟩⟩
  | tup g l => cases h2; exact ⟨_, _, rfl, .inr ⟨Fz.le.sqt g, k _ H' e' sr' (wk_revT g l)⟩⟩
  | _ => cases h2
end
end TL

namespace TL
open PySem L2

/-! ### a, b = [], x and the like -/
def setOwn (i : Nat) (ds : List D) (ρ : List Cell) : Option (List Cell) := if plainAt ρ i = true then some (ρ.set i (.ol ds)) else none
def mParOD (i j : Nat) (ma : MN) (mb : ME) : MS := fun ρ => (ma ρ).bind fun p => (mb p.2).bind fun q => (setOwn i p.1 q.2).bind fun ρ3 => (gmName j q.1 ρ3).map .nx
def mParDO (i j : Nat) (ma : ME) (mb : MN) : MS := fun ρ => (ma ρ).bind fun p => (mb p.2).bind fun q => (gmName i p.1 q.2).bind fun ρ3 => (setOwn j q.1 ρ3).map .nx
section
variable {K : PySem.W.Frag} {σ : L2.St} {H : Hp} {En : Ends} {i j : Nat}
theorem sm_parOD {ma : MN} {mb : ME} : tsOf K (mParOD i j ma mb) En σ H → tPar i j (tCons (teN K ma) (tCons (teOf K mb) tNil)) En σ H := by
  rintro ⟨c, S, own, ρ, r, sr, hm, k⟩
  simp only [mParOD, Option.bind_eq_some_iff, Option.map_eq_some_iff] at hm
  obtain ⟨⟨ds, ρ1⟩, h1, ⟨d, ρ2⟩, h2, ρ3, h3, ρ4, h4, rfl⟩ := hm
  unfold setOwn at h3
  split at h3
  · rename_i hp
    cases h3
    refine ⟨c, S, own, ρ, ds, ρ1, sr, h1, fun p xs H1 e1 s1 hn h0 hH q => ?_⟩
    refine teOf.mk s1 h2 fun w H2 e2 s2 qw fr => ?_
    have hH2 := fr p _ hn hH
    have s3 := s2.owns (i := i) (s2.plain hp) hn h0 hH2 (q.mono e2) (plainAt_lt hp)
    refine ⟨_, _, rfl, ?_⟩
    exact gm_name j c (p :: S) _ _ H2 _ w d ρ4 En.nx s3 qw h4 fun own' σ' _ _ _ s4 => k (p :: S) own' σ' H2 (e1.trans e2) s4
  · cases h3
theorem sm_parDO {ma : ME} {mb : MN} : tsOf K (mParDO i j ma mb) En σ H → tPar i j (tCons (teOf K ma) (tCons (teN K mb) tNil)) En σ H := by
  rintro ⟨c, S, own, ρ, r, sr, hm, k⟩
  simp only [mParDO, Option.bind_eq_some_iff, Option.map_eq_some_iff] at hm
  obtain ⟨⟨d, ρ1⟩, h1, ⟨ds, ρ2⟩, h2, ρ3, h3, ρ4, h4, rfl⟩ := hm
  unfold setOwn at h4
  split at h4
  · rename_i hp
    cases h4
    refine ⟨c, S, own, ρ, d, ρ1, sr, h1, fun v H1 e1 s1 q1 => ⟨c, S, own, ρ1, ds, ρ2, s1, h2, fun p xs H2 e2 s2 hn h0 hH q => ?_⟩⟩
    refine ⟨_, _, rfl, ?_⟩
    refine gm_name i c (p :: S) own σ H2 ρ2 v d ρ3 (fun σ' H'' => En.nx (σ'.set j (some (.ref p))) H'') s2 (q1.mono e2) h3 fun own' σ' _ _ ho s3 => ?_
    have hn' : ∀ l, p ∉ own' l := fun l m => hn l (ho l p m)
    exact k (p :: S) _ _ H2 (e1.trans e2) (s3.owns (s3.plain hp) hn' h0 hH q (plainAt_lt hp))
  · cases h4
end
section
variable {X : Cx} {i j : Nat} {x y : Str} {a b : Expr} {ma : MN} {mb : ME} {px py pt pos : Pos} {kt k2 : Nat} {pt2 : Pos}
theorem psm_parOD (hc : X.calm = true) (hN : X.N.Nodup) (hi : X.N[i]? = some x) (hj : X.N[j]? = some y) (hij : i ≠ j)
    (hx : X.env.scope.names.lookup x = some .local) (hy : X.env.scope.names.lookup y = some .local) (ha : PEN X a ma) (hb : PEM X b mb)
    (hw : swappedStores [.Tuple [.Name x px, .Name y py] kt pt] (.Tuple [a, b] k2 pt2) X.env = pure (some [x, y])) (hs1 : starEach (a :: [b]) X.env = (false, eval a X.env) :: starEach [b] X.env := by rfl) (hs2 : starEach (b :: []) X.env = (false, eval b X.env) :: starEach [] X.env := by rfl)
    (hs : swapsWithSole [.Tuple [.Name x px, .Name y py] kt pt] (.Tuple [a, b] k2 pt2) pos.line X.env = pure false := by rfl) :
    PSM X (.Assign [.Tuple [.Name x px, .Name y py] kt pt] (.Tuple [a, b] k2 pt2) pos) (mParOD i j ma mb) := PS.to (ps_par hc hN hi hj hij hx hy (pa_cons ha (pa_cons hb pa_nil hs2) hs1) hw hs) fun _ _ _ q => sm_parOD q
theorem psm_parDO (hc : X.calm = true) (hN : X.N.Nodup) (hi : X.N[i]? = some x) (hj : X.N[j]? = some y) (hij : i ≠ j)
    (hx : X.env.scope.names.lookup x = some .local) (hy : X.env.scope.names.lookup y = some .local) (hb : PEM X a mb) (ha : PEN X b ma)
    (hw : swappedStores [.Tuple [.Name x px, .Name y py] kt pt] (.Tuple [a, b] k2 pt2) X.env = pure (some [x, y])) (hs1 : starEach (a :: [b]) X.env = (false, eval a X.env) :: starEach [b] X.env := by rfl) (hs2 : starEach (b :: []) X.env = (false, eval b X.env) :: starEach [] X.env := by rfl)
    (hs : swapsWithSole [.Tuple [.Name x px, .Name y py] kt pt] (.Tuple [a, b] k2 pt2) pos.line X.env = pure false := by rfl) :
    PSM X (.Assign [.Tuple [.Name x px, .Name y py] kt pt] (.Tuple [a, b] k2 pt2) pos) (mParDO i j mb ma) := PS.to (ps_par hc hN hi hj hij hx hy (pa_cons hb (pa_cons ha pa_nil hs2) hs1) hw hs) fun _ _ _ q => sm_parDO q
end
end TL

namespace TL
open PySem L2
open PyProof.Rows (envOfC)

/-! ### instances: their fields -/
theorem ClsN.eq {K : PySem.W.Frag} {c : Str} {C C' : Addr} (h : ClsN K c C) (h' : ClsN K c C') : C = C' := by
  unfold ClsN at h h'
  rw [h] at h'
  cases h'; rfl
theorem RepF.look {K : PySem.W.Frag} {H : Hp} {f : Str} {d : D} : ∀ {xs : List (Str × V)} {ds : List (Str × D)}, RepF K H xs ds → ds.lookup f = some d → ∃ v, xs.lookup f = some v ∧ Rep K H v d
  | _, _, .nil, h => by cases h
  | (g, v) :: xs, (_, y) :: ds, .cons q t, h => by
    rw [List.lookup_cons] at h ⊢
    cases e : (f == g) with
    | true => rw [e] at h; cases h; exact ⟨v, rfl, q⟩
    | false => rw [e] at h; exact RepF.look t h
theorem RepF.none {K : PySem.W.Frag} {H : Hp} {f : Str} : ∀ {xs : List (Str × V)} {ds : List (Str × D)}, RepF K H xs ds → ds.lookup f = none → xs.lookup f = none
  | _, _, .nil, _ => rfl
  | (g, v) :: xs, (_, y) :: ds, .cons q t, h => by
    rw [List.lookup_cons] at h ⊢
    cases e : (f == g) with
    | true => rw [e] at h; cases h
    | false => rw [e] at h; exact RepF.none t h
def putFD (f : Str) (d : D) : List (Str × D) → List (Str × D)
  | [] => [(f, d)]
  | (g, x) :: r => if g = f then (g, d) :: r else (g, x) :: putFD f d r
theorem RepF.put {K : PySem.W.Frag} {H : Hp} {f : Str} {v : V} {d : D} (q : Rep K H v d) : ∀ {xs : List (Str × V)} {ds : List (Str × D)}, RepF K H xs ds → RepF K H (putF f v xs) (putFD f d ds)
  | _, _, .nil => .cons q .nil
  | (g, _) :: _, (_, _) :: _, .cons z t => by
    unfold putF putFD
    by_cases e : g = f
    · rw [if_pos e, if_pos e]; exact .cons q t
    · rw [if_neg e, if_neg e]; exact .cons z (RepF.put q t)
theorem RepF.length {K : PySem.W.Frag} {H : Hp} : ∀ {xs : List (Str × V)} {ds : List (Str × D)}, RepF K H xs ds → xs.length = ds.length
  | _, _, .nil => rfl
  | _, _, .cons _ t => by rw [List.length_cons, List.length_cons, RepF.length t]
/-- instances of the classes cs have a field f of their own -/
def FldC (K : PySem.W.Frag) (cs : List Str) (f : Str) : Prop := ∀ c ∈ cs, ∀ C, ClsN K c C → Cls K C ∧ NoAttr K C f
def dFld (cs : List Str) (f : Str) : D → Option D
  | .obj c fs => if c ∈ cs then fs.lookup f else none
  | _ => none
theorem em_fld {K : PySem.W.Frag} {cs : List Str} {f : Str} {ma : ME} {σ : L2.St} {H : Hp} {Q : VK} (h : FldC K cs f) : teOf K (mUn (dFld cs f) ma) σ H Q → tFld K (teOf K ma) f σ H Q := by
  rintro ⟨c, S, own, ρ, d, ρ', sr, hm, k⟩
  unfold mUn at hm
  simp only [Option.bind_eq_some_iff, Option.map_eq_some_iff] at hm
  obtain ⟨⟨a, ρ1⟩, h1, d', h3, e⟩ := hm
  cases e
  refine ⟨c, S, own, ρ, a, ρ1, sr, h1, fun v H1 e1 sr1 r1 => ?_⟩
  cases r1 <;> first | (cases h3; done) | skip
  case obj a0 C dx nm xs ds hH hn hf =>
    simp only [dFld] at h3
    split at h3
    · rename_i hc
      obtain ⟨u, e2, q⟩ := hf.look h3
      exact ⟨a0, C, dx, xs, u, rfl, Fz.le _ _ hH, (h nm hc C hn).1, (h nm hc C hn).2, e2, k u H1 e1 sr1 q⟩
    · cases h3
section
variable {X : Cx} {e : Expr} {f : Str} {pos : Pos} {ma : ME} {cs : List Str}
theorem pem_fld (h : FldC X.K cs f) (he : PEM X e ma) (hb : attributeBase e f X.env (eval e X.env) = eval e X.env := by rfl) : PEM X (.Attribute e f pos) (mUn (dFld cs f) ma) :=
  PE.to (pe_fld he hb) fun _ _ _ q => em_fld h q
end

/-! ### methods -/
/-- o.m(..) by place and by name; the instance is the first argument -/
def tMethG (c : Str) (K : PySem.W.Frag) (m : Str) (n l : Nat) (pm : List Nat) (sp : Sp) (E : XK) (to : TE) (t tk : TA) : TE := fun σ H Q => to σ H fun x H1 => ∃ a C dx fs, x = .ref a ∧ H1 a = some (.ins C dx fs) ∧ ClsN K c C ∧ fs.lookup m = none ∧
  t σ H1 fun vs H2 => tk σ H2 fun zs H3 => (x :: vs).length = n ∧ zs.length = l ∧ sp (pm.map fun i => ((x :: vs) ++ zs).getD i .non) H3 Q E
section
variable {X : Cx} {CX : CXT} {k n : Nat} {f C : Addr} {fd : FuncData} {ps ks : List Str} {pm : List Nat} {sp : Sp} {E : XK} {c m : Str} {p pos apos : Pos} {e o : Expr} {es : List Expr} {kws : List Keyword} {to : TE} {t tk : TA}
theorem pe_methG {pl : Sem Bool} (ho : PE X o to) (hn : ClsN X.K c C) (cl : Cls X.K C) (hm : Meth X.K C m f) (F : FnG X.prog X.w X.K X.mg X.base CX k f fd ps sp) (hr : Room k X.A) (hgd : X.A.guards = some []) (hb : Bd fd ps n [] pm) (hx : Passes CX X E) (ha : PA X (e :: es) t)
    (hst : starEach (e :: es) X.env = (false, eval e X.env) :: starEach es X.env := by rfl) (hpl : (backTo pos (starEach es X.env)).any (·.1) = false := by rfl)
    (ht : eval (.Call (.Attribute o m apos) (e :: es) [] pos) X.env = (eval o X.env >>= fun ov => standAt apos.atName >>= fun _ => holding [ov] (getMethod ov m pl) >>= fun z => callWith pos z.1 z.2 (backTo pos (starEach (e :: es) X.env)) (backToKw pos (keywordEach [] X.env))) := by rfl) :
    PE X (.Call (.Attribute o m apos) (e :: es) [] pos) (tMethG c X.K m n 0 pm sp E to t tNil) := by
  refine ⟨fun pins s σ H Q I h => PySem.W.methodCall_KW (pl := pl) (thn (ho.run pins s σ H _ I h) fun u s1 q => ?_) ht⟩
  obtain ⟨x, H1, I1, rx, a, C', dx, fs, rfl, ea, hn', l, q⟩ := q
  obtain rfl := hn.eq hn'
  obtain rfl : u = Value.ref a := rx
  refine getmeth_ok I1 ea cl hm l (PySem.W.callWith_K (first := [.ref a]) (h₀ := X.base) I.ok.mod.kin hm.kp (thn (ha.run pos pins s1 σ H1 _ I1 q) fun us s2 q => ?_) hst hpl)
  obtain ⟨vs, H2, I2, r, l1, l2, q⟩ := q
  exact ⟨I2.kIn, run_fnG (us := .ref a :: us) (vs := .ref a :: vs) (ks := []) (ws := []) F hr hgd hb hx I2 (.cons rfl r) .nil l1 rfl q⟩
theorem pe_methGK0 {pl : Sem Bool} (ho : PE X o to) (hn : ClsN X.K c C) (cl : Cls X.K C) (hm : Meth X.K C m f) (F : FnG X.prog X.w X.K X.mg X.base CX k f fd ps sp) (hr : Room k X.A) (hgd : X.A.guards = some []) (hb : Bd fd ps n ks pm) (hx : Passes CX X E) (hkw : PK X kws tk)
    (hall : (backToKw pos (keywordEach kws X.env)).all (·.1.isSome) = true := by rfl) (hks : (backToKw pos (keywordEach kws X.env)).filterMap (·.1) = ks := by rfl)
    (hpl : ((backTo pos (starEach [] X.env)).any (·.1) || (backToKw pos (keywordEach kws X.env)).any (·.1.isNone)) = false := by rfl)
    (ht : eval (.Call (.Attribute o m apos) [] kws pos) X.env = (eval o X.env >>= fun ov => standAt apos.atName >>= fun _ => holding [ov] (getMethod ov m pl) >>= fun z => callWith pos z.1 z.2 (backTo pos (starEach [] X.env)) (backToKw pos (keywordEach kws X.env))) := by rfl) :
    PE X (.Call (.Attribute o m apos) [] kws pos) (tMethG c X.K m n ks.length pm sp E to tNil tk) := by
  refine ⟨fun pins s σ H Q I h => PySem.W.methodCall_KW (pl := pl) (thn (ho.run pins s σ H _ I h) fun u s1 q => ?_) ht⟩
  obtain ⟨x, H1, I1, rx, a, C', dx, fs, rfl, ea, hn', l, q⟩ := q
  obtain rfl := hn.eq hn'
  obtain rfl : u = Value.ref a := rx
  refine getmeth_ok I1 ea cl hm l (PySem.W.callWith_KW0 (first := [.ref a]) (h₀ := X.base) I.ok.mod.kin hm.kp hall (thn (hkw.run pos pins s1 σ H1 _ I1 q) fun ws s2 q => ?_) hpl)
  obtain ⟨zs, H2, I2, rz, l1, l2, q⟩ := q
  refine ⟨I2.kIn, ?_⟩
  rw [hks]
  exact run_fnG (us := [.ref a]) (vs := [.ref a]) F hr hgd hb hx I2 (.cons rfl .nil) rz l1 l2 q
theorem pe_methG0 {pl : Sem Bool} (ho : PE X o to) (hn : ClsN X.K c C) (cl : Cls X.K C) (hm : Meth X.K C m f) (F : FnG X.prog X.w X.K X.mg X.base CX k f fd ps sp) (hr : Room k X.A) (hgd : X.A.guards = some []) (hb : Bd fd ps n [] pm) (hx : Passes CX X E)
    (ht : eval (.Call (.Attribute o m apos) [] [] pos) X.env = (eval o X.env >>= fun ov => standAt apos.atName >>= fun _ => holding [ov] (getMethod ov m pl) >>= fun z => callWith pos z.1 z.2 (backTo pos (starEach [] X.env)) (backToKw pos (keywordEach [] X.env))) := by rfl) :
    PE X (.Call (.Attribute o m apos) [] [] pos) (tMethG c X.K m n 0 pm sp E to tNil tNil) := by
  refine ⟨fun pins s σ H Q I h => PySem.W.methodCall_KW (pl := pl) (thn (ho.run pins s σ H _ I h) fun u s1 q => ?_) ht⟩
  obtain ⟨x, H1, I1, rx, a, C', dx, fs, rfl, ea, hn', l, l1, l2, q⟩ := q
  obtain rfl := hn.eq hn'
  obtain rfl : u = Value.ref a := rx
  exact getmeth_ok I1 ea cl hm l (PySem.W.callWith_K0 (first := [.ref a]) I1.kIn hm.kp (run_fnG (us := [.ref a]) (vs := [.ref a]) (ks := []) (ws := []) F hr hgd hb hx I1 (.cons rfl .nil) .nil l1 rfl q))
end
def mMeth (c m : Str) (f : List D → Option D) (pm : List Nat) (mo : ME) (ma mk : MA) : ME := fun ρ => (mo ρ).bind fun o => match o.1 with
  | .obj c' fs => if c' = c ∧ fs.lookup m = none then (ma o.2).bind fun p => (mk p.2).bind fun q => (f (pm.map fun i => ((.obj c' fs :: p.1) ++ q.1).getD i .non)).map fun d => (d, q.2) else none
  | _ => none
theorem em_meth {K : PySem.W.Frag} {σ : L2.St} {H : Hp} {n l : Nat} {c m : Str} {pm : List Nat} {f : List D → Option D} {mo : ME} {ma mk : MA} {E : XK} {Q : VK} (hn : Fix ma n) (hk : Fix mk l) (hp : ∀ i ∈ pm, i < n + 1 + l) {k : Nat} (hpk : pm.length = k) :
    teOf K (mMeth c m f pm mo ma mk) σ H Q → tMethG c K m (n + 1) l pm (spP K k f) E (teOf K mo) (taOf K ma) (taOf K mk) σ H Q := by
  rintro ⟨cc, S, own, ρ, d, ρ', sr, hm, q⟩
  simp only [mMeth, Option.bind_eq_some_iff] at hm
  obtain ⟨⟨o, ρ0⟩, h0, hm⟩ := hm
  refine ⟨cc, S, own, ρ, o, ρ0, sr, h0, fun x H0 e0 s0 r0 => ?_⟩
  cases o <;> first | (cases hm; done) | skip
  rename_i c' fs'
  dsimp only at hm
  split at hm
  case isFalse => cases hm
  rename_i hc
  obtain ⟨rfl, hl0⟩ := hc
  simp only [Option.bind_eq_some_iff, Option.map_eq_some_iff] at hm
  obtain ⟨⟨ds, ρ1⟩, h1, ⟨es, ρ2⟩, h2, d', h3, e⟩ := hm
  cases e
  have r0' := r0
  cases r0 with
  | obj hH hN hF =>
    refine ⟨_, _, _, _, rfl, Fz.le _ _ hH, hN, hF.none hl0, cc, S, own, ρ0, ds, ρ1, s0, h1, fun vs H1 e1 s1 q1 => ⟨cc, S, own, ρ1, es, ρ2, s1, h2, fun zs H2 e2 s2 q2 => ⟨by rw [List.length_cons, q1.length, hn _ _ _ h1], by rw [q2.length]; exact hk _ _ _ h2, S, _, d, by rw [List.length_map]; exact hpk, s2.trk, ?_, h3, fun v H' ex qv => q v H' (((e0.trans e1).trans e2).trans (Fz.ex ex)) (s2.ex ex) qv⟩⟩⟩
    have ra := (RepL.cons ((r0'.mono e1).mono e2) (q1.mono e2)).append q2
    have hl : ((D.obj c' fs' :: ds) ++ es).length = n + 1 + l := by rw [List.length_append, List.length_cons, hn _ _ _ h1, hk _ _ _ h2]
    clear h3 hpk
    induction pm with
    | nil => exact .nil
    | cons i pm ih =>
      refine .cons ?_ (ih fun j hj => hp j (List.mem_cons_of_mem _ hj))
      have hi : i < ((D.obj c' fs' :: ds) ++ es).length := by rw [hl]; exact hp i List.mem_cons_self
      obtain ⟨v, hv, qv⟩ := ra.get (i := i) (List.getElem?_eq_getElem hi)
      show Rep K (Fz S H2) ((V.ref _ :: vs ++ zs).getD i .non) ((D.obj c' fs' :: ds ++ es).getD i .non)
      rw [List.getD_eq_getElem?_getD, List.getD_eq_getElem?_getD, hv, List.getElem?_eq_getElem hi]
      exact qv
end TL

namespace TL
open PySem PySem.Spec L2
open PyProof.Rows (envOfC)

/-! ### an instance that is being made: self.f = e -/
def mFst (i : Nat) (c0 f : Str) (me : ME) : MS := fun ρ => match ρ[i]? with
  | some (.ns _ _) => (me ρ).bind fun p => match p.2[i]? with
    | some (.ns c fs) => if c = c0 ∧ fs.length < 999 then some (.nx (p.2.set i (.ns c (putFD f p.1 fs)))) else none
    | _ => none
  | _ => none
def AttrC (K : PySem.W.Frag) (c f : Str) : Prop := ∀ C, ClsN K c C → Cls K C ∧ NoAttr K C f
theorem sm_fst {K : PySem.W.Frag} {En : Ends} {σ : L2.St} {H : Hp} {i : Nat} {c0 f : Str} {me : ME} (hc : AttrC K c0 f) :
    tsOf K (mFst i c0 f me) En σ H → sFld K (tVar i) (teOf K me) f En σ H := by
  rintro ⟨c, S, own, ρ, r, sr, hm, k⟩
  unfold mFst at hm
  split at hm
  case h_2 => cases hm
  rename_i cn fs0 h0
  simp only [Option.bind_eq_some_iff] at hm
  obtain ⟨⟨d, ρ1⟩, h1, h2⟩ := hm
  obtain ⟨a, dx, C, xs, ha, hv, hH, hD, hne, hN, hF⟩ := sr.cell i _ h0
  refine ⟨c, S, own, ρ, d, ρ1, sr, h1, fun v H1 e1 s1 q1 => ?_⟩
  split at h2
  case h_2 => cases h2
  rename_i cn2 fs h3
  have h3 : ρ1[i]? = some (.ns cn2 fs) := h3
  split at h2
  case isFalse => cases h2
  rename_i hz
  obtain ⟨rfl, hz⟩ := hz
  cases h2
  obtain ⟨a', dx', C', xs', ha', hv', hH', hD', hne', hN', hF'⟩ := s1.cell i _ h3
  have ai : a' ∈ own i := by rw [ha']; exact List.mem_cons_self
  have aS := (s1.ownS i a' ai).1
  have fz : Fz S (upd H1 a' (.ins C' dx' (putF f v xs'))) = Fz S H1 := Fz.upd_own aS
  refine ⟨.ref a', s1.slot hv', a', C', dx', xs', rfl, hH', (hc C' hN').1, (hc C' hN').2, by rw [hF'.length]; omega, ?_⟩
  refine k S own σ _ (by rw [fz]; exact e1) (s1.touchOwn ai hH' (List.getElem?_eq_some_iff.mp h3).1 ⟨a', dx', C', putF f v xs', ha', hv', upd_same, by rw [upd_ne (fun e => hne' e.symm)]; exact hD', hne', hN', ?_⟩)
  rw [fz]
  exact RepF.put q1 hF'
section
variable {X : Cx} {o value : Expr} {x f c0 : Str} {px pos pos' : Pos} {me : ME} {i : Nat}
theorem psm_fst (hc : AttrC X.K c0 f) (hv : PE X (.Name x px) (tVar i)) (he : PEM X value me) (hs : swapsWith value (some (.Attribute (.Name x px) f pos')) pos.line X.env = pure false := by rfl) :
    PSM X (.Assign [.Attribute (.Name x px) f pos'] value pos) (mFst i c0 f me) := PS.to (ps_fld hv he hs) fun _ _ _ q => sm_fst hc q
end

/-! ### __init__ -/
/-- self, a new instance of the class c, gets the fields that f tells of the other arguments -/
def spI (K : PySem.W.Frag) (c : Str) (n : Nat) (f : List D → Option (List (Str × D))) : Sp := fun vs H Q _ => ∃ S a dx C ws ds fs, vs = .ref a :: ws ∧ vs.length = n ∧ (∀ a ∈ S, (H a).isSome = true) ∧ a ∈ S ∧ dx ∈ S ∧ a ≠ dx ∧ H a = some (.ins C dx []) ∧ H dx = some (.own a) ∧ ClsN K c C ∧
  RepL K (Fz S H) ws ds ∧ f ds = some fs ∧ ∀ H' xs, (∀ b o, b ≠ a → b ≠ dx → H b = some o → H' b = some o) → H' a = some (.ins C dx xs) → H' dx = some (.own a) → RepF K (Fz S H') xs fs → Q .non H'
def runI (c : Str) (N : Nat) (m : MS) : List D → Option (List (Str × D)) := fun ds => match m (.ns c [] :: ds.map Cell.d ++ List.replicate (N - (ds.length + 1)) .no) with
  | some (.nx (.ns c' fs :: _)) => if c' = c then some fs else none
  | _ => none
section
variable {P : Program} {w : World} {K : PySem.W.Frag} {mg : Str → Option Value} {base : Heap} {x qual : Str} {st : Stmt} {f : Addr} {fd : FuncData} {N ps : List Str} {k : Nat}
theorem sr_startI {c : Str} {C : Addr} {da la : Addr} {ws : List V} {ds : List D} {S : List Addr} {H : Hp} (hl : ws.length + 1 ≤ N.length) (t : ∀ a ∈ S, (H a).isSome = true) (h1 : da ∈ S) (h2 : la ∈ S) (hd : da ≠ la) (hH : H da = some (.ins C la [])) (hD : H la = some (.own da)) (hN : ClsN K c C) (r : RepL K (Fz S H) ws ds) :
    SR K (CnL.up ⟨H, S, [da, la], .inr ⟨da, la, hd, rfl⟩⟩) S (fun i => if i = 0 then [da, la] else []) (L2.start N (.ref da :: ws)) H (.ns c [] :: ds.map Cell.d ++ List.replicate (N.length - (ds.length + 1)) .no) := by
  refine ⟨?_, fun i x h => ?_, fun i j n a h => ?_, fun i a h => ?_, fun a h => h, t, t, fun a o h _ => h, fun a h => ?_, fun _ _ => rfl⟩
  · unfold L2.start
    simp only [List.length_append, List.length_map, List.length_replicate, List.length_cons]
    have := r.length
    omega
  · rw [start_get]
    cases i with
    | zero =>
      simp only [List.cons_append, List.getElem?_cons_zero] at h
      cases h
      exact ⟨da, la, C, [], if_pos rfl, rfl, hH, hD, hd, hN, .nil⟩
    | succ i =>
      simp only [List.cons_append, List.getElem?_cons_succ] at h
      simp only [List.getElem?_cons_succ]
      by_cases hi : i < ds.length
      · rw [List.getElem?_append_left (by simpa using hi), List.getElem?_map] at h
        cases e : ds[i]? with
        | none => rw [e] at h; cases h
        | some d =>
          rw [e] at h; cases h
          obtain ⟨v, e1, q⟩ := r.get e
          exact ⟨rfl, v, e1, q⟩
      · rw [List.getElem?_append_right (by simpa using hi), List.getElem?_replicate] at h
        split at h <;> cases h
        exact rfl
  · by_cases e : i = 0
    · have : j ≠ 0 := fun z => n (e.trans z.symm)
      simp only [if_neg this]
      intro z; cases z
    · simp only [if_neg e] at h; cases h
  · by_cases e : i = 0
    · simp only [if_pos e] at h
      refine ⟨?_, .inl h⟩
      simp only [List.mem_cons, List.not_mem_nil, or_false] at h
      rcases h with rfl | rfl
      · exact h1
      · exact h2
    · simp only [if_neg e] at h; cases h
  · have h : a ∈ [da, la] := h
    simp only [List.mem_cons, List.not_mem_nil, or_false] at h
    rcases h with rfl | rfl
    · exact h1
    · exact h2
theorem fn_init {c : Str} (F : Fun K x qual st f fd) (S : FnScope N ps (defScope st)) (m : MS)
    (hbody : ∀ (cdv : Value) (A : Around) (outer : List Env) (s : Shared) (H : Hp) (E : XK), Room k (A.deeper (envOfC qual (defScope st) s.heap.objs.size f cdv)) → (A.deeper (envOfC qual (defScope st) s.heap.objs.size f cdv)).guards = some [] →
      PSSM (cxOf CX0 P w K mg base N qual (defScope st) f cdv A outer s H E).nox (defBody st) m) : FnG P w K mg base CX0 (k + 1) f fd ps (spI K c ps.length (runI c N.length m)) := by
  refine fnG_of F S (fun vs H Q E h => ?_) fun cdv A outer s H vs Q E hr hg h => ?_
  · obtain ⟨_, _, _, _, _, _, _, _, e, _⟩ := h
    exact e
  · obtain ⟨T, da, la, C, ws, ds, fs, rfl, e, t, h1, h2, hne, hH, hD, hN, r, hf, q⟩ := h
    refine ⟨_, (hbody cdv A outer s H E hr hg).nox, ?_⟩
    have hpl : ps.length ≤ N.length := by have := congrArg List.length S.pre; rw [List.length_take] at this; omega
    unfold runI at hf
    split at hf
    case h_2 => cases hf
    rename_i c2 fs2 ρ' hm
    split at hf
    case isFalse => cases hf
    rename_i ec
    subst ec
    cases hf
    refine ⟨_, T, _, _, _, sr_startI (by have := e; rw [List.length_cons] at this; omega) t h1 h2 hne hH hD hN r, hm, fun S' own' σ' H' ex s' => ?_⟩
    obtain ⟨a', dx', C', xs', ha, hv, hH', hD', hne', hN', hF'⟩ := s'.cell 0 _ rfl
    have e0 : own' 0 = [da, la] := s'.tdk True.intro (by simp [CnL.up])
    rw [ha] at e0; cases e0
    have keep : ∀ b o, b ≠ da → b ≠ la → H b = some o → H' b = some o := fun b o n1 n2 hb => s'.keep b o hb fun m => by
      have m : b ∈ [da, la] := m
      simp only [List.mem_cons, List.not_mem_nil, or_false] at m
      rcases m with m | m
      · exact n1 m
      · exact n2 m
    obtain rfl := hN.eq hN'
    exact q H' _ keep hH' hD' (hF'.mono (Fz.sub fun a m => s'.sub a m))
end

/-! ### C(..) -/
section
variable {X : Cx} {CX : CXT} {k n : Nat} {f C : Addr} {fd : FuncData} {ps ks : List Str} {pm : List Nat} {sp : Sp} {E : XK} {x : Str} {p pos : Pos} {e : Expr} {es : List Expr} {kws : List Keyword} {t tk : TA}
theorem make_guards {A : Around} {C : Addr} {us : List Value} {kw : List (Str × Value)} (h : A.guards = some []) : (A.under (.builtin "type.__call__" ⟨.ref C :: us, kw⟩)).guards = some [] := by
  first | exact h | (simp [Around.under, h]; done) | (unfold Around.under; exact h)
theorem run_makeG {pins : List (Addr × Obj)} {σ : L2.St} {H : Hp} {s : Shared} {Q : VK} {us ws : List Value} {vs zs : List V} (M : Mk X.K C f) (F : FnG X.prog X.w X.K X.mg X.base CX k f fd ps sp) (hr : Room (k + 1) X.A) (hgd : X.A.guards = some []) (hb : Bd fd ps (n + 1) ks pm) (hx : Passes CX X E)
    (I : Inv X pins σ H s) (r : Vals vs us) (rz : Vals zs ws) (l1 : vs.length = n) (l2 : zs.length = ks.length)
    (h : ∀ x dx, H x = none → H dx = none → dx ≠ x → sp (pm.map fun i => ((.ref x :: vs) ++ zs).getD i .non) (upd (upd H dx (.own x)) x (.ins C dx [])) (fun v H2 => v = .non ∧ Q (.ref x) H2) E) :
    wpAny (model X.prog X.w) X.A (call (.ref C) us (ks.zip ws)) (EP X pins σ Q) X.xe s := by
  have new1 := I.hok.fresh (Nat.le_succ s.heap.objs.size)
  have new2 := I.hok.fresh (Nat.le_refl s.heap.objs.size)
  have want := h _ _ new1 new2 (Nat.ne_of_lt (Nat.lt_succ_self _))
  have J := Inv.made (C := C) I
  have rr : Vals (V.ref (s.heap.objs.size + 1) :: vs) (Value.ref (s.heap.objs.size + 1) :: us) := .cons rfl r
  refine wpAny_call (make_map I.kIn M.makes M.init (beq_iff_eq.mp M.fn) (codeAny_mono (F.go _ X.stack _ _ _ _ _ _ E (hr.make C us _) (make_guards hgd) (J.env0.make C us _)
    (hb.bind _ (Value.ref (s.heap.objs.size + 1) :: us) ws (by rw [List.length_cons, ← r.length, l1]) (by rw [← rz.length]; exact l2)) (Vals.pick (rr.append rz) pm) want) fun out s2 got => ?_))
  match out, got with
  | .error e, got => exact hx pins σ _ _ e s2 J got
  | .ok (.ret u), got =>
    obtain ⟨v, H', I3, rv, ev, q3⟩ := J.after got
    subst ev
    exact ⟨rv, ⟨V.ref (s.heap.objs.size + 1), H', I3, rfl, q3⟩⟩
  | .ok .next, got => exact got.elim
  | .ok .brk, got => exact got.elim
  | .ok .cont, got => exact got.elim
def tMakeG (C : Addr) (n m : Nat) (pm : List Nat) (sp : Sp) (E : XK) (t tk : TA) : TE := fun σ H Q => t σ H fun vs H1 => tk σ H1 fun zs H2 => vs.length = n ∧ zs.length = m ∧
  ∀ x dx, H2 x = none → H2 dx = none → dx ≠ x → sp (pm.map fun i => ((.ref x :: vs) ++ zs).getD i .non) (upd (upd H2 dx (.own x)) x (.ins C dx [])) (fun v H3 => v = .non ∧ Q (.ref x) H3) E
theorem pe_makeG (M : Mk X.K C f) (F : FnG X.prog X.w X.K X.mg X.base CX k f fd ps sp) (hr : Room (k + 1) X.A) (hgd : X.A.guards = some []) (hg : Gl X x) (hm : X.mg x = some (.ref C)) (hb : Bd fd ps (n + 1) [] pm) (hx : Passes CX X E)
    (ha : PA X (e :: es) t) (hdb : (x == ("__debug__" : Str)) = false := by decide) (he : starEach (e :: es) X.env = (false, eval e X.env) :: starEach es X.env := by rfl) (hpl : (backTo pos (starEach es X.env)).any (·.1) = false := by rfl) :
    PE X (.Call (.Name x p) (e :: es) [] pos) (tMakeG C n 0 pm sp E t tNil) := by
  refine ⟨fun pins s σ H Q I h => wpAny_Call_Name_kw (ld_glob I hg hm ?_ hdb)⟩
  refine PySem.W.callWith_K (h₀ := X.base) I.ok.mod.kin M.kp (thn (ha.run pos pins s σ H _ I h) fun us s1 q => ?_) he hpl
  obtain ⟨vs, H1, I1, r, l1, l2, q⟩ := q
  exact ⟨I1.kIn, run_makeG (ks := []) (ws := []) M F hr hgd hb hx I1 r .nil l1 rfl q⟩
theorem pe_makeGK0 (M : Mk X.K C f) (F : FnG X.prog X.w X.K X.mg X.base CX k f fd ps sp) (hr : Room (k + 1) X.A) (hgd : X.A.guards = some []) (hg : Gl X x) (hm : X.mg x = some (.ref C)) (hb : Bd fd ps 1 ks pm) (hx : Passes CX X E)
    (hkw : PK X kws tk) (hall : (backToKw pos (keywordEach kws X.env)).all (·.1.isSome) = true := by rfl) (hks : (backToKw pos (keywordEach kws X.env)).filterMap (·.1) = ks := by rfl)
    (hdb : (x == ("__debug__" : Str)) = false := by decide)
    (hpl : ((backTo pos (starEach [] X.env)).any (·.1) || (backToKw pos (keywordEach kws X.env)).any (·.1.isNone)) = false := by rfl) :
    PE X (.Call (.Name x p) [] kws pos) (tMakeG C 0 ks.length pm sp E tNil tk) := by
  refine ⟨fun pins s σ H Q I h => wpAny_Call_Name_kw (ld_glob I hg hm ?_ hdb)⟩
  refine PySem.W.callWith_KW0 (h₀ := X.base) I.ok.mod.kin M.kp hall (thn (hkw.run pos pins s σ H _ I h) fun ws s2 q => ?_) hpl
  obtain ⟨zs, H2, I2, rz, l1, l2, q⟩ := q
  refine ⟨I2.kIn, ?_⟩
  rw [hks]
  exact run_makeG (n := 0) (us := []) (vs := []) M F hr hgd hb hx I2 .nil rz rfl l2 q
end
/-- C(..): pm puts the arguments in the order of __init__'s parameters behind self (place 0 is self) -/
def mMake (c : Str) (f : List D → Option (List (Str × D))) (pm : List Nat) (ma mk : MA) : ME := fun ρ => (ma ρ).bind fun p => (mk p.2).bind fun q => (f (pm.map fun i => (p.1 ++ q.1).getD i .non)).map fun fs => (.obj c fs, q.2)
theorem em_make {K : PySem.W.Frag} {σ : L2.St} {H : Hp} {n m : Nat} {c : Str} {C : Addr} {pm : List Nat} {f : List D → Option (List (Str × D))} {ma mk : MA} {E : XK} {Q : VK} (hC : ClsN K c C) (hn : Fix ma n) (hk : Fix mk m) (hp : ∀ i ∈ pm, i < n + m) {k : Nat} (hpk : pm.length + 1 = k) :
    teOf K (mMake c f pm ma mk) σ H Q → tMakeG C n m (0 :: pm.map (· + 1)) (spI K c k f) E (taOf K ma) (taOf K mk) σ H Q := by
  rintro ⟨cc, S, own, ρ, d, ρ', sr, hm, q⟩
  simp only [mMake, Option.bind_eq_some_iff, Option.map_eq_some_iff] at hm
  obtain ⟨⟨ds, ρ1⟩, h1, ⟨es, ρ2⟩, h2, fs, h3, e⟩ := hm
  cases e
  refine ⟨cc, S, own, ρ, ds, ρ1, sr, h1, fun vs H1 e1 s1 q1 => ⟨cc, S, own, ρ1, es, ρ2, s1, h2, fun zs H2 e2 s2 q2 => ⟨by rw [q1.length]; exact hn _ _ _ h1, by rw [q2.length]; exact hk _ _ _ h2, fun x dx hx hd hne => ?_⟩⟩⟩
  have x1 : Ex (Fz S H2) (Fz (dx :: S) (upd H2 dx (.own x))) := Fz.upd_new hd
  have hx1 : upd H2 dx (.own x) x = none := by rw [upd_ne (fun e => hne e.symm)]; exact hx
  have x2 : Ex (Fz (dx :: S) (upd H2 dx (.own x))) (Fz (x :: dx :: S) (upd (upd H2 dx (.own x)) x (.ins C dx []))) := Fz.upd_new hx1
  have up : ∀ b o, H2 b = some o → upd (upd H2 dx (.own x)) x (.ins C dx []) b = some o := fun b o hb => by rw [upd_ne (ne_of_none hb hx), upd_ne (ne_of_none hb hd)]; exact hb
  refine ⟨x :: dx :: S, x, dx, C, pm.map fun i => (vs ++ zs).getD i .non, pm.map fun i => (ds ++ es).getD i .non, fs, ?_, ?_, fun b hb => ?_, List.mem_cons_self, List.mem_cons_of_mem _ List.mem_cons_self, fun e => hne e.symm, upd_same, by rw [upd_ne hne, upd_same], hC, ?_, h3, fun H' xs keep hH hD hF => ?_⟩
  · simp only [List.map_cons, List.map_map]
    rfl
  · rw [List.length_map, List.length_cons, List.length_map]; exact hpk
  · rcases List.mem_cons.mp hb with rfl | hb
    · rw [upd_same]; rfl
    · rcases List.mem_cons.mp hb with rfl | hb
      · rw [upd_ne hne, upd_same]; rfl
      · have := s2.trk b hb
        cases q : H2 b with
        | none => rw [q] at this; cases this
        | some o => rw [up b o q]; rfl
  · have ra := (((q1.mono e2).append q2).mono x1).mono x2
    have hl : (ds ++ es).length = n + m := by rw [List.length_append, hn _ _ _ h1, hk _ _ _ h2]
    clear h3 hpk
    induction pm with
    | nil => exact .nil
    | cons i pm ih =>
      refine .cons ?_ (ih fun j hj => hp j (List.mem_cons_of_mem _ hj))
      have hi : i < (ds ++ es).length := by rw [hl]; exact hp i List.mem_cons_self
      obtain ⟨v, hv, qv⟩ := ra.get (i := i) (List.getElem?_eq_getElem hi)
      show Rep K _ ((vs ++ zs).getD i .non) ((ds ++ es).getD i .non)
      rw [List.getD_eq_getElem?_getD, List.getD_eq_getElem?_getD, hv, List.getElem?_eq_getElem hi]
      exact qv
  · have ex : Ex H2 H' := fun b o hb => keep b o (ne_of_none hb hx) (ne_of_none hb hd) (up b o hb)
    refine ⟨rfl, q (.ref x) H' ((e1.trans e2).trans (Fz.ex ex)) (s2.ex ex) ?_⟩
    refine .obj (C := C) (dx := dx) (xs := xs) ?_ hC (hF.mono (Fz.sub fun a m => List.mem_cons_of_mem _ (List.mem_cons_of_mem _ m)))
    rw [Fz.out (s2.new hx)]; exact hH
end TL

namespace TL
open PySem PySem.Spec L2
open PyProof.Rows (envOfC)

/-! ### what is raised: the class and the fields -/
abbrev Exn := Str × List (Str × D)
abbrev MX := List Cell → Option (Exn × List Cell)
/-- what its dict bears (none: it has none) -/
def XdR (K : PySem.W.Frag) (H : Hp) (dd : Option Addr) (fs : List (Str × D)) : Prop := (∃ d xs, dd = some d ∧ H d = some (.xd xs) ∧ RepF K H xs fs) ∨ (dd = none ∧ fs = [])
theorem XdR.mono {K : PySem.W.Frag} {H H' : Hp} {dd : Option Addr} {fs : List (Str × D)} (e : Ex H H') : XdR K H dd fs → XdR K H' dd fs
  | .inl ⟨d, xs, h1, h2, h3⟩ => .inl ⟨d, xs, h1, e _ _ h2, h3.mono e⟩
  | .inr h => .inr h
theorem XdR.rep {K : PySem.W.Frag} {H : Hp} {dd : Option Addr} {fs : List (Str × D)} {a : Addr} {c : Str} : XdR K H dd fs → Rep K H (.ref a) (.exc a dd c fs)
  | .inl ⟨d, xs, h1, h2, h3⟩ => by subst h1; exact .exc h2 h3
  | .inr ⟨h1, h2⟩ => by subst h1; subst h2; exact .exb
def texOf (K : PySem.W.Frag) (W : WX) (m : MX) : TE := fun σ H _ => ∃ c S own ρ x ρ', SR K c S own σ H ρ ∧ m ρ = some (x, ρ') ∧
  ∀ C d H', ClsN K x.1 C → Ex (Fz S H) (Fz S H') → SR K c S own σ H' ρ' → XdR K (Fz S H') d x.2 → W (.ref C) d σ H'
def taxOf (K : PySem.W.Frag) (W : WX) (m : MX) : TA := fun σ H _ => texOf K W m σ H fun _ _ => False
def txOf (K : PySem.W.Frag) (W : WX) (m : MX) : TS := fun _ σ H => ∃ (c : CnL) (S : List Addr) (own : Nat → List Addr) (ρ : List Cell) (x : Exn) (ρ' : List Cell), SR K c S own σ H ρ ∧ m ρ = some (x, ρ') ∧
  ∀ C d S' own' σ' H', ClsN K x.1 C → Ex (Fz S H) (Fz S' H') → SR K c S' own' σ' H' ρ' → XdR K (Fz S' H') d x.2 → W (.ref C) d σ' H'
abbrev PEX (X : Cx) (W : WX) (e : Expr) (m : MX) : Prop := PE X e (texOf X.K W m)
abbrev PAX (X : Cx) (W : WX) (es : List Expr) (m : MX) : Prop := PA X es (taxOf X.K W m)
abbrev PSX (X : Cx) (W : WX) (st : Stmt) (m : MX) : Prop := PS X st (txOf X.K W m)
abbrev PSSX (X : Cx) (W : WX) (st : List Stmt) (m : MX) : Prop := PSs X st (txOf X.K W m)
theorem tex_any {K : PySem.W.Frag} {W : WX} {m : MX} {σ : L2.St} {H : Hp} {Q Q' : VK} (h : texOf K W m σ H Q) : texOf K W m σ H Q' := h
theorem tx_te {K : PySem.W.Frag} {W : WX} {m : MX} {σ : L2.St} {H : Hp} {D : Ends} {Q : VK} : txOf K W m D σ H → texOf K W m σ H Q := by
  rintro ⟨c, S, own, ρ, x, ρ', sr, hm, k⟩
  exact ⟨c, S, own, ρ, x, ρ', sr, hm, fun C d H' n e s h => k C d S own σ H' n e s h⟩

/-! mirrors -/
def xAlt (a b : MX) : MX := fun ρ => match a ρ with
  | some x => some x
  | none => b ρ
def xNone : MX := fun _ => none
def xTail (ma : ME) (mx : MX) : MX := fun ρ => (ma ρ).bind fun p => mx p.2
def xIfE (t : MT) (a b : MX) : MX := fun ρ => (t ρ).bind fun p => if p.1 = true then a p.2 else b p.2
def xSeq (m : MS) (mx : MX) : MX := fun ρ => (m ρ).bind fun r => match r with
  | .nx ρ' => mx ρ'
  | _ => none
def xCallP (g : List D → Option Exn) (pm : List Nat) (ma mk : MA) : MX := fun ρ => (ma ρ).bind fun p => (mk p.2).bind fun q => (g (pm.map fun i => (p.1 ++ q.1).getD i .non)).map fun x => (x, q.2)
def xMeth (c m : Str) (g : List D → Option Exn) (pm : List Nat) (mo : ME) (ma mk : MA) : MX := fun ρ => (mo ρ).bind fun o => match o.1 with
  | .obj c' fs => if c' = c ∧ fs.lookup m = none then (ma o.2).bind fun p => (mk p.2).bind fun q => (g (pm.map fun i => ((.obj c' fs :: p.1) ++ q.1).getD i .non)).map fun x => (x, q.2) else none
  | _ => none

section
variable {X : Cx} {W : WX}
theorem PE.or2 {e : Expr} {t t' : TE} (h : PE X e t) (h' : PE X e t') : PE X e (fun σ H Q => t σ H Q ∨ t' σ H Q) := ⟨fun pins s σ H Q I z => z.elim (h.run pins s σ H Q I) (h'.run pins s σ H Q I)⟩
theorem PS.or2 {e : Stmt} {t t' : TS} (h : PS X e t) (h' : PS X e t') : PS X e (fun D σ H => t D σ H ∨ t' D σ H) := ⟨fun pins s σ H D I z => z.elim (h.run pins s σ H D I) (h'.run pins s σ H D I)⟩
theorem PSs.or2 {e : List Stmt} {t t' : TS} (h : PSs X e t) (h' : PSs X e t') : PSs X e (fun D σ H => t D σ H ∨ t' D σ H) := ⟨fun pins s σ H D I z => z.elim (h.run pins s σ H D I) (h'.run pins s σ H D I)⟩
theorem tx_alt {K : PySem.W.Frag} {a b : MX} {σ : L2.St} {H : Hp} {D : Ends} : txOf K W (xAlt a b) D σ H → txOf K W a D σ H ∨ txOf K W b D σ H := by
  rintro ⟨c, S, own, ρ, x, ρ', sr, hm, k⟩
  unfold xAlt at hm
  split at hm
  · rename_i z e
    cases hm
    exact .inl ⟨c, S, own, ρ, x, ρ', sr, e, k⟩
  · exact .inr ⟨c, S, own, ρ, x, ρ', sr, hm, k⟩
theorem pssx_alt {sts : List Stmt} {a b : MX} (h : PSSX X W sts a) (h' : PSSX X W sts b) : PSSX X W sts (xAlt a b) := PSs.to (PSs.or2 h h') fun _ _ _ q => tx_alt q
theorem psx_alt {st : Stmt} {a b : MX} (h : PSX X W st a) (h' : PSX X W st b) : PSX X W st (xAlt a b) := PS.to (PS.or2 h h') fun _ _ _ q => tx_alt q
theorem pssx_none {sts : List Stmt} : PSSX X W sts xNone := ⟨fun pins s σ H D I z => by obtain ⟨_, _, _, _, _, _, _, hm, _⟩ := z; cases hm⟩
theorem psx_none {st : Stmt} : PSX X W st xNone := ⟨fun pins s σ H D I z => by obtain ⟨_, _, _, _, _, _, _, hm, _⟩ := z; cases hm⟩
theorem pssx_head {st : Stmt} {sts : List Stmt} {a : MX} {t : TS} (h : PSX X W st a) (h' : PSs X sts t) : PSSX X W (st :: sts) a := PSs.to (pss_cons h h') fun _ _ _ q => q
theorem pssx_tail {st : Stmt} {sts : List Stmt} {m : MS} {a : MX} (h : PSM X st m) (h' : PSSX X W sts a) : PSSX X W (st :: sts) (xSeq m a) := PSs.to (pss_cons h h') fun D σ H q => by
  obtain ⟨c, S, own, ρ, x, ρ', sr, hm, k⟩ := q
  simp only [xSeq, Option.bind_eq_some_iff] at hm
  obtain ⟨r, h1, h2⟩ := hm
  cases r <;> first | (cases h2; done) | skip
  rename_i ρ1
  refine ⟨c, S, own, ρ, .nx ρ1, sr, h1, fun S' own' σ' H' e s => ?_⟩
  exact ⟨c, S', own', ρ1, x, ρ', s, h2, fun C d S2 own2 σ2 H2 n e2 s2 hd => k C d S2 own2 σ2 H2 n (e.trans e2) s2 hd⟩
theorem pssx_one {st : Stmt} {a : MX} (h : PSX X W st a) : PSSX X W [st] a := PSs.to (pss_one h) fun _ _ _ q => q
theorem pax_head {e : Expr} {es : List Expr} {a : MX} {t : TA} (h : PEX X W e a) (h' : PA X es t) (hs : starEach (e :: es) X.env = (false, eval e X.env) :: starEach es X.env := by rfl) : PAX X W (e :: es) a := PA.to (pa_cons h h' hs) fun _ _ _ q => q
theorem pax_tail {e : Expr} {es : List Expr} {ma : ME} {a : MX} (h : PEM X e ma) (h' : PAX X W es a) (hs : starEach (e :: es) X.env = (false, eval e X.env) :: starEach es X.env := by rfl) : PAX X W (e :: es) (xTail ma a) := PA.to (pa_cons h h' hs) fun σ H Q q => by
  obtain ⟨c, S, own, ρ, x, ρ', sr, hm, k⟩ := q
  simp only [xTail, Option.bind_eq_some_iff] at hm
  obtain ⟨⟨d, ρ1⟩, h1, h2⟩ := hm
  exact ⟨c, S, own, ρ, d, ρ1, sr, h1, fun v H1 e1 s1 q1 => ⟨c, S, own, ρ1, x, ρ', s1, h2, fun C d H2 n e2 s2 hd => k C d H2 n (e1.trans e2) s2 hd⟩⟩
theorem pex_if {c a b : Expr} {ta : MT} {xa xb : MX} {pos : Pos} (hc : PTM X c ta) (ha : PEX X W a xa) (hb : PEX X W b xb) : PEX X W (.IfExp c a b pos) (xIfE ta xa xb) := PE.to (pe_ifExp hc ha hb) fun σ H Q q => by
  obtain ⟨c, S, own, ρ, x, ρ', sr, hm, k⟩ := q
  simp only [xIfE, Option.bind_eq_some_iff] at hm
  obtain ⟨⟨b, ρ1⟩, h1, h2⟩ := hm
  refine ⟨c, S, own, ρ, b, ρ1, sr, h1, fun H1 e1 s1 => ?_⟩
  cases b with
  | true => rw [if_pos rfl] at h2 ⊢; exact ⟨c, S, own, ρ1, x, ρ', s1, h2, fun C d H2 n e2 s2 hd => k C d H2 n (e1.trans e2) s2 hd⟩
  | false => rw [if_neg Bool.false_ne_true] at h2 ⊢; exact ⟨c, S, own, ρ1, x, ρ', s1, h2, fun C d H2 n e2 s2 hd => k C d H2 n (e1.trans e2) s2 hd⟩
theorem psx_if {c : Expr} {a b : List Stmt} {ta : MT} {xa xb : MX} {pos : Pos} (hc : PTM X c ta) (ha : PSSX X W a xa) (hb : PSSX X W b xb) : PSX X W (.If c a b pos) (xIfE ta xa xb) := PS.to (ps_if hc ha hb) fun D σ H q => by
  obtain ⟨c, S, own, ρ, x, ρ', sr, hm, k⟩ := q
  simp only [xIfE, Option.bind_eq_some_iff] at hm
  obtain ⟨⟨b, ρ1⟩, h1, h2⟩ := hm
  refine ⟨c, S, own, ρ, b, ρ1, sr, h1, fun H1 e1 s1 => ?_⟩
  cases b with
  | true => rw [if_pos rfl] at h2 ⊢; exact ⟨c, S, own, ρ1, x, ρ', s1, h2, fun C d S2 own2 σ2 H2 n e2 s2 hd => k C d S2 own2 σ2 H2 n (e1.trans e2) s2 hd⟩
  | false => rw [if_neg Bool.false_ne_true] at h2 ⊢; exact ⟨c, S, own, ρ1, x, ρ', s1, h2, fun C d S2 own2 σ2 H2 n e2 s2 hd => k C d S2 own2 σ2 H2 n (e1.trans e2) s2 hd⟩
theorem psx_ret {e : Expr} {a : MX} {pos : Pos} (h : PEX X W e a) : PSX X W (.Return (some e) pos) a := PS.to (ps_ret h) fun _ _ _ q => tx_te q
end
end TL

namespace TL
open PySem PySem.Spec L2
open PyProof.Rows (envOfC)

section
variable {X : Cx} {W : WX}
theorem psx_expr {e : Expr} {a : MX} {pos : Pos} (h : PEX X W e a) (hs : swapsWith e none pos.line X.env = pure false := by rfl) : PSX X W (.Expr e pos) a := PS.to (ps_expr h hs) fun _ _ _ q => tx_te q
theorem psx_set {i : Nat} {x : Str} {e : Expr} {a : MX} {pos' pos : Pos} (hN : X.N.Nodup) (hi : X.N[i]? = some x) (hx : Loc X.env.scope x) (he : PEX X W e a) (hs : swapsWith e (some (.Name x pos')) pos.line X.env = pure false := by rfl)
    (hf : X.fn x = true ∨ X.env.scope.names.lookup x = some .local := by first | exact .inl rfl | exact .inr rfl | assumption) : PSX X W (.Assign [.Name x pos'] e pos) a := PS.to (ps_set hN hi hx he hs hf) fun _ _ _ q => tx_te q
theorem pex_opL {op : Operator} {a b : Expr} {xa : MX} {tb : TE} {r : R2} {pos} (ho : OpR X (binaryOp op) r) (ha : PEX X W a xa) (hb : PE X b tb) : PEX X W (.BinOp a op b pos) xa := PE.to (pe_op ho ha hb) fun _ _ _ q => q
/-- a built-in function of arguments one of which raises -/
theorem pex_callB {x : Str} {id : String} {r : List V → Hp → VK → Prop} {e : Expr} {es : List Expr} {a : MX} {p pos : Pos} (hc : CallR X (.builtin id) r) (hg : Gl X x) (hm : X.mg x = none) (hv : bootBuiltins x = some (.builtin id)) (ha : PAX X W (e :: es) a) (hn : x ≠ "__name__" := by decide) (hdb : (x == ("__debug__" : Str)) = false := by decide)
    (he : starEach (e :: es) X.env = (false, eval e X.env) :: starEach es X.env := by rfl) (hpl : (backTo pos (starEach es X.env)).any (·.1) = false := by rfl) : PEX X W (.Call (.Name x p) (e :: es) [] pos) a := PE.to (pe_callB hc hg hm hv ha hn hdb he hpl) fun _ _ _ q => q
end

/-! ### calls whose exception is wished for at the caller's slots -/
theorem takes_at {X : Cx} {W : WX} (tk : Takes X W) : ∀ σ, PassesAt (CX X.prog X.w) X σ (fun cls d H => W cls d σ H) := fun σ pins H s e s' I c => tk e s' (XE.of_call I (fun cls d H' h => h) c)
theorem takes_up {X : Cx} {W W' : WX} (tk : Takes X W) (h : ∀ c d σ H, W' c d σ H → W c d σ H) : Takes X W' := tk.imp h
section
variable {X : Cx} {CT : CXT} {k n : Nat} {f C : Addr} {fd : FuncData} {ps ks : List Str} {pm : List Nat} {sp : Sp} {E : L2.St → XK} {c x m : Str} {p pos apos : Pos} {e o : Expr} {es : List Expr} {kws : List Keyword} {to : TE} {t tk : TA}
theorem run_fnGS {pins : List (Addr × Obj)} {σ : L2.St} {H : Hp} {s : Shared} {Q : VK} {us ws : List Value} {vs zs : List V} (F : FnG X.prog X.w X.K X.mg X.base CT k f fd ps sp) (hr : Room k X.A) (hgd : X.A.guards = some []) (hb : Bd fd ps n ks pm) (hx : PassesAt CT X σ (E σ))
    (I : Inv X pins σ H s) (r : Vals vs us) (rz : Vals zs ws) (l1 : vs.length = n) (l2 : zs.length = ks.length) (h : sp (pm.map fun i => (vs ++ zs).getD i .non) H Q (E σ)) : wpAny (model X.prog X.w) X.A (call (.ref f) us (ks.zip ws)) (EP X pins σ Q) X.xe s := by
  refine wpAny_call (codeAny_mono (F.go X.A X.stack s H ⟨us, ks.zip ws⟩ _ _ Q (E σ) hr hgd I.env0 (hb.bind s us ws (by rw [← r.length]; exact l1) (by rw [← rz.length]; exact l2)) (Vals.pick (r.append rz) pm) h) fun out s2 got => ?_)
  match out, got with
  | .error e, got => exact hx pins H s e s2 I got
  | .ok (.ret u), got => exact I.after got
  | .ok .next, got => exact got.elim
  | .ok .brk, got => exact got.elim
  | .ok .cont, got => exact got.elim
def tCallGS (n m : Nat) (pm : List Nat) (sp : Sp) (E : L2.St → XK) (t tk : TA) : TE := fun σ H Q => t σ H fun vs H1 => tk σ H1 fun zs H2 => vs.length = n ∧ zs.length = m ∧ sp (pm.map fun i => (vs ++ zs).getD i .non) H2 Q (E σ)
theorem pe_callGS (F : FnG X.prog X.w X.K X.mg X.base CT k f fd ps sp) (hr : Room k X.A) (hgd : X.A.guards = some []) (hg : Gl X x) (hm : X.mg x = some (.ref f)) (hk : PySem.W.keepIn X.K (.ref f) = true) (hb : Bd fd ps n [] pm) (hx : ∀ σ, PassesAt CT X σ (E σ))
    (ha : PA X (e :: es) t) (hdb : (x == ("__debug__" : Str)) = false := by decide) (he : starEach (e :: es) X.env = (false, eval e X.env) :: starEach es X.env := by rfl) (hpl : (backTo pos (starEach es X.env)).any (·.1) = false := by rfl) :
    PE X (.Call (.Name x p) (e :: es) [] pos) (tCallGS n 0 pm sp E t tNil) := by
  refine ⟨fun pins s σ H Q I h => wpAny_Call_Name_kw (ld_glob I hg hm ?_ hdb)⟩
  refine PySem.W.callWith_K (h₀ := X.base) I.ok.mod.kin hk (thn (ha.run pos pins s σ H _ I h) fun us s1 q => ?_) he hpl
  obtain ⟨vs, H1, I1, r, l1, l2, q⟩ := q
  exact ⟨I1.kIn, run_fnGS (ks := []) (ws := []) F hr hgd hb (hx σ) I1 r .nil l1 rfl q⟩
theorem pe_callGSK0 (F : FnG X.prog X.w X.K X.mg X.base CT k f fd ps sp) (hr : Room k X.A) (hgd : X.A.guards = some []) (hg : Gl X x) (hm : X.mg x = some (.ref f)) (hk : PySem.W.keepIn X.K (.ref f) = true) (hb : Bd fd ps 0 ks pm) (hx : ∀ σ, PassesAt CT X σ (E σ))
    (hkw : PK X kws tk) (hall : (backToKw pos (keywordEach kws X.env)).all (·.1.isSome) = true := by rfl) (hks : (backToKw pos (keywordEach kws X.env)).filterMap (·.1) = ks := by rfl)
    (hdb : (x == ("__debug__" : Str)) = false := by decide)
    (hpl : ((backTo pos (starEach [] X.env)).any (·.1) || (backToKw pos (keywordEach kws X.env)).any (·.1.isNone)) = false := by rfl) :
    PE X (.Call (.Name x p) [] kws pos) (tCallGS 0 ks.length pm sp E tNil tk) := by
  refine ⟨fun pins s σ H Q I h => wpAny_Call_Name_kw (ld_glob I hg hm ?_ hdb)⟩
  refine PySem.W.callWith_KW0 (h₀ := X.base) I.ok.mod.kin hk hall (thn (hkw.run pos pins s σ H _ I h) fun ws s2 q => ?_) hpl
  obtain ⟨zs, H2, I2, rz, l1, l2, q2⟩ := q
  refine ⟨I2.kIn, ?_⟩
  rw [hks]
  exact run_fnGS (us := []) F hr hgd hb (hx σ) I2 .nil rz rfl l2 q2
def tMethGS (c : Str) (K : PySem.W.Frag) (m : Str) (n l : Nat) (pm : List Nat) (sp : Sp) (E : L2.St → XK) (to : TE) (t tk : TA) : TE := fun σ H Q => to σ H fun x H1 => ∃ a C dx fs, x = .ref a ∧ H1 a = some (.ins C dx fs) ∧ ClsN K c C ∧ fs.lookup m = none ∧
  t σ H1 fun vs H2 => tk σ H2 fun zs H3 => (x :: vs).length = n ∧ zs.length = l ∧ sp (pm.map fun i => ((x :: vs) ++ zs).getD i .non) H3 Q (E σ)
theorem pe_methGS {pl : Sem Bool} (ho : PE X o to) (hn : ClsN X.K c C) (cl : Cls X.K C) (hm : Meth X.K C m f) (F : FnG X.prog X.w X.K X.mg X.base CT k f fd ps sp) (hr : Room k X.A) (hgd : X.A.guards = some []) (hb : Bd fd ps n [] pm) (hx : ∀ σ, PassesAt CT X σ (E σ)) (ha : PA X (e :: es) t)
    (hst : starEach (e :: es) X.env = (false, eval e X.env) :: starEach es X.env := by rfl) (hpl : (backTo pos (starEach es X.env)).any (·.1) = false := by rfl)
    (ht : eval (.Call (.Attribute o m apos) (e :: es) [] pos) X.env = (eval o X.env >>= fun ov => standAt apos.atName >>= fun _ => holding [ov] (getMethod ov m pl) >>= fun z => callWith pos z.1 z.2 (backTo pos (starEach (e :: es) X.env)) (backToKw pos (keywordEach [] X.env))) := by rfl) :
    PE X (.Call (.Attribute o m apos) (e :: es) [] pos) (tMethGS c X.K m n 0 pm sp E to t tNil) := by
  refine ⟨fun pins s σ H Q I h => PySem.W.methodCall_KW (pl := pl) (thn (ho.run pins s σ H _ I h) fun u s1 q => ?_) ht⟩
  obtain ⟨x, H1, I1, rx, a, C', dx, fs, rfl, ea, hn', l, q⟩ := q
  obtain rfl := hn.eq hn'
  obtain rfl : u = Value.ref a := rx
  refine getmeth_ok I1 ea cl hm l (PySem.W.callWith_K (first := [.ref a]) (h₀ := X.base) I.ok.mod.kin hm.kp (thn (ha.run pos pins s1 σ H1 _ I1 q) fun us s2 q => ?_) hst hpl)
  obtain ⟨vs, H2, I2, r, l1, l2, q⟩ := q
  exact ⟨I2.kIn, run_fnGS (us := .ref a :: us) (vs := .ref a :: vs) (ks := []) (ws := []) F hr hgd hb (hx σ) I2 (.cons rfl r) .nil l1 rfl q⟩
theorem pe_methGSK0 {pl : Sem Bool} (ho : PE X o to) (hn : ClsN X.K c C) (cl : Cls X.K C) (hm : Meth X.K C m f) (F : FnG X.prog X.w X.K X.mg X.base CT k f fd ps sp) (hr : Room k X.A) (hgd : X.A.guards = some []) (hb : Bd fd ps n ks pm) (hx : ∀ σ, PassesAt CT X σ (E σ)) (hkw : PK X kws tk)
    (hall : (backToKw pos (keywordEach kws X.env)).all (·.1.isSome) = true := by rfl) (hks : (backToKw pos (keywordEach kws X.env)).filterMap (·.1) = ks := by rfl)
    (hpl : ((backTo pos (starEach [] X.env)).any (·.1) || (backToKw pos (keywordEach kws X.env)).any (·.1.isNone)) = false := by rfl)
    (ht : eval (.Call (.Attribute o m apos) [] kws pos) X.env = (eval o X.env >>= fun ov => standAt apos.atName >>= fun _ => holding [ov] (getMethod ov m pl) >>= fun z => callWith pos z.1 z.2 (backTo pos (starEach [] X.env)) (backToKw pos (keywordEach kws X.env))) := by rfl) :
    PE X (.Call (.Attribute o m apos) [] kws pos) (tMethGS c X.K m n ks.length pm sp E to tNil tk) := by
  refine ⟨fun pins s σ H Q I h => PySem.W.methodCall_KW (pl := pl) (thn (ho.run pins s σ H _ I h) fun u s1 q => ?_) ht⟩
  obtain ⟨x, H1, I1, rx, a, C', dx, fs, rfl, ea, hn', l, q⟩ := q
  obtain rfl := hn.eq hn'
  obtain rfl : u = Value.ref a := rx
  refine getmeth_ok I1 ea cl hm l (PySem.W.callWith_KW0 (first := [.ref a]) (h₀ := X.base) I.ok.mod.kin hm.kp hall (thn (hkw.run pos pins s1 σ H1 _ I1 q) fun ws s2 q => ?_) hpl)
  obtain ⟨zs, H2, I2, rz, l1, l2, q⟩ := q
  refine ⟨I2.kIn, ?_⟩
  rw [hks]
  exact run_fnGS (us := [.ref a]) (vs := [.ref a]) F hr hgd hb (hx σ) I2 (.cons rfl .nil) rz l1 l2 q
end

/-! ### defs that raise -/
def spX (K : PySem.W.Frag) (n : Nat) (g : List D → Option Exn) : Sp := fun vs H _ E => ∃ S ds x, vs.length = n ∧ (∀ a ∈ S, (H a).isSome = true) ∧ RepL K (Fz S H) vs ds ∧ g ds = some x ∧
  ∀ C d H', ClsN K x.1 C → Ex H H' → XdR K (Fz S H') d x.2 → E (.ref C) d H'
def runX (N : Nat) (m : MX) : List D → Option Exn := fun ds => (m (ds.map Cell.d ++ List.replicate (N - ds.length) .no)).map (·.1)
section
variable {P : Program} {w : World} {K : PySem.W.Frag} {mg : Str → Option Value} {base : Heap} {x qual : Str} {st : Stmt} {f : Addr} {fd : FuncData} {N ps : List Str} {k : Nat} {sp sp' : Sp} {CT : CXT}
theorem FnG.up (F : FnG P w K mg base CX0 k f fd ps sp) : FnG P w K mg base CT k f fd ps sp := ⟨F.args, fun A outer s H ar us vs Q E hr hg he hb hv hs => codeAny_mono (F.go A outer s H ar us vs Q E hr hg he hb hv hs) fun out s2 got => by
  match out, got with
  | .error e, got => exact got.elim
  | .ok (.ret u), got => exact got
  | .ok .next, got => exact got.elim
  | .ok .brk, got => exact got.elim
  | .ok .cont, got => exact got.elim⟩
theorem fn_raise (F : Fun K x qual st f fd) (S : FnScope N ps (defScope st)) (m : MX)
    (hbody : ∀ (cdv : Value) (A : Around) (outer : List Env) (s : Shared) (H : Hp) (E : XK), Room k (A.deeper (envOfC qual (defScope st) s.heap.objs.size f cdv)) → (A.deeper (envOfC qual (defScope st) s.heap.objs.size f cdv)).guards = some [] →
      Takes (cxOf (CX P w) P w K mg base N qual (defScope st) f cdv A outer s H E) (fun cls d _ H => E cls d H) → PSSX (cxOf (CX P w) P w K mg base N qual (defScope st) f cdv A outer s H E) (fun cls d _ H => E cls d H) (defBody st) m) :
    FnG P w K mg base (CX P w) (k + 1) f fd ps (spX K ps.length (runX N.length m)) := by
  refine fnG_of F S (fun vs H Q E h => ?_) fun cdv A outer s H vs Q E hr hg h => ?_
  · obtain ⟨_, _, _, e, _⟩ := h
    exact e
  · obtain ⟨T, ds, ex, e, t, r, hf, q⟩ := h
    refine ⟨_, hbody cdv A outer s H E hr hg (takes_of rfl rfl rfl rfl), ?_⟩
    have hpl : ps.length ≤ N.length := by have := congrArg List.length S.pre; rw [List.length_take] at this; omega
    simp only [runX, Option.map_eq_some_iff] at hf
    obtain ⟨⟨y, ρ'⟩, hm, rfl⟩ := hf
    refine ⟨_, T, _, _, _, _, sr_start (by rw [e]; exact hpl) t r, hm, fun C d S' own' σ' H' hn e' s' hd => ?_⟩
    have sb : Ex (Fz S' H') (Fz T H') := Fz.sub fun a m => s'.sub a m
    exact q C d H' hn (fun a o ha => s'.keep a o ha (fun m => nomatch (show a ∈ ([] : List Addr) from m))) (hd.mono sb)
end

/-! ### f(..), o.m(..) that raise -/
section
variable {K : PySem.W.Frag} {σ : L2.St} {H : Hp} {n l : Nat} {pm : List Nat} {g : List D → Option Exn} {mo : ME} {ma mk : MA} {W : WX} {Q : VK} {c m : Str} {k : Nat}
theorem reps_pick {S : List Addr} {vs : List V} {ds : List D} {n : Nat} (ra : RepL K (Fz S H) vs ds) (hl : ds.length = n) : ∀ {pm : List Nat}, (∀ i ∈ pm, i < n) → RepL K (Fz S H) (pm.map fun i => vs.getD i .non) (pm.map fun i => ds.getD i .non)
  | [], _ => .nil
  | i :: pm, hp => by
    refine .cons ?_ (reps_pick ra hl fun j hj => hp j (List.mem_cons_of_mem _ hj))
    have hi : i < ds.length := by rw [hl]; exact hp i List.mem_cons_self
    obtain ⟨v, hv, qv⟩ := ra.get (i := i) (List.getElem?_eq_getElem hi)
    show Rep K (Fz S H) (vs.getD i .non) (ds.getD i .non)
    rw [List.getD_eq_getElem?_getD, List.getD_eq_getElem?_getD, hv, List.getElem?_eq_getElem hi]
    exact qv
theorem ex_callX (hn : Fix ma n) (hk : Fix mk l) (hp : ∀ i ∈ pm, i < n + l) (hpk : pm.length = k) :
    texOf K W (xCallP g pm ma mk) σ H Q → tCallGS n l pm (spX K k g) (fun σ cls d H => W cls d σ H) (taOf K ma) (taOf K mk) σ H Q := by
  rintro ⟨cc, S, own, ρ, x, ρ', sr, hm, q⟩
  simp only [xCallP, Option.bind_eq_some_iff, Option.map_eq_some_iff] at hm
  obtain ⟨⟨ds, ρ1⟩, h1, ⟨es, ρ2⟩, h2, x', h3, e⟩ := hm
  cases e
  refine ⟨cc, S, own, ρ, ds, ρ1, sr, h1, fun vs H1 e1 s1 q1 => ⟨cc, S, own, ρ1, es, ρ2, s1, h2, fun zs H2 e2 s2 q2 => ⟨by rw [q1.length]; exact hn _ _ _ h1, by rw [q2.length]; exact hk _ _ _ h2, S, _, _, by rw [List.length_map]; exact hpk, s2.trk, ?_, h3, fun C d H' nn ex hd => q C d H' nn ((e1.trans e2).trans (Fz.ex ex)) (s2.ex ex) hd⟩⟩⟩
  exact reps_pick ((q1.mono e2).append q2) (by rw [List.length_append, hn _ _ _ h1, hk _ _ _ h2]) hp
theorem ex_meth (hn : Fix ma n) (hk : Fix mk l) (hp : ∀ i ∈ pm, i < n + 1 + l) (hpk : pm.length = k) :
    texOf K W (xMeth c m g pm mo ma mk) σ H Q → tMethGS c K m (n + 1) l pm (spX K k g) (fun σ cls d H => W cls d σ H) (teOf K mo) (taOf K ma) (taOf K mk) σ H Q := by
  rintro ⟨cc, S, own, ρ, x, ρ', sr, hm, q⟩
  simp only [xMeth, Option.bind_eq_some_iff] at hm
  obtain ⟨⟨o, ρ0⟩, h0, hm⟩ := hm
  refine ⟨cc, S, own, ρ, o, ρ0, sr, h0, fun xv H0 e0 s0 r0 => ?_⟩
  cases o <;> first | (cases hm; done) | skip
  rename_i c' fs'
  dsimp only at hm
  split at hm
  case isFalse => cases hm
  rename_i hc
  obtain ⟨rfl, hl0⟩ := hc
  simp only [Option.bind_eq_some_iff, Option.map_eq_some_iff] at hm
  obtain ⟨⟨ds, ρ1⟩, h1, ⟨es, ρ2⟩, h2, x', h3, e⟩ := hm
  cases e
  have r0' := r0
  cases r0 with
  | obj hH hN hF =>
    refine ⟨_, _, _, _, rfl, Fz.le _ _ hH, hN, hF.none hl0, cc, S, own, ρ0, ds, ρ1, s0, h1, fun vs H1 e1 s1 q1 => ⟨cc, S, own, ρ1, es, ρ2, s1, h2, fun zs H2 e2 s2 q2 => ⟨by rw [List.length_cons, q1.length, hn _ _ _ h1], by rw [q2.length]; exact hk _ _ _ h2, S, _, _, by rw [List.length_map]; exact hpk, s2.trk, ?_, h3, fun C d H' nn ex hd => q C d H' nn (((e0.trans e1).trans e2).trans (Fz.ex ex)) (s2.ex ex) hd⟩⟩⟩
    exact reps_pick ((RepL.cons ((r0'.mono e1).mono e2) (q1.mono e2)).append q2) (by rw [List.length_append, List.length_cons, hn _ _ _ h1, hk _ _ _ h2]) hp
end
section
variable {X : Cx} {W : WX} {CT : CXT} {k n : Nat} {f C : Addr} {fd : FuncData} {ps ks : List Str} {pm : List Nat} {c x m : Str} {p pos apos : Pos} {e o : Expr} {es : List Expr} {kws : List Keyword} {g : List D → Option Exn} {mo : ME} {ma mk : MA} {a : MX} {sp : Sp}
theorem tgs_nil {K : PySem.W.Frag} {E : L2.St → XK} {ta : TA} {σ : L2.St} {H : Hp} {Q : VK} {l : Nat} (h : tCallGS n l pm sp E ta (taOf K mNil) σ H Q) (mono : ∀ σ H (R R' : List V → Hp → Prop), (∀ v H', R v H' → R' v H') → ta σ H R → ta σ H R') : tCallGS n l pm sp E ta tNil σ H Q :=
  mono _ _ _ _ (fun v H' q => ea_nil _ _ _ q) h
theorem pex_callX (h : Hk X k) (tk : Takes X W) (F : FnG X.prog X.w X.K X.mg X.base (CX X.prog X.w) k f fd ps (spX X.K ps.length g)) (hg : Gl X x) (hm : X.mg x = some (.ref f)) (hk : PySem.W.keepIn X.K (.ref f) = true) (hb : Bd fd ps n [] pm) (hn : Fix ma n) (hp : ∀ i ∈ pm, i < n) (hpk : pm.length = ps.length)
    (ha : PAM X (e :: es) ma) (hdb : (x == ("__debug__" : Str)) = false := by decide) (he : starEach (e :: es) X.env = (false, eval e X.env) :: starEach es X.env := by rfl) (hpl : (backTo pos (starEach es X.env)).any (·.1) = false := by rfl) :
    PEX X W (.Call (.Name x p) (e :: es) [] pos) (xCallP g pm ma mNil) := PE.to (pe_callGS F h.room h.gd hg hm hk hb (takes_at tk) ha hdb he hpl) fun σ H Q q => tgs_nil (ex_callX (l := 0) hn fix_nil hp hpk q) ta_mono
theorem pex_callXK0 (h : Hk X k) (tk : Takes X W) (F : FnG X.prog X.w X.K X.mg X.base (CX X.prog X.w) k f fd ps (spX X.K ps.length g)) (hg : Gl X x) (hm : X.mg x = some (.ref f)) (hk : PySem.W.keepIn X.K (.ref f) = true) (hb : Bd fd ps 0 ks pm) (hl : Fix mk ks.length) (hp : ∀ i ∈ pm, i < ks.length) (hpk : pm.length = ps.length)
    (hkw : PKM X kws mk) (hall : (backToKw pos (keywordEach kws X.env)).all (·.1.isSome) = true := by rfl) (hks : (backToKw pos (keywordEach kws X.env)).filterMap (·.1) = ks := by rfl)
    (hdb : (x == ("__debug__" : Str)) = false := by decide)
    (hpl : ((backTo pos (starEach [] X.env)).any (·.1) || (backToKw pos (keywordEach kws X.env)).any (·.1.isNone)) = false := by rfl) :
    PEX X W (.Call (.Name x p) [] kws pos) (xCallP g pm mNil mk) := PE.to (pe_callGSK0 F h.room h.gd hg hm hk hb (takes_at tk) hkw hall hks hdb hpl) fun σ H Q q => ea_nil _ _ _ (ex_callX (n := 0) (l := ks.length) fix_nil hl (by simpa using hp) hpk q)
/-- a call of a def whose arguments raise -/
theorem pex_callA {ms : MA} (h : Hk X k) (F : FnG X.prog X.w X.K X.mg X.base CX0 k f fd ps sp) (hg : Gl X x) (hm : X.mg x = some (.ref f)) (hk : PySem.W.keepIn X.K (.ref f) = true) (hb : Bd fd ps n [] pm)
    (ha : PAX X W (e :: es) a) (hdb : (x == ("__debug__" : Str)) = false := by decide) (he : starEach (e :: es) X.env = (false, eval e X.env) :: starEach es X.env := by rfl) (hpl : (backTo pos (starEach es X.env)).any (·.1) = false := by rfl) :
    PEX X W (.Call (.Name x p) (e :: es) [] pos) a := PE.to (pe_callG (E := XF) F h.room h.gd hg hm hk hb pass0 ha hdb he hpl) fun σ H Q q => q
theorem pex_meth {pl : Sem Bool} (h : Hk X k) (tk : Takes X W) (ho : PEM X o mo) (hn' : ClsN X.K c C) (cl : Cls X.K C) (hm : Meth X.K C m f) (F : FnG X.prog X.w X.K X.mg X.base (CX X.prog X.w) k f fd ps (spX X.K ps.length g)) (hb : Bd fd ps (n + 1) [] pm) (hn : Fix ma n) (hp : ∀ i ∈ pm, i < n + 1) (hpk : pm.length = ps.length) (ha : PAM X (e :: es) ma)
    (hst : starEach (e :: es) X.env = (false, eval e X.env) :: starEach es X.env := by rfl) (hpl : (backTo pos (starEach es X.env)).any (·.1) = false := by rfl)
    (ht : eval (.Call (.Attribute o m apos) (e :: es) [] pos) X.env = (eval o X.env >>= fun ov => standAt apos.atName >>= fun _ => holding [ov] (getMethod ov m pl) >>= fun z => callWith pos z.1 z.2 (backTo pos (starEach (e :: es) X.env)) (backToKw pos (keywordEach [] X.env))) := by rfl) :
    PEX X W (.Call (.Attribute o m apos) (e :: es) [] pos) (xMeth c m g pm mo ma mNil) := PE.to (pe_methGS ho hn' cl hm F h.room h.gd hb (takes_at tk) ha hst hpl ht) fun σ H Q q => by
  have q := ex_meth (l := 0) hn fix_nil hp hpk q
  obtain ⟨c1, S, own, ρ, o, ρ0, sr, h0, k⟩ := q
  exact ⟨c1, S, own, ρ, o, ρ0, sr, h0, fun v H1 e1 s1 r1 => by
    obtain ⟨a, C, dx, fs, b1, b2, b3, b4, b5⟩ := k v H1 e1 s1 r1
    exact ⟨a, C, dx, fs, b1, b2, b3, b4, ta_mono _ _ _ _ (fun v H' q => ea_nil _ _ _ q) b5⟩⟩
theorem pex_methK0 {pl : Sem Bool} (h : Hk X k) (tk : Takes X W) (ho : PEM X o mo) (hn' : ClsN X.K c C) (cl : Cls X.K C) (hm : Meth X.K C m f) (F : FnG X.prog X.w X.K X.mg X.base (CX X.prog X.w) k f fd ps (spX X.K ps.length g)) (hb : Bd fd ps 1 ks pm) (hl : Fix mk ks.length) (hp : ∀ i ∈ pm, i < 1 + ks.length) (hpk : pm.length = ps.length) (hkw : PKM X kws mk)
    (hall : (backToKw pos (keywordEach kws X.env)).all (·.1.isSome) = true := by rfl) (hks : (backToKw pos (keywordEach kws X.env)).filterMap (·.1) = ks := by rfl)
    (hpl : ((backTo pos (starEach [] X.env)).any (·.1) || (backToKw pos (keywordEach kws X.env)).any (·.1.isNone)) = false := by rfl)
    (ht : eval (.Call (.Attribute o m apos) [] kws pos) X.env = (eval o X.env >>= fun ov => standAt apos.atName >>= fun _ => holding [ov] (getMethod ov m pl) >>= fun z => callWith pos z.1 z.2 (backTo pos (starEach [] X.env)) (backToKw pos (keywordEach kws X.env))) := by rfl) :
    PEX X W (.Call (.Attribute o m apos) [] kws pos) (xMeth c m g pm mo mNil mk) := PE.to (pe_methGSK0 ho hn' cl hm F h.room h.gd hb (takes_at tk) hkw hall hks hpl ht) fun σ H Q q => by
  have q := ex_meth (n := 0) (l := ks.length) fix_nil hl (by simpa using hp) hpk q
  obtain ⟨c1, S, own, ρ, o, ρ0, sr, h0, k⟩ := q
  exact ⟨c1, S, own, ρ, o, ρ0, sr, h0, fun v H1 e1 s1 r1 => by
    obtain ⟨a, C, dx, fs, b1, b2, b3, b4, b5⟩ := k v H1 e1 s1 r1
    exact ⟨a, C, dx, fs, b1, b2, b3, b4, ea_nil _ _ _ b5⟩⟩
end
end TL

set_option maxHeartbeats 2000000
namespace TL
open PySem PySem.Spec PyProof.Rows L2
/-! ### an own exception over Exception whose __init__ keeps its one argument -/
abbrev exTl : List Value := [.type "Exception", .type "BaseException", .type "object"]
def xA (p : Str) (p1 p2 : Pos) : Arguments := { posonlyargs := [], args := [{ arg := "self", annotation := none, pos := p1 }, { arg := p, annotation := none, pos := p2 }], vararg := none, kwonlyargs := [], kw_defaults := [], kwarg := none, defaults := [] }
def xB (p : Str) (q1 q2 q3 q4 : Pos) : List Stmt := [.Assign [.Attribute (.Name "self" q1) p q2] (.Name p q3) q4]
def xS (p : Str) : Scope := { kind := .function, names := [("self", .local), (p, .local)], isGenerator := false, isCoroutine := false, more := [] }
/-- the class c, at C, with the field p -/
structure ExcT (K : PySem.W.Frag) (mg : Str → Option Value) (c p qual : Str) (C fI : Addr) : Prop where
  gC : mg c = some (.ref C)
  nm : ClsN K c C
  ini : PySem.W.excInitIn K C exTl "Exception.__new__" = true
  ov : PySem.W.excOver K C exTl = true
  hd : PySem.W.hasDictIn K C = true
  sa : PySem.W.findIn K (.ref C) "__setattr__" = some (some (.builtin "object.__setattr__"))
  no : PySem.W.findIn K (.ref C) p = some none
  iC : PySem.W.findIn K (.ref C) "__init__" = some (some (.ref fI))
  isF : PySem.W.isFn K (.ref fI) = true
  kC : PySem.W.keepIn K (.ref C) = true
  exC : PySem.W.subIn K (.ref C) (.type "BaseException") = some true
  tyC : PySem.W.typeIn K (.ref C) = some (.type "type")
  fn : ∃ (oc : Value) (od : Option Addr) (kV doc pm : Value) (an : Option Addr) (cdv ct : Value) (osl : Array (Option Value)) (p1 p2 q1 q2 q3 q4 : Pos),
    K.lookup fI = some ⟨oc, od, .func (PySem.W.fnOf "__init__" qual (xA p p1 p2) (xB p q1 q2 q3 q4) (xS p) .none kV doc pm an cdv ct), osl⟩ ∧ PySem.W.codeIn K cdv qual = true ∧
    ∀ (z : Shared) (x v : Value), BindsTo z (PySem.W.fnOf "__init__" qual (xA p p1 p2) (xB p q1 q2 q3 q4) (xS p) .none kV doc pm an cdv ct) ⟨[x, v], []⟩ [("self", x), (p, v)]
section
variable {prog : Program} {w : World} {A : Around} {E : Value → Shared → Prop} {R : Result → Shared → Prop} {hp : Heap} {g : Array GenState} {d : Drawn} {t : Nat} {os : OsState} {K : PySem.W.Frag} {mg : Str → Option Value} {c p qual : Str} {C fI : Addr}
/-- the first field of such an exception -/
theorem exc_keep1 (T : ExcT K mg c p qual C fI) {x : Addr} {v : Value} {tk : Tok} {fv : Array Value} (X : K.In hp) (hx : hp.get? x = some { cls := .ref C, data := .fields fv })
    (hq : ∀ h' tk' dx, (∀ b o, b ≠ x → hp.get? b = some o → h'.get? b = some o) → hp.objs.size ≤ dx → dx ≠ x → h'.get? x = some { cls := .ref C, dict := some dx, data := .fields fv } →
      h'.Ns1 dx (fun y => if y = p then some v else none) → R (.ok (.ret .none)) ⟨h', g, d, tk', os⟩) :
    codeAny (model prog w) A (.call (.builtin "object.__setattr__") ⟨[.ref x, .str p tk, v], []⟩) R ⟨hp, g, d, t, os⟩ := by
  have I : PySem.W.InstAt hp x { cls := .ref C, data := .fields fv } C none := ⟨hx, rfl, rfl, trivial⟩
  have hxs : x ≠ hp.objs.size := Nat.ne_of_lt (Heap.lt_size hx)
  obtain ⟨cd, hcd, hdict⟩ := PySem.W.any_some T.hd
  have hcls : PySem.W.Looks (model prog w) hp (classData C) cd := PySem.W.looks_clsIn X hcd
  have tkr : PySem.W.takerIn K C p = some none := NoAttr.taker (show NoAttr K C p from T.no)
  refine PySem.W.osa_openX (s := ⟨hp, g, d, t, os⟩) PySem.F.store_Exception X I T.ov tkr fun b => ?_
  show wpAny _ _ (Builtin.ObjectAttr.storeInOwnDict (.ref x) (.ref C) (.str p tk) p v b) _ _ _
  obtain ⟨nm, bs, mro, ns, qn, hd', sn, sb, ab, col, del⟩ := cd
  (try dsimp only at hdict)
  subst hdict
  unfold Builtin.ObjectAttr.storeInOwnDict Builtin.ObjectAttr.ownDictForStores
  repeat (first | with_reducible refine PySem.HandSPX.store_in_new ?_ ?_ | with_reducible refine wpAny_loadPart_at hx ?_ | with_reducible refine hcls.at ?_ | wp_step)
  · exact ⟨_, #[], _, (Heap.get?_update_ne _ _ _ _ hxs.symm).trans (Heap.get?_push_at rfl rfl), rfl, fun e he => absurd he (by simp), fun _ => rfl⟩
  · intro h1 tk1 hn hs
    have hx1 : (hp.push { cls := .type "dict", data := .dict #[] }).get? x = some { cls := .ref C, data := .fields fv } := Heap.get?_push_of_some _ hx
    exact hq h1 tk1 hp.objs.size (fun b o hb ho => (hs.2 b (Nat.ne_of_lt (Heap.lt_size ho))).trans ((Heap.get?_update_ne _ _ _ _ hb).trans (Heap.get?_push_of_some _ ho))) (Nat.le_refl _) hxs.symm
      ((hs.2 x hxs).trans (Heap.get?_update_self _ hx1 rfl)) hn
end
end TL

set_option maxHeartbeats 2000000
namespace TL
open PySem PySem.Spec PyProof.Rows L2
/-- a name that is no self -/
structure PName (p : Str) : Prop where
  ns : (p == ("self" : Str)) = false
  nd : (p == ("__debug__" : Str)) = false
theorem PName.ne {p : Str} (h : PName p) : p ≠ "self" := fun e => by have := h.ns; rw [e] at this; simp at this
section
variable {prog : Program} {w : World} {A : Around} {E : Value → Shared → Prop} {R : Result → Shared → Prop} {s : Shared} {K : PySem.W.Frag} {mg : Str → Option Value} {c p qual : Str} {C fI : Addr}
theorem xS_p (p : Str) : (xS p).names.lookup p = some NameKind.local := by
  unfold xS
  rw [List.lookup_cons]
  cases h : (p == ("self" : Str)) with
  | true => rfl
  | false => simp [List.lookup_cons]
theorem xS_self (p : Str) : (xS p).names.lookup ("self" : Str) = some NameKind.local := by
  unfold xS
  simp [List.lookup_cons]
/-- what __init__ leaves of a fresh one at x -/
structure Kept1 (h h' : Heap) (x C dx t1 : Addr) (p : Str) (v : Value) : Prop where
  keep : ∀ b o, b ≠ x → h.get? b = some o → h'.get? b = some o
  obj : h'.get? x = some { cls := .ref C, dict := some dx, data := .fields #[.ref t1, .none, .none, .none, .bool false, .none] }
  big : h.objs.size ≤ dx
  ne : dx ≠ x
  ns : h'.Ns1 dx (fun y => if y = p then some v else none)
theorem ld1 {M : Model} {name : Str} {scope : Scope} {L a : Addr} {cd : Value} {m : Str → Option Value} {x : Str} {pos : Pos} {v : Value} {Q : Value → Shared → Prop} (hn : s.heap.Ns L m) (hv : m x = some v) (h : Q v s)
    (hk : scope.kind = .function) (hl : (envOfC name scope L a cd).kindOf x = some .local) (hd : (x == ("__debug__" : Str)) = false) :
    wpAny M A (eval (.Name x pos) (envOfC name scope L a cd)) Q E s := wpAny_Name (wpAny_loadName_local hk hl hn hv h) hd
theorem exc_init1 (T : ExcT K mg c p qual C fI) (P : PName p) {x t0 : Addr} {v : Value} (X : K.In s.heap) (hlim : s.heap.NoLimit) (hx : s.heap.get? x = some (PySem.HandSPX.excO C t0)) (hroom : A.depth < recursionLimit)
    (hq : ∀ h' tk dx, Kept1 s.heap h' x C dx t0 p v → R (.ok (.ret .none)) { s with heap := h', toks := tk }) :
    codeAny (model prog w) A (.call (.ref fI) ⟨[.ref x, v], []⟩) R s := by
  obtain ⟨oc, od, kV, doc, pm, an, cdv, ct, osl, p1, p2, q1, q2, q3, q4, ho, hcd, hbd⟩ := T.fn
  have k1 : ∀ {nm : Str} {L a : Addr} {cd : Value}, (envOfC nm (xS p) L a cd).kindOf p = some .local := fun {nm L a cd} => xS_p p
  have k2 : ∀ {nm : Str} {L a : Addr} {cd : Value}, (envOfC nm (xS p) L a cd).kindOf "self" = some .local := fun {nm L a cd} => xS_self p
  refine _root_.Att.call_fn (binds := [("self", .ref x), (p, v)]) X hlim ho hcd hroom (hbd s (.ref x) v) (by simp [xS_p, xS_self]) (fun s1 IC => ?_) rfl rfl rfl
  obtain ⟨h1, tk1, rfl⟩ := IC.toInCall.same
  have k : ∀ b o, s.heap.get? b = some o → h1.get? b = some o := IC.toInCall.keep
  have hn := IC.toInCall.ns
  have mp : (bindL (envOfC qual (xS p) s.heap.objs.size fI cdv).kindOf [("self", Value.ref x), (p, v)] fun _ => none) p = some v := by
    simp only [bindL, k1, k2, if_true]
  have ms : (bindL (envOfC qual (xS p) s.heap.objs.size fI cdv).kindOf [("self", Value.ref x), (p, v)] fun _ => none) "self" = some (Value.ref x) := by
    simp only [bindL, k1, k2, if_true]
    rw [if_neg (fun e => P.ne e.symm)]
  show wpAny _ _ (execs _ _) _ _ _
  unfold xB
  refine wpAny_execs_cons (plainObj_wpAny_Assign_Attribute ?_)
  refine ld1 hn mp (ld1 hn ms ?_ rfl k2 (by decide)) rfl k1 P.nd
  refine PySem.W.set_plain (X.keeps k) (ox := PySem.HandSPX.excO C t0) (od := none) ⟨k _ _ hx, rfl, rfl, trivial⟩ T.sa ?_
  refine exc_keep1 T (X.keeps k) (k _ _ hx) fun h3 tk3 dx k3 dn dne hx3 hn3 => ?_
  show wpAny _ _ (execs _ _) _ _ _
  have z : s.heap.objs.size < h1.objs.size := hn.lt
  exact wpAny_execs_nil (hq h3 tk3 dx ⟨fun b o hb e => k3 b o hb (k b o e), hx3, Nat.le_of_lt (Nat.lt_of_lt_of_le z dn), dne, hn3⟩)
/-- one that is made -/
structure Made1 (h h' : Heap) (e C d : Addr) (p : Str) (v : Value) : Prop where
  keep : ∀ b o, h.get? b = some o → h'.get? b = some o
  new : h.objs.size ≤ e
  obj : ∃ oe vs, h'.get? e = some oe ∧ oe.cls = .ref C ∧ oe.dict = some d ∧ oe.data = .fields vs ∧ vs[1]? = some .none
  big : h.objs.size ≤ d
  ne : d ≠ e
  ns : h'.Ns1 d (fun y => if y = p then some v else none)
theorem exc_made1 (T : ExcT K mg c p qual C fI) (P : PName p) {v : Value} (X : K.In s.heap) (hlim : s.heap.NoLimit) (hroom : A.depth + 1 < recursionLimit)
    (hq : ∀ h' tk e d, Made1 s.heap h' e C d p v → R (.ok (.ret (.ref e))) { s with heap := h', toks := tk }) :
    codeAny (model prog w) A (.call (.ref C) ⟨[v], []⟩) R s := by
  obtain ⟨nm, N', qn, bs, bm, hdct, sn, sub, ab, col, dd, k0, k1, k2, k3, k5, hC, hT⟩ := PySem.W.excInit_of X T.ini
  obtain ⟨hp, g, dr, tk, os⟩ := s
  have tyI : PySem.W.typeIn K (.ref fI) = some (.type "function") := beq_iff_eq.mp T.isF
  have k : ∀ b o, hp.get? b = some o → ((hp.push (PySem.W.kdv_tup [v])).push (PySem.HandSPX.excO C hp.objs.size)).get? b = some o := fun b o e => Heap.get?_push_of_some _ (Heap.get?_push_of_some _ e)
  have hget : ((hp.push (PySem.W.kdv_tup [v])).push (PySem.HandSPX.excO C hp.objs.size)).get? (hp.objs.size + 1) = some (PySem.HandSPX.excO C hp.objs.size) := by heap_get
  refine PySem.HandSPX.call_own PySem.F.excBase_Exception hT hC (PySem.W.looks_findIn X T.iC) (fun self => PySem.W.bind_fn X self tyI) (by show 1 ≤ sizeLine; decide) ?_
  refine exc_init1 (s := ⟨(hp.push (PySem.W.kdv_tup [v])).push (PySem.HandSPX.excO C hp.objs.size), g, dr, tk, os⟩) T P (X.keeps k) (hlim.keeps k) hget ?_ fun h' tk' dx J => ?_
  · show A.depth + 1 < recursionLimit
    exact hroom
  · have old : ∀ b o, hp.get? b = some o → h'.get? b = some o := fun b o e => J.keep b o (Nat.ne_of_lt (Nat.lt_succ_of_lt (Heap.lt_size e))) (k b o e)
    have z : hp.objs.size + 1 + 1 ≤ dx := by
      have q := J.big
      first
        | exact q
        | (rw [Heap.size_push, Heap.size_push] at q; exact q)
        | simpa only [Heap.size_push] using q
    exact ⟨rfl, hq h' tk' (hp.objs.size + 1) dx ⟨old, Nat.le_succ _, ⟨_, _, J.obj, rfl, rfl, rfl, rfl⟩, Nat.le_trans (Nat.le_trans (Nat.le_succ _) (Nat.le_succ _)) z, J.ne, J.ns⟩⟩
end
theorem relO1 {p : Str} {v : V} {v' : Value} (r : RelV v v') (f : Str) : RelO (List.lookup f [(p, v)]) (if f = p then some v' else none) := by
  rw [List.lookup_cons]
  by_cases hw : f = p
  · subst hw
    rw [if_pos rfl]
    simp only [beq_self_eq_true]
    exact r
  · rw [if_neg hw]
    have qw : (f == p) = false := by simpa using hw
    rw [qw]
    trivial
section
variable {X : Cx} {c p qual : Str} {C fI : Addr}
def tMk1 (C : Addr) (p : Str) (ta : TA) : L2.St → Hp → XK → Prop := fun σ H Q => ta σ H fun vs H1 => ∃ v, vs = [v] ∧ ∀ d, H1 d = none → Q (.ref C) (some d) (upd H1 d (.xd [(p, v)]))
theorem pmk_1 {a : Expr} {ta : TA} {pp pos : Pos} {k : Nat} (T : ExcT X.K X.mg c p qual C fI) (P : PName p) (hr : Room k X.A) (ha : PA X [a] ta) (hg : Gl X c) (hdb : (c == ("__debug__" : Str)) = false := by decide)
    (he : starEach (a :: []) X.env = (false, eval a X.env) :: starEach [] X.env := by rfl) (hpl : (backTo pos (starEach [] X.env)).any (·.1) = false := by rfl) :
    PMk X (.Call (.Name c pp) [a] [] pos) (tMk1 C p ta) := by
  intro pins s σ H Q I h
  refine wpAny_Call_Name_kw (ld_glob I hg T.gC ?_ hdb)
  refine PySem.W.callWith_K (h₀ := X.base) I.ok.mod.kin T.kC (thn (ha.run pos pins s σ H _ I h) fun us s1 hh => ?_) he hpl
  obtain ⟨vs, H1, I1, r1, v, rfl, q1⟩ := hh
  refine ⟨I1.kIn, ?_⟩
  obtain ⟨u, ws, rfl, rv, rr⟩ := Vals.cons_inv r1
  cases rr
  have lim : s1.heap.NoLimit := I1.env0.mod.nolimit.keeps fun b o e => (I1.env0.bs b o e).1
  have dp := hr.dp
  refine wpAny_call (exc_made1 T P I1.kIn lim (by omega) fun h' tk' e d M => ?_)
  obtain ⟨hp, g, dr, tk, os⟩ := s1
  show MkP X pins σ Q (.ref e) ⟨h', g, dr, tk', os⟩
  obtain ⟨oe, fv, hoe, hc, hd, hdat, h1⟩ := M.obj
  obtain ⟨G, g1, g2⟩ := restrict h' fun b => decide (b ≠ e)
  have gk : ∀ b, b ≠ e → G.get? b = h'.get? b := fun b hb => g1 b (decide_eq_true hb)
  have ge : G.get? e = none := g2 e (by simp)
  have old : ∀ b o, hp.get? b = some o → G.get? b = some o := fun b o q => (gk b (Nat.ne_of_lt (Nat.lt_of_lt_of_le (Heap.lt_size q) M.new))).trans (M.keep b o q)
  have ob : ObjOk X.prog X.w (upd H1 d (.xd [(p, v)])) G d (.xd [(p, v)]) := ⟨_, M.ns.at (fun o q => (gk d M.ne).trans q), fun f => relO1 rv f⟩
  have J : Inv X pins σ (upd H1 d (.xd [(p, v)])) ⟨G, g, dr, tk', os⟩ := I1.laid (t' := tk') old M.big ob
  refine ⟨e, oe, fv, ⟨G, g, dr, tk', os⟩, _, .ref C, some d, rfl, J, fun b o q => ?_, ge, hoe, ⟨hc, hd⟩, hdat, h1, ?_, rfl, I1.bare, raises_own T.exC T.tyC, q1 d (I1.hok.fresh M.big)⟩
  · by_cases hb : b = e
    · have q' : G.get? b = some o := q
      rw [hb, ge] at q'; cases q'
    · exact (gk b hb).symm.trans q
  · rw [upd_ne (Ne.symm M.ne)]
    exact I1.hok.fresh M.new
end
end TL

namespace TL
open PySem PySem.Spec L2

/-! ### raise C(e) -/
def xRaise1 (c p : Str) (ma : MA) : MX := fun ρ => (ma ρ).bind fun q => match q.1 with
  | [d] => some ((c, [(p, d)]), q.2)
  | _ => none
section
variable {X : Cx} {W : WX} {c p qual : Str} {C fI : Addr} {a : Expr} {ma : MA} {pp pos pos2 : Pos} {k : Nat}
theorem psx_raise1 (hc : X.calm = true) (tk : Takes X W) (T : ExcT X.K X.mg c p qual C fI) (P : PName p) (hr : Room k X.A) (ha : PAM X [a] ma) (hg : Gl X c) (hdb : (c == ("__debug__" : Str)) = false := by decide)
    (he : starEach (a :: []) X.env = (false, eval a X.env) :: starEach [] X.env := by rfl) (hpl : (backTo pos (starEach [] X.env)).any (·.1) = false := by rfl) :
    PSX X W (.Raise (some (.Call (.Name c pp) [a] [] pos)) none pos2) (xRaise1 c p ma) := PS.to (ps_raise hc tk (pmk_1 T P hr ha hg hdb he hpl)) fun D σ H q => by
  obtain ⟨cc, S, own, ρ, x, ρ', sr, hm, q⟩ := q
  simp only [xRaise1, Option.bind_eq_some_iff] at hm
  obtain ⟨⟨ds, ρ1⟩, h1, h2⟩ := hm
  refine ⟨cc, S, own, ρ, ds, ρ1, sr, h1, fun vs H1 e1 s1 q1 => ?_⟩
  match ds, q1, h2 with
  | [d], .cons (v := v) r1 .nil, h2 =>
    cases h2
    refine ⟨v, rfl, fun dx hd => ?_⟩
    have ex : Ex H1 (upd H1 dx (.xd [(p, v)])) := Ex.new hd
    exact q C (some dx) S own σ _ T.nm (e1.trans (Fz.ex ex)) (s1.ex ex) (.inl ⟨dx, [(p, v)], rfl, fz_new s1.trk hd, .cons (r1.mono (Fz.ex ex)) .nil⟩)
  | [], _, h2 => cases h2
  | _ :: _ :: _, _, h2 => cases h2
end

/-! ### try: .. except C as n: .. -/
def resDrop (i : Nat) : Res → Res
  | .nx ρ => .nx (ρ.set i .no)
  | .rt d ρ => .rt d (ρ.set i .no)
  | .bk ρ => .bk (ρ.set i .no)
  | .ct ρ => .ct (ρ.set i .no)
def resPlain (i : Nat) : Res → Bool
  | .nx ρ => plainAt ρ i
  | .rt _ ρ => plainAt ρ i
  | .bk ρ => plainAt ρ i
  | .ct ρ => plainAt ρ i
/-- the suite ms, whatever the places a, d of what was raised and of its fields are -/
def Suit (i : Nat) (ms : Addr → Option Addr → MS) (x : Exn) (ρ : List Cell) (r : Res) : Prop := ∀ a d, ∃ r0, ms a d (ρ.set i (.d (.exc a d x.1 x.2))) = some r0 ∧ resPlain i r0 = true ∧ resDrop i r0 = r
open Classical in
noncomputable def mTry (i : Nat) (cc : Str) (m : MS) (mx : MX) (ms : Addr → Option Addr → MS) : MS := fun ρ => match m ρ with
  | some r => some r
  | none => (mx ρ).bind fun y => if plainAt y.2 i = true ∧ y.1.1 = cc then (if h : ∃ r, Suit i ms y.1 y.2 r then some (Classical.choose h) else none) else none
theorem ev_tryX {i : Nat} {cc : Str} {m : MS} {mx : MX} {ms : Addr → Option Addr → MS} {ρ ρ1 : List Cell} {x : Exn} {r : Res} (h0 : m ρ = none) (h1 : mx ρ = some (x, ρ1)) (h2 : plainAt ρ1 i = true) (h3 : x.1 = cc) (h4 : Suit i ms x ρ1 r) : mTry i cc m mx ms ρ = some r := by
  unfold mTry
  rw [h0]
  simp only [h1, Option.bind_some]
  rw [if_pos ⟨h2, h3⟩, dif_pos ⟨r, h4⟩]
  have hc := Classical.choose_spec (⟨r, h4⟩ : ∃ r, Suit i ms x ρ1 r)
  obtain ⟨r0, e1, _, e3⟩ := h4 0 none
  obtain ⟨r1, f1, _, f3⟩ := hc 0 none
  rw [e1] at f1
  cases f1
  rw [← f3, e3]
theorem ev_tryN {i : Nat} {cc : Str} {m : MS} {mx : MX} {ms : Addr → Option Addr → MS} {ρ : List Cell} {r : Res} (h0 : m ρ = some r) : mTry i cc m mx ms ρ = some r := by
  unfold mTry
  rw [h0]
theorem SR.forget {K : PySem.W.Frag} {c : Cn} {S : List Addr} {own : Nat → List Addr} {σ : L2.St} {H : Hp} {ρ : List Cell} {i : Nat} (r : SR K c S own σ H ρ) (h : plainAt ρ i = true) : SR K c S own (σ.set i none) H (ρ.set i .no) := by
  have ho := r.plain h
  refine ⟨by rw [List.length_set, List.length_set]; exact r.len, fun j x hj => ?_, r.apart, r.ownS, r.sub, r.trk, r.trk0, r.keep, r.tS, r.tdk⟩
  by_cases e : j = i
  · subst e
    rw [List.getElem?_set_self (plainAt_lt h)] at hj
    cases hj
    exact ho
  · rw [List.getElem?_set_ne (fun z => e z.symm)] at hj ⊢
    exact r.cell j x hj
theorem sm_try {K : PySem.W.Frag} {D : Ends} {σ : L2.St} {H : Hp} {i : Nat} {cc : Str} {Cn : Value} {m : MS} {mx : MX} {ms : Addr → Option Addr → MS} {Wout : WX} (hex : ∀ C, ClsN K cc C → PySem.W.exmOne K (.ref C) Cn = some true) :
    tsOf K (mTry i cc m mx ms) D σ H → tsOf K m D σ H ∨ txOf K (wAs K Cn i (fun a cls d D σ H => ∃ C, cls = .ref C ∧ ClsN K cc C ∧ tsOf K (ms a d) D σ H) Wout D) mx D σ H := by
  rintro ⟨c, S, own, ρ, r, sr, hm, k⟩
  unfold mTry at hm
  split at hm
  · rename_i e
    cases hm
    exact .inl ⟨c, S, own, ρ, _, sr, e, k⟩
  · rename_i e
    right
    simp only [Option.bind_eq_some_iff] at hm
    obtain ⟨⟨x, ρ1⟩, h1, h2⟩ := hm
    split at h2
    case isFalse => cases h2
    rename_i hp
    obtain ⟨hp, hcc⟩ := hp
    split at h2
    case isFalse => cases h2
    rename_i hs
    have su := Classical.choose_spec hs
    generalize Classical.choose hs = rr at su h2
    cases h2
    refine ⟨c, S, own, ρ, x, ρ1, sr, h1, fun C d S' own' σ' H' nn e' s' hd => ?_⟩
    have hcc : x.1 = cc := hcc
    have hp : plainAt ρ1 i = true := hp
    refine ⟨true, hex C (hcc ▸ nn), fun _ a ha => ⟨C, rfl, hcc ▸ nn, ?_⟩, fun z => nomatch z⟩
    obtain ⟨r0, g1, g2, g3⟩ := su a d
    refine ⟨c, S', _, _, r0, s'.set (s'.plain hp) hd.rep, g1, ?_⟩
    subst g3
    cases r0 with
    | nx ρ2 => exact fun S2 own2 σ2 H2 e2 s2 => k S2 own2 _ H2 (e'.trans e2) (s2.forget g2)
    | rt v ρ2 => exact fun u S2 own2 σ2 H2 e2 s2 q2 => k u S2 own2 _ H2 (e'.trans e2) (s2.forget g2) q2
    | bk ρ2 => exact fun S2 own2 σ2 H2 e2 s2 => k S2 own2 _ H2 (e'.trans e2) (s2.forget g2)
    | ct ρ2 => exact fun S2 own2 σ2 H2 e2 s2 => k S2 own2 _ H2 (e'.trans e2) (s2.forget g2)
section
variable {X : Cx} {x n cc : Str} {Cv : Value} {i : Nat} {body suite : List Stmt} {b₀ : Stmt} {np pos pos' : Pos} {m : MS} {mx : MX} {ms : Addr → Option Addr → MS}
theorem takes_false {X : Cx} : Takes X (fun _ _ _ _ => False) := fun u s ⟨_, _, _, _, _, _, _, _, _, _, _, _, _, _, _, _, w⟩ => w.elim
theorem psm_try (hs : X.stack = X.env :: X.outer) (hf : X.env.frame = some X.env.locals) (hN : X.N.Nodup) (hi : X.N[i]? = some n) (hln : X.env.kindOf n = some .local) (hc : Names X x Cv) (hex : ∀ C, ClsN X.K cc C → PySem.W.exmOne X.K (.ref C) Cv = some true)
    (hb : ∀ (pn : List (Addr × Obj)) (xe : Value → Shared → Prop), PSSM (X.tr pn xe) body m)
    (hx : ∀ (W : WX) (pn : List (Addr × Obj)) (xe : Value → Shared → Prop), Takes (X.tr pn xe) W → PSSX (X.tr pn xe) W body mx)
    (hsu : ∀ (a : Addr) (oe : Obj) (C : Addr) (dd : Option Addr) (pn : List (Addr × Obj)), ClsN X.K cc C → Zc (.ref C) dd oe → (∃ vs, oe.data = .fields vs) → PSSM (X.suite a ((a, oe) :: pn)) (b₀ :: suite) (ms a dd)) :
    PSM X (.Try body [.ExceptHandler (some (.Name x np)) (some n) (b₀ :: suite) pos'] [] [] pos) (mTry i cc m mx ms) :=
  PS.to (ps_try_as hs hf hN hi hln hc takes_false (tb := fun W D σ H => tsOf X.K m D σ H ∨ txOf X.K W mx D σ H) (ts := fun a cls d D σ H => ∃ C, cls = .ref C ∧ ClsN X.K cc C ∧ tsOf X.K (ms a d) D σ H)
    (fun W pn xe tk _ => PSs.or2 (hb pn xe) (hx W pn xe tk))
    (fun a oe cls d pn hz hd => ⟨fun pins s σ H D I z => by
      obtain ⟨C, rfl, nn, z⟩ := z
      exact (hsu a oe C d pn nn hz hd).run pins s σ H D I z⟩)) fun D σ H q => sm_try hex q
end

/-! ### what the suite asks of it -/
def dXf (a : Addr) (d : Option Addr) (c f : Str) : D → Option D
  | .exc a' d' c' fs => if a' = a ∧ d' = d ∧ c' = c then fs.lookup f else none
  | _ => none
/-- what its class must say -/
structure ExcK (K : PySem.W.Frag) (c : Str) (C : Addr) : Prop where
  nm : ClsN K c C
  ga : PySem.W.findIn K (.ref C) "__getattribute__" = some (some (.builtin "BaseException.__getattribute__"))
  gg : PySem.W.findIn K (.ref C) "__getattr__" = some none
  exC : PySem.W.subIn K (.ref C) (.type "BaseException") = some true
  hd : PySem.W.hasDictIn K C = true
  cl : PySem.W.findIn K (.ref C) "__class__" = some (some (.builtin "object.__class__"))
  sp : PySem.W.specialIn K (.builtin "object.__class__") "__get__" = some (some (.builtin "getset_descriptor.__get__"))
  tk : PySem.W.takesIn K (.builtin "object.__class__") = some true
  mr : PySem.W.mroIn K C (.type "object") = some true
section
variable {X : Cx} {a C : Addr} {dd : Option Addr} {oe : Obj} {pn : List (Addr × Obj)} {e : Expr} {me : ME} {p pos : Pos} {c f y : Str}
theorem pem_xf (T : ExcK X.K c C) (hno : PySem.W.findIn X.K (.ref C) f = some none) (hz : Zc (.ref C) dd oe) (hf : ∃ vs, oe.data = .fields vs) (he : PEM (X.suite a ((a, oe) :: pn)) e me) (hb : attributeBase e f X.env (eval e X.env) = eval e X.env := by rfl) :
    PEM (X.suite a ((a, oe) :: pn)) (.Attribute e f pos) (mUn (dXf a dd c f) me) :=
  PE.to (pe_xf (X := X) ⟨T.ga, T.gg, T.exC, T.hd⟩ hno hz hf he hb) fun σ H Q q => by
    obtain ⟨cc, S, own, ρ, d, ρ', sr, hm, k⟩ := q
    unfold mUn at hm
    simp only [Option.bind_eq_some_iff, Option.map_eq_some_iff] at hm
    obtain ⟨⟨z, ρ1⟩, h1, d', h3, ez⟩ := hm
    cases ez
    refine ⟨cc, S, own, ρ, z, ρ1, sr, h1, fun v H1 e1 s1 r1 => ?_⟩
    cases r1 <;> first | (cases h3; done) | skip
    · rename_i a0 dx0 nm xs ds hH hF
      simp only [dXf] at h3
      split at h3
      case isFalse => cases h3
      rename_i hc
      obtain ⟨rfl, rfl, rfl⟩ := hc
      obtain ⟨u, e2, q2⟩ := hF.look h3
      exact ⟨rfl, rfl, _, xs, u, rfl, Fz.le _ _ hH, e2, k u H1 e1 s1 q2⟩
    · simp [dXf] at h3
def dXis (a : Addr) (d : Option Addr) (c : Str) (b : Bool) : D → Option D
  | .exc a' d' c' _ => if a' = a ∧ d' = d ∧ c' = c then some (.bl b) else none
  | _ => none
theorem pem_xis {Cy : Addr} {py : Pos} {b : Bool} (T : ExcK X.K c C) (hk : PySem.W.kitOne X.K (.ref C) (.ref Cy) = some b) (hz : Zc (.ref C) dd oe) (hf : ∃ vs, oe.data = .fields vs)
    (hg : Gl X "isinstance") (hm : X.mg "isinstance" = none) (hgy : Gl X y) (hmy : X.mg y = some (.ref Cy)) (he : PEM (X.suite a ((a, oe) :: pn)) e me) (hdb : (y == ("__debug__" : Str)) = false := by decide)
    (h1 : starEach [e, .Name y py] X.env = (false, eval e X.env) :: starEach [.Name y py] X.env := by rfl) (h2 : starEach [.Name y py] X.env = (false, eval (.Name y py) X.env) :: starEach [] X.env := by rfl) (h3 : (backTo pos (starEach [.Name y py] X.env)).any (·.1) = false := by rfl) :
    PEM (X.suite a ((a, oe) :: pn)) (.Call (.Name "isinstance" p) [e, .Name y py] [] pos) (mUn (dXis a dd c b) me) := by
  have hc : CallR (X.suite a ((a, oe) :: pn)) (.builtin "isinstance") (fun xs H Q => xs = [.ref a, .ref Cy] ∧ ((∃ d dxs, dd = some d ∧ H d = some (.xd dxs)) ∨ dd = none) ∧ Q (.bl b) H) := by
    rintro pins s σ H xs us Q I r ⟨rfl, hH, q⟩
    obtain ⟨u1, us1, rfl, r1, rr⟩ := Vals.cons_inv r
    obtain ⟨u2, us2, rfl, r2, rr⟩ := Vals.cons_inv rr
    cases rr
    obtain rfl : u1 = Value.ref a := r1
    obtain rfl : u2 = Value.ref Cy := r2
    obtain ⟨hget, _⟩ := I.pin (a, oe) (List.mem_append_left _ List.mem_cons_self)
    obtain ⟨vs, hv⟩ := hf
    have J : ∃ od, PySem.W.InstAt s.heap a oe C od := by
      rcases hH with ⟨d, dxs, rfl, hH⟩ | rfl
      · have hx : ObjOk X.prog X.w H s.heap d (.xd dxs) := I.hok d _ hH
        obtain ⟨mA, hns, _⟩ := hx
        obtain ⟨od, ho, _⟩ := lookIn_ns hns
        exact ⟨some od, hget, hz.1, by unfold PySem.W.notCls; rw [hv] <;> rfl, by rw [hz.2]; exact ho⟩
      · exact ⟨none, hget, hz.1, by unfold PySem.W.notCls; rw [hv] <;> rfl, by rw [hz.2]; trivial⟩
    obtain ⟨od, J⟩ := J
    have cls : (PySem.W.clsIn X.K C).isSome = true := by
      obtain ⟨cd, hcd, _⟩ := PySem.W.any_some T.hd
      rw [hcd]; rfl
    exact PySem.W.kia_one (PySem.W.kitx_exc cls T.ga T.gg T.exC T.cl T.sp T.tk T.mr) I.kIn J hk (fun z => nomatch z) fun tk => ⟨.bl b, H, I.kept (t' := tk) fun _ _ z => z, rfl, q⟩
  refine PE.to (pe_callB (X := X.suite a ((a, oe) :: pn)) hc hg hm (by rfl) (pa_cons he (pa_cons (pe_glob (X := X.suite a ((a, oe) :: pn)) (v := .ref Cy) hgy hmy rfl hdb) pa_nil h2) h1) (by decide) (by decide) h1 h3) fun σ H Q q => ?_
  obtain ⟨cc, S, own, ρ, d, ρ', sr, hm, k⟩ := q
  unfold mUn at hm
  simp only [Option.bind_eq_some_iff, Option.map_eq_some_iff] at hm
  obtain ⟨⟨z, ρ1⟩, g1, d', g3, ez⟩ := hm
  cases ez
  refine ⟨cc, S, own, ρ, z, ρ1, sr, g1, fun v H1 e1 s1 r1 => ?_⟩
  cases r1 <;> first | (cases g3; done) | skip
  · rename_i a0 dx0 nm xs ds hH hF
    simp only [dXis] at g3
    split at g3
    case isFalse => cases g3
    rename_i hc
    obtain ⟨rfl, rfl, rfl⟩ := hc
    cases g3
    exact ⟨rfl, .inl ⟨_, xs, rfl, Fz.le _ _ hH⟩, k _ H1 e1 s1 (.bl b)⟩
  · simp only [dXis] at g3
    split at g3
    case isFalse => cases g3
    rename_i hc
    obtain ⟨rfl, rfl, rfl⟩ := hc
    cases g3
    exact ⟨rfl, .inr rfl, k _ H1 e1 s1 (.bl b)⟩
end
end TL

namespace TL
open PySem PySem.Spec L2

/-! ### ==, != by an own __eq__ -/
structure EqC (K : PySem.W.Frag) (c : Str) (C f : Addr) : Prop where
  nm : ClsN K c C
  eq : PySem.W.findIn K (.ref C) "__eq__" = some (some (.ref f))
  fn : PySem.W.isFn K (.ref f) = true
  ne : PySem.W.findIn K (.ref C) "__ne__" = some (some (.builtin "object.__ne__"))
  mr : PySem.W.mroIn K C (.type "object") = some true
def rOE (K : PySem.W.Frag) (c : Str) (g : List D → Option D) (neg : Bool) : R2 := fun x y H Q => ∃ S fs gs r, (∀ a ∈ S, (H a).isSome = true) ∧ Rep K (Fz S H) x (.obj c fs) ∧ Rep K (Fz S H) y (.obj c gs) ∧ g [.obj c fs, .obj c gs] = some (.bl r) ∧ ∀ H', Ex H H' → Q (.bl (r != neg)) H'
def dOE (c : Str) (g : List D → Option D) (neg : Bool) : D → D → Option D
  | .obj c1 fs, .obj c2 gs => if c1 = c ∧ c2 = c then (g [.obj c fs, .obj c gs]).bind fun z => match z with
    | .bl r => some (.bl (r != neg))
    | _ => none else none
  | _, _ => none
theorem ro_OE {K : PySem.W.Frag} {c : Str} {g : List D → Option D} {neg : Bool} : RO K (rOE K c g neg) (dOE c g neg) := by
  intro S H x y a b d Q ra rb hf t k
  cases a <;> first | (cases hf; done) | skip
  cases b <;> first | (cases hf; done) | skip
  rename_i c1 fs c2 gs
  simp only [dOE] at hf
  split at hf
  case isFalse => cases hf
  rename_i hc
  obtain ⟨rfl, rfl⟩ := hc
  simp only [Option.bind_eq_some_iff] at hf
  obtain ⟨z, h1, h2⟩ := hf
  cases z <;> first | (cases h2; done) | skip
  rename_i r
  cases h2
  exact ⟨S, fs, gs, r, t, ra, rb, h1, fun H' ex => k _ H' ex (.bl _)⟩
section
variable {X : Cx} {k : Nat} {f C : Addr} {fd : FuncData} {ps : List Str} {g : List D → Option D} {c : Str}
/-- __eq__ is called, in any room that is left -/
theorem run_eq {A : Around} {pins : List (Addr × Obj)} {σ : L2.St} {H : Hp} {s : Shared} {Q : Value → Shared → Prop} {S : List Addr} {fs gs : List (Str × D)} {r : Bool} {a b : Addr} (F : FnG X.prog X.w X.K X.mg X.base CX0 k f fd ps (spP X.K 2 g)) (hb : Bd fd ps 2 [] [0, 1]) (hr : Room k A) (hg : A.guards = some []) (hf : A.frames = some X.stack)
    (I : Inv X pins σ H s) (t : ∀ a ∈ S, (H a).isSome = true) (ra : Rep X.K (Fz S H) (.ref a) (.obj c fs)) (rb : Rep X.K (Fz S H) (.ref b) (.obj c gs)) (e : g [.obj c fs, .obj c gs] = some (.bl r)) (h : ∀ H' s', Inv X pins σ H' s' → Ex H H' → Q (.bool r) s') :
    wpAny (model X.prog X.w) A (call (.ref f) [.ref a, .ref b]) Q X.xe s := by
  have e0 : Env0 X.prog X.w X.K X.mg X.base A X.stack s H := by
    have e := I.env0
    exact ⟨hf, e.mod, e.bs, e.bsz, e.funs, e.frf, e.hok, e.bare⟩
  have vals : Vals [V.ref a, V.ref b] [Value.ref a, Value.ref b] := .cons rfl (.cons rfl .nil)
  refine wpAny_call (codeAny_mono (F.go A X.stack s H ⟨[.ref a, .ref b], []⟩ [.ref a, .ref b] [.ref a, .ref b] (fun v H' => v = .bl r ∧ Ex H H') XF hr hg e0 (hb.bind s [.ref a, .ref b] [] rfl rfl) vals
    ⟨S, [.obj c fs, .obj c gs], .bl r, rfl, t, .cons ra (.cons rb .nil), e, fun v H' ex q => ⟨by cases q; rfl, ex⟩⟩) fun out s2 got => ?_)
  match out, got with
  | .error e, got => exact got.elim
  | .ok (.ret u), got =>
    obtain ⟨v, H', I2, rv, rfl, ex⟩ := I.after got
    cases rv
    exact h H' s2 I2 ex
  | .ok .next, got => exact got.elim
  | .ok .brk, got => exact got.elim
  | .ok .cont, got => exact got.elim
theorem inst_of {pins : List (Addr × Obj)} {σ : L2.St} {H : Hp} {s : Shared} {S : List Addr} {fs : List (Str × D)} {x : V} {u : Value} (I : Inv X pins σ H s) (hn : ClsN X.K c C) (r : Rep X.K (Fz S H) x (.obj c fs)) (ru : RelV x u) : ∃ a dx od, x = .ref a ∧ u = .ref a ∧ PySem.W.InstAt s.heap a (PySem.W.instObj C dx) C (some od) := by
  cases r with
  | obj hH hN hF =>
    obtain rfl := hn.eq hN
    obtain ⟨mA, J, _⟩ := ins_get I.hok (Fz.le _ _ hH)
    obtain ⟨od, J, _⟩ := J.look
    exact ⟨_, _, od, rfl, ru, J⟩
theorem op_ownEq (E : EqC X.K c C f) (F : FnG X.prog X.w X.K X.mg X.base CX0 k f fd ps (spP X.K 2 g)) (hb : Bd fd ps 2 [] [0, 1]) (h : Hk X k) : OpR X (compareOp .Eq) (rOE X.K c g false) := by
  intro pins s σ H x y v u Q I rx ry q
  obtain ⟨S, fs, gs, r, t, ra, rb, e, q⟩ := q
  obtain ⟨a, dx, od, rfl, rfl, J⟩ := inst_of I E.nm ra rx
  obtain ⟨b, dy, od', rfl, rfl, J'⟩ := inst_of I E.nm rb ry
  show wpAny (model X.prog X.w) X.A (richCompare .Eq (.ref a) (.ref b)) (EP X pins σ Q) X.xe s
  obtain ⟨m, fr⟩ := I.fr
  refine PySem.W.cmp_K (op := .Eq) (tb := .ref C) h.room.units0 fr I.ok.mod.kin J J'.type (by simp [PySem.W.notFirst]) E.eq E.fn ?_
  refine run_eq F hb h.room h.gd I.env0.frames I t ra rb e fun H' s' I' ex => ?_
  show EP X pins σ Q (.bool r) s'
  refine ⟨.bl r, H', I', rfl, ?_⟩
  have := q H' ex
  rw [show (r != false) = r by cases r <;> rfl] at this
  exact this
/-- object.__ne__ asks __eq__ -/
theorem ifBound_ne {M : Model} {A : Around} {E : Value → Shared → Prop} {s : Shared} {K : PySem.W.Frag} {x C : Addr} {ox : Obj} {od : Option Obj} {args : List Value} {Q : Option Value → Shared → Prop} (hK : K.In s.heap) (I : PySem.W.InstAt s.heap x ox C od) (hs : PySem.W.findIn K (.ref C) "__ne__" = some (some (.builtin "object.__ne__")))
    (h : wpAny M A (call (.builtin "object.__ne__") (.ref x :: args)) (fun v => Q (some v)) E s) : wpAny M A (callSpecialIfBound? (.ref x) "__ne__" args) Q E s := by
  simp only [callSpecialIfBound?, bindSpecialIfBound?]
  refine wpAny_holding (wpAny_bind (wpAny_bind (wpAny_bind (I.type.here ((PySem.W.looks_findIn hK hs).here ?_)))))
  refine wpAny_bind (wpAny_askSetting (wpAny_ite ?_))
  have fin : wpAny M A (call (.builtin "object.__ne__") ([.ref x] ++ args) >>= fun v => pure (some v)) Q E s := wpAny_bind (wpAny_mono h (fun v s' q => wpAny_pure q) fun _ _ q => q)
  split
  · exact wpAny_bind (wpAny_of_eq (PySem.F.cmp_object.ne.bind _) (wpAny_pure (by exact fin)))
  · exact wpAny_tryCatch (wpAny_bind (wpAny_of_eq (PySem.F.cmp_object.ne.bind _) (wpAny_pure (by exact fin))))
theorem op_ownNe (E : EqC X.K c C f) (F : FnG X.prog X.w X.K X.mg X.base CX0 k f fd ps (spP X.K 2 g)) (hb : Bd fd ps 2 [] [0, 1]) (h : Hk X (k + 1)) : OpR X (compareOp .NotEq) (rOE X.K c g true) := by
  intro pins s σ H x y v u Q I rx ry q
  obtain ⟨S, fs, gs, r, t, ra, rb, e, q⟩ := q
  obtain ⟨a, dx, od, rfl, rfl, J⟩ := inst_of I E.nm ra rx
  obtain ⟨b, dy, od', rfl, rfl, J'⟩ := inst_of I E.nm rb ry
  show wpAny (model X.prog X.w) X.A (richCompare .NotEq (.ref a) (.ref b)) (EP X pins σ Q) X.xe s
  have one : wpAny (model X.prog X.w) X.A (tryCompare (.ref a) "__ne__" (.ref b)) (fun z s' => z = some (.bool (!r)) ∧ ∃ H', Inv X pins σ H' s' ∧ Ex H H') X.xe s := by
    unfold tryCompare
    refine wpAny_bind (ifBound_ne I.kIn J E.ne (wpAny_call (codeAny_call_builtin PySem.F.cmp_object.ne.plain PySem.F.cmpEntry_ne (PySem.W.check_slot PySem.F.cmpKind_ne PySem.F.cmpSplit_ne (J.type.andThen (PySem.W.looks_mroIn I.kIn E.mr)) (PySem.F.cmpArgs_ne _ _) ?_))))
    have u0 : X.A.in1.units < cLine := h.room.in1.units0
    unfold Builtin.«object.__ne__»
    have eqs : ∀ {Q' : Option Value → Shared → Prop}, (∀ H' s', Inv X pins σ H' s' → Ex H H' → Q' (some (.bool r)) s') → wpAny (model X.prog X.w) X.A.in1 (callSpecialIfBound? (.ref a) "__eq__" [.ref b]) Q' (fun e s' => X.xe e s') s := fun {Q'} hq' =>
      PySem.W.ifBound_K I.kIn J E.eq E.fn (run_eq F hb h.room.in1 h.gd I.env0.frames I t ra rb e hq')
    repeat (first | with_reducible refine wpAny_cRoomFor u0 ?_ | with_reducible refine eqs ?_ | wp_step)
    intro H' s' I' ex
    repeat (first | with_reducible refine wpAny_truthy_bool ?_ | wp_step)
    exact ⟨rfl, H', I', ex⟩
  have sub : PySem.W.notFirst X.K C (.ref C) = true := by simp [PySem.W.notFirst]
  have fin : ∀ s', (∃ H', Inv X pins σ H' s' ∧ Ex H H') → EP X pins σ Q (.bool (!r)) s' := fun s' ⟨H', I', ex⟩ => ⟨.bl (!r), H', I', rfl, by
    have := q H' ex
    rw [show (r != true) = !r by cases r <;> rfl] at this
    exact this⟩
  unfold richCompare
  simp only [oneThing_ref]
  refine wpAny_holding (wpAny_bind (wpAny_cRoomFor h.room.units0 ?_))
  refine wpAny_bind (J.type.here (wpAny_bind (J'.type.here ?_)))
  split
  · rename_i z
    exact absurd z (by simp)
  · refine wpAny_bind (wpAny_pure ?_)
    simp only [Bool.false_eq_true, if_false]
    refine wpAny_bind (wpAny_mono one (fun z s' got => ?_) fun _ _ e => e)
    obtain ⟨rfl, got⟩ := got
    exact wpAny_pure (fin s' got)
end
end TL

namespace TL
open PySem L2

/-! ### own dicts: x = {..}, x[k] = e, given away -/
section
variable {K : PySem.W.Frag} {S : List Addr} {own : Nat → List Addr} {σ : L2.St} {H : Hp} {ρ : List Cell}
theorem SR.ownsD {c : Cn} {i : Nat} {p : Addr} {xs : List (Key × V)} {ds : List (Key × D)} (r : SR K c (p :: S) own σ H ρ) (hp : own i = []) (hn : ∀ j, p ∉ own j) (h0 : c.H0 p = none) (hH : H p = some (.dK xs)) (q : RepK K (Fz (p :: S) H) xs ds) (hi : i < ρ.length) :
    SR K c (p :: S) (fun j => if j = i then [p] else own j) (σ.set i (some (.ref p))) H (ρ.set i (.od ds)) := by
  refine ⟨by rw [List.length_set, List.length_set]; exact r.len, fun j x h => ?_, fun j k n a h => ?_, fun j a h => ?_, r.sub, r.trk, r.trk0, r.keep, r.tS, fun l n => ?_⟩
  · by_cases e : j = i
    · subst e
      rw [List.getElem?_set_self hi] at h
      cases h
      exact ⟨p, xs, if_pos rfl, by rw [List.getElem?_set_self (by rw [r.len]; exact hi)]; rfl, hH, q⟩
    · rw [List.getElem?_set_ne (fun z => e z.symm)] at h ⊢
      simp only [if_neg e]
      exact r.cell j x h
  · by_cases e : j = i
    · simp only [if_pos e] at h
      have e2 : k ≠ i := fun z => n (e.trans z.symm)
      simp only [if_neg e2]
      rw [List.mem_singleton.mp h]; exact hn k
    · simp only [if_neg e] at h
      by_cases e2 : k = i
      · simp only [if_pos e2]
        intro z
        rw [List.mem_singleton.mp z] at h
        exact hn j h
      · simp only [if_neg e2]; exact r.apart j k n a h
  · by_cases e : j = i
    · simp only [if_pos e] at h
      rw [List.mem_singleton.mp h]
      exact ⟨List.mem_cons_self, .inr h0⟩
    · simp only [if_neg e] at h; exact r.ownS j a h
  · have := r.tdk l n
    by_cases e : 0 = i
    · rw [e, hp] at this; exact absurd this.symm n
    · simp only [if_neg e]; exact this
theorem SR.freezeD {c : CnL} {i : Nat} {ds : List (Key × D)} (r : SR K c S own σ H ρ) (h : ρ[i]? = some (.od ds)) : ∃ S' own', Ex (Fz S H) (Fz S' H) ∧ SR K c S' own' σ H (ρ.set i (.d (.dct ds))) := by
  obtain ⟨p, xs, ha, hv, hH, q⟩ := r.cell i _ h
  have hpi : p ∈ own i := by rw [ha]; exact List.mem_cons_self
  have hi : i < ρ.length := (List.getElem?_eq_some_iff.mp h).1
  have two : c.tl ≠ [] → own 0 = c.tl := r.tdk True.intro
  have hT : p ∉ c.tl := fun m => by
    have ne : c.tl ≠ [] := fun e => by rw [e] at m; cases m
    have e0 := two ne
    have i0 : i = 0 := Classical.byContradiction fun n => r.apart i 0 n p hpi (by rw [e0]; exact m)
    rcases c.two with e | ⟨a, b, hab, e⟩
    · exact ne e
    · rw [← i0, ha, e] at e0; cases e0
  have h0 : c.H0 p = none := (r.ownS i p hpi).2.elim (fun z => absurd z hT) id
  have hS0 : p ∉ c.S0 := fun m => by have := r.trk0 p m; rw [show c.up.H0 p = none from h0] at this; cases this
  let S' := S.filter fun a => decide (a ≠ p)
  have memS : ∀ a, a ∈ S' ↔ a ∈ S ∧ a ≠ p := fun a => by simp [S', List.mem_filter]
  have ex : Ex (Fz S H) (Fz S' H) := Fz.sub fun a m => ((memS a).mp m).1
  refine ⟨S', fun j => if j = i then [] else own j, ex, by rw [List.length_set]; exact r.len, fun j x hj => ?_, fun j k n a hj => ?_, fun j a hj => ?_, fun a m => (memS a).mpr ⟨r.sub a m, fun e => hS0 (e ▸ m)⟩, fun a m => r.trk a ((memS a).mp m).1, r.trk0, r.keep, r.tS, fun l n => ?_⟩
  · by_cases e : j = i
    · subst e
      rw [List.getElem?_set_self hi] at hj
      cases hj
      refine ⟨if_pos rfl, .ref p, hv, .dct (xs := xs) ?_ (q.mono ex)⟩
      rw [Fz.out (fun m => ((memS p).mp m).2 rfl)]; exact hH
    · rw [List.getElem?_set_ne (fun z => e z.symm)] at hj
      simp only [if_neg e]
      have q := r.cell j x hj
      cases x with
      | no => exact q
      | d y => obtain ⟨u, v, e1, z⟩ := q; exact ⟨u, v, e1, z.mono ex⟩
      | ol ds => obtain ⟨a, xs, e1, e2, e3, z⟩ := q; exact ⟨a, xs, e1, e2, e3, z.mono ex⟩
      | od ds => obtain ⟨a, xs, e1, e2, e3, z⟩ := q; exact ⟨a, xs, e1, e2, e3, z.mono ex⟩
      | dk s => exact q
      | ns c fs => obtain ⟨a, dx, C, xs, e1, e2, e3, e4, e5, n, z⟩ := q; exact ⟨a, dx, C, xs, e1, e2, e3, e4, e5, n, z.mono ex⟩
  · by_cases e : j = i
    · simp only [if_pos e] at hj; cases hj
    · by_cases e2 : k = i
      · simp only [if_pos e2]; intro z; cases z
      · simp only [if_neg e] at hj; simp only [if_neg e2]; exact r.apart j k n a hj
  · by_cases e : j = i
    · simp only [if_pos e] at hj; cases hj
    · simp only [if_neg e] at hj
      exact ⟨(memS a).mpr ⟨(r.ownS j a hj).1, fun z => r.apart j i e a hj (z ▸ hpi)⟩, (r.ownS j a hj).2⟩
  · have := two n
    by_cases e : 0 = i
    · subst e
      rw [ha] at this
      exact absurd (by rw [← this]; exact List.mem_cons_self) hT
    · simp only [if_neg e]; exact this
end
def mFrzD (i : Nat) : MS := fun ρ => match ρ[i]? with
  | some (.od ds) => some (.nx (ρ.set i (.d (.dct ds))))
  | _ => none
theorem sm_frzD {K : PySem.W.Frag} {D : Ends} {σ : L2.St} {H : Hp} {i : Nat} {m : MS} : tsOf K (mSeq (mFrzD i) m) D σ H → tsOf K m D σ H := by
  rintro ⟨c, S, own, ρ, r, sr, hm, k⟩
  simp only [mSeq, Option.bind_eq_some_iff] at hm
  obtain ⟨r1, h1, h2⟩ := hm
  unfold mFrzD at h1
  split at h1
  · rename_i ds e
    cases h1
    obtain ⟨S', own', ex, sr'⟩ := sr.freezeD e
    exact ⟨c, S', own', _, r, sr', h2, k.later ex⟩
  · cases h1
/-- a new dict -/
abbrev MND := List Cell → Option (List (Key × D) × List Cell)
def teND (K : PySem.W.Frag) (m : MND) : TE := fun σ H Q => ∃ c S own ρ ds ρ', SR K c S own σ H ρ ∧ m ρ = some (ds, ρ') ∧
  ∀ p xs H', Ex (Fz S H) (Fz (p :: S) H') → SR K c (p :: S) own σ H' ρ' → (∀ j, p ∉ own j) → c.H0 p = none → H' p = some (.dK xs) → RepK K (Fz (p :: S) H') xs ds → Q (.ref p) H'
abbrev PEND (X : Cx) (e : Expr) (m : MND) : Prop := PE X e (teND X.K m)
def mNDsp (ms : List (ME × ME)) : MND := fun ρ => (mPairs ms ρ).bind fun p => (keysD p.1).bind fun kvs => if kvs.length ≤ 15 then some (mergeD [] kvs, p.2) else none
def mOwnD (i : Nat) (m : MND) : MS := fun ρ => (m ρ).bind fun p => if plainAt p.2 i = true then some (.nx (p.2.set i (.od p.1))) else none
theorem sm_ownD {K : PySem.W.Frag} {D : Ends} {σ : L2.St} {H : Hp} {i : Nat} {m : MND} : tsOf K (mOwnD i m) D σ H → tAsg (teND K m) (gName i) D σ H := by
  rintro ⟨c, S, own, ρ, r, sr, hm, k⟩
  simp only [mOwnD, Option.bind_eq_some_iff] at hm
  obtain ⟨⟨ds, ρ1⟩, h1, h2⟩ := hm
  split at h2
  · rename_i hp
    cases h2
    exact ⟨c, S, own, ρ, ds, ρ1, sr, h1, fun p xs H' ex s1 hn h0 hH q => k (p :: S) _ _ H' ex (s1.ownsD (s1.plain hp) hn h0 hH q (plainAt_lt hp))⟩
  · cases h2
theorem en_disp {K : PySem.W.Frag} {ms : List (ME × ME)} {σ : L2.St} {H : Hp} {Q : VK} : teND K (mNDsp ms) σ H Q → tDisp (ms.map fun m => (teOf K m.1, teOf K m.2)) σ H Q := by
  rintro ⟨c, S, own, ρ, d, ρ', sr, hm, k⟩
  simp only [mNDsp, Option.bind_eq_some_iff] at hm
  obtain ⟨⟨xs, ρ1⟩, h1, kvs, h2, h3⟩ := hm
  split at h3
  case isFalse => cases h3
  rename_i hl
  cases h3
  intro p hp
  have hpS := sr.new hp
  have hown : ∀ i, p ∉ own i := fun i m => hpS (sr.ownS i p m).1
  have s1 := sr.aside (o := .dK []) hp
  refine em_pairs s1.enter h1 fun vs H2 e2 s2 r1 r2 => ?_
  have hp2 : H2 p = some (.dK []) := s2.keep p _ upd_same fun ⟨i, m⟩ => hown i m
  obtain ⟨ks, rfl, r⟩ := keys_rep r1 r2 h2
  refine ⟨hp2, ks, rfl, by rw [r.length]; exact hl, ?_⟩
  have s3 := s1.leave s2
  have s4 := s3.touch (o := .dK (mergeK [] ks)) List.mem_cons_self hp2 hown (sr.fresh0 hp)
  have fz : Fz (p :: S) (upd H2 p (.dK (mergeK [] ks))) = Fz (p :: S) H2 := Fz.upd_own List.mem_cons_self
  refine k p (mergeK [] ks) _ ?_ s4 hown (sr.fresh0 hp) upd_same ?_
  · rw [fz]; exact (Fz.upd_new hp).trans e2
  · rw [fz]; exact RepK.merge r .nil
def mDPut (i : Nat) (mk me : ME) : MS := fun ρ => match ρ[i]? with
  | some (.od _) => (me ρ).bind fun p => (mk p.2).bind fun q => match p.2[i]?, q.2[i]?, keyD q.1 with
    | some (.od _), some (.od kvs), some kk => if kvs.length < sizeLine then some (.nx (q.2.set i (.od (putD kvs kk p.1)))) else none
    | _, _, _ => none
  | _ => none
theorem SR.putD {K : PySem.W.Frag} {c : Cn} {S : List Addr} {own : Nat → List Addr} {σ : L2.St} {H : Hp} {ρ : List Cell} {i : Nat} {p : Addr} {xs xs' : List (Key × V)} {ds' : List (Key × D)} (r : SR K c S own σ H ρ) (ha : own i = [p]) (hv : σ[i]?.join = some (.ref p)) (hH : H p = some (.dK xs)) (hi : i < ρ.length) (q : RepK K (Fz S H) xs' ds') :
    SR K c S own σ (upd H p (.dK xs')) (ρ.set i (.od ds')) :=
  r.touchOwn (by rw [ha]; exact List.mem_cons_self) hH hi ⟨p, xs', ha, hv, upd_same, by rw [Fz.upd_own (r.ownS i p (by rw [ha]; exact List.mem_cons_self)).1]; exact q⟩
theorem sm_dput {K : PySem.W.Frag} {D : Ends} {σ : L2.St} {H : Hp} {i : Nat} {mk me : ME} : tsOf K (mDPut i mk me) D σ H → sDPut (tVar i) (teOf K mk) (teOf K me) D σ H := by
  rintro ⟨c, S, own, ρ, r, sr, hm, k⟩
  unfold mDPut at hm
  split at hm
  case h_2 => cases hm
  rename_i kv0 h0
  simp only [Option.bind_eq_some_iff] at hm
  obtain ⟨⟨d, ρ1⟩, h1, ⟨y, ρ2⟩, h2, h3⟩ := hm
  split at h3
  case h_2 => cases h3
  rename_i kv1 kvs kk g1 g2 g3
  have g1 : ρ1[i]? = some (.od kv1) := g1
  have g2 : ρ2[i]? = some (.od kvs) := g2
  split at h3
  case isFalse => cases h3
  rename_i hl
  cases h3
  refine ⟨c, S, own, ρ, d, ρ1, sr, h1, fun v H1 e1 s1 q1 => ?_⟩
  obtain ⟨p1, xs1, ha1, hv1, hH1, qq1⟩ := s1.cell i _ g1
  refine ⟨.ref p1, s1.slot hv1, c, S, own, ρ1, y, ρ2, s1, h2, fun u H2 e2 s2 q2 => ?_⟩
  obtain ⟨p, xs, ha, hv, hH, q⟩ := s2.cell i _ g2
  rw [ha1] at ha; cases ha
  have hpS := (s2.ownS i p1 (by rw [ha1]; exact List.mem_cons_self)).1
  have hu : u = kV kk := by cases q2 <;> cases g3 <;> rfl
  subst hu
  have fz : Fz S (upd H2 p1 (.dK (putK xs kk v))) = Fz S H2 := Fz.upd_own hpS
  refine ⟨p1, _, rfl, DPut.k hH (by rw [q.length]; exact hl), k S own σ _ (by rw [fz]; exact e1.trans e2) (s2.putD ha1 hv hH (List.getElem?_eq_some_iff.mp g2).1 (q.put (q1.mono e2)))⟩
section
variable {X : Cx} {st : Stmt} {m : MS} {i : Nat} {pos : Pos}
theorem psm_frzD (h : PSM X st m) : PSM X st (mSeq (mFrzD i) m) := PS.to h fun _ _ _ q => sm_frzD q
theorem pend_disp {keys : List (Option Expr)} {values : List Expr} {ms : List (ME × ME)} (h : PPM X pos keys values ms) (hall : keys.all (·.isSome) = true) (hl : keys.length = values.length) (h0 : keys ≠ []) (h15 : keys.length ≤ 15) : PEND X (.Dict keys values pos) (mNDsp ms) :=
  PE.to (pe_disp h hall hl h0 h15) fun _ _ _ q => en_disp q
theorem psm_ownD {e : Expr} {x : Str} {m : MND} {pos' : Pos} (hN : X.N.Nodup) (hi : X.N[i]? = some x) (hx : Loc X.env.scope x) (he : PEND X e m) (hs : swapsWith e (some (.Name x pos')) pos.line X.env = pure false := by rfl)
    (hf : X.fn x = true ∨ X.env.scope.names.lookup x = some .local := by first | exact .inl rfl | exact .inr rfl | assumption) : PSM X (.Assign [.Name x pos'] e pos) (mOwnD i m) := PS.to (ps_set hN hi hx he hs hf) fun _ _ _ q => sm_ownD q
theorem psm_dput {x : Str} {px p3 : Pos} {k e : Expr} {mk me : ME} (hu : X.A.units + 1 < cLine) (hv : PE X (.Name x px) (tVar i)) (hk : PEM X k mk) (he : PEM X e me) (hs : swapsWith e (some (.Subscript (.Name x px) k p3)) pos.line X.env = pure false := by rfl) :
    PSM X (.Assign [.Subscript (.Name x px) k p3] e pos) (mDPut i mk me) := PS.to (ps_dput hu hv hk he hs) fun _ _ _ q => sm_dput q
end

/-! ### min, max of two whole numbers -/
def dMin2 : List D → Option D
  | [.int a, .int b] => some (.int (if b < a then b else a))
  | _ => none
theorem rc_min2 {K : PySem.W.Frag} : RC K (fun xs H Q => ∃ i j, xs = [.int i, .int j] ∧ Q (.int (if j < i then j else i)) H) dMin2 := by
  intro S H xs as d Q r hf t k
  match as, r, hf with
  | [.int a, .int b], .cons (.int _) (.cons (.int _) .nil), hf => cases hf; exact ⟨a, b, rfl, k _ H (Ex.refl _) (.int _)⟩
end TL

namespace TL
open PySem L2

theorem fldC_one {K : PySem.W.Frag} {c f : Str} {C : Addr} (nm : ClsN K c C) (cl : Cls K C) (no : PySem.W.findIn K (.ref C) f = some none) : FldC K [c] f := fun c' hc C' hn => by
  obtain rfl := List.mem_singleton.mp hc
  obtain rfl := nm.eq hn
  exact ⟨cl, no⟩
theorem fldC_cons {K : PySem.W.Frag} {c f : Str} {C : Addr} {cs : List Str} (nm : ClsN K c C) (cl : Cls K C) (no : PySem.W.findIn K (.ref C) f = some none) (h : FldC K cs f) : FldC K (c :: cs) f := fun c' hc C' hn => by
  rcases List.mem_cons.mp hc with rfl | hc
  · obtain rfl := nm.eq hn
    exact ⟨cl, no⟩
  · exact h c' hc C' hn
theorem attrC_of {K : PySem.W.Frag} {c f : Str} {C : Addr} (nm : ClsN K c C) (cl : Cls K C) (no : PySem.W.findIn K (.ref C) f = some none) : AttrC K c f := fun C' hn => by
  obtain rfl := nm.eq hn
  exact ⟨cl, no⟩
theorem exm_of {K : PySem.W.Frag} {c : Str} {C : Addr} {v : Value} (nm : ClsN K c C) (h : PySem.W.exmOne K (.ref C) v = some true) : ∀ C', ClsN K c C' → PySem.W.exmOne K (.ref C') v = some true := fun C' hn => by
  obtain rfl := nm.eq hn
  exact h
section
variable {X : Cx} {W : WX} {k n : Nat} {f C : Addr} {fd : FuncData} {ps ks : List Str} {pm : List Nat} {c x m : Str} {p pos apos : Pos} {e o : Expr} {es : List Expr} {kws : List Keyword} {g : List D → Option D} {gi : List D → Option (List (Str × D))} {mo : ME} {ma mk : MA}
theorem pex_none {e : Expr} : PEX X W e xNone := ⟨fun pins s σ H Q I z => by obtain ⟨_, _, _, _, _, _, _, hm, _⟩ := z; cases hm⟩
theorem pssm_never {sts : List Stmt} : PSSM X sts mNever := ⟨fun pins s σ H D I z => by obtain ⟨_, _, _, _, _, _, hm, _⟩ := z; cases hm⟩
theorem tme_nil {K : PySem.W.Frag} {c m : Str} {n l : Nat} {pm : List Nat} {sp : Sp} {E : XK} {to : TE} {ta : TA} {σ : L2.St} {H : Hp} {Q : VK} (mono : ∀ σ H (R R' : V → Hp → Prop), (∀ v H', R v H' → R' v H') → to σ H R → to σ H R') (mt : ∀ σ H (R R' : List V → Hp → Prop), (∀ v H', R v H' → R' v H') → ta σ H R → ta σ H R')
    (h : tMethG c K m n l pm sp E to ta (taOf K mNil) σ H Q) : tMethG c K m n l pm sp E to ta tNil σ H Q :=
  mono _ _ _ _ (fun v H' ⟨a, C, dx, fs, b1, b2, b3, b4, b5⟩ => ⟨a, C, dx, fs, b1, b2, b3, b4, mt _ _ _ _ (fun v H' q => ea_nil _ _ _ q) b5⟩) h
theorem te_mono {K : PySem.W.Frag} {m : ME} : ∀ σ H (R R' : V → Hp → Prop), (∀ v H', R v H' → R' v H') → teOf K m σ H R → teOf K m σ H R' := by
  rintro σ H R R' h ⟨c, S, own, ρ, ds, ρ', sr, hm, k⟩
  exact ⟨c, S, own, ρ, ds, ρ', sr, hm, fun vs H' e s r => h _ _ (k vs H' e s r)⟩
theorem pem_meth {pl : Sem Bool} (h : Hk X k) (ho : PEM X o mo) (hn' : ClsN X.K c C) (cl : Cls X.K C) (hm : Meth X.K C m f) (F : FnG X.prog X.w X.K X.mg X.base CX0 k f fd ps (spP X.K ps.length g)) (hb : Bd fd ps (n + 1) [] pm) (hn : Fix ma n) (hp : ∀ i ∈ pm, i < n + 1) (hpk : pm.length = ps.length) (ha : PAM X (e :: es) ma)
    (hst : starEach (e :: es) X.env = (false, eval e X.env) :: starEach es X.env := by rfl) (hpl : (backTo pos (starEach es X.env)).any (·.1) = false := by rfl)
    (ht : eval (.Call (.Attribute o m apos) (e :: es) [] pos) X.env = (eval o X.env >>= fun ov => standAt apos.atName >>= fun _ => holding [ov] (getMethod ov m pl) >>= fun z => callWith pos z.1 z.2 (backTo pos (starEach (e :: es) X.env)) (backToKw pos (keywordEach [] X.env))) := by rfl) :
    PEM X (.Call (.Attribute o m apos) (e :: es) [] pos) (mMeth c m g pm mo ma mNil) := PE.to (pe_methG (E := XF) ho hn' cl hm F h.room h.gd hb pass0 ha hst hpl ht) fun σ H Q q => tme_nil te_mono ta_mono (em_meth (E := XF) (l := 0) hn fix_nil hp hpk q)
theorem pem_methK0 {pl : Sem Bool} (h : Hk X k) (ho : PEM X o mo) (hn' : ClsN X.K c C) (cl : Cls X.K C) (hm : Meth X.K C m f) (F : FnG X.prog X.w X.K X.mg X.base CX0 k f fd ps (spP X.K ps.length g)) (hb : Bd fd ps 1 ks pm) (hl : Fix mk ks.length) (hp : ∀ i ∈ pm, i < 1 + ks.length) (hpk : pm.length = ps.length) (hkw : PKM X kws mk)
    (hall : (backToKw pos (keywordEach kws X.env)).all (·.1.isSome) = true := by rfl) (hks : (backToKw pos (keywordEach kws X.env)).filterMap (·.1) = ks := by rfl)
    (hpl : ((backTo pos (starEach [] X.env)).any (·.1) || (backToKw pos (keywordEach kws X.env)).any (·.1.isNone)) = false := by rfl)
    (ht : eval (.Call (.Attribute o m apos) [] kws pos) X.env = (eval o X.env >>= fun ov => standAt apos.atName >>= fun _ => holding [ov] (getMethod ov m pl) >>= fun z => callWith pos z.1 z.2 (backTo pos (starEach [] X.env)) (backToKw pos (keywordEach kws X.env))) := by rfl) :
    PEM X (.Call (.Attribute o m apos) [] kws pos) (mMeth c m g pm mo mNil mk) := PE.to (pe_methGK0 (E := XF) ho hn' cl hm F h.room h.gd hb pass0 hkw hall hks hpl ht) fun σ H Q q =>
  te_mono _ _ _ _ (fun v H' ⟨a, C, dx, fs, b1, b2, b3, b4, b5⟩ => ⟨a, C, dx, fs, b1, b2, b3, b4, ea_nil _ _ _ b5⟩) (em_meth (E := XF) (n := 0) (l := ks.length) fix_nil hl hp hpk q)
theorem pem_meth0 {pl : Sem Bool} (h : Hk X k) (ho : PEM X o mo) (hn' : ClsN X.K c C) (cl : Cls X.K C) (hm : Meth X.K C m f) (F : FnG X.prog X.w X.K X.mg X.base CX0 k f fd ps (spP X.K ps.length g)) (hb : Bd fd ps 1 [] pm) (hp : ∀ i ∈ pm, i < 1) (hpk : pm.length = ps.length)
    (ht : eval (.Call (.Attribute o m apos) [] [] pos) X.env = (eval o X.env >>= fun ov => standAt apos.atName >>= fun _ => holding [ov] (getMethod ov m pl) >>= fun z => callWith pos z.1 z.2 (backTo pos (starEach [] X.env)) (backToKw pos (keywordEach [] X.env))) := by rfl) :
    PEM X (.Call (.Attribute o m apos) [] [] pos) (mMeth c m g pm mo mNil mNil) := PE.to (pe_methG0 (E := XF) ho hn' cl hm F h.room h.gd hb pass0 ht) fun σ H Q q =>
  te_mono _ _ _ _ (fun v H' ⟨a, C, dx, fs, b1, b2, b3, b4, b5⟩ => ⟨a, C, dx, fs, b1, b2, b3, b4, ea_nil _ _ _ (ta_mono _ _ _ _ (fun v H' q => ea_nil _ _ _ q) b5)⟩) (em_meth (E := XF) (n := 0) (l := 0) fix_nil fix_nil hp hpk q)
theorem pem_make {C fI : Addr} (h : Hk X (k + 1)) (hC : ClsN X.K c C) (M : Mk X.K C fI) (F : FnG X.prog X.w X.K X.mg X.base CX0 k fI fd ps (spI X.K c ps.length gi)) (hg : Gl X c) (hm : X.mg c = some (.ref C)) (hb : Bd fd ps (n + 1) [] (0 :: pm.map (· + 1))) (hn : Fix ma n) (hp : ∀ i ∈ pm, i < n) (hpk : pm.length + 1 = ps.length) (ha : PAM X (e :: es) ma)
    (hdb : (c == ("__debug__" : Str)) = false := by decide) (he : starEach (e :: es) X.env = (false, eval e X.env) :: starEach es X.env := by rfl) (hpl : (backTo pos (starEach es X.env)).any (·.1) = false := by rfl) :
    PEM X (.Call (.Name c p) (e :: es) [] pos) (mMake c gi pm ma mNil) := PE.to (pe_makeG (E := XF) M F h.room h.gd hg hm hb pass0 ha hdb he hpl) fun σ H Q q =>
  ta_mono _ _ _ _ (fun v H' q => ea_nil _ _ _ q) (em_make (E := XF) (m := 0) hC hn fix_nil hp hpk q)
theorem pem_makeK0 {C fI : Addr} (h : Hk X (k + 1)) (hC : ClsN X.K c C) (M : Mk X.K C fI) (F : FnG X.prog X.w X.K X.mg X.base CX0 k fI fd ps (spI X.K c ps.length gi)) (hg : Gl X c) (hm : X.mg c = some (.ref C)) (hb : Bd fd ps 1 ks (0 :: pm.map (· + 1))) (hl : Fix mk ks.length) (hp : ∀ i ∈ pm, i < ks.length) (hpk : pm.length + 1 = ps.length) (hkw : PKM X kws mk)
    (hall : (backToKw pos (keywordEach kws X.env)).all (·.1.isSome) = true := by rfl) (hks : (backToKw pos (keywordEach kws X.env)).filterMap (·.1) = ks := by rfl)
    (hdb : (c == ("__debug__" : Str)) = false := by decide)
    (hpl : ((backTo pos (starEach [] X.env)).any (·.1) || (backToKw pos (keywordEach kws X.env)).any (·.1.isNone)) = false := by rfl) :
    PEM X (.Call (.Name c p) [] kws pos) (mMake c gi pm mNil mk) := PE.to (pe_makeGK0 (E := XF) M F h.room h.gd hg hm hb pass0 hkw hall hks hdb hpl) fun σ H Q q =>
  ea_nil _ _ _ (em_make (E := XF) (n := 0) hC fix_nil hl (by simpa using hp) hpk q)
theorem psm_raise {st : Stmt} : PSM X st mNever := ⟨fun pins s σ H D I z => by obtain ⟨_, _, _, _, _, _, hm, _⟩ := z; cases hm⟩
end
end TL

namespace TL
open PySem L2
open PyProof.Rows

/-! ### isinstance with an own class -/
/-- what the class y must say of itself -/
structure IsoC (K : PySem.W.Frag) (y : Str) (C : Addr) : Prop where
  nm : ClsN K y C
  cl : Cls K C
  ha : PySem.W.findIn K (.ref C) "__class__" = some (some (.builtin "object.__class__"))
  hn : PySem.W.specialIn K (.builtin "object.__class__") "__get__" = some (some (.builtin "getset_descriptor.__get__"))
  htk : PySem.W.takesIn K (.builtin "object.__class__") = some true
  hm : PySem.W.mroIn K C (.type "object") = some true
  k1 : PySem.W.kitOne K (.type "NoneType") (.ref C) = some false
  k2 : PySem.W.kitOne K (.type "bool") (.ref C) = some false
  k3 : PySem.W.kitOne K (.type "int") (.ref C) = some false
  k4 : PySem.W.kitOne K (.type "str") (.ref C) = some false
  k5 : PySem.W.kitOne K (.type "tuple") (.ref C) = some false
  k6 : PySem.W.kitOne K (.type "list") (.ref C) = some false
  k7 : PySem.W.kitOne K (.type "dict") (.ref C) = some false
def dIsO (y : Str) : D → Option D
  | .obj c _ => if c = y then some (.bl true) else none
  | .exc _ _ _ _ => none
  | .scr _ => none
  | _ => some (.bl false)
theorem IsoC.kit {K : PySem.W.Frag} {y : Str} {C : Addr} {d : D} {t : String} (T : IsoC K y C) (h : dTy d = some t) : PySem.W.kitOne K (.type t) (.ref C) = some false ∧ dIsO y d = some (.bl false) := by
  cases d <;> cases h
  · exact ⟨T.k1, rfl⟩
  · exact ⟨T.k2, rfl⟩
  · exact ⟨T.k3, rfl⟩
  · exact ⟨T.k4, rfl⟩
  · exact ⟨T.k5, rfl⟩
  · exact ⟨T.k6, rfl⟩
  · exact ⟨T.k7, rfl⟩
section
variable {X : Cx} {e : Expr} {ma : ME} {p pos py : Pos} {C : Addr} {y : Str}
theorem pem_isO (T : IsoC X.K y C) (hg : Gl X "isinstance") (hm : X.mg "isinstance" = none) (hgy : Gl X y) (hmy : X.mg y = some (.ref C)) (he : PEM X e ma) (hdb : (y == ("__debug__" : Str)) = false := by decide)
    (h1 : starEach [e, .Name y py] X.env = (false, eval e X.env) :: starEach [.Name y py] X.env := by rfl) (h2 : starEach [.Name y py] X.env = (false, eval (.Name y py) X.env) :: starEach [] X.env := by rfl) (h3 : (backTo pos (starEach [.Name y py] X.env)).any (·.1) = false := by rfl) :
    PEM X (.Call (.Name "isinstance" p) [e, .Name y py] [] pos) (mUn (dIsO y) ma) :=
  PE.to (pe_callB call_isi hg hm (by rfl) (pa_cons he (pa_cons (pe_glob (v := .ref C) hgy hmy rfl hdb) pa_nil h2) h1) (by decide) (by decide) h1 h3) fun σ H Q h => by
    obtain ⟨c, S, own, ρ, d, ρ', sr, hm, k⟩ := h
    unfold mUn at hm
    simp only [Option.bind_eq_some_iff, Option.map_eq_some_iff] at hm
    obtain ⟨⟨a, ρ1⟩, g1, d', g3, e⟩ := hm
    cases e
    refine ⟨c, S, own, ρ, a, ρ1, sr, g1, fun v H1 e1 sr1 r1 => ?_⟩
    have plain : ∀ t, dTy a = some t → ∃ (x c : V) (t u : Value) (b : Bool), [v, V.ref C] = [x, c] ∧ ClsV c u ∧ TyX X.K H1 x t ∧ PySem.W.kitOne X.K t u = some b ∧ Q (.bl b) H1 := fun t ht => by
      obtain ⟨hk, hd⟩ := T.kit ht
      rw [hd] at g3
      cases g3
      exact ⟨v, .ref C, .type t, .ref C, false, rfl, .own C, (r1.mono Fz.le).ty ht, hk, k _ H1 e1 sr1 (.bl false)⟩
    cases r1 <;> first | exact plain _ rfl | (cases g3; done) | skip
    rename_i a0 C0 dx nm xs ds hH hN hF
    simp only [dIsO] at g3
    split at g3
    · rename_i e
      subst e
      cases g3
      obtain rfl := hN.eq T.nm
      refine ⟨_, .ref _, .ref _, .ref _, true, rfl, .own _, .base (.ins (Fz.le _ _ hH) T.cl T.ha T.hn T.htk T.hm), ?_, k _ H1 e1 sr1 (.bl true)⟩
      unfold PySem.W.kitOne
      rw [if_pos (by exact beq_self_eq_true _)]
    · cases g3
end

/-! ### a, b = x, y where one of them is seen by a block -/
section
variable {X : Cx}
theorem ps_parC {i j : Nat} {x y : Str} {a b : Expr} {ta : TA} {px py pt pos : Pos} {kt k2 pt2} (hc : X.calm = true) (hN : X.N.Nodup) (hi : X.N[i]? = some x) (hj : X.N[j]? = some y)
    (hx : Loc X.env.scope x) (hy : Loc X.env.scope y) (hfx : X.fn x = true ∨ X.env.scope.names.lookup x = some .local) (hfy : X.fn y = true ∨ X.env.scope.names.lookup y = some .local) (ha : PA X [a, b] ta)
    (hw : swappedStores [.Tuple [.Name x px, .Name y py] kt pt] (.Tuple [a, b] k2 pt2) X.env = pure none)
    (hs : swapsWithSole [.Tuple [.Name x px, .Name y py] kt pt] (.Tuple [a, b] k2 pt2) pos.line X.env = pure false := by rfl) :
    PS X (.Assign [.Tuple [.Name x px, .Name y py] kt pt] (.Tuple [a, b] k2 pt2) pos) (tPar i j ta) := by
  refine ⟨fun pins s σ H D I h => ?_⟩
  refine Assign_Tuple (Tuple_ (thn (ha.run _ pins s σ H _ I h) fun us s1 ⟨vs, H1, I1, r1, q1⟩ => ?_)) hs hw
  obtain ⟨v, w, e1, q1⟩ := q1
  subst e1
  obtain ⟨u1, u2, rfl, rv, rw'⟩ : ∃ u1 u2, us = [u1, u2] ∧ RelV v u1 ∧ RelV w u2 := by
    cases r1 with
    | cons p q =>
      cases q with
      | cons p' q' =>
        cases q'
        exact ⟨_, _, rfl, p, p'⟩
  refine wpAny_newObj_type ?_ (by show 2 ≤ sizeLine; decide)
  have I2 : Inv X pins σ H1 { s1 with heap := s1.heap.push { cls := .type "tuple", data := .seq [u1, u2].toArray } } := I1.kept (t' := s1.toks) fun b o e => Heap.get?_push_of_some _ e
  refine assign_Tuple_tuple (items := #[u1, u2]) (I.ok.hd hc) (IsTup.new s1.heap _) rfl rfl fun h' hx' => ?_
  have I3 := I2.kept (h' := h') (t' := s1.toks) fun b o e => hx' b o (Nat.ne_of_lt (Heap.lt_size e)) e
  show wpAny _ _ (assignInOrder [assign (.Name x px) X.env, assign (.Name y py) X.env] [u1, u2]) _ _ _
  refine assignInOrder_cons (assign_Name (store_ok I3 hN hi hx rv (fun s2 I4 => ?_) hfx))
  refine assignInOrder_cons (assign_Name (store_ok I4 hN hj hy rw' (fun s3 I5 => assignInOrder_nil ?_) hfy))
  exact ⟨_, H1, I5, q1⟩
end
section
variable {X : Cx} {i j : Nat} {x y : Str} {a b : Expr} {ma : ME} {mb : MN} {mm : MA} {px py pt pos : Pos} {kt k2 : Nat} {pt2 : Pos}
theorem psm_parODC (hc : X.calm = true) (hN : X.N.Nodup) (hi : X.N[i]? = some x) (hj : X.N[j]? = some y)
    (hx : Loc X.env.scope x) (hy : Loc X.env.scope y) (ha : PEN X a mb) (hb : PEM X b ma)
    (hw : swappedStores [.Tuple [.Name x px, .Name y py] kt pt] (.Tuple [a, b] k2 pt2) X.env = pure none) (hs1 : starEach (a :: [b]) X.env = (false, eval a X.env) :: starEach [b] X.env := by rfl) (hs2 : starEach (b :: []) X.env = (false, eval b X.env) :: starEach [] X.env := by rfl)
    (hfx : X.fn x = true ∨ X.env.scope.names.lookup x = some .local := by first | exact .inl rfl | exact .inr rfl) (hfy : X.fn y = true ∨ X.env.scope.names.lookup y = some .local := by first | exact .inl rfl | exact .inr rfl)
    (hs : swapsWithSole [.Tuple [.Name x px, .Name y py] kt pt] (.Tuple [a, b] k2 pt2) pos.line X.env = pure false := by rfl) :
    PSM X (.Assign [.Tuple [.Name x px, .Name y py] kt pt] (.Tuple [a, b] k2 pt2) pos) (mParOD i j mb ma) := PS.to (ps_parC hc hN hi hj hx hy hfx hfy (pa_cons ha (pa_cons hb pa_nil hs2) hs1) hw hs) fun _ _ _ q => sm_parOD q
theorem psm_parDOC (hc : X.calm = true) (hN : X.N.Nodup) (hi : X.N[i]? = some x) (hj : X.N[j]? = some y)
    (hx : Loc X.env.scope x) (hy : Loc X.env.scope y) (hb : PEM X a ma) (ha : PEN X b mb)
    (hw : swappedStores [.Tuple [.Name x px, .Name y py] kt pt] (.Tuple [a, b] k2 pt2) X.env = pure none) (hs1 : starEach (a :: [b]) X.env = (false, eval a X.env) :: starEach [b] X.env := by rfl) (hs2 : starEach (b :: []) X.env = (false, eval b X.env) :: starEach [] X.env := by rfl)
    (hfx : X.fn x = true ∨ X.env.scope.names.lookup x = some .local := by first | exact .inl rfl | exact .inr rfl) (hfy : X.fn y = true ∨ X.env.scope.names.lookup y = some .local := by first | exact .inl rfl | exact .inr rfl)
    (hs : swapsWithSole [.Tuple [.Name x px, .Name y py] kt pt] (.Tuple [a, b] k2 pt2) pos.line X.env = pure false := by rfl) :
    PSM X (.Assign [.Tuple [.Name x px, .Name y py] kt pt] (.Tuple [a, b] k2 pt2) pos) (mParDO i j ma mb) := PS.to (ps_parC hc hN hi hj hx hy hfx hfy (pa_cons hb (pa_cons ha pa_nil hs2) hs1) hw hs) fun _ _ _ q => sm_parDO q
end
end TL
namespace TL
open PySem L2
theorem pssx_head0 {X : Cx} {W : WX} {st : Stmt} {sts : List Stmt} {a : MX} (h : PSX X W st a) : PSSX X W (st :: sts) a := pssx_head h (pssx_none (W := W))
theorem ExcT.no_of {K : PySem.W.Frag} {mg : Str → Option Value} {c p qual : Str} {C C0 fI : Addr} (T : ExcT K mg c p qual C fI) (hn : ClsN K c C0) : PySem.W.findIn K (.ref C0) p = some none := by
  obtain rfl := T.nm.eq hn
  exact T.no
theorem ExcK.of {K : PySem.W.Frag} {c : Str} {C C0 : Addr} (T : ExcK K c C) (hn : ClsN K c C0) : ExcK K c C0 := by
  obtain rfl := T.nm.eq hn
  exact T
theorem ki_of {K : PySem.W.Frag} {c : Str} {C C0 : Addr} {v : Value} {b : Bool} (T : ExcK K c C) (h : PySem.W.kitOne K (.ref C) v = some b) (hn : ClsN K c C0) : PySem.W.kitOne K (.ref C0) v = some b := by
  obtain rfl := T.nm.eq hn
  exact h
end TL

set_option maxHeartbeats 4000000
namespace TL
open PySem PySem.Spec PyProof.Rows L2
theorem tuple_mulZ (l : Addr) (items : Array Value) (n : Nat) (dd : Option Addr) (sl : Array (Option Value)) (x : Int) (u : Tok) (c0 : (decide (x < -(2 ^ 63)) || decide (x ≥ 2 ^ 63)) = false) (c1 : (items.isEmpty || x == 1) = false) (c2 : (decide (x ≤ 0) || items.isEmpty) = true) :
    Meets (Builtin.«tuple.__mul__» ⟨[.ref l, .int x u], []⟩) (fun _ R s => s.heap.get? l = some { cls := .type "tuple", dict := dd, data := .seq items n, slots := sl } ∧
      R (.ok (.ret (Value.ref s.heap.objs.size))) { s with heap := s.heap.push { cls := Value.type "tuple", data := Data.seq #[] }, toks := s.toks }) :=
  .of_wp fun prog w A R s h => by
    obtain ⟨hp, g, d, tk, os⟩ := s
    obtain ⟨hl, h⟩ := h
    have f1 := AutoSeq1.idx_int
    have hsz : (#[] : Array Value).size ≤ sizeLine := by decide
    wp_walk using wpAny_loadPart' hl
    repeat (first
      | (refine wpAny_ite_false (decide_eq_false (by rw [c0]; exact Bool.false_ne_true)) ?_; wp_walk using wpAny_loadPart' hl)
      | (refine wpAny_ite_false (decide_eq_false (by rw [c1]; exact Bool.false_ne_true)) ?_; wp_walk using wpAny_loadPart' hl)
      | (refine wpAny_ite_true (decide_eq_true c2) ?_; wp_walk using wpAny_loadPart' hl)
      | (refine wpAny_ite_false (decide_eq_false (Nat.not_lt.mpr hsz)) ?_; wp_walk using wpAny_loadPart' hl))
    exact ⟨_, rfl, h⟩
theorem tuple_mulO (l : Addr) (items : Array Value) (n : Nat) (dd : Option Addr) (sl : Array (Option Value)) (x : Int) (u : Tok) (c0 : (decide (x < -(2 ^ 63)) || decide (x ≥ 2 ^ 63)) = false) (c1 : (items.isEmpty || x == 1) = true) :
    Meets (Builtin.«tuple.__mul__» ⟨[.ref l, .int x u], []⟩) (fun _ R s => s.heap.get? l = some { cls := .type "tuple", dict := dd, data := .seq items n, slots := sl } ∧
      R (.ok (.ret (Value.ref l))) s) :=
  .of_wp fun prog w A R s h => by
    obtain ⟨hp, g, d, tk, os⟩ := s
    obtain ⟨hl, h⟩ := h
    have f1 := AutoSeq1.idx_int
    have ty : IsTup hp l items := ⟨_, hl, rfl, n, rfl⟩
    wp_walk using wpAny_loadPart' hl
    repeat (first
      | (refine wpAny_ite_false (decide_eq_false (by rw [c0]; exact Bool.false_ne_true)) ?_; wp_walk using wpAny_loadPart' hl)
      | (refine wpAny_ite_true (decide_eq_true c1) ?_; wp_walk using wpAny_loadPart' hl))
    exact ⟨_, rfl, h⟩
/-- a tuple times a number, any from 0 on -/
def rMulT (K : PySem.W.Frag) : R2 := fun x y H Q => ∃ l k xs, x = .ref l ∧ y = .int k ∧ SqT K H l xs ∧ 0 ≤ k ∧ k ≤ 1000 ∧ xs.length ≤ 1000 ∧ ((xs = [] ∨ k = 1) → Q (.ref l) H) ∧ (¬ (xs = [] ∨ k = 1) → ∀ p, H p = none → Q (.ref p) (upd H p (.tup (List.replicate k.toNat xs).flatten)))
section
variable {X : Cx}
theorem op_mulT : OpR X (binaryOp .Mult) (rMulT X.K) := by
  intro pins s σ H x y v u Q I rx ry h
  obtain ⟨l, k, xs, rfl, rfl, hT, h0, h2, hz, q1, q2⟩ := h
  have hT' := hT
  have rx' := rx
  have ry' := ry
  cases rx
  obtain ⟨t, rfl⟩ := ry
  obtain ⟨its, r, ⟨⟨cls, dd, data, sl⟩, ho, hc, n, hd⟩, hs⟩ := I.tuple hT
  simp only at hc hd
  subst hc hd
  have hle : its.length = xs.length := r.length.symm
  have hsz0 : its.toArray.size = xs.length := by rw [List.size_toArray, hle]
  have c0 : (decide (k < -(2 ^ 63)) || decide (k ≥ 2 ^ 63)) = false := by
    rw [decide_eq_false (by omega), decide_eq_false (by omega)] <;> rfl
  have hemp : its.toArray.isEmpty = decide (xs = []) := by
    cases its with
    | nil => cases xs with
      | nil => rfl
      | cons a b => cases hle
    | cons a b => cases xs with
      | nil => cases hle
      | cons c d => simp
  by_cases e1 : xs = [] ∨ k = 1
  · have c1 : (its.toArray.isEmpty || k == 1) = true := by
      rw [hemp]
      rcases e1 with e | e
      · rw [decide_eq_true e]; rfl
      · subst e; simp
    refine wpAny_binaryOp_repeat_ref (T := "tuple") (U := "int") (by decide) ⟨_, ho, rfl⟩ (fun s' => typeIs_int s' k t) noFill_tuple_mul F.fills_int_mul F.slot_int_rmul repeat_tuple F.slot_int_index.lookup
      (call_meets F.slot_int_rmul (typeIs_int s k t) F.entry_int_rmul (F.args_int_rmul_2 _ _) (int_rmul_tuple k t l its.toArray n dd sl)
        ⟨ho, rfl, ⟨_, ho, rfl⟩, call_meets F.slot_tuple_mul ⟨_, ho, rfl⟩ F.entry_tuple_mul (F.args_tuple_mul_2 _ _) (tuple_mulO l its.toArray n dd sl k t c0 c1) ⟨ho, ?_⟩⟩)
    exact ⟨.ref l, H, I, rfl, q1 e1⟩
  · have e3 : xs ≠ [] := fun e => e1 (.inl e)
    have e4 : k ≠ 1 := fun e => e1 (.inr e)
    by_cases e2 : 2 ≤ k
    · exact op_repT pins s σ H _ _ _ _ _ I rx' ry' ⟨l, k, xs, rfl, rfl, hT', e3, e2, h2, hz, q2 e1⟩
    · have k0 : k = 0 := by omega
      subst k0
      have c1 : (its.toArray.isEmpty || (0 : Int) == 1) = false := by
        rw [hemp, decide_eq_false e3]; rfl
      have c2 : (decide ((0 : Int) ≤ 0) || its.toArray.isEmpty) = true := by simp
      refine wpAny_binaryOp_repeat_ref (T := "tuple") (U := "int") (by decide) ⟨_, ho, rfl⟩ (fun s' => typeIs_int s' 0 t) noFill_tuple_mul F.fills_int_mul F.slot_int_rmul repeat_tuple F.slot_int_index.lookup
        (call_meets F.slot_int_rmul (typeIs_int s 0 t) F.entry_int_rmul (F.args_int_rmul_2 _ _) (int_rmul_tuple 0 t l its.toArray n dd sl)
          ⟨ho, rfl, ⟨_, ho, rfl⟩, call_meets F.slot_tuple_mul ⟨_, ho, rfl⟩ F.entry_tuple_mul (F.args_tuple_mul_2 _ _) (tuple_mulZ l its.toArray n dd sl 0 t c0 c1 c2) ⟨ho, ?_⟩⟩)
      refine ⟨.ref s.heap.objs.size, _, I.laid (t' := s.toks) (o := .tup (List.replicate (0 : Int).toNat xs).flatten) (fun b ob q => Heap.get?_push_of_some _ q) (Nat.le_refl _) ?_, rfl, q2 e1 _ (I.hok.fresh (Nat.le_refl _))⟩
      exact ⟨Nat.zero_le _, [], .nil, IsTup.new _ _⟩
end
def rMulB (K : PySem.W.Frag) : R2 := fun x y H Q => rMulT K x y H Q ∨ rMulA K x y H Q
theorem op_mulB {X : Cx} : OpR X (binaryOp .Mult) (rMulB X.K) := OpR.or op_mulT op_mulA
def dMulB : D → D → Option D
  | .tup ds, .int k => if 0 ≤ k ∧ k ≤ 1000 ∧ ds.length ≤ 1000 then some (.tup (List.replicate k.toNat ds).flatten) else none
  | a, b => dMulA a b
theorem rep_one {α : Type} (k : Int) (ds : List α) (e : k = 1) : (List.replicate k.toNat ds).flatten = ds := by
  subst e
  simp
theorem rep_nil {α : Type} (n : Nat) : (List.replicate n ([] : List α)).flatten = [] := by
  induction n with
  | zero => rfl
  | succ n ih => rw [List.replicate_succ, List.flatten_cons, ih]; rfl
theorem ro_mulB {K : PySem.W.Frag} : RO K (rMulB K) dMulB := by
  intro S H x y a b d Q ra rb hf t k
  have other : dMulB a b = dMulA a b → rMulB K x y H Q := fun e => .inr (ro_mulA S H x y a b d Q ra rb (e ▸ hf) t k)
  cases a <;> first | exact other rfl | skip
  cases b <;> first | (cases hf; done) | skip
  rename_i ds j
  have ra' := ra
  cases ra with
  | tup h1 l1 =>
    cases rb
    simp only [dMulB] at hf
    split at hf
    · rename_i h
      cases hf
      refine .inl ⟨_, _, _, rfl, rfl, Fz.le.sqt h1, h.1, h.2.1, by rw [l1.length]; exact h.2.2, fun e => ?_, fun _ p hp => k _ _ (Ex.new hp) (.tup (SqT.of (fz_new t hp)) ((l1.times _).mono (Fz.ex (Ex.new hp))))⟩
      have e2 : (List.replicate j.toNat ds).flatten = ds := by
        rcases e with e | e
        · subst e
          cases l1
          exact rep_nil _
        · exact rep_one j ds e
      rw [e2] at k
      exact k _ H (Ex.refl _) ra'
    · cases hf
end TL

namespace TL
open PySem PySem.Spec L2
/-! ### index, of a text too -/
def occ1 (a b : Str) : Option Nat := (Builtin.Str.occurrences a b 0 a.length 1).head?
def dIndexA : D → D → Option D
  | .str a, .str b => (occ1 a b).map fun i => .int (i : Nat)
  | a, b => dIndex a b
section
variable {X : Cx} {o e : Expr} {mo me : ME} {apos pos : Pos}
theorem pem_indexA (ho : PEM X o mo) (he : PEM X e me) (hbase : attributeBase o "index" X.env (eval o X.env) = eval o X.env := by rfl)
    (hfew : ((backTo pos (starEach [e] X.env)).all (fun x => !x.1) && (backToKw pos (keywordEach [] X.env)).all (fun x => x.1.isSome)
      && decide ([e].length + ([] : List Keyword).length + (if ([] : List Keyword).isEmpty then 0 else 1) < 30)) = true := by rfl)
    (hline : (apos.endLine == pos.line) = true := by rfl) (hs : starEach [e] X.env = (false, eval e X.env) :: starEach [] X.env := by rfl) (hplain : (backTo pos (starEach [] X.env)).any (·.1) = false := by rfl) (hs2 : starEach [e] X.env = [(false, eval e X.env)] := by rfl) :
    PEM X (.Call (.Attribute o "index" apos) [e] [] pos) (mBin dIndexA mo me) :=
  PE.to (PE.or (pem_index ho he hbase hfew hline hs hplain) (pe_m1 PySem.F.slot_str_index PySem.F.type_str_index mt_sindex ho he hs2 hbase hline)) fun σ H Q h => by
  obtain ⟨c, S, own, ρ, d, ρ', sr, hm, k⟩ := h
  have hm0 := hm
  unfold mBin at hm
  simp only [Option.bind_eq_some_iff, Option.map_eq_some_iff] at hm
  obtain ⟨⟨a, ρ1⟩, h1, ⟨b, ρ2⟩, h2, d', h3, e⟩ := hm
  cases e
  have other : dIndexA a b = dIndex a b → teOf X.K (mBin dIndex mo me) σ H Q := fun e => ⟨c, S, own, ρ, d, ρ2, sr, by simp only [mBin, h1, h2, Option.bind_some, ← e, h3, Option.map_some], k⟩
  cases a <;> first | exact .inl (other rfl) | skip
  cases b <;> first | exact .inl (other rfl) | skip
  rename_i x y
  simp only [dIndexA, Option.map_eq_some_iff] at h3
  obtain ⟨i, g3, rfl⟩ := h3
  refine .inr ⟨c, S, own, ρ, _, ρ1, sr, h1, fun v H1 e1 sr1 r1 => ?_⟩
  cases r1
  refine ⟨⟨_, rfl⟩, c, S, own, ρ1, _, ρ2, sr1, h2, fun u H2 e2 sr2 r2 => ?_⟩
  cases r2
  unfold occ1 at g3
  obtain ⟨rest, hr⟩ := List.head?_eq_some_iff.mp g3
  exact ⟨x, y, i, rest, rfl, rfl, hr, k _ H2 (e1.trans e2) sr2 (.int _)⟩
end
end TL

namespace TL
open PySem PySem.Spec L2

/-! ### properties -/
section
variable {X : Cx} {k : Nat} {C p g a dx f0 : Addr} {fs : List (Str × V)} {c f : Str} {fd : FuncData} {ps : List Str} {sp : Sp} {e : Expr} {pos : Pos} {fn : List D → Option D} {mo : ME}
theorem run_in1 {pins : List (Addr × Obj)} {σ : L2.St} {H : Hp} {s : Shared} {Q : VK} (I : Inv X pins σ H s) (F : FnG X.prog X.w X.K X.mg X.base CX0 k g fd ps sp) (hr : Room (k + 1) X.A) (hgd : X.A.guards = some []) (hb : Bd fd ps 1 [] [0]) (h : sp [.ref a] H Q XF) :
    codeAny (model X.prog X.w) X.A.in1 (.call (.ref g) ⟨[.ref a], []⟩) (fun out s' => match out with
      | .ok (.ret u) => EP X pins σ Q u s'
      | _ => False) s := by
  refine codeAny_mono (F.go X.A.in1 X.stack s H ⟨[.ref a], []⟩ [.ref a] [.ref a] Q XF hr.in1 hgd I.env0.in1 (hb.bind s [.ref a] [] rfl rfl) (.cons rfl .nil) h) fun out s2 got => ?_
  match out, got with
  | .error e, got => exact got.elim
  | .ok (.ret u), got => exact I.after got
  | .ok .next, got => exact got.elim
  | .ok .brk, got => exact got.elim
  | .ok .cont, got => exact got.elim
theorem getpropG {pins : List (Addr × Obj)} {σ : L2.St} {H : Hp} {s : Shared} {Q : VK} {b : Bool} {E' : Value → Shared → Prop} (I : Inv X pins σ H s) (ea : H a = some (.ins C dx fs)) (cl : Cls X.K C) (hp : PropOf X.K C f p g)
    (F : FnG X.prog X.w X.K X.mg X.base CX0 k g fd ps sp) (hr : Room (k + 1) X.A) (hgd : X.A.guards = some []) (hb : Bd fd ps 1 [] [0]) (h : sp [.ref a] H Q XF) :
    wpAny (model X.prog X.w) X.A (getAttr (.ref a) f b) (EP X pins σ Q) E' s := by
  obtain ⟨mA, O, _, _, _, _⟩ := ins_get I.hok ea
  obtain ⟨od, J, _⟩ := O.look
  obtain ⟨rest, hrec⟩ := hp.rec_
  have hc : (PySem.W.clsIn X.K C).isSome = true := by
    obtain ⟨cd, hc, _⟩ := PySem.W.any_some cl.hd
    rw [hc]; rfl
  have I1 := I.tok (s.toks + 1)
  refine PySem.W.get_bind I.kIn J (PySem.W.plainGet_of (cl.get f)).1 (PySem.W.findObj_data hc hp.at_ hp.get hp.tak) (PySem.W.plainGet_of (cl.get f)).2 (wpAny_call (PySem.W.prop_get (s := { s with toks := s.toks + 1 }) I.kIn hrec ?_))
  refine codeAny_mono (run_in1 I1 F hr hgd hb h) fun out s2 got => ?_
  match out, got with
  | .error e, got => exact got.elim
  | .ok (.ret u), got =>
    obtain ⟨v, H', I3, rv, q3⟩ := got
    show wpAny _ _ (handedOut u) _ _ _
    rw [PySem.W.handedOut_of (handed_of rv)]
    exact wpAny_pure ⟨v, H', I3, rv, q3⟩
  | .ok .next, got => exact got.elim
  | .ok .brk, got => exact got.elim
  | .ok .cont, got => exact got.elim
def tSelf (c : Str) (K : PySem.W.Frag) (sp : Sp) (to : TE) : TE := fun σ H Q => to σ H fun x H1 => ∃ a C dx fs, x = .ref a ∧ H1 a = some (.ins C dx fs) ∧ ClsN K c C ∧ sp [.ref a] H1 Q XF
def mSelf (c : Str) (fn : List D → Option D) (mo : ME) : ME := fun ρ => (mo ρ).bind fun o => match o.1 with
  | .obj c' fs => if c' = c then (fn [.obj c' fs]).map fun d => (d, o.2) else none
  | _ => none
theorem em_self {K : PySem.W.Frag} {σ : L2.St} {H : Hp} {Q : VK} : teOf K (mSelf c fn mo) σ H Q → tSelf c K (spP K 1 fn) (teOf K mo) σ H Q := by
  rintro ⟨cc, S, own, ρ, d, ρ', sr, hm, q⟩
  simp only [mSelf, Option.bind_eq_some_iff] at hm
  obtain ⟨⟨o, ρ0⟩, h0, hm⟩ := hm
  refine ⟨cc, S, own, ρ, o, ρ0, sr, h0, fun x H0 e0 s0 r0 => ?_⟩
  cases o <;> first | (cases hm; done) | skip
  rename_i c' fs'
  dsimp only at hm
  split at hm
  case isFalse => cases hm
  rename_i hc
  subst hc
  simp only [Option.map_eq_some_iff] at hm
  obtain ⟨d', h3, e⟩ := hm
  cases e
  have r0' := r0
  cases r0 with
  | obj hH hN hF => exact ⟨_, _, _, _, rfl, Fz.le _ _ hH, hN, S, _, _, rfl, s0.trk, .cons r0' .nil, h3, fun v H' ex qv => q v H' (e0.trans (Fz.ex ex)) (s0.ex ex) qv⟩
theorem pem_prop (h : Hk X (k + 1)) (ho : PEM X e mo) (hn : ClsN X.K c C) (cl : Cls X.K C) (hp : PropOf X.K C f p g) (F : FnG X.prog X.w X.K X.mg X.base CX0 k g fd ps (spP X.K 1 fn)) (hb : Bd fd ps 1 [] [0])
    (hab : attributeBase e f X.env (eval e X.env) = eval e X.env := by rfl) : PEM X (.Attribute e f pos) (mSelf c fn mo) := by
  refine PE.to (t := tSelf c X.K (spP X.K 1 fn) (teOf X.K mo)) ⟨fun pins s σ H Q I q => ?_⟩ fun _ _ _ q => em_self q
  refine attr_of hab (thn (ho.run pins s σ H _ I q) fun u s1 ⟨x, H1, I1, rx, a, C', dx, fs, ex, ea, hn', q⟩ => ?_)
  subst ex
  obtain rfl := hn.eq hn'
  obtain rfl : u = Value.ref a := rx
  exact getpropG I1 ea cl hp F h.room h.gd hb q
end
/-! ### len of an own instance -/
structure LenC (K : PySem.W.Frag) (c : Str) (C f : Addr) : Prop where
  nm : ClsN K c C
  at_ : PySem.W.findIn K (.ref C) "__len__" = some (some (.ref f))
  fn : PySem.W.isFn K (.ref f) = true
section
variable {X : Cx} {k : Nat} {C f : Addr} {c x : Str} {fd : FuncData} {ps : List Str} {fn : List D → Option D} {e : Expr} {mo : ME} {p pos : Pos}
def tLenO (c : Str) (K : PySem.W.Frag) (fn : List D → Option D) : List V → Hp → VK → Prop := fun xs H Q => ∃ a C dx fs S ds n, xs = [.ref a] ∧ H a = some (.ins C dx fs) ∧ ClsN K c C ∧ (∀ a ∈ S, (H a).isSome = true) ∧ RepL K (Fz S H) [.ref a] ds ∧ fn ds = some (.int n) ∧ 0 ≤ n ∧ n < 2 ^ 63 ∧ ∀ H', Ex H H' → Q (.int n) H'
theorem call_lenO (T : LenC X.K c C f) (F : FnG X.prog X.w X.K X.mg X.base CX0 k f fd ps (spP X.K 1 fn)) (hb : Bd fd ps 1 [] [0]) (hr : Room (k + 1) X.A) (hgd : X.A.guards = some []) : CallR X (.builtin "len") (tLenO c X.K fn) := by
  intro pins s σ H xs us Q I r h
  obtain ⟨a, C', dx, fs, S, ds, n, rfl, ea, hn', t, ra, hf, h0, h1, q⟩ := h
  obtain rfl := T.nm.eq hn'
  obtain rfl := Vals.ref1 r
  obtain ⟨mA, O, _, _, _, _⟩ := ins_get I.hok ea
  obtain ⟨od, J, _⟩ := O.look
  obtain ⟨m, fr⟩ := I.fr
  refine PySem.W.len_K fr I.ok.mod.kin J T.at_ T.fn (wpAny_call (codeAny_mono (run_in1 I F hr hgd hb (Q := fun v H' => v = .int n ∧ Ex H H') ⟨S, ds, _, rfl, t, ra, hf, fun v H' ex qv => ⟨by cases qv; rfl, ex⟩⟩) fun out s2 got => ?_))
  match out, got with
  | .error e, got => exact got.elim
  | .ok (.ret u), got =>
    obtain ⟨v, H', I3, rv, rfl, ex⟩ := got
    obtain ⟨tk, rfl⟩ := (show ∃ t, u = Value.int n t from rv)
    exact ⟨⟨h0, h1⟩, .int n, H', I3.tok _, ⟨_, rfl⟩, q H' ex⟩
  | .ok .next, got => exact got.elim
  | .ok .brk, got => exact got.elim
  | .ok .cont, got => exact got.elim
def dLenO (c : Str) (fn : List D → Option D) (b : D → Option D) : D → Option D
  | .obj c' fs => if c' = c then (fn [.obj c' fs]).bind fun z => match z with
    | .int n => if 0 ≤ n ∧ n < 2 ^ 63 then some (.int n) else none
    | _ => none else b (.obj c' fs)
  | d => b d
theorem pem_len1 (h : PEM X (.Call (.Name x p) [e] [] pos) (mApp dLen (mCons mo mNil))) : PEM X (.Call (.Name x p) [e] [] pos) (mUn dLen1 mo) := by
  have e1 : mUn dLen1 mo = mApp dLen (mCons mo mNil) := by
    funext ρ
    unfold mUn mApp mCons mNil dLen one
    cases mo ρ with
    | none => rfl
    | some p => cases dLen1 p.1 <;> rfl
  rw [e1]; exact h
theorem pem_lenO {b : D → Option D} (T : LenC X.K c C f) (h : Hk X (k + 1)) (F : FnG X.prog X.w X.K X.mg X.base CX0 k f fd ps (spP X.K 1 fn)) (hb : Bd fd ps 1 [] [0]) (hg : Gl X "len") (hm : X.mg "len" = none) (ho : PEM X e mo) (base : PEM X (.Call (.Name "len" p) [e] [] pos) (mUn b mo))
    (he : starEach (e :: []) X.env = (false, eval e X.env) :: starEach [] X.env := by rfl) (hpl : (backTo pos (starEach [] X.env)).any (·.1) = false := by rfl) : PEM X (.Call (.Name "len" p) [e] [] pos) (mUn (dLenO c fn b) mo) :=
  PE.to (PE.or base (pe_callB (call_lenO T F hb h.room h.gd) hg hm (by rfl) (pa_cons ho pa_nil he) (by decide) (by decide) he hpl)) fun σ H Q q => by
    obtain ⟨cc, S, own, ρ, d, ρ', sr, hm, k⟩ := q
    unfold mUn at hm
    simp only [Option.bind_eq_some_iff, Option.map_eq_some_iff] at hm
    obtain ⟨⟨z, ρ1⟩, h1, d', h3, ez⟩ := hm
    cases ez
    have other : dLenO c fn b z = b z → teOf X.K (mUn b mo) σ H Q := fun e => ⟨cc, S, own, ρ, d, ρ1, sr, by simp only [mUn, h1, Option.bind_some]; rw [← e]; simp only [h3, Option.map_some], k⟩
    cases z <;> first | exact .inl (other rfl) | skip
    rename_i c' fs'
    by_cases hc : c' = c
    · subst hc
      right
      simp only [dLenO, if_true, Option.bind_eq_some_iff] at h3
      obtain ⟨w, g1, g2⟩ := h3
      cases w <;> first | (cases g2; done) | skip
      rename_i n
      dsimp only at g2
      split at g2
      case isFalse => cases g2
      rename_i hn
      cases g2
      refine ⟨cc, S, own, ρ, _, ρ1, sr, h1, fun v H1 e1 s1 r1 => ?_⟩
      have r1' := r1
      cases r1 with
      | obj hH hN hF => exact ⟨_, _, _, _, S, _, n, rfl, Fz.le _ _ hH, hN, s1.trk, .cons r1' .nil, g1, hn.1, hn.2, fun H' ex => k _ H' (e1.trans (Fz.ex ex)) (s1.ex ex) (.int n)⟩
    · exact .inl (other (by simp only [dLenO]; rw [if_neg hc]))
end
end TL

namespace TL
open PySem PySem.Spec L2
open PyProof.Rows (envOfC)

/-! ### errors without a field -/
structure ExcB (K : PySem.W.Frag) (mg : Str → Option Value) (c : Str) (C : Addr) : Prop where
  gC : mg c = some (.ref C)
  nm : ClsN K c C
  ini : PySem.W.excInitIn K C exTl "Exception.__new__" = true
  iC : PySem.W.findIn K (.ref C) "__init__" = some (some (.builtin "Exception.__init__"))
  kC : PySem.W.keepIn K (.ref C) = true
  exC : PySem.W.subIn K (.ref C) (.type "BaseException") = some true
  tyC : PySem.W.typeIn K (.ref C) = some (.type "type")
def xRaise0 (c : Str) : MX := fun ρ => some ((c, []), ρ)
section
variable {X : Cx} {W : WX} {c : Str} {C : Addr} {pp pos pos2 : Pos}
theorem pmk_0 (T : ExcB X.K X.mg c C) (hg : Gl X c) (hdb : (c == ("__debug__" : Str)) = false := by decide) : PMk X (.Call (.Name c pp) [] [] pos) (fun _ H Q => Q (.ref C) none H) := by
  intro pins s σ H Q I h
  refine wpAny_Call_Name_kw (ld_glob I hg T.gC ?_ hdb)
  refine PySem.W.callWith_K0 I.kIn T.kC ?_
  obtain ⟨nm, N', qn, bs, bm, hdct, sn, sub, ab, col, dd, k0, k1, k2, k3, k5, hC, hT⟩ := PySem.W.excInit_of I.kIn T.ini
  have li : ∀ {M : Model}, PySem.W.Looks M s.heap (typeLookup (.ref C) "__init__") (some (.builtin "Exception.__init__")) := PySem.W.looks_findIn I.kIn T.iC
  have gone : s.heap.get? (s.heap.objs.size + 1) = none := Heap.get?_none_of_le (Nat.le_succ _)
  obtain ⟨hp, g, dr, tk, os⟩ := s
  refine PySem.W.call_B PySem.F.excBase_Exception hT hC li (Nat.zero_le _) fun h' keep he ht => ?_
  exact ⟨_, _, _, ⟨hp, g, dr, tk, os⟩, H, .ref C, none, rfl, I, keep, gone, he, ⟨rfl, rfl⟩, rfl, rfl, I.hok.gone gone, rfl, I.bare, raises_own T.exC T.tyC, h⟩
theorem psx_raise0 (hc : X.calm = true) (tk : Takes X W) (T : ExcB X.K X.mg c C) (hg : Gl X c) (hdb : (c == ("__debug__" : Str)) = false := by decide) :
    PSX X W (.Raise (some (.Call (.Name c pp) [] [] pos)) none pos2) (xRaise0 c) := PS.to (ps_raise hc tk (pmk_0 T hg hdb)) fun D σ H q => by
  obtain ⟨cc, S, own, ρ, x, ρ', sr, hm, q⟩ := q
  cases hm
  exact q C none S own σ H T.nm (Ex.refl _) sr (.inr ⟨rfl, rfl⟩)
end

/-! ### makes that raise -/
def spXI (K : PySem.W.Frag) (c : Str) (n : Nat) (g : List D → Option Exn) : Sp := fun vs H _ E => ∃ S da la C ws ds x, vs = .ref da :: ws ∧ vs.length = n ∧ (∀ a ∈ S, (H a).isSome = true) ∧ da ∈ S ∧ la ∈ S ∧ da ≠ la ∧ H da = some (.ins C la []) ∧ H la = some (.own da) ∧ ClsN K c C ∧
  RepL K (Fz S H) ws ds ∧ g ds = some x ∧ ∀ C' d H', ClsN K x.1 C' → (∀ b o, b ≠ da → b ≠ la → H b = some o → H' b = some o) → XdR K (Fz S H') d x.2 → E (.ref C') d H'
def runXI (c : Str) (N : Nat) (m : MX) : List D → Option Exn := fun ds => (m (.ns c [] :: ds.map Cell.d ++ List.replicate (N - (ds.length + 1)) .no)).map (·.1)
section
variable {P : Program} {w : World} {K : PySem.W.Frag} {mg : Str → Option Value} {base : Heap} {x qual : Str} {st : Stmt} {f : Addr} {fd : FuncData} {N ps : List Str} {k : Nat}
theorem fn_raiseI {c : Str} (F : Fun K x qual st f fd) (S : FnScope N ps (defScope st)) (m : MX)
    (hbody : ∀ (cdv : Value) (A : Around) (outer : List Env) (s : Shared) (H : Hp) (E : XK), Room k (A.deeper (envOfC qual (defScope st) s.heap.objs.size f cdv)) → (A.deeper (envOfC qual (defScope st) s.heap.objs.size f cdv)).guards = some [] →
      Takes (cxOf (CX P w) P w K mg base N qual (defScope st) f cdv A outer s H E) (fun cls d _ H => E cls d H) → PSSX (cxOf (CX P w) P w K mg base N qual (defScope st) f cdv A outer s H E) (fun cls d _ H => E cls d H) (defBody st) m) :
    FnG P w K mg base (CX P w) (k + 1) f fd ps (spXI K c ps.length (runXI c N.length m)) := by
  refine fnG_of F S (fun vs H Q E h => ?_) fun cdv A outer s H vs Q E hr hg h => ?_
  · obtain ⟨_, _, _, _, _, _, _, _, e, _⟩ := h
    exact e
  · obtain ⟨T, da, la, C, ws, ds, ex, rfl, e, t, h1, h2, hne, hH, hD, hN, r, hf, q⟩ := h
    refine ⟨_, hbody cdv A outer s H E hr hg (takes_of rfl rfl rfl rfl), ?_⟩
    have hpl : ps.length ≤ N.length := by have := congrArg List.length S.pre; rw [List.length_take] at this; omega
    simp only [runXI, Option.map_eq_some_iff] at hf
    obtain ⟨⟨y, ρ'⟩, hm, rfl⟩ := hf
    refine ⟨_, T, _, _, _, _, sr_startI (by have := e; rw [List.length_cons] at this; omega) t h1 h2 hne hH hD hN r, hm, fun C' d S' own' σ' H' hn e' s' hd => ?_⟩
    have keep : ∀ b o, b ≠ da → b ≠ la → H b = some o → H' b = some o := fun b o n1 n2 hb => s'.keep b o hb fun m => by
      have m : b ∈ [da, la] := m
      simp only [List.mem_cons, List.not_mem_nil, or_false] at m
      rcases m with m | m
      · exact n1 m
      · exact n2 m
    exact q C' d H' hn keep (hd.mono (Fz.sub fun a m => s'.sub a m))
end
section
variable {X : Cx} {W : WX} {CT : CXT} {k n : Nat} {f C : Addr} {fd : FuncData} {ps ks : List Str} {pm : List Nat} {sp : Sp} {E : L2.St → XK} {c x : Str} {p pos : Pos} {e : Expr} {es : List Expr} {kws : List Keyword} {t tk : TA}
theorem run_makeGS {pins : List (Addr × Obj)} {σ : L2.St} {H : Hp} {s : Shared} {Q : VK} {us ws : List Value} {vs zs : List V} (M : Mk X.K C f) (F : FnG X.prog X.w X.K X.mg X.base CT k f fd ps sp) (hr : Room (k + 1) X.A) (hgd : X.A.guards = some []) (hb : Bd fd ps (n + 1) ks pm) (hx : PassesAt CT X σ (E σ))
    (I : Inv X pins σ H s) (r : Vals vs us) (rz : Vals zs ws) (l1 : vs.length = n) (l2 : zs.length = ks.length)
    (h : ∀ x dx, H x = none → H dx = none → dx ≠ x → sp (pm.map fun i => ((.ref x :: vs) ++ zs).getD i .non) (upd (upd H dx (.own x)) x (.ins C dx [])) (fun v H2 => v = .non ∧ Q (.ref x) H2) (E σ)) :
    wpAny (model X.prog X.w) X.A (call (.ref C) us (ks.zip ws)) (EP X pins σ Q) X.xe s := by
  have new1 := I.hok.fresh (Nat.le_succ s.heap.objs.size)
  have new2 := I.hok.fresh (Nat.le_refl s.heap.objs.size)
  have want := h _ _ new1 new2 (Nat.ne_of_lt (Nat.lt_succ_self _))
  have J := Inv.made (C := C) I
  have rr : Vals (V.ref (s.heap.objs.size + 1) :: vs) (Value.ref (s.heap.objs.size + 1) :: us) := .cons rfl r
  refine wpAny_call (make_map I.kIn M.makes M.init (beq_iff_eq.mp M.fn) (codeAny_mono (F.go _ X.stack _ _ _ _ _ _ (E σ) (hr.make C us _) (make_guards hgd) (J.env0.make C us _)
    (hb.bind _ (Value.ref (s.heap.objs.size + 1) :: us) ws (by rw [List.length_cons, ← r.length, l1]) (by rw [← rz.length]; exact l2)) (Vals.pick (rr.append rz) pm) want) fun out s2 got => ?_))
  match out, got with
  | .error e, got => exact hx pins _ _ e s2 J got
  | .ok (.ret u), got =>
    obtain ⟨v, H', I3, rv, ev, q3⟩ := J.after got
    subst ev
    exact ⟨rv, ⟨V.ref (s.heap.objs.size + 1), H', I3, rfl, q3⟩⟩
  | .ok .next, got => exact got.elim
  | .ok .brk, got => exact got.elim
  | .ok .cont, got => exact got.elim
def tMakeGS (C : Addr) (n m : Nat) (pm : List Nat) (sp : Sp) (E : L2.St → XK) (t tk : TA) : TE := fun σ H Q => t σ H fun vs H1 => tk σ H1 fun zs H2 => vs.length = n ∧ zs.length = m ∧
  ∀ x dx, H2 x = none → H2 dx = none → dx ≠ x → sp (pm.map fun i => ((.ref x :: vs) ++ zs).getD i .non) (upd (upd H2 dx (.own x)) x (.ins C dx [])) (fun v H3 => v = .non ∧ Q (.ref x) H3) (E σ)
theorem pe_makeGS (M : Mk X.K C f) (F : FnG X.prog X.w X.K X.mg X.base CT k f fd ps sp) (hr : Room (k + 1) X.A) (hgd : X.A.guards = some []) (hg : Gl X x) (hm : X.mg x = some (.ref C)) (hb : Bd fd ps (n + 1) [] pm) (hx : ∀ σ, PassesAt CT X σ (E σ))
    (ha : PA X (e :: es) t) (hdb : (x == ("__debug__" : Str)) = false := by decide) (he : starEach (e :: es) X.env = (false, eval e X.env) :: starEach es X.env := by rfl) (hpl : (backTo pos (starEach es X.env)).any (·.1) = false := by rfl) :
    PE X (.Call (.Name x p) (e :: es) [] pos) (tMakeGS C n 0 pm sp E t tNil) := by
  refine ⟨fun pins s σ H Q I h => wpAny_Call_Name_kw (ld_glob I hg hm ?_ hdb)⟩
  refine PySem.W.callWith_K (h₀ := X.base) I.ok.mod.kin M.kp (thn (ha.run pos pins s σ H _ I h) fun us s1 q => ?_) he hpl
  obtain ⟨vs, H1, I1, r, l1, l2, q⟩ := q
  exact ⟨I1.kIn, run_makeGS (ks := []) (ws := []) M F hr hgd hb (hx σ) I1 r .nil l1 rfl q⟩
theorem pe_makeGSK0 (M : Mk X.K C f) (F : FnG X.prog X.w X.K X.mg X.base CT k f fd ps sp) (hr : Room (k + 1) X.A) (hgd : X.A.guards = some []) (hg : Gl X x) (hm : X.mg x = some (.ref C)) (hb : Bd fd ps 1 ks pm) (hx : ∀ σ, PassesAt CT X σ (E σ))
    (hkw : PK X kws tk) (hall : (backToKw pos (keywordEach kws X.env)).all (·.1.isSome) = true := by rfl) (hks : (backToKw pos (keywordEach kws X.env)).filterMap (·.1) = ks := by rfl)
    (hdb : (x == ("__debug__" : Str)) = false := by decide)
    (hpl : ((backTo pos (starEach [] X.env)).any (·.1) || (backToKw pos (keywordEach kws X.env)).any (·.1.isNone)) = false := by rfl) :
    PE X (.Call (.Name x p) [] kws pos) (tMakeGS C 0 ks.length pm sp E tNil tk) := by
  refine ⟨fun pins s σ H Q I h => wpAny_Call_Name_kw (ld_glob I hg hm ?_ hdb)⟩
  refine PySem.W.callWith_KW0 (h₀ := X.base) I.ok.mod.kin M.kp hall (thn (hkw.run pos pins s σ H _ I h) fun ws s2 q => ?_) hpl
  obtain ⟨zs, H2, I2, rz, l1, l2, q⟩ := q
  refine ⟨I2.kIn, ?_⟩
  rw [hks]
  exact run_makeGS (n := 0) (us := []) (vs := []) M F hr hgd hb (hx σ) I2 .nil rz rfl l2 q
end
section
variable {K : PySem.W.Frag} {σ : L2.St} {H : Hp} {n l : Nat} {pm : List Nat} {g : List D → Option Exn} {ma mk : MA} {W : WX} {Q : VK} {c : Str} {C : Addr} {k : Nat}
theorem ex_make (hC : ClsN K c C) (hn : Fix ma n) (hk : Fix mk l) (hp : ∀ i ∈ pm, i < n + l) (hpk : pm.length + 1 = k) :
    texOf K W (xCallP g pm ma mk) σ H Q → tMakeGS C n l (0 :: pm.map (· + 1)) (spXI K c k g) (fun σ cls d H => W cls d σ H) (taOf K ma) (taOf K mk) σ H Q := by
  rintro ⟨cc, S, own, ρ, x, ρ', sr, hm, q⟩
  simp only [xCallP, Option.bind_eq_some_iff, Option.map_eq_some_iff] at hm
  obtain ⟨⟨ds, ρ1⟩, h1, ⟨es, ρ2⟩, h2, x', h3, e⟩ := hm
  cases e
  refine ⟨cc, S, own, ρ, ds, ρ1, sr, h1, fun vs H1 e1 s1 q1 => ⟨cc, S, own, ρ1, es, ρ2, s1, h2, fun zs H2 e2 s2 q2 => ⟨by rw [q1.length]; exact hn _ _ _ h1, by rw [q2.length]; exact hk _ _ _ h2, fun x dx hx hd hne => ?_⟩⟩⟩
  have x1 : Ex (Fz S H2) (Fz (dx :: S) (upd H2 dx (.own x))) := Fz.upd_new hd
  have hx1 : upd H2 dx (.own x) x = none := by rw [upd_ne (fun e => hne e.symm)]; exact hx
  have x2 : Ex (Fz (dx :: S) (upd H2 dx (.own x))) (Fz (x :: dx :: S) (upd (upd H2 dx (.own x)) x (.ins C dx []))) := Fz.upd_new hx1
  have up : ∀ b o, H2 b = some o → upd (upd H2 dx (.own x)) x (.ins C dx []) b = some o := fun b o hb => by rw [upd_ne (ne_of_none hb hx), upd_ne (ne_of_none hb hd)]; exact hb
  refine ⟨x :: dx :: S, x, dx, C, pm.map fun i => (vs ++ zs).getD i .non, pm.map fun i => (ds ++ es).getD i .non, _, ?_, ?_, fun b hb => ?_, List.mem_cons_self, List.mem_cons_of_mem _ List.mem_cons_self, fun e => hne e.symm, upd_same, by rw [upd_ne hne, upd_same], hC, ?_, h3, fun C' d H' nn keep hd' => ?_⟩
  · simp only [List.map_cons, List.map_map]
    rfl
  · rw [List.length_map, List.length_cons, List.length_map]; exact hpk
  · rcases List.mem_cons.mp hb with rfl | hb
    · rw [upd_same]; rfl
    · rcases List.mem_cons.mp hb with rfl | hb
      · rw [upd_ne hne, upd_same]; rfl
      · have := s2.trk b hb
        cases q : H2 b with
        | none => rw [q] at this; cases this
        | some o => rw [up b o q]; rfl
  · exact ((reps_pick ((q1.mono e2).append q2) (by rw [List.length_append, hn _ _ _ h1, hk _ _ _ h2]) hp).mono x1).mono x2
  · have ex : Ex H2 H' := fun b o hb => keep b o (ne_of_none hb hx) (ne_of_none hb hd) (up b o hb)
    exact q C' d H' nn ((e1.trans e2).trans (Fz.ex ex)) (s2.ex ex) (hd'.mono (Fz.sub fun a m => List.mem_cons_of_mem _ (List.mem_cons_of_mem _ m)))
end
section
variable {X : Cx} {W : WX} {k n : Nat} {f C : Addr} {fd : FuncData} {ps ks : List Str} {pm : List Nat} {c : Str} {p pos : Pos} {e : Expr} {es : List Expr} {kws : List Keyword} {g : List D → Option Exn} {ma mk : MA} {a : MX} {sp : Sp}
theorem tms_nil {K : PySem.W.Frag} {C : Addr} {E : L2.St → XK} {ta : TA} {σ : L2.St} {H : Hp} {Q : VK} {l : Nat} (h : tMakeGS C n l pm sp E ta (taOf K mNil) σ H Q) (mono : ∀ σ H (R R' : List V → Hp → Prop), (∀ v H', R v H' → R' v H') → ta σ H R → ta σ H R') : tMakeGS C n l pm sp E ta tNil σ H Q :=
  mono _ _ _ _ (fun v H' q => ea_nil _ _ _ q) h
theorem pex_make (h : Hk X (k + 1)) (tk : Takes X W) (hC : ClsN X.K c C) (M : Mk X.K C f) (F : FnG X.prog X.w X.K X.mg X.base (CX X.prog X.w) k f fd ps (spXI X.K c ps.length g)) (hg : Gl X c) (hm : X.mg c = some (.ref C)) (hb : Bd fd ps (n + 1) [] (0 :: pm.map (· + 1))) (hn : Fix ma n) (hp : ∀ i ∈ pm, i < n) (hpk : pm.length + 1 = ps.length)
    (ha : PAM X (e :: es) ma) (hdb : (c == ("__debug__" : Str)) = false := by decide) (he : starEach (e :: es) X.env = (false, eval e X.env) :: starEach es X.env := by rfl) (hpl : (backTo pos (starEach es X.env)).any (·.1) = false := by rfl) :
    PEX X W (.Call (.Name c p) (e :: es) [] pos) (xCallP g pm ma mNil) := PE.to (pe_makeGS M F h.room h.gd hg hm hb (takes_at tk) ha hdb he hpl) fun σ H Q q => tms_nil (ex_make (l := 0) hC hn fix_nil hp hpk q) ta_mono
theorem pex_makeK0 (h : Hk X (k + 1)) (tk : Takes X W) (hC : ClsN X.K c C) (M : Mk X.K C f) (F : FnG X.prog X.w X.K X.mg X.base (CX X.prog X.w) k f fd ps (spXI X.K c ps.length g)) (hg : Gl X c) (hm : X.mg c = some (.ref C)) (hb : Bd fd ps 1 ks (0 :: pm.map (· + 1))) (hl : Fix mk ks.length) (hp : ∀ i ∈ pm, i < ks.length) (hpk : pm.length + 1 = ps.length)
    (hkw : PKM X kws mk) (hall : (backToKw pos (keywordEach kws X.env)).all (·.1.isSome) = true := by rfl) (hks : (backToKw pos (keywordEach kws X.env)).filterMap (·.1) = ks := by rfl)
    (hdb : (c == ("__debug__" : Str)) = false := by decide)
    (hpl : ((backTo pos (starEach [] X.env)).any (·.1) || (backToKw pos (keywordEach kws X.env)).any (·.1.isNone)) = false := by rfl) :
    PEX X W (.Call (.Name c p) [] kws pos) (xCallP g pm mNil mk) := PE.to (pe_makeGSK0 M F h.room h.gd hg hm hb (takes_at tk) hkw hall hks hdb hpl) fun σ H Q q => ea_nil _ _ _ (ex_make (n := 0) (l := ks.length) hC fix_nil hl (by simpa using hp) hpk q)
/-- a make whose arguments raise -/
theorem pex_makeA (h : Hk X (k + 1)) (M : Mk X.K C f) (F : FnG X.prog X.w X.K X.mg X.base CX0 k f fd ps sp) (hg : Gl X c) (hm : X.mg c = some (.ref C)) (hb : Bd fd ps (n + 1) [] pm) (ha : PAX X W (e :: es) a)
    (hdb : (c == ("__debug__" : Str)) = false := by decide) (he : starEach (e :: es) X.env = (false, eval e X.env) :: starEach es X.env := by rfl) (hpl : (backTo pos (starEach es X.env)).any (·.1) = false := by rfl) :
    PEX X W (.Call (.Name c p) (e :: es) [] pos) a := PE.to (pe_makeG (E := XF) M F h.room h.gd hg hm hb pass0 ha hdb he hpl) fun σ H Q q => q
/-- self.f = e, where e raises -/
theorem psx_fst {value : Expr} {x f : Str} {px pos' : Pos} {i : Nat} (hv : PE X (.Name x px) (tVar i)) (he : PEX X W value a) (hs : swapsWith value (some (.Attribute (.Name x px) f pos')) pos.line X.env = pure false := by rfl) :
    PSX X W (.Assign [.Attribute (.Name x px) f pos'] value pos) a := PS.to (ps_fld hv he hs) fun _ _ _ q => tx_te q
end
end TL

namespace TL
open PySem PySem.Spec L2

/-! ### is, of None and of bools -/
def dIsA : D → D → Option D
  | .bl a, .bl b => some (.bl (decide (a = b)))
  | a, b => dIsN a b
def dNotA : D → D → Option D
  | .bl a, .bl b => some (.bl (!decide (a = b)))
  | a, b => dNotN a b
theorem op_isA {X : Cx} : OpR X (compareOp .Is) (fun x y H Q => rIsN x y H Q ∨ rIsB x y H Q) := OpR.or op_isN1 op_isBl
theorem op_notA {X : Cx} : OpR X (compareOp .IsNot) (fun x y H Q => rNotN x y H Q ∨ rNotB x y H Q) := OpR.or op_notN1 op_notBl
theorem ro_isA {K : PySem.W.Frag} : RO K (fun x y H Q => rIsN x y H Q ∨ rIsB x y H Q) dIsA := by
  intro S H x y a b d Q ra rb hf t k
  by_cases h : ∃ p q, a = .bl p ∧ b = .bl q
  · obtain ⟨p, q, rfl, rfl⟩ := h
    cases ra; cases rb; cases hf
    exact .inr ⟨p, q, rfl, rfl, k _ H (Ex.refl _) (.bl _)⟩
  · refine .inl (ro_isN S H x y a b d Q ra rb ?_ t k)
    cases a <;> first | exact hf | skip
    cases b <;> first | exact hf | skip
    exact absurd ⟨_, _, rfl, rfl⟩ h
theorem ro_notA {K : PySem.W.Frag} : RO K (fun x y H Q => rNotN x y H Q ∨ rNotB x y H Q) dNotA := by
  intro S H x y a b d Q ra rb hf t k
  by_cases h : ∃ p q, a = .bl p ∧ b = .bl q
  · obtain ⟨p, q, rfl, rfl⟩ := h
    cases ra; cases rb; cases hf
    exact .inr ⟨p, q, rfl, rfl, k _ H (Ex.refl _) (.bl _)⟩
  · refine .inl (ro_notN S H x y a b d Q ra rb ?_ t k)
    cases a <;> first | exact hf | skip
    cases b <;> first | exact hf | skip
    exact absurd ⟨_, _, rfl, rfl⟩ h

/-! ### == by an own __eq__, anything at the right -/
theorem IsoC.first {K : PySem.W.Frag} {y : Str} {C : Addr} {d : D} {t : String} (T : IsoC K y C) (h : dTy d = some t) : PySem.W.notFirst K C (.type t) = true := by
  have q := (T.kit h).1
  unfold PySem.W.kitOne at q
  split at q
  · cases q
  · unfold PySem.W.kitCls at q
    dsimp only at q
    split at q
    · unfold PySem.W.notFirst
      rw [q]; simp
    · cases q
/-- instances of the class c2 are none of c's -/
structure Apart (K : PySem.W.Frag) (C : Addr) (c2 : Str) (C2 : Addr) : Prop where
  nm : ClsN K c2 C2
  sub : PySem.W.subIn K (.ref C2) (.ref C) = some false
def rOEA (K : PySem.W.Frag) (c : Str) (cs : List Str) (g : List D → Option D) : R2 := fun x y H Q => ∃ S fs d r, (∀ a ∈ S, (H a).isSome = true) ∧ Rep K (Fz S H) x (.obj c fs) ∧ Rep K (Fz S H) y d ∧ (dTy d ≠ none ∨ ∃ c2 gs, d = .obj c2 gs ∧ (c2 = c ∨ c2 ∈ cs)) ∧ g [.obj c fs, d] = some (.bl r) ∧ ∀ H', Ex H H' → Q (.bl r) H'
def okEA (c : Str) (cs : List Str) (d : D) : Bool := match d with
  | .obj c2 _ => decide (c2 = c ∨ c2 ∈ cs)
  | d => (dTy d).isSome
def dOEA (c : Str) (cs : List Str) (g : List D → Option D) : D → D → Option D
  | .obj c1 fs, d => if c1 = c ∧ okEA c cs d = true then (g [.obj c fs, d]).bind fun z => match z with
    | .bl r => some (.bl r)
    | _ => none else none
  | _, _ => none
theorem ro_OEA {K : PySem.W.Frag} {c : Str} {cs : List Str} {g : List D → Option D} : RO K (rOEA K c cs g) (dOEA c cs g) := by
  intro S H x y a b d Q ra rb hf t k
  cases a <;> first | (cases hf; done) | skip
  rename_i c1 fs
  simp only [dOEA] at hf
  split at hf
  case isFalse => cases hf
  rename_i hc
  obtain ⟨rfl, hk⟩ := hc
  simp only [Option.bind_eq_some_iff] at hf
  obtain ⟨z, h1, h2⟩ := hf
  cases z <;> first | (cases h2; done) | skip
  rename_i r
  cases h2
  refine ⟨S, fs, b, r, t, ra, rb, ?_, h1, fun H' ex => k _ H' ex (.bl _)⟩
  cases b <;> first | (refine .inl ?_; intro z; cases z; done) | skip
  · rename_i c2 gs
    exact .inr ⟨c2, gs, rfl, of_decide_eq_true hk⟩
  · simp [okEA, dTy] at hk
  · simp [okEA, dTy] at hk
section
variable {X : Cx} {k : Nat} {f C : Addr} {fd : FuncData} {ps : List Str} {g : List D → Option D} {c : Str} {cs : List Str}
theorem run_eqA {A : Around} {pins : List (Addr × Obj)} {σ : L2.St} {H : Hp} {s : Shared} {Q : Value → Shared → Prop} {S : List Addr} {fs : List (Str × D)} {d : D} {r : Bool} {a : Addr} {w : V} {u : Value} (F : FnG X.prog X.w X.K X.mg X.base CX0 k f fd ps (spP X.K 2 g)) (hb : Bd fd ps 2 [] [0, 1]) (hr : Room k A) (hg : A.guards = some []) (hf : A.frames = some X.stack)
    (I : Inv X pins σ H s) (t : ∀ a ∈ S, (H a).isSome = true) (ra : Rep X.K (Fz S H) (.ref a) (.obj c fs)) (rw' : RelV w u) (rb : Rep X.K (Fz S H) w d) (e : g [.obj c fs, d] = some (.bl r)) (h : ∀ H' s', Inv X pins σ H' s' → Ex H H' → Q (.bool r) s') :
    wpAny (model X.prog X.w) A (call (.ref f) [.ref a, u]) Q X.xe s := by
  have e0 : Env0 X.prog X.w X.K X.mg X.base A X.stack s H := by
    have e := I.env0
    exact ⟨hf, e.mod, e.bs, e.bsz, e.funs, e.frf, e.hok, e.bare⟩
  have vals : Vals [V.ref a, w] [Value.ref a, u] := .cons rfl (.cons rw' .nil)
  refine wpAny_call (codeAny_mono (F.go A X.stack s H ⟨[.ref a, u], []⟩ [.ref a, u] [.ref a, w] (fun v H' => v = .bl r ∧ Ex H H') XF hr hg e0 (hb.bind s [.ref a, u] [] rfl rfl) vals
    ⟨S, [.obj c fs, d], .bl r, rfl, t, .cons ra (.cons rb .nil), e, fun v H' ex q => ⟨by cases q; rfl, ex⟩⟩) fun out s2 got => ?_)
  match out, got with
  | .error e, got => exact got.elim
  | .ok (.ret u), got =>
    obtain ⟨v, H', I2, rv, rfl, ex⟩ := I.after got
    cases rv
    exact h H' s2 I2 ex
  | .ok .next, got => exact got.elim
  | .ok .brk, got => exact got.elim
  | .ok .cont, got => exact got.elim
theorem op_ownEqA (E : EqC X.K c C f) (T : IsoC X.K c C) (ap : ∀ c2 ∈ cs, ∃ C2, Apart X.K C c2 C2) (F : FnG X.prog X.w X.K X.mg X.base CX0 k f fd ps (spP X.K 2 g)) (hb : Bd fd ps 2 [] [0, 1]) (h : Hk X k) : OpR X (compareOp .Eq) (rOEA X.K c cs g) := by
  intro pins s σ H x y v u Q I rx ry q
  obtain ⟨S, fs, d, r, t, ra, rb, hk, e, q⟩ := q
  obtain ⟨a, dx, od, rfl, rfl, J⟩ := inst_of I E.nm ra rx
  show wpAny (model X.prog X.w) X.A (richCompare .Eq (.ref a) u) (EP X pins σ Q) X.xe s
  obtain ⟨m, fr⟩ := I.fr
  have fin : wpAny (model X.prog X.w) X.A (call (.ref f) [.ref a, u]) (PySem.W.CmpBack (EP X pins σ Q)) X.xe s := run_eqA F hb h.room h.gd I.env0.frames I t ra ry rb e fun H' s' I' ex => by
    show EP X pins σ Q (.bool r) s'
    exact ⟨.bl r, H', I', rfl, q H' ex⟩
  have go : ∀ tb, PySem.W.Looks (model X.prog X.w) s.heap (typeOf u) tb → PySem.W.notFirst X.K C tb = true → wpAny (model X.prog X.w) X.A (richCompare .Eq (.ref a) u) (EP X pins σ Q) X.xe s := fun tb hl hn =>
    PySem.W.cmp_K (op := .Eq) (tb := tb) h.room.units0 fr I.ok.mod.kin J hl hn E.eq E.fn fin
  rcases hk with hk | ⟨c2, gs, rfl, hk⟩
  · cases ht : dTy d with
    | none => exact absurd ht hk
    | some ty =>
      obtain ⟨P, Z, p, _⟩ := kit_of I ry ((rb.mono Fz.le).ty ht)
      exact go _ (Z.ty _ _ I.kIn p) (T.first ht)
  · rcases hk with rfl | hk
    · obtain ⟨b, dy, od', rfl, rfl, J'⟩ := inst_of I E.nm rb ry
      exact go (.ref C) J'.type (by simp [PySem.W.notFirst])
    · obtain ⟨C2, ap⟩ := ap c2 hk
      obtain ⟨b, dy, od', rfl, rfl, J'⟩ := inst_of I ap.nm rb ry
      exact go (.ref C2) J'.type (by unfold PySem.W.notFirst; rw [ap.sub]; simp)
end

/-! ### a def that calls itself: the way begins with nothing -/
section
variable {P : Program} {w : World} {K : PySem.W.Frag} {mg : Str → Option Value} {base : Heap} {k n : Nat} {f : Addr} {fd : FuncData} {ps : List Str}
theorem fnG_noP : FnG P w K mg base CX0 k f fd ps (spP K n fun _ => none) := ⟨fun vs H Q E h => (by obtain ⟨_, _, _, _, _, _, hf, _⟩ := h; cases hf), fun A outer s H ar us vs Q E _ _ _ _ _ h => by obtain ⟨_, _, _, _, _, _, hf, _⟩ := h; cases hf⟩
theorem fnG_noD : FnG P w K mg base CX0 k f fd ps (spD K n fun _ _ => none) := ⟨fun vs H Q E h => (by obtain ⟨_, _, _, _, _, _, _, _, _, _, _, _, _, _, _, hf, _⟩ := h; cases hf), fun A outer s H ar us vs Q E _ _ _ _ _ h => by obtain ⟨_, _, _, _, _, _, _, _, _, _, _, _, _, _, _, hf, _⟩ := h; cases hf⟩
end
end TL
namespace TL
open PySem L2
theorem ap_nil {K : PySem.W.Frag} {C : Addr} : ∀ c2 ∈ ([] : List Str), ∃ C2, Apart K C c2 C2 := fun _ h => by cases h
theorem ap_cons {K : PySem.W.Frag} {C C2 : Addr} {c : Str} {cs : List Str} (h : Apart K C c C2) (t : ∀ c2 ∈ cs, ∃ C2, Apart K C c2 C2) : ∀ c2 ∈ c :: cs, ∃ C2, Apart K C c2 C2 := fun c2 hc => by
  rcases List.mem_cons.mp hc with rfl | hc
  · exact ⟨C2, h⟩
  · exact t c2 hc
end TL
namespace TL
open PySem PySem.Spec L2
open PyProof.Rows
/-- isinstance with an own class, of instances of others too -/
def dIsOA (y : Str) (cs : List Str) : D → Option D
  | .obj c fs => if c = y then some (.bl true) else if c ∈ cs then some (.bl false) else none
  | d => dIsO y d
def OthersC (K : PySem.W.Frag) (C : Addr) (cs : List Str) : Prop := ∀ c2 ∈ cs, ∃ C2, IsoC K c2 C2 ∧ PySem.W.kitOne K (.ref C2) (.ref C) = some false
theorem oth_nil {K : PySem.W.Frag} {C : Addr} : OthersC K C [] := fun _ h => by cases h
theorem oth_cons {K : PySem.W.Frag} {C C2 : Addr} {c : Str} {cs : List Str} (T : IsoC K c C2) (h : PySem.W.kitOne K (.ref C2) (.ref C) = some false) (t : OthersC K C cs) : OthersC K C (c :: cs) := fun c2 hc => by
  rcases List.mem_cons.mp hc with rfl | hc
  · exact ⟨C2, T, h⟩
  · exact t c2 hc
section
variable {X : Cx} {e : Expr} {ma : ME} {p pos py : Pos} {C : Addr} {y : Str} {cs : List Str}
theorem pem_isOA (T : IsoC X.K y C) (oth : OthersC X.K C cs) (hg : Gl X "isinstance") (hm : X.mg "isinstance" = none) (hgy : Gl X y) (hmy : X.mg y = some (.ref C)) (he : PEM X e ma) (hdb : (y == ("__debug__" : Str)) = false := by decide)
    (h1 : starEach [e, .Name y py] X.env = (false, eval e X.env) :: starEach [.Name y py] X.env := by rfl) (h2 : starEach [.Name y py] X.env = (false, eval (.Name y py) X.env) :: starEach [] X.env := by rfl) (h3 : (backTo pos (starEach [.Name y py] X.env)).any (·.1) = false := by rfl) :
    PEM X (.Call (.Name "isinstance" p) [e, .Name y py] [] pos) (mUn (dIsOA y cs) ma) :=
  PE.to (PE.or (pem_isO T hg hm hgy hmy he hdb h1 h2 h3) (pe_callB call_isi hg hm (by rfl) (pa_cons he (pa_cons (pe_glob (v := .ref C) hgy hmy rfl hdb) pa_nil h2) h1) (by decide) (by decide) h1 h3)) fun σ H Q h => by
    obtain ⟨c, S, own, ρ, d, ρ', sr, hm, k⟩ := h
    unfold mUn at hm
    simp only [Option.bind_eq_some_iff, Option.map_eq_some_iff] at hm
    obtain ⟨⟨a, ρ1⟩, g1, d', g3, e⟩ := hm
    cases e
    have other : dIsOA y cs a = dIsO y a → teOf X.K (mUn (dIsO y) ma) σ H Q := fun e => ⟨c, S, own, ρ, d, ρ1, sr, by simp only [mUn, g1, Option.bind_some]; rw [← e]; simp only [g3, Option.map_some], k⟩
    cases a <;> first | exact .inl (other rfl) | skip
    rename_i c2 fs
    by_cases hc : c2 = y
    · exact .inl (other (by simp only [dIsOA, dIsO]; rw [if_pos hc, if_pos hc]))
    · right
      simp only [dIsOA] at g3
      rw [if_neg hc] at g3
      split at g3
      case isFalse => cases g3
      rename_i hin
      cases g3
      obtain ⟨C2, T2, hk⟩ := oth c2 hin
      refine ⟨c, S, own, ρ, _, ρ1, sr, g1, fun v H1 e1 sr1 r1 => ?_⟩
      cases r1 with
      | obj hH hN hF =>
        obtain rfl := hN.eq T2.nm
        exact ⟨_, .ref C, .ref _, .ref C, false, rfl, .own C, .base (.ins (Fz.le _ _ hH) T2.cl T2.ha T2.hn T2.htk T2.hm), hk, k _ H1 e1 sr1 (.bl false)⟩
end
end TL

namespace Lk07
open PySem L2 TL
set_option maxHeartbeats 4000000
def top (i : Nat) : Stmt := PySem.Challenge.pw_tallyhouse_k07_pieces_of_tickets.main.body.getD i (.Pass ⟨0, 0, 0, 0⟩)
structure Txt (mg : Str → Option Value) : Prop where
  g_all : mg "all" = none
  g_bool : mg "bool" = none
  g_int : mg "int" = none
  g_isinstance : mg "isinstance" = none
  g_len : mg "len" = none
  g_list : mg "list" = none
  g_min : mg "min" = none
  g_range : mg "range" = none
  g_repr : mg "repr" = none
  g_str : mg "str" = none
  g_sum : mg "sum" = none
  g_tuple : mg "tuple" = none
  g_zip : mg "zip" = none
structure TCs (K : PySem.W.Frag) (mg : Str → Option Value) (C_BadTicket C_OtherTally C_Piece C_Tally C_TallyError fI_BadTicket : Addr) : Prop where
  ap_Piece_Tally : Apart K C_Piece "Tally" C_Tally
  ap_Tally_Piece : Apart K C_Tally "Piece" C_Piece
  g_BadTicket : mg "BadTicket" = some (.ref C_BadTicket)
  g_OtherTally : mg "OtherTally" = some (.ref C_OtherTally)
  g_Piece : mg "Piece" = some (.ref C_Piece)
  g_Tally : mg "Tally" = some (.ref C_Tally)
  g_TallyError : mg "TallyError" = some (.ref C_TallyError)
  io_Piece : IsoC K "Piece" C_Piece
  io_Tally : IsoC K "Tally" C_Tally
  k_BadTicket : ExcK K "BadTicket" C_BadTicket
  k_OtherTally : ExcK K "OtherTally" C_OtherTally
  ki_BadTicket_TallyError : PySem.W.kitOne K (.ref C_BadTicket) (.ref C_TallyError) = some true
  ki_OtherTally_TallyError : PySem.W.kitOne K (.ref C_OtherTally) (.ref C_TallyError) = some true
  ki_Piece_Tally : PySem.W.kitOne K (.ref C_Piece) (.ref C_Tally) = some false
  ki_Tally_Piece : PySem.W.kitOne K (.ref C_Tally) (.ref C_Piece) = some false
  l_Piece : Cls K C_Piece
  l_Tally : Cls K C_Tally
  n_BadTicket : ClsN K "BadTicket" C_BadTicket
  n_OtherTally : ClsN K "OtherTally" C_OtherTally
  n_Piece : ClsN K "Piece" C_Piece
  n_Tally : ClsN K "Tally" C_Tally
  na_Piece_table_now : PySem.W.findIn K (.ref C_Piece) "table_now" = some none
  na_Piece_tally : PySem.W.findIn K (.ref C_Piece) "tally" = some none
  na_Piece_ticket : PySem.W.findIn K (.ref C_Piece) "ticket" = some none
  na_Tally_digits : PySem.W.findIn K (.ref C_Tally) "digits" = some none
  na_Tally_ends : PySem.W.findIn K (.ref C_Tally) "ends" = some none
  na_Tally_start : PySem.W.findIn K (.ref C_Tally) "start" = some none
  na_Tally_tables : PySem.W.findIn K (.ref C_Tally) "tables" = some none
  x_BadTicket : ExcT K mg "BadTicket" "ticket" "BadTicket.__init__" C_BadTicket fI_BadTicket
  xb_OtherTally : ExcB K mg "OtherTally" C_OtherTally
  xm_BadTicket : PySem.W.exmOne K (.ref C_BadTicket) (.ref C_BadTicket) = some true
  xm_OtherTally : PySem.W.exmOne K (.ref C_OtherTally) (.ref C_OtherTally) = some true
section
variable {P : Program} {w : World} {K : PySem.W.Frag} {mg : Str → Option Value} {base : Heap} {C_BadTicket C_OtherTally C_Piece C_Tally C_TallyError fI_BadTicket : Addr}
/-! Tally____eq__ -/
noncomputable def m_Tally____eq__ : MS := (mRet (mAndV (mUn (dIsOA "Tally" ["Piece"]) (mVar 1)) (mAndV (mBin dEq (mUn (dFld ["Tally"] "digits") (mVar 0)) (mUn (dFld ["Tally"] "digits") (mVar 1))) (mAndV (mBin dEq (mUn (dFld ["Tally"] "start") (mVar 0)) (mUn (dFld ["Tally"] "start") (mVar 1))) (mAndV (mBin dEq (mUn (dFld ["Tally"] "tables") (mVar 0)) (mUn (dFld ["Tally"] "tables") (mVar 1))) (mBin dEq (mUn (dFld ["Tally"] "ends") (mVar 0)) (mUn (dFld ["Tally"] "ends") (mVar 1))))))))
theorem s_Tally____eq__ : FnScope ["self", "other"] ["self", "other"] (defScope (inClass (top 41) 2)) := ⟨rfl, rfl, rfl, by decide +kernel, rfl, by decide +kernel, by decide +kernel⟩
noncomputable def f_Tally____eq__ : List D → Option D := runP 2 m_Tally____eq__
theorem bd_Tally____eq___2 {f : Addr} {fd : FuncData} (F : Fun K "__eq__" "Tally.__eq__" (inClass (top 41) 2) f fd) : Bd fd ["self", "other"] 2 [] ([0, 1]) := by
  obtain ⟨oc, od, kV, doc, pm, an, cdv, ct, osl, rfl, lk, hcd⟩ := F.ex
  exact ⟨fun s us ws h1 h2 => match us, ws, h1, h2 with | [v0, v1], [], _, _ => .of_eq rfl⟩
theorem ok_Tally____eq__ {f : Addr} {fd : FuncData} (F : Fun K "__eq__" "Tally.__eq__" (inClass (top 41) 2) f fd) (T : Txt mg) (TC : TCs K mg C_BadTicket C_OtherTally C_Piece C_Tally C_TallyError fI_BadTicket) :
    FnG P w K mg base CX0 1 f fd ["self", "other"] (spP K 2 f_Tally____eq__) := by
  refine fn_pure (k := 0) F s_Tally____eq__ m_Tally____eq__ (fun cdv A outer s H E hr hg => ?_)
  have S := s_Tally____eq__
  have hU := hr.units
  have hU1 := hu_of hr
  exact (psm_one (psm_ret (pem_and (pem_isOA TC.io_Tally (oth_cons TC.io_Piece TC.ki_Piece_Tally oth_nil) rfl T.g_isinstance rfl TC.g_Tally (pem_var 1 (pv 1))) (pem_and (pem_cmp (op_eqP hU) ro_cmp (nomark _) (pem_fld (fldC_one TC.n_Tally TC.l_Tally TC.na_Tally_digits) (pem_var 0 (pv 0))) (pem_fld (fldC_one TC.n_Tally TC.l_Tally TC.na_Tally_digits) (pem_var 1 (pv 1)))) (pem_and (pem_cmp (op_eqP hU) ro_cmp (nomark _) (pem_fld (fldC_one TC.n_Tally TC.l_Tally TC.na_Tally_start) (pem_var 0 (pv 0))) (pem_fld (fldC_one TC.n_Tally TC.l_Tally TC.na_Tally_start) (pem_var 1 (pv 1)))) (pem_and (pem_cmp (op_eqP hU) ro_cmp (nomark _) (pem_fld (fldC_one TC.n_Tally TC.l_Tally TC.na_Tally_tables) (pem_var 0 (pv 0))) (pem_fld (fldC_one TC.n_Tally TC.l_Tally TC.na_Tally_tables) (pem_var 1 (pv 1)))) (pem_one (pem_cmp (op_eqP hU) ro_cmp (nomark _) (pem_fld (fldC_one TC.n_Tally TC.l_Tally TC.na_Tally_ends) (pem_var 0 (pv 0))) (pem_fld (fldC_one TC.n_Tally TC.l_Tally TC.na_Tally_ends) (pem_var 1 (pv 1)))))))))))
/-! Piece____eq__ -/
noncomputable def m_Piece____eq__ : MS := (mRet (mAndV (mUn (dIsOA "Piece" ["Tally"]) (mVar 1)) (mAndV (mBin (dOEA "Tally" ["Piece"] f_Tally____eq__) (mUn (dFld ["Piece"] "tally") (mVar 0)) (mUn (dFld ["Piece"] "tally") (mVar 1))) (mBin dEq (mUn (dFld ["Piece"] "ticket") (mVar 0)) (mUn (dFld ["Piece"] "ticket") (mVar 1))))))
theorem s_Piece____eq__ : FnScope ["self", "other"] ["self", "other"] (defScope (inClass (top 18) 2)) := ⟨rfl, rfl, rfl, by decide +kernel, rfl, by decide +kernel, by decide +kernel⟩
noncomputable def f_Piece____eq__ : List D → Option D := runP 2 m_Piece____eq__
theorem bd_Piece____eq___2 {f : Addr} {fd : FuncData} (F : Fun K "__eq__" "Piece.__eq__" (inClass (top 18) 2) f fd) : Bd fd ["self", "other"] 2 [] ([0, 1]) := by
  obtain ⟨oc, od, kV, doc, pm, an, cdv, ct, osl, rfl, lk, hcd⟩ := F.ex
  exact ⟨fun s us ws h1 h2 => match us, ws, h1, h2 with | [v0, v1], [], _, _ => .of_eq rfl⟩
theorem ok_Piece____eq__ {f : Addr} {fd : FuncData} (F : Fun K "__eq__" "Piece.__eq__" (inClass (top 18) 2) f fd) (T : Txt mg) (TC : TCs K mg C_BadTicket C_OtherTally C_Piece C_Tally C_TallyError fI_BadTicket) {a_Tally____eq__ : Addr} {d_Tally____eq__ : FuncData} (E_Tally : EqC K "Tally" C_Tally a_Tally____eq__) (F_Tally____eq__ : Fun K "__eq__" "Tally.__eq__" (inClass (top 41) 2) a_Tally____eq__ d_Tally____eq__) (G_Tally____eq__ : FnG P w K mg base CX0 1 a_Tally____eq__ d_Tally____eq__ ["self", "other"] (spP K 2 f_Tally____eq__)) :
    FnG P w K mg base CX0 2 f fd ["self", "other"] (spP K 2 f_Piece____eq__) := by
  have b_Tally____eq___2 := bd_Tally____eq___2 F_Tally____eq__
  refine fn_pure (k := 1) F s_Piece____eq__ m_Piece____eq__ (fun cdv A outer s H E hr hg => ?_)
  have S := s_Piece____eq__
  have hU := hr.units
  have hU1 := hu_of hr
  exact (psm_one (psm_ret (pem_and (pem_isOA TC.io_Piece (oth_cons TC.io_Tally TC.ki_Tally_Piece oth_nil) rfl T.g_isinstance rfl TC.g_Piece (pem_var 1 (pv 1))) (pem_and (pem_cmp (op_ownEqA E_Tally TC.io_Tally (ap_cons TC.ap_Tally_Piece ap_nil) G_Tally____eq__ b_Tally____eq___2 ⟨hr.mono (by decide), hg⟩) ro_OEA (nomark _) (pem_fld (fldC_one TC.n_Piece TC.l_Piece TC.na_Piece_tally) (pem_var 0 (pv 0))) (pem_fld (fldC_one TC.n_Piece TC.l_Piece TC.na_Piece_tally) (pem_var 1 (pv 1)))) (pem_one (pem_cmp (op_eqP hU) ro_cmp (nomark _) (pem_fld (fldC_one TC.n_Piece TC.l_Piece TC.na_Piece_ticket) (pem_var 0 (pv 0))) (pem_fld (fldC_one TC.n_Piece TC.l_Piece TC.na_Piece_ticket) (pem_var 1 (pv 1)))))))))
/-! is_ticket -/
noncomputable def m_is_ticket : MS := (mRet (mAndV (mUn (dIsi "str") (mVar 1)) (mApp dAll (mCons (mLc (mItems (mVar 1)) (gmName 2) mYes (mBin dIn (mVar 2) (mVar 0)) [2]) mNil))))
theorem s_is_ticket : FnScope ["digits", "thing", "sign"] ["digits", "thing"] (defScope (top 25)) := ⟨rfl, rfl, rfl, by decide +kernel, rfl, by decide +kernel, by decide +kernel⟩
noncomputable def f_is_ticket : List D → Option D := runP 3 m_is_ticket
theorem bd_is_ticket_2 {f : Addr} {fd : FuncData} (F : Fun K "is_ticket" "is_ticket" (top 25) f fd) : Bd fd ["digits", "thing"] 2 [] ([0, 1]) := by
  obtain ⟨oc, od, kV, doc, pm, an, cdv, ct, osl, rfl, lk, hcd⟩ := F.ex
  exact ⟨fun s us ws h1 h2 => match us, ws, h1, h2 with | [v0, v1], [], _, _ => .of_eq rfl⟩
theorem ok_is_ticket {f : Addr} {fd : FuncData} (F : Fun K "is_ticket" "is_ticket" (top 25) f fd) (T : Txt mg) (TC : TCs K mg C_BadTicket C_OtherTally C_Piece C_Tally C_TallyError fI_BadTicket) :
    FnG P w K mg base CX0 1 f fd ["digits", "thing"] (spP K 2 f_is_ticket) := by
  refine fn_pure (k := 0) F s_is_ticket m_is_ticket (fun cdv A outer s H E hr hg => ?_)
  have S := s_is_ticket
  have hU := hr.units
  have hU1 := hu_of hr
  exact (psm_one (psm_ret (pem_and (pem_isi rfl T.g_isinstance rfl T.g_str (by rfl) (pem_var 1 (pv 1))) (pem_one (pem_callB (cr_all rfl) rc_all rfl T.g_all (by rfl) (pam_cons (pem_lc (own := [("sign", 2)]) rfl S.nd (pim_items (pem_var 1 (pv 1))) (by show blkC ["digits", "thing", "sign"] (defScope (top 25)) _ _ = true; decide +kernel) (fun _ _ _ _ _ => (pg_name (i := 2) S.nd rfl (Or.inl rfl))) (gm_name 2) (by decide) (fun _ _ _ _ _ => ptms_nil) (fun _ _ _ _ _ => (pem_cmp op_in_str ro_in (by with_unfolding_all rfl) (pem_var 2 (pv 2)) (pem_var 0 (pv 0))))) pam_nil))))))
/-! check_ticket -/
noncomputable def m_check_ticket : MS := (mIfS (mNotT (mTest (mCallP f_is_ticket [0, 1] (mCons (mVar 0) (mCons (mVar 1) mNil)) mNil))) mNever mSkip)
theorem s_check_ticket : FnScope ["digits", "thing"] ["digits", "thing"] (defScope (top 43)) := ⟨rfl, rfl, rfl, by decide +kernel, rfl, by decide +kernel, by decide +kernel⟩
noncomputable def f_check_ticket : List D → Option D := runP 2 m_check_ticket
noncomputable def xm_check_ticket : MX := (xIfE (mNotT (mTest (mCallP f_is_ticket [0, 1] (mCons (mVar 0) (mCons (mVar 1) mNil)) mNil))) (xRaise1 "BadTicket" "ticket" (mCons (mVar 1) mNil)) xNone)
noncomputable def x_check_ticket : List D → Option Exn := runX 2 xm_check_ticket
theorem bd_check_ticket_2 {f : Addr} {fd : FuncData} (F : Fun K "check_ticket" "check_ticket" (top 43) f fd) : Bd fd ["digits", "thing"] 2 [] ([0, 1]) := by
  obtain ⟨oc, od, kV, doc, pm, an, cdv, ct, osl, rfl, lk, hcd⟩ := F.ex
  exact ⟨fun s us ws h1 h2 => match us, ws, h1, h2 with | [v0, v1], [], _, _ => .of_eq rfl⟩
theorem ok_check_ticket {f : Addr} {fd : FuncData} (F : Fun K "check_ticket" "check_ticket" (top 43) f fd) (T : Txt mg) (TC : TCs K mg C_BadTicket C_OtherTally C_Piece C_Tally C_TallyError fI_BadTicket) {a_is_ticket : Addr} {d_is_ticket : FuncData} (A_is_ticket : At K mg "is_ticket" a_is_ticket) (F_is_ticket : Fun K "is_ticket" "is_ticket" (top 25) a_is_ticket d_is_ticket) (G_is_ticket : FnG P w K mg base CX0 1 a_is_ticket d_is_ticket ["digits", "thing"] (spP K 2 f_is_ticket)) :
    FnG P w K mg base CX0 2 f fd ["digits", "thing"] (spP K 2 f_check_ticket) := by
  have b_is_ticket_2 := bd_is_ticket_2 F_is_ticket
  refine fn_pure (k := 1) F s_check_ticket m_check_ticket (fun cdv A outer s H E hr hg => ?_)
  have S := s_check_ticket
  have hU := hr.units
  have hU1 := hu_of hr
  exact (psm_one (psm_if (ptm_not (ptm_val (pem_callP ⟨hr.mono (by decide), hg⟩ G_is_ticket rfl A_is_ticket.mg A_is_ticket.kp b_is_ticket_2 (fix_cons (fix_cons fix_nil)) (by decide) rfl (pam_cons (pem_var 0 (pv 0)) (pam_cons (pem_var 1 (pv 1)) pam_nil))))) (psm_one psm_raise) psm_nil))
theorem okx_check_ticket {f : Addr} {fd : FuncData} (F : Fun K "check_ticket" "check_ticket" (top 43) f fd) (T : Txt mg) (TC : TCs K mg C_BadTicket C_OtherTally C_Piece C_Tally C_TallyError fI_BadTicket) {a_is_ticket : Addr} {d_is_ticket : FuncData} (A_is_ticket : At K mg "is_ticket" a_is_ticket) (F_is_ticket : Fun K "is_ticket" "is_ticket" (top 25) a_is_ticket d_is_ticket) (G_is_ticket : FnG P w K mg base CX0 1 a_is_ticket d_is_ticket ["digits", "thing"] (spP K 2 f_is_ticket)) :
    FnG P w K mg base (CX P w) 2 f fd ["digits", "thing"] (spX K 2 x_check_ticket) := by
  have b_is_ticket_2 := bd_is_ticket_2 F_is_ticket
  refine fn_raise (k := 1) F s_check_ticket xm_check_ticket (fun cdv A outer s H E hr hg tk => ?_)
  have S := s_check_ticket
  have hU := hr.units
  have hU1 := hu_of hr
  exact (pssx_head0 (psx_if (ptm_not (ptm_val (pem_callP ⟨hr.mono (by decide), hg⟩ G_is_ticket rfl A_is_ticket.mg A_is_ticket.kp b_is_ticket_2 (fix_cons (fix_cons fix_nil)) (by decide) rfl (pam_cons (pem_var 0 (pv 0)) (pam_cons (pem_var 1 (pv 1)) pam_nil))))) (pssx_head0 (psx_raise1 rfl tk TC.x_BadTicket ⟨by decide, by decide⟩ hr (pam_cons (pem_var 1 (pv 1)) pam_nil) rfl)) pssx_none))
/-! led_on -/
noncomputable def m_led_on : MS := (mSeq (mAsg (mLc (mZip (mCons (mVar 0) (mCons (mVar 1) mNil))) (gmTup (gmCons (gmName 3) (gmCons (gmName 4) gmNil)) 2) (mTest (mBin dNe (mVar 3) (mC (.int 0)))) (mApp dTup (mCons (mVar 3) (mCons (mVar 4) mNil))) [3, 4]) (gmName 2)) (mRet (mApp dTuple (mCons (mLc (mRange (mCons (mApp dLen (mCons (mVar 0) mNil)) mNil)) (gmName 5) mYes (mApp dSum (mCons (mLc (mItems (mVar 2)) (gmTup (gmCons (gmName 3) (gmCons (gmName 4) gmNil)) 2) mYes (mBin dMulA (mVar 3) (mBin dItemA (mVar 4) (mVar 5))) [3, 4]) mNil)) [5]) mNil))))
theorem s_led_on : FnScope ["row", "table", "parts", "number", "line", "place"] ["row", "table"] (defScope (top 16)) := ⟨rfl, rfl, rfl, by decide +kernel, rfl, by decide +kernel, by decide +kernel⟩
noncomputable def f_led_on : List D → Option D := runP 6 m_led_on
theorem bd_led_on_2 {f : Addr} {fd : FuncData} (F : Fun K "led_on" "led_on" (top 16) f fd) : Bd fd ["row", "table"] 2 [] ([0, 1]) := by
  obtain ⟨oc, od, kV, doc, pm, an, cdv, ct, osl, rfl, lk, hcd⟩ := F.ex
  exact ⟨fun s us ws h1 h2 => match us, ws, h1, h2 with | [v0, v1], [], _, _ => .of_eq rfl⟩
theorem ok_led_on {f : Addr} {fd : FuncData} (F : Fun K "led_on" "led_on" (top 16) f fd) (T : Txt mg) (TC : TCs K mg C_BadTicket C_OtherTally C_Piece C_Tally C_TallyError fI_BadTicket) :
    FnG P w K mg base CX0 1 f fd ["row", "table"] (spP K 2 f_led_on) := by
  refine fn_pure (k := 0) F s_led_on m_led_on (fun cdv A outer s H E hr hg => ?_)
  have S := s_led_on
  have hU := hr.units
  have hU1 := hu_of hr
  exact (psm_seq (psm_set (i := 2) S.nd rfl (Or.inr rfl) (pem_lc (own := [("number", 3), ("line", 4)]) rfl S.nd (pim_zip rfl T.g_zip (pam_cons (pem_var 0 (pv 0)) (pam_cons (pem_var 1 (pv 1)) pam_nil))) (by show blkC ["row", "table", "parts", "number", "line", "place"] (defScope (top 16)) _ _ = true; decide +kernel) (fun _ _ _ _ _ => (pg_tup rfl (pgs_cons (pg_name (i := 3) S.nd rfl (Or.inl rfl)) (pgs_cons (pg_name (i := 4) S.nd rfl (Or.inl rfl)) pgs_nil)))) (gm_tup (gm_cons (gm_name 3) (gm_cons (gm_name 4) gm_nil))) (by decide) (fun _ _ _ _ _ => (ptms_one (ptm_cmp (op_neP hU) ro_cmp (nomark _) (pem_var 3 (pv 3)) pem_int))) (fun _ _ _ _ _ => (pem_tup (pam_cons (pem_var 3 (pv 3)) (pam_cons (pem_var 4 (pv 4)) pam_nil)))))) (psm_one (psm_ret (pem_callTy (call_tupleA rfl) rc_tuple rfl T.g_tuple (by rfl) (pam_cons (pem_lc (own := [("place", 5)]) rfl S.nd (pim_range1 rfl T.g_range (pam_cons (pem_callB call_lenA rc_len rfl T.g_len (by rfl) (pam_cons (pem_var 0 (pv 0)) pam_nil)) pam_nil) (fun _ _ _ h => fix_cons fix_nil _ _ _ h)) (by show blkC ["row", "table", "parts", "number", "line", "place"] (defScope (top 16)) _ _ = true; decide +kernel) (fun _ _ _ _ _ => (pg_name (i := 5) S.nd rfl (Or.inr rfl))) (gm_name 5) (by decide) (fun _ _ _ _ _ => ptms_nil) (fun _ _ _ _ _ => (pem_callB (cr_sum rfl) rc_sum rfl T.g_sum (by rfl) (pam_cons (pem_lc (own := [("number", 3), ("line", 4)]) rfl S.nd (pim_items (pem_var 2 (pv 2))) (by show blkC ["row", "table", "parts", "number", "line", "place"] _ _ _ = true; dsimp only [compEnvC]; first | decide +kernel | rfl) (fun _ _ _ _ _ => (pg_tup rfl (pgs_cons (pg_name (i := 3) S.nd rfl (Or.inl rfl)) (pgs_cons (pg_name (i := 4) S.nd rfl (Or.inl rfl)) pgs_nil)))) (gm_tup (gm_cons (gm_name 3) (gm_cons (gm_name 4) gm_nil))) (by decide) (fun _ _ _ _ _ => ptms_nil) (fun _ _ _ _ _ => (pem_op op_mulA ro_mulA (pem_var 3 (pv 3)) (pem_itemA hU1 (pem_var 4 (pv 4)) (pem_var 5 (pv 5)) (fun _ _ => rfl))))) pam_nil)))) pam_nil)))))
/-! table_product -/
noncomputable def m_table_product : MS := (mRet (mApp dTuple (mCons (mLc (mItems (mVar 0)) (gmName 2) mYes (mCallP f_led_on [0, 1] (mCons (mVar 2) (mCons (mVar 1) mNil)) mNil) [2]) mNil)))
theorem s_table_product : FnScope ["table", "other", "row"] ["table", "other"] (defScope (top 21)) := ⟨rfl, rfl, rfl, by decide +kernel, rfl, by decide +kernel, by decide +kernel⟩
noncomputable def f_table_product : List D → Option D := runP 3 m_table_product
theorem bd_table_product_2 {f : Addr} {fd : FuncData} (F : Fun K "table_product" "table_product" (top 21) f fd) : Bd fd ["table", "other"] 2 [] ([0, 1]) := by
  obtain ⟨oc, od, kV, doc, pm, an, cdv, ct, osl, rfl, lk, hcd⟩ := F.ex
  exact ⟨fun s us ws h1 h2 => match us, ws, h1, h2 with | [v0, v1], [], _, _ => .of_eq rfl⟩
theorem ok_table_product {f : Addr} {fd : FuncData} (F : Fun K "table_product" "table_product" (top 21) f fd) (T : Txt mg) (TC : TCs K mg C_BadTicket C_OtherTally C_Piece C_Tally C_TallyError fI_BadTicket) {a_led_on : Addr} {d_led_on : FuncData} (A_led_on : At K mg "led_on" a_led_on) (F_led_on : Fun K "led_on" "led_on" (top 16) a_led_on d_led_on) (G_led_on : FnG P w K mg base CX0 1 a_led_on d_led_on ["row", "table"] (spP K 2 f_led_on)) :
    FnG P w K mg base CX0 2 f fd ["table", "other"] (spP K 2 f_table_product) := by
  have b_led_on_2 := bd_led_on_2 F_led_on
  refine fn_pure (k := 1) F s_table_product m_table_product (fun cdv A outer s H E hr hg => ?_)
  have S := s_table_product
  have hU := hr.units
  have hU1 := hu_of hr
  exact (psm_one (psm_ret (pem_callTy (call_tupleA rfl) rc_tuple rfl T.g_tuple (by rfl) (pam_cons (pem_lc (own := [("row", 2)]) rfl S.nd (pim_items (pem_var 0 (pv 0))) (by show blkC ["table", "other", "row"] (defScope (top 21)) _ _ = true; decide +kernel) (fun _ _ _ _ _ => (pg_name (i := 2) S.nd rfl (Or.inl rfl))) (gm_name 2) (by decide) (fun _ _ _ _ _ => ptms_nil) (fun _ _ _ _ _ => (pem_callP ⟨hr.mono (by decide), hg⟩ G_led_on rfl A_led_on.mg A_led_on.kp b_led_on_2 (fix_cons (fix_cons fix_nil)) (by decide) rfl (pam_cons (pem_var 2 (pv 2)) (pam_cons (pem_var 1 (pv 1)) pam_nil))))) pam_nil))))
/-! noughts -/
noncomputable def m_noughts : MS := (mRet (mBin dMulB (mApp dTup (mCons (mC (.int 0)) mNil)) (mVar 0)))
theorem s_noughts : FnScope ["width"] ["width"] (defScope (top 13)) := ⟨rfl, rfl, rfl, by decide +kernel, rfl, by decide +kernel, by decide +kernel⟩
noncomputable def f_noughts : List D → Option D := runP 1 m_noughts
theorem bd_noughts_1 {f : Addr} {fd : FuncData} (F : Fun K "noughts" "noughts" (top 13) f fd) : Bd fd ["width"] 1 [] ([0]) := by
  obtain ⟨oc, od, kV, doc, pm, an, cdv, ct, osl, rfl, lk, hcd⟩ := F.ex
  exact ⟨fun s us ws h1 h2 => match us, ws, h1, h2 with | [v0], [], _, _ => .of_eq rfl⟩
theorem ok_noughts {f : Addr} {fd : FuncData} (F : Fun K "noughts" "noughts" (top 13) f fd) (T : Txt mg) (TC : TCs K mg C_BadTicket C_OtherTally C_Piece C_Tally C_TallyError fI_BadTicket) :
    FnG P w K mg base CX0 1 f fd ["width"] (spP K 1 f_noughts) := by
  refine fn_pure (k := 0) F s_noughts m_noughts (fun cdv A outer s H E hr hg => ?_)
  have S := s_noughts
  have hU := hr.units
  have hU1 := hu_of hr
  exact (psm_one (psm_ret (pem_op op_mulB ro_mulB (pem_tup (pam_cons pem_int pam_nil)) (pem_var 0 (pv 0)))))
/-! unit_row -/
noncomputable def m_unit_row : MS := (mRet (mBin dAdd (mBin dAdd (mCallP f_noughts [0] (mCons (mVar 1) mNil) mNil) (mApp dTup (mCons (mC (.int 1)) mNil))) (mCallP f_noughts [0] (mCons (mBin dSub (mBin dSub (mVar 0) (mVar 1)) (mC (.int 1))) mNil) mNil)))
theorem s_unit_row : FnScope ["width", "place"] ["width", "place"] (defScope (top 14)) := ⟨rfl, rfl, rfl, by decide +kernel, rfl, by decide +kernel, by decide +kernel⟩
noncomputable def f_unit_row : List D → Option D := runP 2 m_unit_row
theorem bd_unit_row_2 {f : Addr} {fd : FuncData} (F : Fun K "unit_row" "unit_row" (top 14) f fd) : Bd fd ["width", "place"] 2 [] ([0, 1]) := by
  obtain ⟨oc, od, kV, doc, pm, an, cdv, ct, osl, rfl, lk, hcd⟩ := F.ex
  exact ⟨fun s us ws h1 h2 => match us, ws, h1, h2 with | [v0, v1], [], _, _ => .of_eq rfl⟩
theorem ok_unit_row {f : Addr} {fd : FuncData} (F : Fun K "unit_row" "unit_row" (top 14) f fd) (T : Txt mg) (TC : TCs K mg C_BadTicket C_OtherTally C_Piece C_Tally C_TallyError fI_BadTicket) {a_noughts : Addr} {d_noughts : FuncData} (A_noughts : At K mg "noughts" a_noughts) (F_noughts : Fun K "noughts" "noughts" (top 13) a_noughts d_noughts) (G_noughts : FnG P w K mg base CX0 1 a_noughts d_noughts ["width"] (spP K 1 f_noughts)) :
    FnG P w K mg base CX0 2 f fd ["width", "place"] (spP K 2 f_unit_row) := by
  have b_noughts_1 := bd_noughts_1 F_noughts
  refine fn_pure (k := 1) F s_unit_row m_unit_row (fun cdv A outer s H E hr hg => ?_)
  have S := s_unit_row
  have hU := hr.units
  have hU1 := hu_of hr
  exact (psm_one (psm_ret (pem_op op_addA ro_add (pem_op op_addA ro_add (pem_callP ⟨hr.mono (by decide), hg⟩ G_noughts rfl A_noughts.mg A_noughts.kp b_noughts_1 (fix_cons fix_nil) (by decide) rfl (pam_cons (pem_var 1 (pv 1)) pam_nil)) (pem_tup (pam_cons pem_int pam_nil))) (pem_callP ⟨hr.mono (by decide), hg⟩ G_noughts rfl A_noughts.mg A_noughts.kp b_noughts_1 (fix_cons fix_nil) (by decide) rfl (pam_cons (pem_op op_sub ro_sub (pem_op op_sub ro_sub (pem_var 0 (pv 0)) (pem_var 1 (pv 1))) pem_int) pam_nil)))))
/-! unit_table -/
noncomputable def m_unit_table : MS := (mRet (mApp dTuple (mCons (mLc (mRange (mCons (mVar 0) mNil)) (gmName 1) mYes (mCallP f_unit_row [0, 1] (mCons (mVar 0) (mCons (mVar 1) mNil)) mNil) [1]) mNil)))
theorem s_unit_table : FnScope ["size", "place"] ["size"] (defScope (top 20)) := ⟨rfl, rfl, rfl, by decide +kernel, rfl, by decide +kernel, by decide +kernel⟩
noncomputable def f_unit_table : List D → Option D := runP 2 m_unit_table
theorem bd_unit_table_1 {f : Addr} {fd : FuncData} (F : Fun K "unit_table" "unit_table" (top 20) f fd) : Bd fd ["size"] 1 [] ([0]) := by
  obtain ⟨oc, od, kV, doc, pm, an, cdv, ct, osl, rfl, lk, hcd⟩ := F.ex
  exact ⟨fun s us ws h1 h2 => match us, ws, h1, h2 with | [v0], [], _, _ => .of_eq rfl⟩
theorem ok_unit_table {f : Addr} {fd : FuncData} (F : Fun K "unit_table" "unit_table" (top 20) f fd) (T : Txt mg) (TC : TCs K mg C_BadTicket C_OtherTally C_Piece C_Tally C_TallyError fI_BadTicket) {a_unit_row : Addr} {d_unit_row : FuncData} (A_unit_row : At K mg "unit_row" a_unit_row) (F_unit_row : Fun K "unit_row" "unit_row" (top 14) a_unit_row d_unit_row) (G_unit_row : FnG P w K mg base CX0 2 a_unit_row d_unit_row ["width", "place"] (spP K 2 f_unit_row)) :
    FnG P w K mg base CX0 3 f fd ["size"] (spP K 1 f_unit_table) := by
  have b_unit_row_2 := bd_unit_row_2 F_unit_row
  refine fn_pure (k := 2) F s_unit_table m_unit_table (fun cdv A outer s H E hr hg => ?_)
  have S := s_unit_table
  have hU := hr.units
  have hU1 := hu_of hr
  exact (psm_one (psm_ret (pem_callTy (call_tupleA rfl) rc_tuple rfl T.g_tuple (by rfl) (pam_cons (pem_lc (own := [("place", 1)]) rfl S.nd (pim_range1 rfl T.g_range (pam_cons (pem_var 0 (pv 0)) pam_nil) (fun _ _ _ h => fix_cons fix_nil _ _ _ h)) (by show blkC ["size", "place"] (defScope (top 20)) _ _ = true; decide +kernel) (fun _ _ _ _ _ => (pg_name (i := 1) S.nd rfl (Or.inl rfl))) (gm_name 1) (by decide) (fun _ _ _ _ _ => ptms_nil) (fun _ _ _ _ _ => (pem_callP ⟨hr.mono (by decide), hg⟩ G_unit_row rfl A_unit_row.mg A_unit_row.kp b_unit_row_2 (fix_cons (fix_cons fix_nil)) (by decide) rfl (pam_cons (pem_var 0 (pv 0)) (pam_cons (pem_var 1 (pv 1)) pam_nil))))) pam_nil))))
/-! Tally__table -/
noncomputable def m_Tally__table : MS := (mSeq (mDrop (mCallP f_check_ticket [0, 1] (mCons (mUn (dFld ["Tally"] "digits") (mVar 0)) (mCons (mVar 1) mNil)) mNil)) (mSeq (mAsg (mCallP f_unit_table [0] (mCons (mApp dLen (mCons (mUn (dFld ["Tally"] "start") (mVar 0)) mNil)) mNil) mNil) (gmName 2)) (mSeq (mFor (mItems (mVar 1)) (gmName 3) (mAsg (mCallP f_table_product [0, 1] (mCons (mVar 2) (mCons (mBin dItemA (mUn (dFld ["Tally"] "tables") (mVar 0)) (mBin dIndexA (mUn (dFld ["Tally"] "digits") (mVar 0)) (mVar 3))) mNil)) mNil) (gmName 2))) (mRet (mVar 2)))))
theorem s_Tally__table : FnScope ["self", "ticket", "found", "digit"] ["self", "ticket"] (defScope (inClass (top 41) 7)) := ⟨rfl, rfl, rfl, by decide +kernel, rfl, by decide +kernel, by decide +kernel⟩
noncomputable def f_Tally__table : List D → Option D := runP 4 m_Tally__table
noncomputable def xm_Tally__table : MX := (xCallP x_check_ticket [0, 1] (mCons (mUn (dFld ["Tally"] "digits") (mVar 0)) (mCons (mVar 1) mNil)) mNil)
noncomputable def x_Tally__table : List D → Option Exn := runX 4 xm_Tally__table
theorem bd_Tally__table_2 {f : Addr} {fd : FuncData} (F : Fun K "table" "Tally.table" (inClass (top 41) 7) f fd) : Bd fd ["self", "ticket"] 2 [] ([0, 1]) := by
  obtain ⟨oc, od, kV, doc, pm, an, cdv, ct, osl, rfl, lk, hcd⟩ := F.ex
  exact ⟨fun s us ws h1 h2 => match us, ws, h1, h2 with | [v0, v1], [], _, _ => .of_eq rfl⟩
theorem ok_Tally__table {f : Addr} {fd : FuncData} (F : Fun K "table" "Tally.table" (inClass (top 41) 7) f fd) (T : Txt mg) (TC : TCs K mg C_BadTicket C_OtherTally C_Piece C_Tally C_TallyError fI_BadTicket) {a_check_ticket : Addr} {d_check_ticket : FuncData} (A_check_ticket : At K mg "check_ticket" a_check_ticket) (F_check_ticket : Fun K "check_ticket" "check_ticket" (top 43) a_check_ticket d_check_ticket) (G_check_ticket : FnG P w K mg base CX0 2 a_check_ticket d_check_ticket ["digits", "thing"] (spP K 2 f_check_ticket)) (GX_check_ticket : FnG P w K mg base (CX P w) 2 a_check_ticket d_check_ticket ["digits", "thing"] (spX K 2 x_check_ticket)) {a_table_product : Addr} {d_table_product : FuncData} (A_table_product : At K mg "table_product" a_table_product) (F_table_product : Fun K "table_product" "table_product" (top 21) a_table_product d_table_product) (G_table_product : FnG P w K mg base CX0 2 a_table_product d_table_product ["table", "other"] (spP K 2 f_table_product)) {a_unit_table : Addr} {d_unit_table : FuncData} (A_unit_table : At K mg "unit_table" a_unit_table) (F_unit_table : Fun K "unit_table" "unit_table" (top 20) a_unit_table d_unit_table) (G_unit_table : FnG P w K mg base CX0 3 a_unit_table d_unit_table ["size"] (spP K 1 f_unit_table)) :
    FnG P w K mg base CX0 4 f fd ["self", "ticket"] (spP K 2 f_Tally__table) := by
  have b_check_ticket_2 := bd_check_ticket_2 F_check_ticket
  have b_table_product_2 := bd_table_product_2 F_table_product
  have b_unit_table_1 := bd_unit_table_1 F_unit_table
  refine fn_pure (k := 3) F s_Tally__table m_Tally__table (fun cdv A outer s H E hr hg => ?_)
  have S := s_Tally__table
  have hU := hr.units
  have hU1 := hu_of hr
  exact (psm_seq (psm_expr (pem_callP ⟨hr.mono (by decide), hg⟩ G_check_ticket rfl A_check_ticket.mg A_check_ticket.kp b_check_ticket_2 (fix_cons (fix_cons fix_nil)) (by decide) rfl (pam_cons (pem_fld (fldC_one TC.n_Tally TC.l_Tally TC.na_Tally_digits) (pem_var 0 (pv 0))) (pam_cons (pem_var 1 (pv 1)) pam_nil)))) (psm_seq (psm_set (i := 2) S.nd rfl (Or.inl rfl) (pem_callP ⟨hr.mono (by decide), hg⟩ G_unit_table rfl A_unit_table.mg A_unit_table.kp b_unit_table_1 (fix_cons fix_nil) (by decide) rfl (pam_cons (pem_callB call_lenA rc_len rfl T.g_len (by rfl) (pam_cons (pem_fld (fldC_one TC.n_Tally TC.l_Tally TC.na_Tally_start) (pem_var 0 (pv 0))) pam_nil)) pam_nil))) (psm_seq (psm_for PassesOwn.never rfl (pim_items (pem_var 1 (pv 1))) (pg_name (i := 3) S.nd rfl (Or.inl rfl)) (gm_name 3) (psm_one (psm_set (i := 2) S.nd rfl (Or.inl rfl) (pem_callP ⟨hr.mono (by decide), hg⟩ G_table_product rfl A_table_product.mg A_table_product.kp b_table_product_2 (fix_cons (fix_cons fix_nil)) (by decide) rfl (pam_cons (pem_var 2 (pv 2)) (pam_cons (pem_itemA hU1 (pem_fld (fldC_one TC.n_Tally TC.l_Tally TC.na_Tally_tables) (pem_var 0 (pv 0))) (pem_indexA (pem_fld (fldC_one TC.n_Tally TC.l_Tally TC.na_Tally_digits) (pem_var 0 (pv 0))) (pem_var 3 (pv 3))) (fun _ _ => rfl)) pam_nil)))))) (psm_one (psm_ret (pem_var 2 (pv 2)))))))
theorem okx_Tally__table {f : Addr} {fd : FuncData} (F : Fun K "table" "Tally.table" (inClass (top 41) 7) f fd) (T : Txt mg) (TC : TCs K mg C_BadTicket C_OtherTally C_Piece C_Tally C_TallyError fI_BadTicket) {a_check_ticket : Addr} {d_check_ticket : FuncData} (A_check_ticket : At K mg "check_ticket" a_check_ticket) (F_check_ticket : Fun K "check_ticket" "check_ticket" (top 43) a_check_ticket d_check_ticket) (G_check_ticket : FnG P w K mg base CX0 2 a_check_ticket d_check_ticket ["digits", "thing"] (spP K 2 f_check_ticket)) (GX_check_ticket : FnG P w K mg base (CX P w) 2 a_check_ticket d_check_ticket ["digits", "thing"] (spX K 2 x_check_ticket)) {a_table_product : Addr} {d_table_product : FuncData} (A_table_product : At K mg "table_product" a_table_product) (F_table_product : Fun K "table_product" "table_product" (top 21) a_table_product d_table_product) (G_table_product : FnG P w K mg base CX0 2 a_table_product d_table_product ["table", "other"] (spP K 2 f_table_product)) {a_unit_table : Addr} {d_unit_table : FuncData} (A_unit_table : At K mg "unit_table" a_unit_table) (F_unit_table : Fun K "unit_table" "unit_table" (top 20) a_unit_table d_unit_table) (G_unit_table : FnG P w K mg base CX0 3 a_unit_table d_unit_table ["size"] (spP K 1 f_unit_table)) :
    FnG P w K mg base (CX P w) 4 f fd ["self", "ticket"] (spX K 2 x_Tally__table) := by
  have b_check_ticket_2 := bd_check_ticket_2 F_check_ticket
  have b_table_product_2 := bd_table_product_2 F_table_product
  have b_unit_table_1 := bd_unit_table_1 F_unit_table
  refine fn_raise (k := 3) F s_Tally__table xm_Tally__table (fun cdv A outer s H E hr hg tk => ?_)
  have S := s_Tally__table
  have hU := hr.units
  have hU1 := hu_of hr
  exact (pssx_head0 (psx_expr (pex_callX ⟨hr.mono (by decide), hg⟩ tk GX_check_ticket rfl A_check_ticket.mg A_check_ticket.kp b_check_ticket_2 (fix_cons (fix_cons fix_nil)) (by decide) rfl (pam_cons (pem_fld (fldC_one TC.n_Tally TC.l_Tally TC.na_Tally_digits) (pem_var 0 (pv 0))) (pam_cons (pem_var 1 (pv 1)) pam_nil)))))
/-! Piece____init__ -/
noncomputable def m_Piece____init__ : MS := (mSeq (mFst 0 "Piece" "table_now" (mMeth "Tally" "table" f_Tally__table [0, 1] (mVar 1) (mCons (mVar 2) mNil) mNil)) (mSeq (mFst 0 "Piece" "tally" (mVar 1)) (mFst 0 "Piece" "ticket" (mVar 2))))
theorem s_Piece____init__ : FnScope ["self", "tally", "ticket"] ["self", "tally", "ticket"] (defScope (inClass (top 18) 0)) := ⟨rfl, rfl, rfl, by decide +kernel, rfl, by decide +kernel, by decide +kernel⟩
noncomputable def f_Piece____init__ : List D → Option (List (Str × D)) := runI "Piece" 3 m_Piece____init__
noncomputable def xm_Piece____init__ : MX := (xMeth "Tally" "table" x_Tally__table [0, 1] (mVar 1) (mCons (mVar 2) mNil) mNil)
noncomputable def x_Piece____init__ : List D → Option Exn := runXI "Piece" 3 xm_Piece____init__
theorem bd_Piece____init___1_ticket_tally {f : Addr} {fd : FuncData} (F : Fun K "__init__" "Piece.__init__" (inClass (top 18) 0) f fd) : Bd fd ["self", "tally", "ticket"] 1 ["ticket", "tally"] ([0, 2, 1]) := by
  obtain ⟨oc, od, kV, doc, pm, an, cdv, ct, osl, rfl, lk, hcd⟩ := F.ex
  exact ⟨fun s us ws h1 h2 => match us, ws, h1, h2 with | [v0], [z0, z1], _, _ => .of_eq rfl⟩
theorem bd_Piece____init___3 {f : Addr} {fd : FuncData} (F : Fun K "__init__" "Piece.__init__" (inClass (top 18) 0) f fd) : Bd fd ["self", "tally", "ticket"] 3 [] ([0, 1, 2]) := by
  obtain ⟨oc, od, kV, doc, pm, an, cdv, ct, osl, rfl, lk, hcd⟩ := F.ex
  exact ⟨fun s us ws h1 h2 => match us, ws, h1, h2 with | [v0, v1, v2], [], _, _ => .of_eq rfl⟩
theorem ok_Piece____init__ {f : Addr} {fd : FuncData} (F : Fun K "__init__" "Piece.__init__" (inClass (top 18) 0) f fd) (T : Txt mg) (TC : TCs K mg C_BadTicket C_OtherTally C_Piece C_Tally C_TallyError fI_BadTicket) {a_Tally__table : Addr} {d_Tally__table : FuncData} (M_Tally__table : Meth K C_Tally "table" a_Tally__table) (F_Tally__table : Fun K "table" "Tally.table" (inClass (top 41) 7) a_Tally__table d_Tally__table) (G_Tally__table : FnG P w K mg base CX0 4 a_Tally__table d_Tally__table ["self", "ticket"] (spP K 2 f_Tally__table)) (GX_Tally__table : FnG P w K mg base (CX P w) 4 a_Tally__table d_Tally__table ["self", "ticket"] (spX K 2 x_Tally__table)) :
    FnG P w K mg base CX0 5 f fd ["self", "tally", "ticket"] (spI K "Piece" 3 f_Piece____init__) := by
  have b_Tally__table_2 := bd_Tally__table_2 F_Tally__table
  refine fn_init (k := 4) F s_Piece____init__ m_Piece____init__ (fun cdv A outer s H E hr hg => ?_)
  have S := s_Piece____init__
  have hU := hr.units
  have hU1 := hu_of hr
  exact (psm_seq (psm_fst (attrC_of TC.n_Piece TC.l_Piece TC.na_Piece_table_now) (pv 0) (pem_meth ⟨hr.mono (by decide), hg⟩ (pem_var 1 (pv 1)) TC.n_Tally TC.l_Tally M_Tally__table G_Tally__table b_Tally__table_2 (fix_cons fix_nil) (by decide) rfl (pam_cons (pem_var 2 (pv 2)) pam_nil))) (psm_seq (psm_fst (attrC_of TC.n_Piece TC.l_Piece TC.na_Piece_tally) (pv 0) (pem_var 1 (pv 1))) (psm_one (psm_fst (attrC_of TC.n_Piece TC.l_Piece TC.na_Piece_ticket) (pv 0) (pem_var 2 (pv 2))))))
theorem okx_Piece____init__ {f : Addr} {fd : FuncData} (F : Fun K "__init__" "Piece.__init__" (inClass (top 18) 0) f fd) (T : Txt mg) (TC : TCs K mg C_BadTicket C_OtherTally C_Piece C_Tally C_TallyError fI_BadTicket) {a_Tally__table : Addr} {d_Tally__table : FuncData} (M_Tally__table : Meth K C_Tally "table" a_Tally__table) (F_Tally__table : Fun K "table" "Tally.table" (inClass (top 41) 7) a_Tally__table d_Tally__table) (G_Tally__table : FnG P w K mg base CX0 4 a_Tally__table d_Tally__table ["self", "ticket"] (spP K 2 f_Tally__table)) (GX_Tally__table : FnG P w K mg base (CX P w) 4 a_Tally__table d_Tally__table ["self", "ticket"] (spX K 2 x_Tally__table)) :
    FnG P w K mg base (CX P w) 5 f fd ["self", "tally", "ticket"] (spXI K "Piece" 3 x_Piece____init__) := by
  have b_Tally__table_2 := bd_Tally__table_2 F_Tally__table
  refine fn_raiseI (k := 4) F s_Piece____init__ xm_Piece____init__ (fun cdv A outer s H E hr hg tk => ?_)
  have S := s_Piece____init__
  have hU := hr.units
  have hU1 := hu_of hr
  exact (pssx_head0 (psx_fst (pv 0) (pex_meth ⟨hr.mono (by decide), hg⟩ tk (pem_var 1 (pv 1)) TC.n_Tally TC.l_Tally M_Tally__table GX_Tally__table b_Tally__table_2 (fix_cons fix_nil) (by decide) rfl (pam_cons (pem_var 2 (pv 2)) pam_nil))))
/-! Piece__joined -/
noncomputable def m_Piece__joined : MS := (mSeq (mIfS (mTest (mBin (dOE "Tally" f_Tally____eq__ true) (mUn (dFld ["Piece"] "tally") (mVar 0)) (mUn (dFld ["Piece"] "tally") (mVar 1)))) mNever mSkip) (mRet (mMake "Piece" f_Piece____init__ [0, 1] (mCons (mUn (dFld ["Piece"] "tally") (mVar 0)) (mCons (mBin dAdd (mUn (dFld ["Piece"] "ticket") (mVar 0)) (mUn (dFld ["Piece"] "ticket") (mVar 1))) mNil)) mNil)))
theorem s_Piece__joined : FnScope ["self", "other"] ["self", "other"] (defScope (inClass (top 18) 3)) := ⟨rfl, rfl, rfl, by decide +kernel, rfl, by decide +kernel, by decide +kernel⟩
noncomputable def f_Piece__joined : List D → Option D := runP 2 m_Piece__joined
noncomputable def xm_Piece__joined : MX := (xAlt (xIfE (mTest (mBin (dOE "Tally" f_Tally____eq__ true) (mUn (dFld ["Piece"] "tally") (mVar 0)) (mUn (dFld ["Piece"] "tally") (mVar 1)))) (xRaise0 "OtherTally") xNone) (xSeq (mIfS (mTest (mBin (dOE "Tally" f_Tally____eq__ true) (mUn (dFld ["Piece"] "tally") (mVar 0)) (mUn (dFld ["Piece"] "tally") (mVar 1)))) mNever mSkip) (xCallP x_Piece____init__ [0, 1] (mCons (mUn (dFld ["Piece"] "tally") (mVar 0)) (mCons (mBin dAdd (mUn (dFld ["Piece"] "ticket") (mVar 0)) (mUn (dFld ["Piece"] "ticket") (mVar 1))) mNil)) mNil)))
noncomputable def x_Piece__joined : List D → Option Exn := runX 2 xm_Piece__joined
theorem bd_Piece__joined_1_other {f : Addr} {fd : FuncData} (F : Fun K "joined" "Piece.joined" (inClass (top 18) 3) f fd) : Bd fd ["self", "other"] 1 ["other"] ([0, 1]) := by
  obtain ⟨oc, od, kV, doc, pm, an, cdv, ct, osl, rfl, lk, hcd⟩ := F.ex
  exact ⟨fun s us ws h1 h2 => match us, ws, h1, h2 with | [v0], [z0], _, _ => .of_eq rfl⟩
theorem bd_Piece__joined_2 {f : Addr} {fd : FuncData} (F : Fun K "joined" "Piece.joined" (inClass (top 18) 3) f fd) : Bd fd ["self", "other"] 2 [] ([0, 1]) := by
  obtain ⟨oc, od, kV, doc, pm, an, cdv, ct, osl, rfl, lk, hcd⟩ := F.ex
  exact ⟨fun s us ws h1 h2 => match us, ws, h1, h2 with | [v0, v1], [], _, _ => .of_eq rfl⟩
theorem ok_Piece__joined {f : Addr} {fd : FuncData} (F : Fun K "joined" "Piece.joined" (inClass (top 18) 3) f fd) (T : Txt mg) (TC : TCs K mg C_BadTicket C_OtherTally C_Piece C_Tally C_TallyError fI_BadTicket) {a_Piece____init__ : Addr} {d_Piece____init__ : FuncData} (MK_Piece : Mk K C_Piece a_Piece____init__) (F_Piece____init__ : Fun K "__init__" "Piece.__init__" (inClass (top 18) 0) a_Piece____init__ d_Piece____init__) (G_Piece____init__ : FnG P w K mg base CX0 5 a_Piece____init__ d_Piece____init__ ["self", "tally", "ticket"] (spI K "Piece" 3 f_Piece____init__)) (GX_Piece____init__ : FnG P w K mg base (CX P w) 5 a_Piece____init__ d_Piece____init__ ["self", "tally", "ticket"] (spXI K "Piece" 3 x_Piece____init__)) {a_Tally____eq__ : Addr} {d_Tally____eq__ : FuncData} (E_Tally : EqC K "Tally" C_Tally a_Tally____eq__) (F_Tally____eq__ : Fun K "__eq__" "Tally.__eq__" (inClass (top 41) 2) a_Tally____eq__ d_Tally____eq__) (G_Tally____eq__ : FnG P w K mg base CX0 1 a_Tally____eq__ d_Tally____eq__ ["self", "other"] (spP K 2 f_Tally____eq__)) :
    FnG P w K mg base CX0 7 f fd ["self", "other"] (spP K 2 f_Piece__joined) := by
  have b_Piece____init___1_ticket_tally := bd_Piece____init___1_ticket_tally F_Piece____init__
  have b_Piece____init___3 := bd_Piece____init___3 F_Piece____init__
  have b_Tally____eq___2 := bd_Tally____eq___2 F_Tally____eq__
  refine fn_pure (k := 6) F s_Piece__joined m_Piece__joined (fun cdv A outer s H E hr hg => ?_)
  have S := s_Piece__joined
  have hU := hr.units
  have hU1 := hu_of hr
  exact (psm_seq (psm_if (ptm_cmp (op_ownNe E_Tally G_Tally____eq__ b_Tally____eq___2 ⟨hr.mono (by decide), hg⟩) ro_OE (nomark _) (pem_fld (fldC_one TC.n_Piece TC.l_Piece TC.na_Piece_tally) (pem_var 0 (pv 0))) (pem_fld (fldC_one TC.n_Piece TC.l_Piece TC.na_Piece_tally) (pem_var 1 (pv 1)))) (psm_one psm_raise) psm_nil) (psm_one (psm_ret (pem_make ⟨hr.mono (by decide), hg⟩ TC.n_Piece MK_Piece G_Piece____init__ rfl TC.g_Piece b_Piece____init___3 (fix_cons (fix_cons fix_nil)) (by decide) rfl (pam_cons (pem_fld (fldC_one TC.n_Piece TC.l_Piece TC.na_Piece_tally) (pem_var 0 (pv 0))) (pam_cons (pem_op op_addA ro_add (pem_fld (fldC_one TC.n_Piece TC.l_Piece TC.na_Piece_ticket) (pem_var 0 (pv 0))) (pem_fld (fldC_one TC.n_Piece TC.l_Piece TC.na_Piece_ticket) (pem_var 1 (pv 1)))) pam_nil))))))
theorem okx_Piece__joined {f : Addr} {fd : FuncData} (F : Fun K "joined" "Piece.joined" (inClass (top 18) 3) f fd) (T : Txt mg) (TC : TCs K mg C_BadTicket C_OtherTally C_Piece C_Tally C_TallyError fI_BadTicket) {a_Piece____init__ : Addr} {d_Piece____init__ : FuncData} (MK_Piece : Mk K C_Piece a_Piece____init__) (F_Piece____init__ : Fun K "__init__" "Piece.__init__" (inClass (top 18) 0) a_Piece____init__ d_Piece____init__) (G_Piece____init__ : FnG P w K mg base CX0 5 a_Piece____init__ d_Piece____init__ ["self", "tally", "ticket"] (spI K "Piece" 3 f_Piece____init__)) (GX_Piece____init__ : FnG P w K mg base (CX P w) 5 a_Piece____init__ d_Piece____init__ ["self", "tally", "ticket"] (spXI K "Piece" 3 x_Piece____init__)) {a_Tally____eq__ : Addr} {d_Tally____eq__ : FuncData} (E_Tally : EqC K "Tally" C_Tally a_Tally____eq__) (F_Tally____eq__ : Fun K "__eq__" "Tally.__eq__" (inClass (top 41) 2) a_Tally____eq__ d_Tally____eq__) (G_Tally____eq__ : FnG P w K mg base CX0 1 a_Tally____eq__ d_Tally____eq__ ["self", "other"] (spP K 2 f_Tally____eq__)) :
    FnG P w K mg base (CX P w) 7 f fd ["self", "other"] (spX K 2 x_Piece__joined) := by
  have b_Piece____init___1_ticket_tally := bd_Piece____init___1_ticket_tally F_Piece____init__
  have b_Piece____init___3 := bd_Piece____init___3 F_Piece____init__
  have b_Tally____eq___2 := bd_Tally____eq___2 F_Tally____eq__
  refine fn_raise (k := 6) F s_Piece__joined xm_Piece__joined (fun cdv A outer s H E hr hg tk => ?_)
  have S := s_Piece__joined
  have hU := hr.units
  have hU1 := hu_of hr
  exact (pssx_alt (pssx_head0 (psx_if (ptm_cmp (op_ownNe E_Tally G_Tally____eq__ b_Tally____eq___2 ⟨hr.mono (by decide), hg⟩) ro_OE (nomark _) (pem_fld (fldC_one TC.n_Piece TC.l_Piece TC.na_Piece_tally) (pem_var 0 (pv 0))) (pem_fld (fldC_one TC.n_Piece TC.l_Piece TC.na_Piece_tally) (pem_var 1 (pv 1)))) (pssx_head0 (psx_raise0 rfl tk TC.xb_OtherTally rfl)) pssx_none)) (pssx_tail (psm_if (ptm_cmp (op_ownNe E_Tally G_Tally____eq__ b_Tally____eq___2 ⟨hr.mono (by decide), hg⟩) ro_OE (nomark _) (pem_fld (fldC_one TC.n_Piece TC.l_Piece TC.na_Piece_tally) (pem_var 0 (pv 0))) (pem_fld (fldC_one TC.n_Piece TC.l_Piece TC.na_Piece_tally) (pem_var 1 (pv 1)))) (psm_one psm_raise) psm_nil) (pssx_head0 (psx_ret (pex_make ⟨hr.mono (by decide), hg⟩ tk TC.n_Piece MK_Piece GX_Piece____init__ rfl TC.g_Piece b_Piece____init___3 (fix_cons (fix_cons fix_nil)) (by decide) rfl (pam_cons (pem_fld (fldC_one TC.n_Piece TC.l_Piece TC.na_Piece_tally) (pem_var 0 (pv 0))) (pam_cons (pem_op op_addA ro_add (pem_fld (fldC_one TC.n_Piece TC.l_Piece TC.na_Piece_ticket) (pem_var 0 (pv 0))) (pem_fld (fldC_one TC.n_Piece TC.l_Piece TC.na_Piece_ticket) (pem_var 1 (pv 1)))) pam_nil)))))))
/-! is_ascending -/
noncomputable def m_is_ascending : MS := (mRet (mApp dAll (mCons (mLc (mZip (mCons (mVar 0) (mCons (mSlice (mVar 0) (mPart (mC (.int 1))) mNoPart) mNil))) (gmTup (gmCons (gmName 1) (gmCons (gmName 2) gmNil)) 2) mYes (mBin dLt (mVar 1) (mVar 2)) [1, 2]) mNil)))
theorem s_is_ascending : FnScope ["things", "one", "other"] ["things"] (defScope (top 23)) := ⟨rfl, rfl, rfl, by decide +kernel, rfl, by decide +kernel, by decide +kernel⟩
noncomputable def f_is_ascending : List D → Option D := runP 3 m_is_ascending
theorem bd_is_ascending_1 {f : Addr} {fd : FuncData} (F : Fun K "is_ascending" "is_ascending" (top 23) f fd) : Bd fd ["things"] 1 [] ([0]) := by
  obtain ⟨oc, od, kV, doc, pm, an, cdv, ct, osl, rfl, lk, hcd⟩ := F.ex
  exact ⟨fun s us ws h1 h2 => match us, ws, h1, h2 with | [v0], [], _, _ => .of_eq rfl⟩
theorem ok_is_ascending {f : Addr} {fd : FuncData} (F : Fun K "is_ascending" "is_ascending" (top 23) f fd) (T : Txt mg) (TC : TCs K mg C_BadTicket C_OtherTally C_Piece C_Tally C_TallyError fI_BadTicket) :
    FnG P w K mg base CX0 1 f fd ["things"] (spP K 1 f_is_ascending) := by
  refine fn_pure (k := 0) F s_is_ascending m_is_ascending (fun cdv A outer s H E hr hg => ?_)
  have S := s_is_ascending
  have hU := hr.units
  have hU1 := hu_of hr
  exact (psm_one (psm_ret (pem_callB (cr_all rfl) rc_all rfl T.g_all (by rfl) (pam_cons (pem_lc (own := [("one", 1), ("other", 2)]) rfl S.nd (pim_zip rfl T.g_zip (pam_cons (pem_var 0 (pv 0)) (pam_cons (pem_slice (pem_var 0 (pv 0)) (pom_some pem_int) pom_none) pam_nil))) (by show blkC ["things", "one", "other"] (defScope (top 23)) _ _ = true; decide +kernel) (fun _ _ _ _ _ => (pg_tup rfl (pgs_cons (pg_name (i := 1) S.nd rfl (Or.inl rfl)) (pgs_cons (pg_name (i := 2) S.nd rfl (Or.inl rfl)) pgs_nil)))) (gm_tup (gm_cons (gm_name 1) (gm_cons (gm_name 2) gm_nil))) (by decide) (fun _ _ _ _ _ => ptms_nil) (fun _ _ _ _ _ => (pem_cmp (op_ltP hU) ro_cmp (nomark _) (pem_var 1 (pv 1)) (pem_var 2 (pv 2))))) pam_nil))))
/-! are_digits -/
noncomputable def m_are_digits : MS := (mSeq (mIfS (mOrT (mNotT (mTest (mUn (dIsi "str") (mVar 0)))) (mTest (mBin dEq (mApp dLen (mCons (mVar 0) mNil)) (mC (.int 0))))) (mRet (mC (.bl false))) mSkip) (mRet (mAndV (mApp dAll (mCons (mLc (mItems (mVar 0)) (gmName 1) mYes (mBin dIn (mVar 1) (mC (.str "0123456789"))) [1]) mNil)) (mCallP f_is_ascending [0] (mCons (mVar 0) mNil) mNil))))
theorem s_are_digits : FnScope ["thing", "sign"] ["thing"] (defScope (top 24)) := ⟨rfl, rfl, rfl, by decide +kernel, rfl, by decide +kernel, by decide +kernel⟩
noncomputable def f_are_digits : List D → Option D := runP 2 m_are_digits
theorem bd_are_digits_1 {f : Addr} {fd : FuncData} (F : Fun K "are_digits" "are_digits" (top 24) f fd) : Bd fd ["thing"] 1 [] ([0]) := by
  obtain ⟨oc, od, kV, doc, pm, an, cdv, ct, osl, rfl, lk, hcd⟩ := F.ex
  exact ⟨fun s us ws h1 h2 => match us, ws, h1, h2 with | [v0], [], _, _ => .of_eq rfl⟩
theorem ok_are_digits {f : Addr} {fd : FuncData} (F : Fun K "are_digits" "are_digits" (top 24) f fd) (T : Txt mg) (TC : TCs K mg C_BadTicket C_OtherTally C_Piece C_Tally C_TallyError fI_BadTicket) {a_is_ascending : Addr} {d_is_ascending : FuncData} (A_is_ascending : At K mg "is_ascending" a_is_ascending) (F_is_ascending : Fun K "is_ascending" "is_ascending" (top 23) a_is_ascending d_is_ascending) (G_is_ascending : FnG P w K mg base CX0 1 a_is_ascending d_is_ascending ["things"] (spP K 1 f_is_ascending)) :
    FnG P w K mg base CX0 2 f fd ["thing"] (spP K 1 f_are_digits) := by
  have b_is_ascending_1 := bd_is_ascending_1 F_is_ascending
  refine fn_pure (k := 1) F s_are_digits m_are_digits (fun cdv A outer s H E hr hg => ?_)
  have S := s_are_digits
  have hU := hr.units
  have hU1 := hu_of hr
  exact (psm_seq (psm_if (ptm_w (pwm_or (ptm_not (ptm_val (pem_isi rfl T.g_isinstance rfl T.g_str (by rfl) (pem_var 0 (pv 0))))) (pwm_or1 (ptm_cmp (op_eqP hU) ro_cmp (nomark _) (pem_callB call_lenA rc_len rfl T.g_len (by rfl) (pam_cons (pem_var 0 (pv 0)) pam_nil)) pem_int)))) (psm_one (psm_ret pem_bl)) psm_nil) (psm_one (psm_ret (pem_and (pem_callB (cr_all rfl) rc_all rfl T.g_all (by rfl) (pam_cons (pem_lc (own := [("sign", 1)]) rfl S.nd (pim_items (pem_var 0 (pv 0))) (by show blkC ["thing", "sign"] (defScope (top 24)) _ _ = true; decide +kernel) (fun _ _ _ _ _ => (pg_name (i := 1) S.nd rfl (Or.inl rfl))) (gm_name 1) (by decide) (fun _ _ _ _ _ => ptms_nil) (fun _ _ _ _ _ => (pem_cmp op_in_str ro_in (by with_unfolding_all rfl) (pem_var 1 (pv 1)) pem_str))) pam_nil)) (pem_one (pem_callP ⟨hr.mono (by decide), hg⟩ G_is_ascending rfl A_is_ascending.mg A_is_ascending.kp b_is_ascending_1 (fix_cons fix_nil) (by decide) rfl (pam_cons (pem_var 0 (pv 0)) pam_nil)))))))
/-! is_whole -/
noncomputable def m_is_whole : MS := (mRet (mAndV (mUn (dIsi "int") (mVar 0)) (mNotV (mUn (dIsi "bool") (mVar 0)))))
theorem s_is_whole : FnScope ["thing"] ["thing"] (defScope (top 8)) := ⟨rfl, rfl, rfl, by decide +kernel, rfl, by decide +kernel, by decide +kernel⟩
noncomputable def f_is_whole : List D → Option D := runP 1 m_is_whole
theorem bd_is_whole_1 {f : Addr} {fd : FuncData} (F : Fun K "is_whole" "is_whole" (top 8) f fd) : Bd fd ["thing"] 1 [] ([0]) := by
  obtain ⟨oc, od, kV, doc, pm, an, cdv, ct, osl, rfl, lk, hcd⟩ := F.ex
  exact ⟨fun s us ws h1 h2 => match us, ws, h1, h2 with | [v0], [], _, _ => .of_eq rfl⟩
theorem ok_is_whole {f : Addr} {fd : FuncData} (F : Fun K "is_whole" "is_whole" (top 8) f fd) (T : Txt mg) (TC : TCs K mg C_BadTicket C_OtherTally C_Piece C_Tally C_TallyError fI_BadTicket) :
    FnG P w K mg base CX0 1 f fd ["thing"] (spP K 1 f_is_whole) := by
  refine fn_pure (k := 0) F s_is_whole m_is_whole (fun cdv A outer s H E hr hg => ?_)
  have S := s_is_whole
  have hU := hr.units
  have hU1 := hu_of hr
  exact (psm_one (psm_ret (pem_and (pem_isi rfl T.g_isinstance rfl T.g_int (by rfl) (pem_var 0 (pv 0))) (pem_one (pem_not (pem_isi rfl T.g_isinstance rfl T.g_bool (by rfl) (pem_var 0 (pv 0))))))))
/-! is_row -/
noncomputable def m_is_row : MS := (mRet (mAndV (mUn (dIsi "tuple") (mVar 0)) (mApp dAll (mCons (mLc (mItems (mVar 0)) (gmName 1) mYes (mCallP f_is_whole [0] (mCons (mVar 1) mNil) mNil) [1]) mNil))))
theorem s_is_row : FnScope ["thing", "part"] ["thing"] (defScope (top 9)) := ⟨rfl, rfl, rfl, by decide +kernel, rfl, by decide +kernel, by decide +kernel⟩
noncomputable def f_is_row : List D → Option D := runP 2 m_is_row
theorem bd_is_row_1 {f : Addr} {fd : FuncData} (F : Fun K "is_row" "is_row" (top 9) f fd) : Bd fd ["thing"] 1 [] ([0]) := by
  obtain ⟨oc, od, kV, doc, pm, an, cdv, ct, osl, rfl, lk, hcd⟩ := F.ex
  exact ⟨fun s us ws h1 h2 => match us, ws, h1, h2 with | [v0], [], _, _ => .of_eq rfl⟩
theorem ok_is_row {f : Addr} {fd : FuncData} (F : Fun K "is_row" "is_row" (top 9) f fd) (T : Txt mg) (TC : TCs K mg C_BadTicket C_OtherTally C_Piece C_Tally C_TallyError fI_BadTicket) {a_is_whole : Addr} {d_is_whole : FuncData} (A_is_whole : At K mg "is_whole" a_is_whole) (F_is_whole : Fun K "is_whole" "is_whole" (top 8) a_is_whole d_is_whole) (G_is_whole : FnG P w K mg base CX0 1 a_is_whole d_is_whole ["thing"] (spP K 1 f_is_whole)) :
    FnG P w K mg base CX0 2 f fd ["thing"] (spP K 1 f_is_row) := by
  have b_is_whole_1 := bd_is_whole_1 F_is_whole
  refine fn_pure (k := 1) F s_is_row m_is_row (fun cdv A outer s H E hr hg => ?_)
  have S := s_is_row
  have hU := hr.units
  have hU1 := hu_of hr
  exact (psm_one (psm_ret (pem_and (pem_isi rfl T.g_isinstance rfl T.g_tuple (by rfl) (pem_var 0 (pv 0))) (pem_one (pem_callB (cr_all rfl) rc_all rfl T.g_all (by rfl) (pam_cons (pem_lc (own := [("part", 1)]) rfl S.nd (pim_items (pem_var 0 (pv 0))) (by show blkC ["thing", "part"] (defScope (top 9)) _ _ = true; decide +kernel) (fun _ _ _ _ _ => (pg_name (i := 1) S.nd rfl (Or.inl rfl))) (gm_name 1) (by decide) (fun _ _ _ _ _ => ptms_nil) (fun _ _ _ _ _ => (pem_callP ⟨hr.mono (by decide), hg⟩ G_is_whole rfl A_is_whole.mg A_is_whole.kp b_is_whole_1 (fix_cons fix_nil) (by decide) rfl (pam_cons (pem_var 1 (pv 1)) pam_nil)))) pam_nil))))))
/-! is_row_of -/
noncomputable def m_is_row_of : MS := (mRet (mAndV (mCallP f_is_row [0] (mCons (mVar 0) mNil) mNil) (mBin dEq (mApp dLen (mCons (mVar 0) mNil)) (mVar 1))))
theorem s_is_row_of : FnScope ["thing", "width"] ["thing", "width"] (defScope (top 10)) := ⟨rfl, rfl, rfl, by decide +kernel, rfl, by decide +kernel, by decide +kernel⟩
noncomputable def f_is_row_of : List D → Option D := runP 2 m_is_row_of
theorem bd_is_row_of_2 {f : Addr} {fd : FuncData} (F : Fun K "is_row_of" "is_row_of" (top 10) f fd) : Bd fd ["thing", "width"] 2 [] ([0, 1]) := by
  obtain ⟨oc, od, kV, doc, pm, an, cdv, ct, osl, rfl, lk, hcd⟩ := F.ex
  exact ⟨fun s us ws h1 h2 => match us, ws, h1, h2 with | [v0, v1], [], _, _ => .of_eq rfl⟩
theorem ok_is_row_of {f : Addr} {fd : FuncData} (F : Fun K "is_row_of" "is_row_of" (top 10) f fd) (T : Txt mg) (TC : TCs K mg C_BadTicket C_OtherTally C_Piece C_Tally C_TallyError fI_BadTicket) {a_is_row : Addr} {d_is_row : FuncData} (A_is_row : At K mg "is_row" a_is_row) (F_is_row : Fun K "is_row" "is_row" (top 9) a_is_row d_is_row) (G_is_row : FnG P w K mg base CX0 2 a_is_row d_is_row ["thing"] (spP K 1 f_is_row)) :
    FnG P w K mg base CX0 3 f fd ["thing", "width"] (spP K 2 f_is_row_of) := by
  have b_is_row_1 := bd_is_row_1 F_is_row
  refine fn_pure (k := 2) F s_is_row_of m_is_row_of (fun cdv A outer s H E hr hg => ?_)
  have S := s_is_row_of
  have hU := hr.units
  have hU1 := hu_of hr
  exact (psm_one (psm_ret (pem_and (pem_callP ⟨hr.mono (by decide), hg⟩ G_is_row rfl A_is_row.mg A_is_row.kp b_is_row_1 (fix_cons fix_nil) (by decide) rfl (pam_cons (pem_var 0 (pv 0)) pam_nil)) (pem_one (pem_cmp (op_eqP hU) ro_cmp (nomark _) (pem_callB call_lenA rc_len rfl T.g_len (by rfl) (pam_cons (pem_var 0 (pv 0)) pam_nil)) (pem_var 1 (pv 1)))))))
/-! are_rows -/
noncomputable def m_are_rows : MS := (mRet (mAndV (mUn (dIsi "tuple") (mVar 0)) (mApp dAll (mCons (mLc (mItems (mVar 0)) (gmName 2) mYes (mCallP f_is_row_of [0, 1] (mCons (mVar 2) (mCons (mVar 1) mNil)) mNil) [2]) mNil))))
theorem s_are_rows : FnScope ["thing", "width", "part"] ["thing", "width"] (defScope (top 11)) := ⟨rfl, rfl, rfl, by decide +kernel, rfl, by decide +kernel, by decide +kernel⟩
noncomputable def f_are_rows : List D → Option D := runP 3 m_are_rows
theorem bd_are_rows_2 {f : Addr} {fd : FuncData} (F : Fun K "are_rows" "are_rows" (top 11) f fd) : Bd fd ["thing", "width"] 2 [] ([0, 1]) := by
  obtain ⟨oc, od, kV, doc, pm, an, cdv, ct, osl, rfl, lk, hcd⟩ := F.ex
  exact ⟨fun s us ws h1 h2 => match us, ws, h1, h2 with | [v0, v1], [], _, _ => .of_eq rfl⟩
theorem ok_are_rows {f : Addr} {fd : FuncData} (F : Fun K "are_rows" "are_rows" (top 11) f fd) (T : Txt mg) (TC : TCs K mg C_BadTicket C_OtherTally C_Piece C_Tally C_TallyError fI_BadTicket) {a_is_row_of : Addr} {d_is_row_of : FuncData} (A_is_row_of : At K mg "is_row_of" a_is_row_of) (F_is_row_of : Fun K "is_row_of" "is_row_of" (top 10) a_is_row_of d_is_row_of) (G_is_row_of : FnG P w K mg base CX0 3 a_is_row_of d_is_row_of ["thing", "width"] (spP K 2 f_is_row_of)) :
    FnG P w K mg base CX0 4 f fd ["thing", "width"] (spP K 2 f_are_rows) := by
  have b_is_row_of_2 := bd_is_row_of_2 F_is_row_of
  refine fn_pure (k := 3) F s_are_rows m_are_rows (fun cdv A outer s H E hr hg => ?_)
  have S := s_are_rows
  have hU := hr.units
  have hU1 := hu_of hr
  exact (psm_one (psm_ret (pem_and (pem_isi rfl T.g_isinstance rfl T.g_tuple (by rfl) (pem_var 0 (pv 0))) (pem_one (pem_callB (cr_all rfl) rc_all rfl T.g_all (by rfl) (pam_cons (pem_lc (own := [("part", 2)]) rfl S.nd (pim_items (pem_var 0 (pv 0))) (by show blkC ["thing", "width", "part"] (defScope (top 11)) _ _ = true; decide +kernel) (fun _ _ _ _ _ => (pg_name (i := 2) S.nd rfl (Or.inl rfl))) (gm_name 2) (by decide) (fun _ _ _ _ _ => ptms_nil) (fun _ _ _ _ _ => (pem_callP ⟨hr.mono (by decide), hg⟩ G_is_row_of rfl A_is_row_of.mg A_is_row_of.kp b_is_row_of_2 (fix_cons (fix_cons fix_nil)) (by decide) rfl (pam_cons (pem_var 2 (pv 2)) (pam_cons (pem_var 1 (pv 1)) pam_nil))))) pam_nil))))))
/-! is_table -/
noncomputable def m_is_table : MS := (mRet (mAndV (mCallP f_are_rows [0, 1] (mCons (mVar 0) (mCons (mVar 1) mNil)) mNil) (mBin dEq (mApp dLen (mCons (mVar 0) mNil)) (mVar 1))))
theorem s_is_table : FnScope ["thing", "size"] ["thing", "size"] (defScope (top 12)) := ⟨rfl, rfl, rfl, by decide +kernel, rfl, by decide +kernel, by decide +kernel⟩
noncomputable def f_is_table : List D → Option D := runP 2 m_is_table
theorem bd_is_table_2 {f : Addr} {fd : FuncData} (F : Fun K "is_table" "is_table" (top 12) f fd) : Bd fd ["thing", "size"] 2 [] ([0, 1]) := by
  obtain ⟨oc, od, kV, doc, pm, an, cdv, ct, osl, rfl, lk, hcd⟩ := F.ex
  exact ⟨fun s us ws h1 h2 => match us, ws, h1, h2 with | [v0, v1], [], _, _ => .of_eq rfl⟩
theorem ok_is_table {f : Addr} {fd : FuncData} (F : Fun K "is_table" "is_table" (top 12) f fd) (T : Txt mg) (TC : TCs K mg C_BadTicket C_OtherTally C_Piece C_Tally C_TallyError fI_BadTicket) {a_are_rows : Addr} {d_are_rows : FuncData} (A_are_rows : At K mg "are_rows" a_are_rows) (F_are_rows : Fun K "are_rows" "are_rows" (top 11) a_are_rows d_are_rows) (G_are_rows : FnG P w K mg base CX0 4 a_are_rows d_are_rows ["thing", "width"] (spP K 2 f_are_rows)) :
    FnG P w K mg base CX0 5 f fd ["thing", "size"] (spP K 2 f_is_table) := by
  have b_are_rows_2 := bd_are_rows_2 F_are_rows
  refine fn_pure (k := 4) F s_is_table m_is_table (fun cdv A outer s H E hr hg => ?_)
  have S := s_is_table
  have hU := hr.units
  have hU1 := hu_of hr
  exact (psm_one (psm_ret (pem_and (pem_callP ⟨hr.mono (by decide), hg⟩ G_are_rows rfl A_are_rows.mg A_are_rows.kp b_are_rows_2 (fix_cons (fix_cons fix_nil)) (by decide) rfl (pam_cons (pem_var 0 (pv 0)) (pam_cons (pem_var 1 (pv 1)) pam_nil))) (pem_one (pem_cmp (op_eqP hU) ro_cmp (nomark _) (pem_callB call_lenA rc_len rfl T.g_len (by rfl) (pam_cons (pem_var 0 (pv 0)) pam_nil)) (pem_var 1 (pv 1)))))))
/-! are_tables -/
noncomputable def m_are_tables : MS := (mRet (mAndV (mUn (dIsi "tuple") (mVar 0)) (mAndV (mBin dEq (mApp dLen (mCons (mVar 0) mNil)) (mVar 1)) (mApp dAll (mCons (mLc (mItems (mVar 0)) (gmName 3) mYes (mCallP f_is_table [0, 1] (mCons (mVar 3) (mCons (mVar 2) mNil)) mNil) [3]) mNil)))))
theorem s_are_tables : FnScope ["thing", "many", "size", "part"] ["thing", "many", "size"] (defScope (top 42)) := ⟨rfl, rfl, rfl, by decide +kernel, rfl, by decide +kernel, by decide +kernel⟩
noncomputable def f_are_tables : List D → Option D := runP 4 m_are_tables
theorem bd_are_tables_3 {f : Addr} {fd : FuncData} (F : Fun K "are_tables" "are_tables" (top 42) f fd) : Bd fd ["thing", "many", "size"] 3 [] ([0, 1, 2]) := by
  obtain ⟨oc, od, kV, doc, pm, an, cdv, ct, osl, rfl, lk, hcd⟩ := F.ex
  exact ⟨fun s us ws h1 h2 => match us, ws, h1, h2 with | [v0, v1, v2], [], _, _ => .of_eq rfl⟩
theorem ok_are_tables {f : Addr} {fd : FuncData} (F : Fun K "are_tables" "are_tables" (top 42) f fd) (T : Txt mg) (TC : TCs K mg C_BadTicket C_OtherTally C_Piece C_Tally C_TallyError fI_BadTicket) {a_is_table : Addr} {d_is_table : FuncData} (A_is_table : At K mg "is_table" a_is_table) (F_is_table : Fun K "is_table" "is_table" (top 12) a_is_table d_is_table) (G_is_table : FnG P w K mg base CX0 5 a_is_table d_is_table ["thing", "size"] (spP K 2 f_is_table)) :
    FnG P w K mg base CX0 6 f fd ["thing", "many", "size"] (spP K 3 f_are_tables) := by
  have b_is_table_2 := bd_is_table_2 F_is_table
  refine fn_pure (k := 5) F s_are_tables m_are_tables (fun cdv A outer s H E hr hg => ?_)
  have S := s_are_tables
  have hU := hr.units
  have hU1 := hu_of hr
  exact (psm_one (psm_ret (pem_and (pem_isi rfl T.g_isinstance rfl T.g_tuple (by rfl) (pem_var 0 (pv 0))) (pem_and (pem_cmp (op_eqP hU) ro_cmp (nomark _) (pem_callB call_lenA rc_len rfl T.g_len (by rfl) (pam_cons (pem_var 0 (pv 0)) pam_nil)) (pem_var 1 (pv 1))) (pem_one (pem_callB (cr_all rfl) rc_all rfl T.g_all (by rfl) (pam_cons (pem_lc (own := [("part", 3)]) rfl S.nd (pim_items (pem_var 0 (pv 0))) (by show blkC ["thing", "many", "size", "part"] (defScope (top 42)) _ _ = true; decide +kernel) (fun _ _ _ _ _ => (pg_name (i := 3) S.nd rfl (Or.inl rfl))) (gm_name 3) (by decide) (fun _ _ _ _ _ => ptms_nil) (fun _ _ _ _ _ => (pem_callP ⟨hr.mono (by decide), hg⟩ G_is_table rfl A_is_table.mg A_is_table.kp b_is_table_2 (fix_cons (fix_cons fix_nil)) (by decide) rfl (pam_cons (pem_var 3 (pv 3)) (pam_cons (pem_var 2 (pv 2)) pam_nil))))) pam_nil)))))))
/-! Tally____init__ -/
noncomputable def m_Tally____init__ : MS := (mSeq (mIfS (mNotT (mTest (mCallP f_are_digits [0] (mCons (mVar 1) mNil) mNil))) mNever mSkip) (mSeq (mIfS (mNotT (mTest (mCallP f_is_row [0] (mCons (mVar 2) mNil) mNil))) mNever mSkip) (mSeq (mIfS (mNotT (mTest (mCallP f_are_tables [0, 1, 2] (mCons (mVar 3) (mCons (mApp dLen (mCons (mVar 1) mNil)) (mCons (mApp dLen (mCons (mVar 2) mNil)) mNil))) mNil))) mNever mSkip) (mSeq (mIfS (mNotT (mTest (mCallP f_is_row_of [0, 1] (mCons (mVar 4) (mCons (mApp dLen (mCons (mVar 2) mNil)) mNil)) mNil))) mNever mSkip) (mSeq (mFst 0 "Tally" "digits" (mVar 1)) (mSeq (mFst 0 "Tally" "start" (mVar 2)) (mSeq (mFst 0 "Tally" "tables" (mVar 3)) (mFst 0 "Tally" "ends" (mVar 4)))))))))
theorem s_Tally____init__ : FnScope ["self", "digits", "start", "tables", "ends"] ["self", "digits", "start", "tables", "ends"] (defScope (inClass (top 41) 0)) := ⟨rfl, rfl, rfl, by decide +kernel, rfl, by decide +kernel, by decide +kernel⟩
noncomputable def f_Tally____init__ : List D → Option (List (Str × D)) := runI "Tally" 5 m_Tally____init__
theorem bd_Tally____init___5 {f : Addr} {fd : FuncData} (F : Fun K "__init__" "Tally.__init__" (inClass (top 41) 0) f fd) : Bd fd ["self", "digits", "start", "tables", "ends"] 5 [] ([0, 1, 2, 3, 4]) := by
  obtain ⟨oc, od, kV, doc, pm, an, cdv, ct, osl, rfl, lk, hcd⟩ := F.ex
  exact ⟨fun s us ws h1 h2 => match us, ws, h1, h2 with | [v0, v1, v2, v3, v4], [], _, _ => .of_eq rfl⟩
theorem ok_Tally____init__ {f : Addr} {fd : FuncData} (F : Fun K "__init__" "Tally.__init__" (inClass (top 41) 0) f fd) (T : Txt mg) (TC : TCs K mg C_BadTicket C_OtherTally C_Piece C_Tally C_TallyError fI_BadTicket) {a_are_digits : Addr} {d_are_digits : FuncData} (A_are_digits : At K mg "are_digits" a_are_digits) (F_are_digits : Fun K "are_digits" "are_digits" (top 24) a_are_digits d_are_digits) (G_are_digits : FnG P w K mg base CX0 2 a_are_digits d_are_digits ["thing"] (spP K 1 f_are_digits)) {a_are_tables : Addr} {d_are_tables : FuncData} (A_are_tables : At K mg "are_tables" a_are_tables) (F_are_tables : Fun K "are_tables" "are_tables" (top 42) a_are_tables d_are_tables) (G_are_tables : FnG P w K mg base CX0 6 a_are_tables d_are_tables ["thing", "many", "size"] (spP K 3 f_are_tables)) {a_is_row : Addr} {d_is_row : FuncData} (A_is_row : At K mg "is_row" a_is_row) (F_is_row : Fun K "is_row" "is_row" (top 9) a_is_row d_is_row) (G_is_row : FnG P w K mg base CX0 2 a_is_row d_is_row ["thing"] (spP K 1 f_is_row)) {a_is_row_of : Addr} {d_is_row_of : FuncData} (A_is_row_of : At K mg "is_row_of" a_is_row_of) (F_is_row_of : Fun K "is_row_of" "is_row_of" (top 10) a_is_row_of d_is_row_of) (G_is_row_of : FnG P w K mg base CX0 3 a_is_row_of d_is_row_of ["thing", "width"] (spP K 2 f_is_row_of)) :
    FnG P w K mg base CX0 7 f fd ["self", "digits", "start", "tables", "ends"] (spI K "Tally" 5 f_Tally____init__) := by
  have b_are_digits_1 := bd_are_digits_1 F_are_digits
  have b_are_tables_3 := bd_are_tables_3 F_are_tables
  have b_is_row_1 := bd_is_row_1 F_is_row
  have b_is_row_of_2 := bd_is_row_of_2 F_is_row_of
  refine fn_init (k := 6) F s_Tally____init__ m_Tally____init__ (fun cdv A outer s H E hr hg => ?_)
  have S := s_Tally____init__
  have hU := hr.units
  have hU1 := hu_of hr
  exact (psm_seq (psm_if (ptm_not (ptm_val (pem_callP ⟨hr.mono (by decide), hg⟩ G_are_digits rfl A_are_digits.mg A_are_digits.kp b_are_digits_1 (fix_cons fix_nil) (by decide) rfl (pam_cons (pem_var 1 (pv 1)) pam_nil)))) (psm_one psm_raise) psm_nil) (psm_seq (psm_if (ptm_not (ptm_val (pem_callP ⟨hr.mono (by decide), hg⟩ G_is_row rfl A_is_row.mg A_is_row.kp b_is_row_1 (fix_cons fix_nil) (by decide) rfl (pam_cons (pem_var 2 (pv 2)) pam_nil)))) (psm_one psm_raise) psm_nil) (psm_seq (psm_if (ptm_not (ptm_val (pem_callP ⟨hr.mono (by decide), hg⟩ G_are_tables rfl A_are_tables.mg A_are_tables.kp b_are_tables_3 (fix_cons (fix_cons (fix_cons fix_nil))) (by decide) rfl (pam_cons (pem_var 3 (pv 3)) (pam_cons (pem_callB call_lenA rc_len rfl T.g_len (by rfl) (pam_cons (pem_var 1 (pv 1)) pam_nil)) (pam_cons (pem_callB call_lenA rc_len rfl T.g_len (by rfl) (pam_cons (pem_var 2 (pv 2)) pam_nil)) pam_nil)))))) (psm_one psm_raise) psm_nil) (psm_seq (psm_if (ptm_not (ptm_val (pem_callP ⟨hr.mono (by decide), hg⟩ G_is_row_of rfl A_is_row_of.mg A_is_row_of.kp b_is_row_of_2 (fix_cons (fix_cons fix_nil)) (by decide) rfl (pam_cons (pem_var 4 (pv 4)) (pam_cons (pem_callB call_lenA rc_len rfl T.g_len (by rfl) (pam_cons (pem_var 2 (pv 2)) pam_nil)) pam_nil))))) (psm_one psm_raise) psm_nil) (psm_seq (psm_fst (attrC_of TC.n_Tally TC.l_Tally TC.na_Tally_digits) (pv 0) (pem_var 1 (pv 1))) (psm_seq (psm_fst (attrC_of TC.n_Tally TC.l_Tally TC.na_Tally_start) (pv 0) (pem_var 2 (pv 2))) (psm_seq (psm_fst (attrC_of TC.n_Tally TC.l_Tally TC.na_Tally_tables) (pv 0) (pem_var 3 (pv 3))) (psm_one (psm_fst (attrC_of TC.n_Tally TC.l_Tally TC.na_Tally_ends) (pv 0) (pem_var 4 (pv 4)))))))))))
/-! _law_draw -/
noncomputable def m__law_draw : MS := (mSeq (mDkSet 0 "turn" (mBin dAdd (mDkGet 0 "turn") (mC (.int 1)))) (mSeq (mAsg (mBin dAdd (mDkGet 0 "mixed") (mBin dMulA (mBin dMulA (mC (.int 60271)) (mDkGet 0 "turn")) (mDkGet 0 "turn"))) (gmName 2)) (mSeq (mIfS (mDkHas 0) (mSeq (mAsg (mDkPop 0) (gmName 3)) (mSeq (mIfS (mTest (mBin dGe (mVar 3) (mBin dPow (mC (.int 10)) (mC (.int 18))))) (mSeq (mDkPush 0 (mBin dFdiv (mVar 3) (mVar 1))) (mRet (mBin dMod (mApp dInt (mCons (mVar 3) mNil)) (mVar 1)))) mSkip) (mAsg (mBin dAdd (mVar 2) (mApp dInt (mCons (mVar 3) mNil))) (gmName 2)))) mSkip) (mSeq (mAsg (mBin dMod (mBin dMulA (mApp dInt (mCons (mBin dAdd (mBin dMod (mApp dInt (mCons (mVar 2) mNil)) (mC (.int 2147483579))) (mC (.int 251))) mNil)) (mC (.int 48271))) (mC (.int 2147483647))) (gmName 2)) (mSeq (mAsg (mBin dMod (mApp dInt (mCons (mBin dAdd (mBin dAdd (mBin dMulA (mVar 2) (mVar 2)) (mBin dMulA (mC (.int 69621)) (mDkGet 0 "turn"))) (mC (.int 29))) mNil)) (mC (.int 2147483563))) (gmName 2)) (mRet (mBin dMod (mBin dFdiv (mBin dMod (mApp dInt (mCons (mBin dMulA (mVar 2) (mC (.int 40692))) mNil)) (mC (.int 2147483587))) (mC (.int 64))) (mVar 1))))))))
theorem s__law_draw : FnScope ["_law_deck_here", "_law_many", "_law_figure", "_law_cell"] ["_law_deck_here", "_law_many"] (defScope (top 51)) := ⟨rfl, rfl, rfl, by decide +kernel, rfl, by decide +kernel, by decide +kernel⟩
noncomputable def f__law_draw : Dk → List D → Option (D × Dk) := runD 4 m__law_draw
theorem bd__law_draw {f : Addr} {fd : FuncData} (F : Fun K "_law_draw" "_law_draw" (top 51) f fd) : Bd fd ["_law_deck_here", "_law_many"] 2 [] (List.range 2) := by
  obtain ⟨oc, od, kV, doc, pm, an, cdv, ct, osl, rfl, lk, hcd⟩ := F.ex
  exact ⟨fun s us ws h1 h2 => match us, ws, h1, h2 with | [v0, v1], [], _, _ => .of_eq rfl⟩
theorem ok__law_draw {f : Addr} {fd : FuncData} (F : Fun K "_law_draw" "_law_draw" (top 51) f fd) (T : Txt mg) (TC : TCs K mg C_BadTicket C_OtherTally C_Piece C_Tally C_TallyError fI_BadTicket) :
    FnG P w K mg base CX0 1 f fd ["_law_deck_here", "_law_many"] (spD K 2 f__law_draw) := by
  refine fn_deck (k := 0) F s__law_draw m__law_draw (fun cdv A outer s H E hr hg => ?_)
  have S := s__law_draw
  have hU := hr.units
  have hU1 := hu_of hr
  exact (psm_seq (psm_dkSet hU (pv 0) (pem_op op_addA ro_add (pem_dkGet hU (pv 0)) pem_int)) (psm_seq (psm_set (i := 2) S.nd rfl (Or.inl rfl) (pem_op op_addA ro_add (pem_dkGet hU (pv 0)) (pem_op op_mulA ro_mulA (pem_op op_mulA ro_mulA pem_int (pem_dkGet hU (pv 0))) (pem_dkGet hU (pv 0))))) (psm_seq (psm_if (ptm_dkHas hU (pv 0)) (psm_seq (psm_set (i := 3) S.nd rfl (Or.inl rfl) (pem_dkPop hU (pv 0))) (psm_seq (psm_if (ptm_cmp (op_geP hU) ro_cmp (nomark _) (pem_var 3 (pv 3)) (pem_op op_pow ro_pow pem_int pem_int)) (psm_seq (psm_dkPush hU (pv 0) (pem_op op_fdivW ro_fdiv (pem_var 3 (pv 3)) (pem_var 1 (pv 1)))) (psm_one (psm_ret (pem_op op_mod ro_mod (pem_callTy call_intA rc_int rfl T.g_int (by rfl) (pam_cons (pem_var 3 (pv 3)) pam_nil)) (pem_var 1 (pv 1)))))) psm_nil) (psm_one (psm_set (i := 2) S.nd rfl (Or.inl rfl) (pem_op op_addA ro_add (pem_var 2 (pv 2)) (pem_callTy call_intA rc_int rfl T.g_int (by rfl) (pam_cons (pem_var 3 (pv 3)) pam_nil))))))) psm_nil) (psm_seq (psm_set (i := 2) S.nd rfl (Or.inl rfl) (pem_op op_mod ro_mod (pem_op op_mulA ro_mulA (pem_callTy call_intA rc_int rfl T.g_int (by rfl) (pam_cons (pem_op op_addA ro_add (pem_op op_mod ro_mod (pem_callTy call_intA rc_int rfl T.g_int (by rfl) (pam_cons (pem_var 2 (pv 2)) pam_nil)) pem_int) pem_int) pam_nil)) pem_int) pem_int)) (psm_seq (psm_set (i := 2) S.nd rfl (Or.inl rfl) (pem_op op_mod ro_mod (pem_callTy call_intA rc_int rfl T.g_int (by rfl) (pam_cons (pem_op op_addA ro_add (pem_op op_addA ro_add (pem_op op_mulA ro_mulA (pem_var 2 (pv 2)) (pem_var 2 (pv 2))) (pem_op op_mulA ro_mulA pem_int (pem_dkGet hU (pv 0)))) pem_int) pam_nil)) pem_int)) (psm_one (psm_ret (pem_op op_mod ro_mod (pem_op op_fdivW ro_fdiv (pem_op op_mod ro_mod (pem_callTy call_intA rc_int rfl T.g_int (by rfl) (pam_cons (pem_op op_mulA ro_mulA (pem_var 2 (pv 2)) pem_int) pam_nil)) pem_int) pem_int) (pem_var 1 (pv 1))))))))))
/-! _law_bracketed -/
noncomputable def m__law_bracketed (r : Dk → List D → Option (D × Dk)) : MS := (mSeq (mIfS (mTest (mBin dEq (mApp dLen (mCons (mVar 2) mNil)) (mC (.int 1)))) (mRet (mMake "Piece" f_Piece____init__ [0, 1] (mCons (mVar 1) (mCons (mBin dItemA (mVar 2) (mC (.int 0))) mNil)) mNil)) mSkip) (mSeq (mAsg (mBin dAdd (mC (.int 1)) (mCallD 0 f__law_draw (mCons (mBin dSub (mApp dLen (mCons (mVar 2) mNil)) (mC (.int 1))) mNil))) (gmName 3)) (mSeq (mPar 4 5 (mCons (mCallD 0 r (mCons (mVar 1) (mCons (mSlice (mVar 2) mNoPart (mPart (mVar 3))) mNil))) (mCons (mCallD 0 r (mCons (mVar 1) (mCons (mSlice (mVar 2) (mPart (mVar 3)) mNoPart) mNil))) mNil))) (mRet (mIfE (mTest (mBin dEq (mCallD 0 f__law_draw (mCons (mC (.int 2)) mNil)) (mC (.int 0)))) (mMeth "Piece" "joined" f_Piece__joined [0, 1] (mVar 4) (mCons (mVar 5) mNil) mNil) (mMeth "Piece" "joined" f_Piece__joined [0, 1] (mVar 4) mNil (mCons (mVar 5) mNil)))))))
theorem s__law_bracketed : FnScope ["_law_deck_here", "_law_code_here", "_law_cuts", "_law_at", "_law_near", "_law_far"] ["_law_deck_here", "_law_code_here", "_law_cuts"] (defScope (top 61)) := ⟨rfl, rfl, rfl, by decide +kernel, rfl, by decide +kernel, by decide +kernel⟩
noncomputable def f__law_bracketed : Nat → Dk → List D → Option (D × Dk)
  | 0 => fun _ _ => none
  | n + 1 => runD 6 (m__law_bracketed (f__law_bracketed n))
theorem bd__law_bracketed {f : Addr} {fd : FuncData} (F : Fun K "_law_bracketed" "_law_bracketed" (top 61) f fd) : Bd fd ["_law_deck_here", "_law_code_here", "_law_cuts"] 3 [] (List.range 3) := by
  obtain ⟨oc, od, kV, doc, pm, an, cdv, ct, osl, rfl, lk, hcd⟩ := F.ex
  exact ⟨fun s us ws h1 h2 => match us, ws, h1, h2 with | [v0, v1, v2], [], _, _ => .of_eq rfl⟩
theorem step__law_bracketed {r : Dk → List D → Option (D × Dk)} {n : Nat} {f : Addr} {fd : FuncData} (F : Fun K "_law_bracketed" "_law_bracketed" (top 61) f fd) (T : Txt mg) (TC : TCs K mg C_BadTicket C_OtherTally C_Piece C_Tally C_TallyError fI_BadTicket) {a_Piece____init__ : Addr} {d_Piece____init__ : FuncData} (MK_Piece : Mk K C_Piece a_Piece____init__) (F_Piece____init__ : Fun K "__init__" "Piece.__init__" (inClass (top 18) 0) a_Piece____init__ d_Piece____init__) (G_Piece____init__ : FnG P w K mg base CX0 5 a_Piece____init__ d_Piece____init__ ["self", "tally", "ticket"] (spI K "Piece" 3 f_Piece____init__)) {a_Piece__joined : Addr} {d_Piece__joined : FuncData} (M_Piece__joined : Meth K C_Piece "joined" a_Piece__joined) (F_Piece__joined : Fun K "joined" "Piece.joined" (inClass (top 18) 3) a_Piece__joined d_Piece__joined) (G_Piece__joined : FnG P w K mg base CX0 7 a_Piece__joined d_Piece__joined ["self", "other"] (spP K 2 f_Piece__joined)) {a__law_draw : Addr} {d__law_draw : FuncData} (A__law_draw : At K mg "_law_draw" a__law_draw) (F__law_draw : Fun K "_law_draw" "_law_draw" (top 51) a__law_draw d__law_draw) (G__law_draw : FnG P w K mg base CX0 1 a__law_draw d__law_draw ["_law_deck_here", "_law_many"] (spD K 2 f__law_draw)) (A__law_bracketed : At K mg "_law_bracketed" f) (G__law_bracketed : FnG P w K mg base CX0 (7 + n) f fd ["_law_deck_here", "_law_code_here", "_law_cuts"] (spD K 3 r)) :
    FnG P w K mg base CX0 (7 + n + 1) f fd ["_law_deck_here", "_law_code_here", "_law_cuts"] (spD K 3 (runD 6 (m__law_bracketed r))) := by
  have b_Piece____init___1_ticket_tally := bd_Piece____init___1_ticket_tally F_Piece____init__
  have b_Piece____init___3 := bd_Piece____init___3 F_Piece____init__
  have b_Piece__joined_1_other := bd_Piece__joined_1_other F_Piece__joined
  have b_Piece__joined_2 := bd_Piece__joined_2 F_Piece__joined
  have b__law_bracketed := bd__law_bracketed F
  have b__law_draw := bd__law_draw F__law_draw
  refine fn_deck (k := 7 + n) F s__law_bracketed (m__law_bracketed r) (fun cdv A outer s H E hr hg => ?_)
  have S := s__law_bracketed
  have hU := hr.units
  have hU1 := hu_of hr
  exact (psm_seq (psm_if (ptm_cmp (op_eqP hU) ro_cmp (nomark _) (pem_callB call_lenA rc_len rfl T.g_len (by rfl) (pam_cons (pem_var 2 (pv 2)) pam_nil)) pem_int) (psm_one (psm_ret (pem_make ⟨hr.mono (by omega), hg⟩ TC.n_Piece MK_Piece G_Piece____init__ rfl TC.g_Piece b_Piece____init___3 (fix_cons (fix_cons fix_nil)) (by decide) rfl (pam_cons (pem_var 1 (pv 1)) (pam_cons (pem_itemA hU1 (pem_var 2 (pv 2)) pem_int (fun _ _ => rfl)) pam_nil))))) psm_nil) (psm_seq (psm_set (i := 3) S.nd rfl (Or.inl rfl) (pem_op op_addA ro_add pem_int (pem_callD (i := 0) ⟨hr.mono (by omega), hg⟩ G__law_draw rfl A__law_draw.mg A__law_draw.kp b__law_draw (fix_cons fix_nil) rfl (pv 0) (pam_cons (pem_op op_sub ro_sub (pem_callB call_lenA rc_len rfl T.g_len (by rfl) (pam_cons (pem_var 2 (pv 2)) pam_nil)) pem_int) pam_nil)))) (psm_seq (psm_par rfl S.nd (i := 4) (j := 5) rfl rfl (by decide) rfl rfl (pam_cons (pem_callD (i := 0) ⟨hr.mono (by omega), hg⟩ G__law_bracketed rfl A__law_bracketed.mg A__law_bracketed.kp b__law_bracketed (fix_cons (fix_cons fix_nil)) rfl (pv 0) (pam_cons (pem_var 1 (pv 1)) (pam_cons (pem_slice (pem_var 2 (pv 2)) pom_none (pom_some (pem_var 3 (pv 3)))) pam_nil))) (pam_cons (pem_callD (i := 0) ⟨hr.mono (by omega), hg⟩ G__law_bracketed rfl A__law_bracketed.mg A__law_bracketed.kp b__law_bracketed (fix_cons (fix_cons fix_nil)) rfl (pv 0) (pam_cons (pem_var 1 (pv 1)) (pam_cons (pem_slice (pem_var 2 (pv 2)) (pom_some (pem_var 3 (pv 3))) pom_none) pam_nil))) pam_nil)) rfl) (psm_one (psm_ret (pem_if (ptm_cmp (op_eqP hU) ro_cmp (nomark _) (pem_callD (i := 0) ⟨hr.mono (by omega), hg⟩ G__law_draw rfl A__law_draw.mg A__law_draw.kp b__law_draw (fix_cons fix_nil) rfl (pv 0) (pam_cons pem_int pam_nil)) pem_int) (pem_meth ⟨hr.mono (by omega), hg⟩ (pem_var 4 (pv 4)) TC.n_Piece TC.l_Piece M_Piece__joined G_Piece__joined b_Piece__joined_2 (fix_cons fix_nil) (by decide) rfl (pam_cons (pem_var 5 (pv 5)) pam_nil)) (pem_methK0 ⟨hr.mono (by omega), hg⟩ (pem_var 4 (pv 4)) TC.n_Piece TC.l_Piece M_Piece__joined G_Piece__joined b_Piece__joined_1_other (fix_cons fix_nil) (by decide) rfl (pkm_cons (pem_var 5 (pv 5)) pkm_nil))))))))
theorem ok__law_bracketed {f : Addr} {fd : FuncData} (F : Fun K "_law_bracketed" "_law_bracketed" (top 61) f fd) (T : Txt mg) (TC : TCs K mg C_BadTicket C_OtherTally C_Piece C_Tally C_TallyError fI_BadTicket) {a_Piece____init__ : Addr} {d_Piece____init__ : FuncData} (MK_Piece : Mk K C_Piece a_Piece____init__) (F_Piece____init__ : Fun K "__init__" "Piece.__init__" (inClass (top 18) 0) a_Piece____init__ d_Piece____init__) (G_Piece____init__ : FnG P w K mg base CX0 5 a_Piece____init__ d_Piece____init__ ["self", "tally", "ticket"] (spI K "Piece" 3 f_Piece____init__)) {a_Piece__joined : Addr} {d_Piece__joined : FuncData} (M_Piece__joined : Meth K C_Piece "joined" a_Piece__joined) (F_Piece__joined : Fun K "joined" "Piece.joined" (inClass (top 18) 3) a_Piece__joined d_Piece__joined) (G_Piece__joined : FnG P w K mg base CX0 7 a_Piece__joined d_Piece__joined ["self", "other"] (spP K 2 f_Piece__joined)) {a__law_draw : Addr} {d__law_draw : FuncData} (A__law_draw : At K mg "_law_draw" a__law_draw) (F__law_draw : Fun K "_law_draw" "_law_draw" (top 51) a__law_draw d__law_draw) (G__law_draw : FnG P w K mg base CX0 1 a__law_draw d__law_draw ["_law_deck_here", "_law_many"] (spD K 2 f__law_draw)) (A__law_bracketed : At K mg "_law_bracketed" f) :
    FnG P w K mg base CX0 19 f fd ["_law_deck_here", "_law_code_here", "_law_cuts"] (spD K 3 (f__law_bracketed 12)) := by
  have all : ∀ n, FnG P w K mg base CX0 (7 + n) f fd ["_law_deck_here", "_law_code_here", "_law_cuts"] (spD K 3 (f__law_bracketed n)) := fun n => by
    induction n with
    | zero => exact fnG_noD
    | succ n ih => exact step__law_bracketed F T TC MK_Piece F_Piece____init__ G_Piece____init__ M_Piece__joined F_Piece__joined G_Piece__joined A__law_draw F__law_draw G__law_draw A__law_bracketed ih
  exact all 12
/-! _law_code -/
noncomputable def m__law_code : MS := (mRet (mMake "Tally" f_Tally____init__ [0, 1, 2, 3] (mCons (mBin dItemA (mVar 0) (mC (.str "signs"))) (mCons (mBin dItemA (mVar 0) (mC (.str "begin"))) (mCons (mBin dItemA (mVar 0) (mC (.str "lots"))) (mCons (mBin dItemA (mVar 0) (mC (.str "last"))) mNil)))) mNil))
theorem s__law_code : FnScope ["_law_w"] ["_law_w"] (defScope (top 55)) := ⟨rfl, rfl, rfl, by decide +kernel, rfl, by decide +kernel, by decide +kernel⟩
noncomputable def f__law_code : List D → Option D := runP 1 m__law_code
theorem bd__law_code_1 {f : Addr} {fd : FuncData} (F : Fun K "_law_code" "_law_code" (top 55) f fd) : Bd fd ["_law_w"] 1 [] ([0]) := by
  obtain ⟨oc, od, kV, doc, pm, an, cdv, ct, osl, rfl, lk, hcd⟩ := F.ex
  exact ⟨fun s us ws h1 h2 => match us, ws, h1, h2 with | [v0], [], _, _ => .of_eq rfl⟩
theorem ok__law_code {f : Addr} {fd : FuncData} (F : Fun K "_law_code" "_law_code" (top 55) f fd) (T : Txt mg) (TC : TCs K mg C_BadTicket C_OtherTally C_Piece C_Tally C_TallyError fI_BadTicket) {a_Tally____init__ : Addr} {d_Tally____init__ : FuncData} (MK_Tally : Mk K C_Tally a_Tally____init__) (F_Tally____init__ : Fun K "__init__" "Tally.__init__" (inClass (top 41) 0) a_Tally____init__ d_Tally____init__) (G_Tally____init__ : FnG P w K mg base CX0 7 a_Tally____init__ d_Tally____init__ ["self", "digits", "start", "tables", "ends"] (spI K "Tally" 5 f_Tally____init__)) :
    FnG P w K mg base CX0 9 f fd ["_law_w"] (spP K 1 f__law_code) := by
  have b_Tally____init___5 := bd_Tally____init___5 F_Tally____init__
  refine fn_pure (k := 8) F s__law_code m__law_code (fun cdv A outer s H E hr hg => ?_)
  have S := s__law_code
  have hU := hr.units
  have hU1 := hu_of hr
  exact (psm_one (psm_ret (pem_make ⟨hr.mono (by decide), hg⟩ TC.n_Tally MK_Tally G_Tally____init__ rfl TC.g_Tally b_Tally____init___5 (fix_cons (fix_cons (fix_cons (fix_cons fix_nil)))) (by decide) rfl (pam_cons (pem_itemA hU1 (pem_var 0 (pv 0)) pem_str (fun _ _ => rfl)) (pam_cons (pem_itemA hU1 (pem_var 0 (pv 0)) pem_str (fun _ _ => rfl)) (pam_cons (pem_itemA hU1 (pem_var 0 (pv 0)) pem_str (fun _ _ => rfl)) (pam_cons (pem_itemA hU1 (pem_var 0 (pv 0)) pem_str (fun _ _ => rfl)) pam_nil)))))))
/-! _law_deck -/
noncomputable def m__law_deck : MS := (mSeq (mPar 1 2 (mCons (mApp dList (mCons (mSlice (mVar 0) mNoPart (mPart (mC (.int 63)))) mNil)) (mCons (mC (.int 10870070)) mNil))) (mSeq (mFor (mItems (mVar 1)) (gmName 3) (mAsg (mBin dMod (mApp dInt (mCons (mBin dAdd (mBin dAdd (mBin dMulA (mVar 2) (mC (.int 39373))) (mBin dMod (mApp dInt (mCons (mVar 3) mNil)) (mC (.int 2147483629)))) (mC (.int 251))) mNil)) (mC (.int 2147483587))) (gmName 2))) mSkip))
theorem s__law_deck : FnScope ["_law_script", "_law_cells", "_law_mixed", "_law_cell"] ["_law_script"] (defScope (top 50)) := ⟨rfl, rfl, rfl, by decide +kernel, rfl, by decide +kernel, by decide +kernel⟩
noncomputable def f__law_deck : List D → Option Dk := runN 4 m__law_deck 1 2 false
theorem bd__law_deck {f : Addr} {fd : FuncData} (F : Fun K "_law_deck" "_law_deck" (top 50) f fd) : Bd fd ["_law_script"] 1 [] (List.range 1) := by
  obtain ⟨oc, od, kV, doc, pm, an, cdv, ct, osl, rfl, lk, hcd⟩ := F.ex
  exact ⟨fun s us ws h1 h2 => match us, ws, h1, h2 with | [v0], [], _, _ => .of_eq rfl⟩
theorem ok__law_deck {f : Addr} {fd : FuncData} (F : Fun K "_law_deck" "_law_deck" (top 50) f fd) (T : Txt mg) (TC : TCs K mg C_BadTicket C_OtherTally C_Piece C_Tally C_TallyError fI_BadTicket) :
    FnG P w K mg base CX0 1 f fd ["_law_script"] (spN K 1 f__law_deck) := by
  refine fn_new (k := 0) F s__law_deck m__law_deck 1 2 false (fun cdv A outer s H E hr hg => ?_)
  have S := s__law_deck
  have hU := hr.units
  have hU1 := hu_of hr
  exact (psl_cons (psm_par rfl S.nd (i := 1) (j := 2) rfl rfl (by decide) rfl rfl (pam_cons (pem_callTy (call_listA rfl) rc_list rfl T.g_list (by rfl) (pam_cons (pem_slice (pem_var 0 (pv 0)) pom_none (pom_some pem_int)) pam_nil)) (pam_cons pem_int pam_nil)) rfl) (psl_cons (psm_for PassesOwn.never rfl (pim_items (pem_var 1 (pv 1))) (pg_name (i := 3) S.nd rfl (Or.inl rfl)) (gm_name 3) (psm_one (psm_set (i := 2) S.nd rfl (Or.inl rfl) (pem_op op_mod ro_mod (pem_callTy call_intA rc_int rfl T.g_int (by rfl) (pam_cons (pem_op op_addA ro_add (pem_op op_addA ro_add (pem_op op_mulA ro_mulA (pem_var 2 (pv 2)) pem_int) (pem_op op_mod ro_mod (pem_callTy call_intA rc_int rfl T.g_int (by rfl) (pam_cons (pem_var 3 (pv 3)) pam_nil)) pem_int)) pem_int) pam_nil)) pem_int)))) (psl_one (ps_new (pv 1) (pv 2)))))
/-! Piece____len__ -/
noncomputable def m_Piece____len__ : MS := (mRet (mApp dLen (mCons (mUn (dFld ["Piece"] "ticket") (mVar 0)) mNil)))
theorem s_Piece____len__ : FnScope ["self"] ["self"] (defScope (inClass (top 18) 1)) := ⟨rfl, rfl, rfl, by decide +kernel, rfl, by decide +kernel, by decide +kernel⟩
noncomputable def f_Piece____len__ : List D → Option D := runP 1 m_Piece____len__
theorem bd_Piece____len___1 {f : Addr} {fd : FuncData} (F : Fun K "__len__" "Piece.__len__" (inClass (top 18) 1) f fd) : Bd fd ["self"] 1 [] ([0]) := by
  obtain ⟨oc, od, kV, doc, pm, an, cdv, ct, osl, rfl, lk, hcd⟩ := F.ex
  exact ⟨fun s us ws h1 h2 => match us, ws, h1, h2 with | [v0], [], _, _ => .of_eq rfl⟩
theorem ok_Piece____len__ {f : Addr} {fd : FuncData} (F : Fun K "__len__" "Piece.__len__" (inClass (top 18) 1) f fd) (T : Txt mg) (TC : TCs K mg C_BadTicket C_OtherTally C_Piece C_Tally C_TallyError fI_BadTicket) :
    FnG P w K mg base CX0 1 f fd ["self"] (spP K 1 f_Piece____len__) := by
  refine fn_pure (k := 0) F s_Piece____len__ m_Piece____len__ (fun cdv A outer s H E hr hg => ?_)
  have S := s_Piece____len__
  have hU := hr.units
  have hU1 := hu_of hr
  exact (psm_one (psm_ret (pem_callB call_lenA rc_len rfl T.g_len (by rfl) (pam_cons (pem_fld (fldC_one TC.n_Piece TC.l_Piece TC.na_Piece_ticket) (pem_var 0 (pv 0))) pam_nil))))
/-! Piece__led -/
noncomputable def m_Piece__led : MS := (mRet (mCallP f_led_on [0, 1] (mCons (mVar 1) (mCons (mUn (dFld ["Piece"] "table_now") (mVar 0)) mNil)) mNil))
theorem s_Piece__led : FnScope ["self", "row"] ["self", "row"] (defScope (inClass (top 18) 4)) := ⟨rfl, rfl, rfl, by decide +kernel, rfl, by decide +kernel, by decide +kernel⟩
noncomputable def f_Piece__led : List D → Option D := runP 2 m_Piece__led
theorem bd_Piece__led_1_row {f : Addr} {fd : FuncData} (F : Fun K "led" "Piece.led" (inClass (top 18) 4) f fd) : Bd fd ["self", "row"] 1 ["row"] ([0, 1]) := by
  obtain ⟨oc, od, kV, doc, pm, an, cdv, ct, osl, rfl, lk, hcd⟩ := F.ex
  exact ⟨fun s us ws h1 h2 => match us, ws, h1, h2 with | [v0], [z0], _, _ => .of_eq rfl⟩
theorem bd_Piece__led_2 {f : Addr} {fd : FuncData} (F : Fun K "led" "Piece.led" (inClass (top 18) 4) f fd) : Bd fd ["self", "row"] 2 [] ([0, 1]) := by
  obtain ⟨oc, od, kV, doc, pm, an, cdv, ct, osl, rfl, lk, hcd⟩ := F.ex
  exact ⟨fun s us ws h1 h2 => match us, ws, h1, h2 with | [v0, v1], [], _, _ => .of_eq rfl⟩
theorem ok_Piece__led {f : Addr} {fd : FuncData} (F : Fun K "led" "Piece.led" (inClass (top 18) 4) f fd) (T : Txt mg) (TC : TCs K mg C_BadTicket C_OtherTally C_Piece C_Tally C_TallyError fI_BadTicket) {a_led_on : Addr} {d_led_on : FuncData} (A_led_on : At K mg "led_on" a_led_on) (F_led_on : Fun K "led_on" "led_on" (top 16) a_led_on d_led_on) (G_led_on : FnG P w K mg base CX0 1 a_led_on d_led_on ["row", "table"] (spP K 2 f_led_on)) :
    FnG P w K mg base CX0 2 f fd ["self", "row"] (spP K 2 f_Piece__led) := by
  have b_led_on_2 := bd_led_on_2 F_led_on
  refine fn_pure (k := 1) F s_Piece__led m_Piece__led (fun cdv A outer s H E hr hg => ?_)
  have S := s_Piece__led
  have hU := hr.units
  have hU1 := hu_of hr
  exact (psm_one (psm_ret (pem_callP ⟨hr.mono (by decide), hg⟩ G_led_on rfl A_led_on.mg A_led_on.kp b_led_on_2 (fix_cons (fix_cons fix_nil)) (by decide) rfl (pam_cons (pem_var 1 (pv 1)) (pam_cons (pem_fld (fldC_one TC.n_Piece TC.l_Piece TC.na_Piece_table_now) (pem_var 0 (pv 0))) pam_nil)))))
/-! product_of -/
noncomputable def m_product_of : MS := (mRet (mApp dSum (mCons (mLc (mZip (mCons (mVar 0) (mCons (mVar 1) mNil))) (gmTup (gmCons (gmName 2) (gmCons (gmName 3) gmNil)) 2) mYes (mBin dMulA (mVar 2) (mVar 3)) [2, 3]) mNil)))
theorem s_product_of : FnScope ["row", "other", "number", "further"] ["row", "other"] (defScope (top 15)) := ⟨rfl, rfl, rfl, by decide +kernel, rfl, by decide +kernel, by decide +kernel⟩
noncomputable def f_product_of : List D → Option D := runP 4 m_product_of
theorem bd_product_of_2 {f : Addr} {fd : FuncData} (F : Fun K "product_of" "product_of" (top 15) f fd) : Bd fd ["row", "other"] 2 [] ([0, 1]) := by
  obtain ⟨oc, od, kV, doc, pm, an, cdv, ct, osl, rfl, lk, hcd⟩ := F.ex
  exact ⟨fun s us ws h1 h2 => match us, ws, h1, h2 with | [v0, v1], [], _, _ => .of_eq rfl⟩
theorem ok_product_of {f : Addr} {fd : FuncData} (F : Fun K "product_of" "product_of" (top 15) f fd) (T : Txt mg) (TC : TCs K mg C_BadTicket C_OtherTally C_Piece C_Tally C_TallyError fI_BadTicket) :
    FnG P w K mg base CX0 1 f fd ["row", "other"] (spP K 2 f_product_of) := by
  refine fn_pure (k := 0) F s_product_of m_product_of (fun cdv A outer s H E hr hg => ?_)
  have S := s_product_of
  have hU := hr.units
  have hU1 := hu_of hr
  exact (psm_one (psm_ret (pem_callB (cr_sum rfl) rc_sum rfl T.g_sum (by rfl) (pam_cons (pem_lc (own := [("number", 2), ("further", 3)]) rfl S.nd (pim_zip rfl T.g_zip (pam_cons (pem_var 0 (pv 0)) (pam_cons (pem_var 1 (pv 1)) pam_nil))) (by show blkC ["row", "other", "number", "further"] (defScope (top 15)) _ _ = true; decide +kernel) (fun _ _ _ _ _ => (pg_tup rfl (pgs_cons (pg_name (i := 2) S.nd rfl (Or.inl rfl)) (pgs_cons (pg_name (i := 3) S.nd rfl (Or.inl rfl)) pgs_nil)))) (gm_tup (gm_cons (gm_name 2) (gm_cons (gm_name 3) gm_nil))) (by decide) (fun _ _ _ _ _ => ptms_nil) (fun _ _ _ _ _ => (pem_op op_mulA ro_mulA (pem_var 2 (pv 2)) (pem_var 3 (pv 3))))) pam_nil))))
/-! Piece__worth_now -/
noncomputable def m_Piece__worth_now : MS := (mRet (mCallP f_product_of [0, 1] (mCons (mCallP f_led_on [0, 1] (mCons (mUn (dFld ["Tally"] "start") (mUn (dFld ["Piece"] "tally") (mVar 0))) (mCons (mUn (dFld ["Piece"] "table_now") (mVar 0)) mNil)) mNil) (mCons (mUn (dFld ["Tally"] "ends") (mUn (dFld ["Piece"] "tally") (mVar 0))) mNil)) mNil))
theorem s_Piece__worth_now : FnScope ["self"] ["self"] (defScope (inClass (top 18) 5)) := ⟨rfl, rfl, rfl, by decide +kernel, rfl, by decide +kernel, by decide +kernel⟩
noncomputable def f_Piece__worth_now : List D → Option D := runP 1 m_Piece__worth_now
theorem bd_Piece__worth_now_1 {f : Addr} {fd : FuncData} (F : Fun K "worth_now" "Piece.worth_now" (inClass (top 18) 5) f fd) : Bd fd ["self"] 1 [] ([0]) := by
  obtain ⟨oc, od, kV, doc, pm, an, cdv, ct, osl, rfl, lk, hcd⟩ := F.ex
  exact ⟨fun s us ws h1 h2 => match us, ws, h1, h2 with | [v0], [], _, _ => .of_eq rfl⟩
theorem ok_Piece__worth_now {f : Addr} {fd : FuncData} (F : Fun K "worth_now" "Piece.worth_now" (inClass (top 18) 5) f fd) (T : Txt mg) (TC : TCs K mg C_BadTicket C_OtherTally C_Piece C_Tally C_TallyError fI_BadTicket) {a_led_on : Addr} {d_led_on : FuncData} (A_led_on : At K mg "led_on" a_led_on) (F_led_on : Fun K "led_on" "led_on" (top 16) a_led_on d_led_on) (G_led_on : FnG P w K mg base CX0 1 a_led_on d_led_on ["row", "table"] (spP K 2 f_led_on)) {a_product_of : Addr} {d_product_of : FuncData} (A_product_of : At K mg "product_of" a_product_of) (F_product_of : Fun K "product_of" "product_of" (top 15) a_product_of d_product_of) (G_product_of : FnG P w K mg base CX0 1 a_product_of d_product_of ["row", "other"] (spP K 2 f_product_of)) :
    FnG P w K mg base CX0 2 f fd ["self"] (spP K 1 f_Piece__worth_now) := by
  have b_led_on_2 := bd_led_on_2 F_led_on
  have b_product_of_2 := bd_product_of_2 F_product_of
  refine fn_pure (k := 1) F s_Piece__worth_now m_Piece__worth_now (fun cdv A outer s H E hr hg => ?_)
  have S := s_Piece__worth_now
  have hU := hr.units
  have hU1 := hu_of hr
  exact (psm_one (psm_ret (pem_callP ⟨hr.mono (by decide), hg⟩ G_product_of rfl A_product_of.mg A_product_of.kp b_product_of_2 (fix_cons (fix_cons fix_nil)) (by decide) rfl (pam_cons (pem_callP ⟨hr.mono (by decide), hg⟩ G_led_on rfl A_led_on.mg A_led_on.kp b_led_on_2 (fix_cons (fix_cons fix_nil)) (by decide) rfl (pam_cons (pem_fld (fldC_one TC.n_Tally TC.l_Tally TC.na_Tally_start) (pem_fld (fldC_one TC.n_Piece TC.l_Piece TC.na_Piece_tally) (pem_var 0 (pv 0)))) (pam_cons (pem_fld (fldC_one TC.n_Piece TC.l_Piece TC.na_Piece_table_now) (pem_var 0 (pv 0))) pam_nil))) (pam_cons (pem_fld (fldC_one TC.n_Tally TC.l_Tally TC.na_Tally_ends) (pem_fld (fldC_one TC.n_Piece TC.l_Piece TC.na_Piece_tally) (pem_var 0 (pv 0)))) pam_nil)))))
/-! _law_dot -/
noncomputable def m__law_dot : MS := (mRet (mApp dSum (mCons (mLc (mZip (mCons (mVar 0) (mCons (mVar 1) mNil))) (gmTup (gmCons (gmName 2) (gmCons (gmName 3) gmNil)) 2) mYes (mBin dMulA (mVar 2) (mVar 3)) [2, 3]) mNil)))
theorem s__law_dot : FnScope ["_law_near", "_law_far", "_law_x", "_law_y"] ["_law_near", "_law_far"] (defScope (top 57)) := ⟨rfl, rfl, rfl, by decide +kernel, rfl, by decide +kernel, by decide +kernel⟩
noncomputable def f__law_dot : List D → Option D := runP 4 m__law_dot
theorem bd__law_dot_2 {f : Addr} {fd : FuncData} (F : Fun K "_law_dot" "_law_dot" (top 57) f fd) : Bd fd ["_law_near", "_law_far"] 2 [] ([0, 1]) := by
  obtain ⟨oc, od, kV, doc, pm, an, cdv, ct, osl, rfl, lk, hcd⟩ := F.ex
  exact ⟨fun s us ws h1 h2 => match us, ws, h1, h2 with | [v0, v1], [], _, _ => .of_eq rfl⟩
theorem ok__law_dot {f : Addr} {fd : FuncData} (F : Fun K "_law_dot" "_law_dot" (top 57) f fd) (T : Txt mg) (TC : TCs K mg C_BadTicket C_OtherTally C_Piece C_Tally C_TallyError fI_BadTicket) :
    FnG P w K mg base CX0 1 f fd ["_law_near", "_law_far"] (spP K 2 f__law_dot) := by
  refine fn_pure (k := 0) F s__law_dot m__law_dot (fun cdv A outer s H E hr hg => ?_)
  have S := s__law_dot
  have hU := hr.units
  have hU1 := hu_of hr
  exact (psm_one (psm_ret (pem_callB (cr_sum rfl) rc_sum rfl T.g_sum (by rfl) (pam_cons (pem_lc (own := [("_law_x", 2), ("_law_y", 3)]) rfl S.nd (pim_zip rfl T.g_zip (pam_cons (pem_var 0 (pv 0)) (pam_cons (pem_var 1 (pv 1)) pam_nil))) (by show blkC ["_law_near", "_law_far", "_law_x", "_law_y"] (defScope (top 57)) _ _ = true; decide +kernel) (fun _ _ _ _ _ => (pg_tup rfl (pgs_cons (pg_name (i := 2) S.nd rfl (Or.inl rfl)) (pgs_cons (pg_name (i := 3) S.nd rfl (Or.inl rfl)) pgs_nil)))) (gm_tup (gm_cons (gm_name 2) (gm_cons (gm_name 3) gm_nil))) (by decide) (fun _ _ _ _ _ => ptms_nil) (fun _ _ _ _ _ => (pem_op op_mulA ro_mulA (pem_var 2 (pv 2)) (pem_var 3 (pv 3))))) pam_nil))))
/-! _law_led -/
noncomputable def m__law_led : MS := (mRet (mApp dTuple (mCons (mLc (mRange (mCons (mApp dLen (mCons (mVar 0) mNil)) mNil)) (gmName 2) mYes (mApp dSum (mCons (mLc (mRange (mCons (mApp dLen (mCons (mVar 0) mNil)) mNil)) (gmName 3) mYes (mBin dMulA (mBin dItemA (mVar 0) (mVar 3)) (mBin dItemA (mBin dItemA (mVar 1) (mVar 3)) (mVar 2))) [3]) mNil)) [2]) mNil)))
theorem s__law_led : FnScope ["_law_line_here", "_law_lot", "_law_at", "_law_k"] ["_law_line_here", "_law_lot"] (defScope (top 56)) := ⟨rfl, rfl, rfl, by decide +kernel, rfl, by decide +kernel, by decide +kernel⟩
noncomputable def f__law_led : List D → Option D := runP 4 m__law_led
theorem bd__law_led_2 {f : Addr} {fd : FuncData} (F : Fun K "_law_led" "_law_led" (top 56) f fd) : Bd fd ["_law_line_here", "_law_lot"] 2 [] ([0, 1]) := by
  obtain ⟨oc, od, kV, doc, pm, an, cdv, ct, osl, rfl, lk, hcd⟩ := F.ex
  exact ⟨fun s us ws h1 h2 => match us, ws, h1, h2 with | [v0, v1], [], _, _ => .of_eq rfl⟩
theorem ok__law_led {f : Addr} {fd : FuncData} (F : Fun K "_law_led" "_law_led" (top 56) f fd) (T : Txt mg) (TC : TCs K mg C_BadTicket C_OtherTally C_Piece C_Tally C_TallyError fI_BadTicket) :
    FnG P w K mg base CX0 1 f fd ["_law_line_here", "_law_lot"] (spP K 2 f__law_led) := by
  refine fn_pure (k := 0) F s__law_led m__law_led (fun cdv A outer s H E hr hg => ?_)
  have S := s__law_led
  have hU := hr.units
  have hU1 := hu_of hr
  exact (psm_one (psm_ret (pem_callTy (call_tupleA rfl) rc_tuple rfl T.g_tuple (by rfl) (pam_cons (pem_lc (own := [("_law_at", 2)]) rfl S.nd (pim_range1 rfl T.g_range (pam_cons (pem_callB call_lenA rc_len rfl T.g_len (by rfl) (pam_cons (pem_var 0 (pv 0)) pam_nil)) pam_nil) (fun _ _ _ h => fix_cons fix_nil _ _ _ h)) (by show blkC ["_law_line_here", "_law_lot", "_law_at", "_law_k"] (defScope (top 56)) _ _ = true; decide +kernel) (fun _ _ _ _ _ => (pg_name (i := 2) S.nd rfl (Or.inr rfl))) (gm_name 2) (by decide) (fun _ _ _ _ _ => ptms_nil) (fun _ _ _ _ _ => (pem_callB (cr_sum rfl) rc_sum rfl T.g_sum (by rfl) (pam_cons (pem_lc (own := [("_law_k", 3)]) rfl S.nd (pim_range1 rfl T.g_range (pam_cons (pem_callB call_lenA rc_len rfl T.g_len (by rfl) (pam_cons (pem_var 0 (pv 0)) pam_nil)) pam_nil) (fun _ _ _ h => fix_cons fix_nil _ _ _ h)) (by show blkC ["_law_line_here", "_law_lot", "_law_at", "_law_k"] _ _ _ = true; dsimp only [compEnvC]; first | decide +kernel | rfl) (fun _ _ _ _ _ => (pg_name (i := 3) S.nd rfl (Or.inl rfl))) (gm_name 3) (by decide) (fun _ _ _ _ _ => ptms_nil) (fun _ _ _ _ _ => (pem_op op_mulA ro_mulA (pem_itemA hU1 (pem_var 0 (pv 0)) (pem_var 3 (pv 3)) (fun _ _ => rfl)) (pem_itemA hU1 (pem_itemA hU1 (pem_var 1 (pv 1)) (pem_var 3 (pv 3)) (fun _ _ => rfl)) (pem_var 2 (pv 2)) (fun _ _ => rfl))))) pam_nil)))) pam_nil))))
/-! _law_lot_of -/
noncomputable def m__law_lot_of : MS := (mSeq (mParDO 2 3 (mApp dLen (mCons (mBin dItemA (mVar 0) (mC (.str "begin"))) mNil)) (mNLst mNil)) (mSeq (mFor (mRange (mCons (mVar 2) mNil)) (gmName 4) (mSeq (mAsg (mApp dTuple (mCons (mLc (mRange (mCons (mVar 2) mNil)) (gmName 7) mYes (mApp dInt (mCons (mBin dEq (mVar 7) (mVar 4)) mNil)) [7]) mNil)) (gmName 5)) (mSeq (mFor (mItems (mVar 1)) (gmName 6) (mAsg (mCallP f__law_led [0, 1] (mCons (mVar 5) (mCons (mBin dItemA (mBin dItemA (mVar 0) (mC (.str "lots"))) (mBin dIndexA (mBin dItemA (mVar 0) (mC (.str "signs"))) (mVar 6))) mNil)) mNil) (gmName 5))) (mPush 3 (mVar 5))))) (mSeq (mFrz 3) (mRet (mApp dTuple (mCons (mVar 3) mNil))))))
theorem s__law_lot_of : FnScope ["_law_w", "_law_page_here", "_law_size", "_law_found", "_law_k", "_law_line_here", "_law_sign", "_law_at"] ["_law_w", "_law_page_here"] (defScope (top 60)) := ⟨rfl, rfl, rfl, by decide +kernel, rfl, by decide +kernel, by decide +kernel⟩
noncomputable def f__law_lot_of : List D → Option D := runP 8 m__law_lot_of
theorem bd__law_lot_of_2 {f : Addr} {fd : FuncData} (F : Fun K "_law_lot_of" "_law_lot_of" (top 60) f fd) : Bd fd ["_law_w", "_law_page_here"] 2 [] ([0, 1]) := by
  obtain ⟨oc, od, kV, doc, pm, an, cdv, ct, osl, rfl, lk, hcd⟩ := F.ex
  exact ⟨fun s us ws h1 h2 => match us, ws, h1, h2 with | [v0, v1], [], _, _ => .of_eq rfl⟩
theorem ok__law_lot_of {f : Addr} {fd : FuncData} (F : Fun K "_law_lot_of" "_law_lot_of" (top 60) f fd) (T : Txt mg) (TC : TCs K mg C_BadTicket C_OtherTally C_Piece C_Tally C_TallyError fI_BadTicket) {a__law_led : Addr} {d__law_led : FuncData} (A__law_led : At K mg "_law_led" a__law_led) (F__law_led : Fun K "_law_led" "_law_led" (top 56) a__law_led d__law_led) (G__law_led : FnG P w K mg base CX0 1 a__law_led d__law_led ["_law_line_here", "_law_lot"] (spP K 2 f__law_led)) :
    FnG P w K mg base CX0 2 f fd ["_law_w", "_law_page_here"] (spP K 2 f__law_lot_of) := by
  have b__law_led_2 := bd__law_led_2 F__law_led
  refine fn_pure (k := 1) F s__law_lot_of m__law_lot_of (fun cdv A outer s H E hr hg => ?_)
  have S := s__law_lot_of
  have hU := hr.units
  have hU1 := hu_of hr
  exact (psm_seq (psm_parDO rfl S.nd (i := 2) (j := 3) rfl rfl (by decide) rfl rfl (pem_callB call_lenA rc_len rfl T.g_len (by rfl) (pam_cons (pem_itemA hU1 (pem_var 0 (pv 0)) pem_str (fun _ _ => rfl)) pam_nil)) (pen_lst pam_nil) rfl) (psm_seq (psm_for PassesOwn.never rfl (pim_range1 rfl T.g_range (pam_cons (pem_var 2 (pv 2)) pam_nil) (fun _ _ _ h => fix_cons fix_nil _ _ _ h)) (pg_name (i := 4) S.nd rfl (Or.inr rfl)) (gm_name 4) (psm_seq (psm_set (i := 5) S.nd rfl (Or.inl rfl) (pem_callTy (call_tupleA rfl) rc_tuple rfl T.g_tuple (by rfl) (pam_cons (pem_lc (own := [("_law_at", 7)]) rfl S.nd (pim_range1 rfl T.g_range (pam_cons (pem_var 2 (pv 2)) pam_nil) (fun _ _ _ h => fix_cons fix_nil _ _ _ h)) (by show blkC ["_law_w", "_law_page_here", "_law_size", "_law_found", "_law_k", "_law_line_here", "_law_sign", "_law_at"] (defScope (top 60)) _ _ = true; decide +kernel) (fun _ _ _ _ _ => (pg_name (i := 7) S.nd rfl (Or.inl rfl))) (gm_name 7) (by decide) (fun _ _ _ _ _ => ptms_nil) (fun _ _ _ _ _ => (pem_callTy call_intA rc_int rfl T.g_int (by rfl) (pam_cons (pem_cmp (op_eqP hU) ro_cmp (nomark _) (pem_var 7 (pv 7)) (pem_var 4 (pv 4))) pam_nil)))) pam_nil))) (psm_seq (psm_for PassesOwn.never rfl (pim_items (pem_var 1 (pv 1))) (pg_name (i := 6) S.nd rfl (Or.inl rfl)) (gm_name 6) (psm_one (psm_set (i := 5) S.nd rfl (Or.inl rfl) (pem_callP ⟨hr.mono (by decide), hg⟩ G__law_led rfl A__law_led.mg A__law_led.kp b__law_led_2 (fix_cons (fix_cons fix_nil)) (by decide) rfl (pam_cons (pem_var 5 (pv 5)) (pam_cons (pem_itemA hU1 (pem_itemA hU1 (pem_var 0 (pv 0)) pem_str (fun _ _ => rfl)) (pem_indexA (pem_itemA hU1 (pem_var 0 (pv 0)) pem_str (fun _ _ => rfl)) (pem_var 6 (pv 6))) (fun _ _ => rfl)) pam_nil)))))) (psm_one (psm_push (i := 3) (pv 3) (pem_var 5 (pv 5))))))) (psm_one (psm_frz (i := 3) (psm_ret (pem_callTy (call_tupleA rfl) rc_tuple rfl T.g_tuple (by rfl) (pam_cons (pem_var 3 (pv 3)) pam_nil)))))))
/-! _law_pick -/
noncomputable def m__law_pick : MS := (mRet (mBin dItemA (mVar 1) (mCallD 0 f__law_draw (mCons (mApp dLen (mCons (mVar 1) mNil)) mNil))))
theorem s__law_pick : FnScope ["_law_deck_here", "_law_some"] ["_law_deck_here", "_law_some"] (defScope (top 52)) := ⟨rfl, rfl, rfl, by decide +kernel, rfl, by decide +kernel, by decide +kernel⟩
noncomputable def f__law_pick : Dk → List D → Option (D × Dk) := runD 2 m__law_pick
theorem bd__law_pick {f : Addr} {fd : FuncData} (F : Fun K "_law_pick" "_law_pick" (top 52) f fd) : Bd fd ["_law_deck_here", "_law_some"] 2 [] (List.range 2) := by
  obtain ⟨oc, od, kV, doc, pm, an, cdv, ct, osl, rfl, lk, hcd⟩ := F.ex
  exact ⟨fun s us ws h1 h2 => match us, ws, h1, h2 with | [v0, v1], [], _, _ => .of_eq rfl⟩
theorem ok__law_pick {f : Addr} {fd : FuncData} (F : Fun K "_law_pick" "_law_pick" (top 52) f fd) (T : Txt mg) (TC : TCs K mg C_BadTicket C_OtherTally C_Piece C_Tally C_TallyError fI_BadTicket) {a__law_draw : Addr} {d__law_draw : FuncData} (A__law_draw : At K mg "_law_draw" a__law_draw) (F__law_draw : Fun K "_law_draw" "_law_draw" (top 51) a__law_draw d__law_draw) (G__law_draw : FnG P w K mg base CX0 1 a__law_draw d__law_draw ["_law_deck_here", "_law_many"] (spD K 2 f__law_draw)) :
    FnG P w K mg base CX0 2 f fd ["_law_deck_here", "_law_some"] (spD K 2 f__law_pick) := by
  have b__law_draw := bd__law_draw F__law_draw
  refine fn_deck (k := 1) F s__law_pick m__law_pick (fun cdv A outer s H E hr hg => ?_)
  have S := s__law_pick
  have hU := hr.units
  have hU1 := hu_of hr
  exact (psm_one (psm_ret (pem_itemA hU1 (pem_var 1 (pv 1)) (pem_callD (i := 0) ⟨hr.mono (by decide), hg⟩ G__law_draw rfl A__law_draw.mg A__law_draw.kp b__law_draw (fix_cons fix_nil) rfl (pv 0) (pam_cons (pem_callB call_lenA rc_len rfl T.g_len (by rfl) (pam_cons (pem_var 1 (pv 1)) pam_nil)) pam_nil)) (fun _ _ => rfl))))
/-! _law_is_piece -/
noncomputable def m__law_is_piece : MS := (mSeq (mAsg (mCallP f__law_lot_of [0, 1] (mCons (mVar 1) (mCons (mVar 4) mNil)) mNil) (gmName 5)) (mSeq (mAsg (mApp dLst (mCons (mUn (dFld ["Piece"] "ticket") (mVar 3)) (mCons (mUn (dFld ["Piece"] "table_now") (mVar 3)) (mCons (mUn (dLenO "Piece" f_Piece____len__ dLen1) (mVar 3)) mNil)))) (gmName 6)) (mSeq (mIfS (mOrT (mTest (mBin (dOE "Tally" f_Tally____eq__ true) (mUn (dFld ["Piece"] "tally") (mVar 3)) (mVar 2))) (mTest (mBin dNe (mApp dRepr (mCons (mVar 6) mNil)) (mApp dRepr (mCons (mApp dLst (mCons (mVar 4) (mCons (mVar 5) (mCons (mApp dLen (mCons (mVar 4) mNil)) mNil)))) mNil))))) (mRet (mC (.bl false))) mSkip) (mSeq (mIfS (mTest (mBin dNe (mApp dRepr (mCons (mSelf "Piece" f_Piece__worth_now (mVar 3)) mNil)) (mApp dRepr (mCons (mCallP f__law_dot [0, 1] (mCons (mCallP f__law_led [0, 1] (mCons (mBin dItemA (mVar 1) (mC (.str "begin"))) (mCons (mVar 5) mNil)) mNil) (mCons (mBin dItemA (mVar 1) (mC (.str "last"))) mNil)) mNil) mNil)))) (mRet (mC (.bl false))) mSkip) (mSeq (mAsg (mApp dTuple (mCons (mLc (mRange (mCons (mApp dLen (mCons (mBin dItemA (mVar 1) (mC (.str "begin"))) mNil)) mNil)) (gmName 8) mYes (mCallD 0 f__law_pick (mCons (mApp dLst (mCons (mC (.int 0)) (mCons (mC (.int 1)) (mCons (mUn dNeg (mC (.int 1))) (mCons (mC (.int 7)) (mCons (mC (.int 999999)) (mCons (mUn dNeg (mC (.int 999999))) mNil))))))) mNil)) [8]) mNil)) (gmName 7)) (mSeq (mIfS (mTest (mBin dNe (mApp dRepr (mCons (mApp dLst (mCons (mMeth "Piece" "led" f_Piece__led [0, 1] (mVar 3) (mCons (mVar 7) mNil) mNil) (mCons (mMeth "Piece" "led" f_Piece__led [0, 1] (mVar 3) mNil (mCons (mVar 7) mNil)) mNil))) mNil)) (mApp dRepr (mCons (mBin dMulA (mApp dLst (mCons (mCallP f__law_led [0, 1] (mCons (mVar 7) (mCons (mVar 5) mNil)) mNil) mNil)) (mC (.int 2))) mNil)))) (mRet (mC (.bl false))) mSkip) (mRet (mBin (dOE "Piece" f_Piece____eq__ false) (mVar 3) (mMake "Piece" f_Piece____init__ [1, 0] mNil (mCons (mVar 4) (mCons (mVar 2) mNil)))))))))))
theorem s__law_is_piece : FnScope ["_law_deck_here", "_law_w", "_law_code_here", "_law_it", "_law_page_here", "_law_lot", "_law_told", "_law_line_here", "_law_k"] ["_law_deck_here", "_law_w", "_law_code_here", "_law_it", "_law_page_here"] (defScope (top 62)) := ⟨rfl, rfl, rfl, by decide +kernel, rfl, by decide +kernel, by decide +kernel⟩
noncomputable def f__law_is_piece : Dk → List D → Option (D × Dk) := runD 9 m__law_is_piece
theorem bd__law_is_piece {f : Addr} {fd : FuncData} (F : Fun K "_law_is_piece" "_law_is_piece" (top 62) f fd) : Bd fd ["_law_deck_here", "_law_w", "_law_code_here", "_law_it", "_law_page_here"] 5 [] (List.range 5) := by
  obtain ⟨oc, od, kV, doc, pm, an, cdv, ct, osl, rfl, lk, hcd⟩ := F.ex
  exact ⟨fun s us ws h1 h2 => match us, ws, h1, h2 with | [v0, v1, v2, v3, v4], [], _, _ => .of_eq rfl⟩
theorem ok__law_is_piece {f : Addr} {fd : FuncData} (F : Fun K "_law_is_piece" "_law_is_piece" (top 62) f fd) (T : Txt mg) (TC : TCs K mg C_BadTicket C_OtherTally C_Piece C_Tally C_TallyError fI_BadTicket) {a_Piece____eq__ : Addr} {d_Piece____eq__ : FuncData} (E_Piece : EqC K "Piece" C_Piece a_Piece____eq__) (F_Piece____eq__ : Fun K "__eq__" "Piece.__eq__" (inClass (top 18) 2) a_Piece____eq__ d_Piece____eq__) (G_Piece____eq__ : FnG P w K mg base CX0 2 a_Piece____eq__ d_Piece____eq__ ["self", "other"] (spP K 2 f_Piece____eq__)) {a_Piece____init__ : Addr} {d_Piece____init__ : FuncData} (MK_Piece : Mk K C_Piece a_Piece____init__) (F_Piece____init__ : Fun K "__init__" "Piece.__init__" (inClass (top 18) 0) a_Piece____init__ d_Piece____init__) (G_Piece____init__ : FnG P w K mg base CX0 5 a_Piece____init__ d_Piece____init__ ["self", "tally", "ticket"] (spI K "Piece" 3 f_Piece____init__)) {a_Piece____len__ : Addr} {d_Piece____len__ : FuncData} (LN_Piece : LenC K "Piece" C_Piece a_Piece____len__) (F_Piece____len__ : Fun K "__len__" "Piece.__len__" (inClass (top 18) 1) a_Piece____len__ d_Piece____len__) (G_Piece____len__ : FnG P w K mg base CX0 1 a_Piece____len__ d_Piece____len__ ["self"] (spP K 1 f_Piece____len__)) {a_Piece__led : Addr} {d_Piece__led : FuncData} (M_Piece__led : Meth K C_Piece "led" a_Piece__led) (F_Piece__led : Fun K "led" "Piece.led" (inClass (top 18) 4) a_Piece__led d_Piece__led) (G_Piece__led : FnG P w K mg base CX0 2 a_Piece__led d_Piece__led ["self", "row"] (spP K 2 f_Piece__led)) {a_Piece__worth_now : Addr} {d_Piece__worth_now : FuncData} {p_Piece__worth_now : Addr} (PR_Piece__worth_now : PropOf K C_Piece "worth_now" p_Piece__worth_now a_Piece__worth_now) (F_Piece__worth_now : Fun K "worth_now" "Piece.worth_now" (inClass (top 18) 5) a_Piece__worth_now d_Piece__worth_now) (G_Piece__worth_now : FnG P w K mg base CX0 2 a_Piece__worth_now d_Piece__worth_now ["self"] (spP K 1 f_Piece__worth_now)) {a_Tally____eq__ : Addr} {d_Tally____eq__ : FuncData} (E_Tally : EqC K "Tally" C_Tally a_Tally____eq__) (F_Tally____eq__ : Fun K "__eq__" "Tally.__eq__" (inClass (top 41) 2) a_Tally____eq__ d_Tally____eq__) (G_Tally____eq__ : FnG P w K mg base CX0 1 a_Tally____eq__ d_Tally____eq__ ["self", "other"] (spP K 2 f_Tally____eq__)) {a__law_dot : Addr} {d__law_dot : FuncData} (A__law_dot : At K mg "_law_dot" a__law_dot) (F__law_dot : Fun K "_law_dot" "_law_dot" (top 57) a__law_dot d__law_dot) (G__law_dot : FnG P w K mg base CX0 1 a__law_dot d__law_dot ["_law_near", "_law_far"] (spP K 2 f__law_dot)) {a__law_led : Addr} {d__law_led : FuncData} (A__law_led : At K mg "_law_led" a__law_led) (F__law_led : Fun K "_law_led" "_law_led" (top 56) a__law_led d__law_led) (G__law_led : FnG P w K mg base CX0 1 a__law_led d__law_led ["_law_line_here", "_law_lot"] (spP K 2 f__law_led)) {a__law_lot_of : Addr} {d__law_lot_of : FuncData} (A__law_lot_of : At K mg "_law_lot_of" a__law_lot_of) (F__law_lot_of : Fun K "_law_lot_of" "_law_lot_of" (top 60) a__law_lot_of d__law_lot_of) (G__law_lot_of : FnG P w K mg base CX0 2 a__law_lot_of d__law_lot_of ["_law_w", "_law_page_here"] (spP K 2 f__law_lot_of)) {a__law_pick : Addr} {d__law_pick : FuncData} (A__law_pick : At K mg "_law_pick" a__law_pick) (F__law_pick : Fun K "_law_pick" "_law_pick" (top 52) a__law_pick d__law_pick) (G__law_pick : FnG P w K mg base CX0 2 a__law_pick d__law_pick ["_law_deck_here", "_law_some"] (spD K 2 f__law_pick)) :
    FnG P w K mg base CX0 7 f fd ["_law_deck_here", "_law_w", "_law_code_here", "_law_it", "_law_page_here"] (spD K 5 f__law_is_piece) := by
  have b_Piece____eq___2 := bd_Piece____eq___2 F_Piece____eq__
  have b_Piece____init___1_ticket_tally := bd_Piece____init___1_ticket_tally F_Piece____init__
  have b_Piece____init___3 := bd_Piece____init___3 F_Piece____init__
  have b_Piece____len___1 := bd_Piece____len___1 F_Piece____len__
  have b_Piece__led_1_row := bd_Piece__led_1_row F_Piece__led
  have b_Piece__led_2 := bd_Piece__led_2 F_Piece__led
  have b_Piece__worth_now_1 := bd_Piece__worth_now_1 F_Piece__worth_now
  have b_Tally____eq___2 := bd_Tally____eq___2 F_Tally____eq__
  have b__law_dot_2 := bd__law_dot_2 F__law_dot
  have b__law_led_2 := bd__law_led_2 F__law_led
  have b__law_lot_of_2 := bd__law_lot_of_2 F__law_lot_of
  have b__law_pick := bd__law_pick F__law_pick
  refine fn_deck (k := 6) F s__law_is_piece m__law_is_piece (fun cdv A outer s H E hr hg => ?_)
  have S := s__law_is_piece
  have hU := hr.units
  have hU1 := hu_of hr
  exact (psm_seq (psm_set (i := 5) S.nd rfl (Or.inl rfl) (pem_callP ⟨hr.mono (by decide), hg⟩ G__law_lot_of rfl A__law_lot_of.mg A__law_lot_of.kp b__law_lot_of_2 (fix_cons (fix_cons fix_nil)) (by decide) rfl (pam_cons (pem_var 1 (pv 1)) (pam_cons (pem_var 4 (pv 4)) pam_nil)))) (psm_seq (psm_set (i := 6) S.nd rfl (Or.inl rfl) (pem_lst (pam_cons (pem_fld (fldC_one TC.n_Piece TC.l_Piece TC.na_Piece_ticket) (pem_var 3 (pv 3))) (pam_cons (pem_fld (fldC_one TC.n_Piece TC.l_Piece TC.na_Piece_table_now) (pem_var 3 (pv 3))) (pam_cons (pem_lenO LN_Piece ⟨hr.mono (by decide), hg⟩ G_Piece____len__ b_Piece____len___1 rfl T.g_len (pem_var 3 (pv 3)) (pem_len1 (pem_callB call_lenA rc_len rfl T.g_len (by rfl) (pam_cons (pem_var 3 (pv 3)) pam_nil)))) pam_nil))))) (psm_seq (psm_if (ptm_w (pwm_or (ptm_cmp (op_ownNe E_Tally G_Tally____eq__ b_Tally____eq___2 ⟨hr.mono (by decide), hg⟩) ro_OE (nomark _) (pem_fld (fldC_one TC.n_Piece TC.l_Piece TC.na_Piece_tally) (pem_var 3 (pv 3))) (pem_var 2 (pv 2))) (pwm_or1 (ptm_cmp (op_neP hU) ro_cmp (nomark _) (pem_callB (call_reprP hg hU) rc_repr rfl T.g_repr (by rfl) (pam_cons (pem_var 6 (pv 6)) pam_nil)) (pem_callB (call_reprP hg hU) rc_repr rfl T.g_repr (by rfl) (pam_cons (pem_lst (pam_cons (pem_var 4 (pv 4)) (pam_cons (pem_var 5 (pv 5)) (pam_cons (pem_callB call_lenA rc_len rfl T.g_len (by rfl) (pam_cons (pem_var 4 (pv 4)) pam_nil)) pam_nil)))) pam_nil)))))) (psm_one (psm_ret pem_bl)) psm_nil) (psm_seq (psm_if (ptm_cmp (op_neP hU) ro_cmp (nomark _) (pem_callB (call_reprP hg hU) rc_repr rfl T.g_repr (by rfl) (pam_cons (pem_prop ⟨hr.mono (by decide), hg⟩ (pem_var 3 (pv 3)) TC.n_Piece TC.l_Piece PR_Piece__worth_now G_Piece__worth_now b_Piece__worth_now_1) pam_nil)) (pem_callB (call_reprP hg hU) rc_repr rfl T.g_repr (by rfl) (pam_cons (pem_callP ⟨hr.mono (by decide), hg⟩ G__law_dot rfl A__law_dot.mg A__law_dot.kp b__law_dot_2 (fix_cons (fix_cons fix_nil)) (by decide) rfl (pam_cons (pem_callP ⟨hr.mono (by decide), hg⟩ G__law_led rfl A__law_led.mg A__law_led.kp b__law_led_2 (fix_cons (fix_cons fix_nil)) (by decide) rfl (pam_cons (pem_itemA hU1 (pem_var 1 (pv 1)) pem_str (fun _ _ => rfl)) (pam_cons (pem_var 5 (pv 5)) pam_nil))) (pam_cons (pem_itemA hU1 (pem_var 1 (pv 1)) pem_str (fun _ _ => rfl)) pam_nil))) pam_nil))) (psm_one (psm_ret pem_bl)) psm_nil) (psm_seq (psm_set (i := 7) S.nd rfl (Or.inl rfl) (pem_callTy (call_tupleA rfl) rc_tuple rfl T.g_tuple (by rfl) (pam_cons (pem_lc (own := [("_law_k", 8)]) rfl S.nd (pim_range1 rfl T.g_range (pam_cons (pem_callB call_lenA rc_len rfl T.g_len (by rfl) (pam_cons (pem_itemA hU1 (pem_var 1 (pv 1)) pem_str (fun _ _ => rfl)) pam_nil)) pam_nil) (fun _ _ _ h => fix_cons fix_nil _ _ _ h)) (by show blkC ["_law_deck_here", "_law_w", "_law_code_here", "_law_it", "_law_page_here", "_law_lot", "_law_told", "_law_line_here", "_law_k"] (defScope (top 62)) _ _ = true; decide +kernel) (fun _ _ _ _ _ => (pg_name (i := 8) S.nd rfl (Or.inl rfl))) (gm_name 8) (by decide) (fun _ _ _ _ _ => ptms_nil) (fun _ _ _ _ _ => (pem_callD (i := 0) ⟨hr.mono (by decide), hg⟩ G__law_pick rfl A__law_pick.mg A__law_pick.kp b__law_pick (fix_cons fix_nil) rfl (pv 0) (pam_cons (pem_lst (pam_cons pem_int (pam_cons pem_int (pam_cons (pem_un un_neg ru_neg pem_int) (pam_cons pem_int (pam_cons pem_int (pam_cons (pem_un un_neg ru_neg pem_int) pam_nil))))))) pam_nil)))) pam_nil))) (psm_seq (psm_if (ptm_cmp (op_neP hU) ro_cmp (nomark _) (pem_callB (call_reprP hg hU) rc_repr rfl T.g_repr (by rfl) (pam_cons (pem_lst (pam_cons (pem_meth ⟨hr.mono (by decide), hg⟩ (pem_var 3 (pv 3)) TC.n_Piece TC.l_Piece M_Piece__led G_Piece__led b_Piece__led_2 (fix_cons fix_nil) (by decide) rfl (pam_cons (pem_var 7 (pv 7)) pam_nil)) (pam_cons (pem_methK0 ⟨hr.mono (by decide), hg⟩ (pem_var 3 (pv 3)) TC.n_Piece TC.l_Piece M_Piece__led G_Piece__led b_Piece__led_1_row (fix_cons fix_nil) (by decide) rfl (pkm_cons (pem_var 7 (pv 7)) pkm_nil)) pam_nil))) pam_nil)) (pem_callB (call_reprP hg hU) rc_repr rfl T.g_repr (by rfl) (pam_cons (pem_op op_mulA ro_mulA (pem_lst (pam_cons (pem_callP ⟨hr.mono (by decide), hg⟩ G__law_led rfl A__law_led.mg A__law_led.kp b__law_led_2 (fix_cons (fix_cons fix_nil)) (by decide) rfl (pam_cons (pem_var 7 (pv 7)) (pam_cons (pem_var 5 (pv 5)) pam_nil))) pam_nil)) pem_int) pam_nil))) (psm_one (psm_ret pem_bl)) psm_nil) (psm_one (psm_ret (pem_cmp (op_ownEq E_Piece G_Piece____eq__ b_Piece____eq___2 ⟨hr.mono (by decide), hg⟩) ro_OE (nomark _) (pem_var 3 (pv 3)) (pem_makeK0 ⟨hr.mono (by decide), hg⟩ TC.n_Piece MK_Piece G_Piece____init__ rfl TC.g_Piece b_Piece____init___1_ticket_tally (fix_cons (fix_cons fix_nil)) (by decide) rfl (pkm_cons (pem_var 4 (pv 4)) (pkm_cons (pem_var 2 (pv 2)) pkm_nil))))))))))))
/-! _law_odd -/
noncomputable def m__law_odd : MS := (mSeq (mAsg (mApp dLst (mCons (mC .non) (mCons (mC (.int 0)) (mCons (mC (.int 7)) (mCons (mC (.bl true)) (mCons (mApp dTup mNil) (mCons (mApp dLst mNil) (mCons (mApp dTup (mCons (mC (.str "0")) mNil)) (mCons (mApp dLst (mCons (mC (.str "0")) mNil)) (mCons (mC (.str "a")) (mCons (mC (.str " ")) (mCons (mC (.str "0 ")) (mCons (mC (.str "-0")) (mCons (mC (.str "0\n")) (mCons (mC (.str "x1")) (mCons (mBin dAdd (mBin dItemA (mVar 1) (mC (.int 0))) (mC (.str "?"))) (mCons (mApp dTup (mCons (mC (.str "")) mNil)) (mCons mDict0 mNil)))))))))))))))))) (gmName 2)) (mSeq (mAsg (mBin dAdd (mVar 2) (mLc (mItems (mC (.str "0123456789"))) (gmName 3) (mTest (mBin dNotIn (mVar 3) (mVar 1))) (mBin dAdd (mBin dItemA (mVar 1) (mC (.int 0))) (mVar 3)) [3])) (gmName 2)) (mRet (mCallD 0 f__law_pick (mCons (mVar 2) mNil)))))
theorem s__law_odd : FnScope ["_law_deck_here", "_law_signs", "_law_some", "_law_sign"] ["_law_deck_here", "_law_signs"] (defScope (top 59)) := ⟨rfl, rfl, rfl, by decide +kernel, rfl, by decide +kernel, by decide +kernel⟩
noncomputable def f__law_odd : Dk → List D → Option (D × Dk) := runD 4 m__law_odd
theorem bd__law_odd {f : Addr} {fd : FuncData} (F : Fun K "_law_odd" "_law_odd" (top 59) f fd) : Bd fd ["_law_deck_here", "_law_signs"] 2 [] (List.range 2) := by
  obtain ⟨oc, od, kV, doc, pm, an, cdv, ct, osl, rfl, lk, hcd⟩ := F.ex
  exact ⟨fun s us ws h1 h2 => match us, ws, h1, h2 with | [v0, v1], [], _, _ => .of_eq rfl⟩
theorem ok__law_odd {f : Addr} {fd : FuncData} (F : Fun K "_law_odd" "_law_odd" (top 59) f fd) (T : Txt mg) (TC : TCs K mg C_BadTicket C_OtherTally C_Piece C_Tally C_TallyError fI_BadTicket) {a__law_pick : Addr} {d__law_pick : FuncData} (A__law_pick : At K mg "_law_pick" a__law_pick) (F__law_pick : Fun K "_law_pick" "_law_pick" (top 52) a__law_pick d__law_pick) (G__law_pick : FnG P w K mg base CX0 2 a__law_pick d__law_pick ["_law_deck_here", "_law_some"] (spD K 2 f__law_pick)) :
    FnG P w K mg base CX0 3 f fd ["_law_deck_here", "_law_signs"] (spD K 2 f__law_odd) := by
  have b__law_pick := bd__law_pick F__law_pick
  refine fn_deck (k := 2) F s__law_odd m__law_odd (fun cdv A outer s H E hr hg => ?_)
  have S := s__law_odd
  have hU := hr.units
  have hU1 := hu_of hr
  exact (psm_seq (psm_set (i := 2) S.nd rfl (Or.inl rfl) (pem_lst (pam_cons pem_non (pam_cons pem_int (pam_cons pem_int (pam_cons pem_bl (pam_cons (pem_tup pam_nil) (pam_cons (pem_lst pam_nil) (pam_cons (pem_tup (pam_cons pem_str pam_nil)) (pam_cons (pem_lst (pam_cons pem_str pam_nil)) (pam_cons pem_str (pam_cons pem_str (pam_cons pem_str (pam_cons pem_str (pam_cons pem_str (pam_cons pem_str (pam_cons (pem_op op_addA ro_add (pem_itemA hU1 (pem_var 1 (pv 1)) pem_int (fun _ _ => rfl)) pem_str) (pam_cons (pem_tup (pam_cons pem_str pam_nil)) (pam_cons pem_dict0 pam_nil))))))))))))))))))) (psm_seq (psm_set (i := 2) S.nd rfl (Or.inl rfl) (pem_op op_addA ro_add (pem_var 2 (pv 2)) (pem_lc (own := [("_law_sign", 3)]) rfl S.nd (pim_items pem_str) (by show blkC ["_law_deck_here", "_law_signs", "_law_some", "_law_sign"] (defScope (top 59)) _ _ = true; decide +kernel) (fun _ _ _ _ _ => (pg_name (i := 3) S.nd rfl (Or.inl rfl))) (gm_name 3) (by decide) (fun _ _ _ _ _ => (ptms_one (ptm_cmp op_notIn_str ro_notIn (by with_unfolding_all rfl) (pem_var 3 (pv 3)) (pem_var 1 (pv 1))))) (fun _ _ _ _ _ => (pem_op op_addA ro_add (pem_itemA hU1 (pem_var 1 (pv 1)) pem_int (fun _ _ => rfl)) (pem_var 3 (pv 3))))))) (psm_one (psm_ret (pem_callD (i := 0) ⟨hr.mono (by decide), hg⟩ G__law_pick rfl A__law_pick.mg A__law_pick.kp b__law_pick (fix_cons fix_nil) rfl (pv 0) (pam_cons (pem_var 2 (pv 2)) pam_nil))))))
/-! _law_page -/
noncomputable def m__law_page : MS := (mRet (mBin dJoin (mC (.str "")) (mLc (mRange (mCons (mCallD 0 f__law_draw (mCons (mBin dAdd (mVar 2) (mC (.int 1))) mNil)) mNil)) (gmName 3) mYes (mCallD 0 f__law_pick (mCons (mVar 1) mNil)) [3])))
theorem s__law_page : FnScope ["_law_deck_here", "_law_signs", "_law_most", "_law_k"] ["_law_deck_here", "_law_signs", "_law_most"] (defScope (top 58)) := ⟨rfl, rfl, rfl, by decide +kernel, rfl, by decide +kernel, by decide +kernel⟩
noncomputable def f__law_page : Dk → List D → Option (D × Dk) := runD 4 m__law_page
theorem bd__law_page {f : Addr} {fd : FuncData} (F : Fun K "_law_page" "_law_page" (top 58) f fd) : Bd fd ["_law_deck_here", "_law_signs", "_law_most"] 3 [] (List.range 3) := by
  obtain ⟨oc, od, kV, doc, pm, an, cdv, ct, osl, rfl, lk, hcd⟩ := F.ex
  exact ⟨fun s us ws h1 h2 => match us, ws, h1, h2 with | [v0, v1, v2], [], _, _ => .of_eq rfl⟩
theorem ok__law_page {f : Addr} {fd : FuncData} (F : Fun K "_law_page" "_law_page" (top 58) f fd) (T : Txt mg) (TC : TCs K mg C_BadTicket C_OtherTally C_Piece C_Tally C_TallyError fI_BadTicket) {a__law_draw : Addr} {d__law_draw : FuncData} (A__law_draw : At K mg "_law_draw" a__law_draw) (F__law_draw : Fun K "_law_draw" "_law_draw" (top 51) a__law_draw d__law_draw) (G__law_draw : FnG P w K mg base CX0 1 a__law_draw d__law_draw ["_law_deck_here", "_law_many"] (spD K 2 f__law_draw)) {a__law_pick : Addr} {d__law_pick : FuncData} (A__law_pick : At K mg "_law_pick" a__law_pick) (F__law_pick : Fun K "_law_pick" "_law_pick" (top 52) a__law_pick d__law_pick) (G__law_pick : FnG P w K mg base CX0 2 a__law_pick d__law_pick ["_law_deck_here", "_law_some"] (spD K 2 f__law_pick)) :
    FnG P w K mg base CX0 3 f fd ["_law_deck_here", "_law_signs", "_law_most"] (spD K 3 f__law_page) := by
  have b__law_draw := bd__law_draw F__law_draw
  have b__law_pick := bd__law_pick F__law_pick
  refine fn_deck (k := 2) F s__law_page m__law_page (fun cdv A outer s H E hr hg => ?_)
  have S := s__law_page
  have hU := hr.units
  have hU1 := hu_of hr
  exact (psm_one (psm_ret (pem_join pem_str (pem_lc (own := [("_law_k", 3)]) rfl S.nd (pim_range1 rfl T.g_range (pam_cons (pem_callD (i := 0) ⟨hr.mono (by decide), hg⟩ G__law_draw rfl A__law_draw.mg A__law_draw.kp b__law_draw (fix_cons fix_nil) rfl (pv 0) (pam_cons (pem_op op_addA ro_add (pem_var 2 (pv 2)) pem_int) pam_nil)) pam_nil) (fun _ _ _ h => fix_cons fix_nil _ _ _ h)) (by show blkC ["_law_deck_here", "_law_signs", "_law_most", "_law_k"] (defScope (top 58)) _ _ = true; decide +kernel) (fun _ _ _ _ _ => (pg_name (i := 3) S.nd rfl (Or.inl rfl))) (gm_name 3) (by decide) (fun _ _ _ _ _ => ptms_nil) (fun _ _ _ _ _ => (pem_callD (i := 0) ⟨hr.mono (by decide), hg⟩ G__law_pick rfl A__law_pick.mg A__law_pick.kp b__law_pick (fix_cons fix_nil) rfl (pv 0) (pam_cons (pem_var 1 (pv 1)) pam_nil)))))))
/-! _law_refused -/
noncomputable def m__law_refused : MS := (mSeq (mAsg (mC .non) (gmName 2)) (mSeq (mTry 3 "BadTicket" (mAsg (mMake "Piece" f_Piece____init__ [0, 1] (mCons (mVar 0) (mCons (mVar 1) mNil)) mNil) (gmName 2)) (xCallP x_Piece____init__ [0, 1] (mCons (mVar 0) (mCons (mVar 1) mNil)) mNil) (fun a0 d0 => (mAsg (mApp dLst (mCons (mBin dEq (mApp dRepr (mCons (mUn (dXf a0 d0 "BadTicket" "ticket") (mVar 3)) mNil)) (mApp dRepr (mCons (mVar 1) mNil))) (mCons (mUn (dXis a0 d0 "BadTicket" true) (mVar 3)) mNil))) (gmName 2)))) (mRet (mVar 2))))
theorem s__law_refused : FnScope ["_law_code_here", "_law_it", "_law_found", "e"] ["_law_code_here", "_law_it"] (defScope (top 63)) := ⟨rfl, rfl, rfl, by decide +kernel, rfl, by decide +kernel, by decide +kernel⟩
noncomputable def f__law_refused : List D → Option D := runP 4 m__law_refused
theorem bd__law_refused_2 {f : Addr} {fd : FuncData} (F : Fun K "_law_refused" "_law_refused" (top 63) f fd) : Bd fd ["_law_code_here", "_law_it"] 2 [] ([0, 1]) := by
  obtain ⟨oc, od, kV, doc, pm, an, cdv, ct, osl, rfl, lk, hcd⟩ := F.ex
  exact ⟨fun s us ws h1 h2 => match us, ws, h1, h2 with | [v0, v1], [], _, _ => .of_eq rfl⟩
theorem ok__law_refused {f : Addr} {fd : FuncData} (F : Fun K "_law_refused" "_law_refused" (top 63) f fd) (T : Txt mg) (TC : TCs K mg C_BadTicket C_OtherTally C_Piece C_Tally C_TallyError fI_BadTicket) {a_Piece____init__ : Addr} {d_Piece____init__ : FuncData} (MK_Piece : Mk K C_Piece a_Piece____init__) (F_Piece____init__ : Fun K "__init__" "Piece.__init__" (inClass (top 18) 0) a_Piece____init__ d_Piece____init__) (G_Piece____init__ : FnG P w K mg base CX0 5 a_Piece____init__ d_Piece____init__ ["self", "tally", "ticket"] (spI K "Piece" 3 f_Piece____init__)) (GX_Piece____init__ : FnG P w K mg base (CX P w) 5 a_Piece____init__ d_Piece____init__ ["self", "tally", "ticket"] (spXI K "Piece" 3 x_Piece____init__)) :
    FnG P w K mg base CX0 7 f fd ["_law_code_here", "_law_it"] (spP K 2 f__law_refused) := by
  have b_Piece____init___1_ticket_tally := bd_Piece____init___1_ticket_tally F_Piece____init__
  have b_Piece____init___3 := bd_Piece____init___3 F_Piece____init__
  refine fn_pure (k := 6) F s__law_refused m__law_refused (fun cdv A outer s H E hr hg => ?_)
  have S := s__law_refused
  have hU := hr.units
  have hU1 := hu_of hr
  exact (psm_seq (psm_set (i := 2) S.nd rfl (Or.inl rfl) pem_non) (psm_seq (psm_try (i := 3) rfl rfl S.nd rfl rfl ⟨rfl, by decide, .inl TC.g_BadTicket⟩ (exm_of TC.n_BadTicket TC.xm_BadTicket) (fun pn xe => (psm_one (psm_set (i := 2) S.nd rfl (Or.inl rfl) (pem_make ⟨hr.mono (by decide), hg⟩ TC.n_Piece MK_Piece G_Piece____init__ rfl TC.g_Piece b_Piece____init___3 (fix_cons (fix_cons fix_nil)) (by decide) rfl (pam_cons (pem_var 0 (pv 0)) (pam_cons (pem_var 1 (pv 1)) pam_nil)))))) (fun W pn xe tk => (pssx_head0 (psx_set (i := 2) S.nd rfl (Or.inl rfl) (pex_make ⟨hr.mono (by decide), hg⟩ tk TC.n_Piece MK_Piece GX_Piece____init__ rfl TC.g_Piece b_Piece____init___3 (fix_cons (fix_cons fix_nil)) (by decide) rfl (pam_cons (pem_var 0 (pv 0)) (pam_cons (pem_var 1 (pv 1)) pam_nil)))))) (fun a0 oe C0 d0 pn hn hz hf => (psm_one (psm_set (i := 2) S.nd rfl (Or.inl rfl) (pem_lst (pam_cons (pem_cmp (op_eqP hU) ro_cmp (nomark _) (pem_callB (call_reprP hg hU) rc_repr rfl T.g_repr (by rfl) (pam_cons (pem_xf (TC.k_BadTicket.of hn) (TC.x_BadTicket.no_of hn) hz hf (pem_var 3 (pv 3))) pam_nil)) (pem_callB (call_reprP hg hU) rc_repr rfl T.g_repr (by rfl) (pam_cons (pem_var 1 (pv 1)) pam_nil))) (pam_cons (pem_xis (TC.k_BadTicket.of hn) (ki_of TC.k_BadTicket TC.ki_BadTicket_TallyError hn) hz hf rfl T.g_isinstance rfl TC.g_TallyError (pem_var 3 (pv 3))) pam_nil))))))) (psm_one (psm_ret (pem_var 2 (pv 2))))))
/-! _law_unlike -/
noncomputable def m__law_unlike : MS := (mSeq (mAsg (mC .non) (gmName 2)) (mSeq (mTry 3 "OtherTally" (mAsg (mMeth "Piece" "joined" f_Piece__joined [0, 1] (mVar 0) (mCons (mVar 1) mNil) mNil) (gmName 2)) (xMeth "Piece" "joined" x_Piece__joined [0, 1] (mVar 0) (mCons (mVar 1) mNil) mNil) (fun a0 d0 => (mAsg (mUn (dXis a0 d0 "OtherTally" true) (mVar 3)) (gmName 2)))) (mRet (mVar 2))))
theorem s__law_unlike : FnScope ["_law_near", "_law_far", "_law_found", "e"] ["_law_near", "_law_far"] (defScope (top 65)) := ⟨rfl, rfl, rfl, by decide +kernel, rfl, by decide +kernel, by decide +kernel⟩
noncomputable def f__law_unlike : List D → Option D := runP 4 m__law_unlike
theorem bd__law_unlike_2 {f : Addr} {fd : FuncData} (F : Fun K "_law_unlike" "_law_unlike" (top 65) f fd) : Bd fd ["_law_near", "_law_far"] 2 [] ([0, 1]) := by
  obtain ⟨oc, od, kV, doc, pm, an, cdv, ct, osl, rfl, lk, hcd⟩ := F.ex
  exact ⟨fun s us ws h1 h2 => match us, ws, h1, h2 with | [v0, v1], [], _, _ => .of_eq rfl⟩
theorem ok__law_unlike {f : Addr} {fd : FuncData} (F : Fun K "_law_unlike" "_law_unlike" (top 65) f fd) (T : Txt mg) (TC : TCs K mg C_BadTicket C_OtherTally C_Piece C_Tally C_TallyError fI_BadTicket) {a_Piece__joined : Addr} {d_Piece__joined : FuncData} (M_Piece__joined : Meth K C_Piece "joined" a_Piece__joined) (F_Piece__joined : Fun K "joined" "Piece.joined" (inClass (top 18) 3) a_Piece__joined d_Piece__joined) (G_Piece__joined : FnG P w K mg base CX0 7 a_Piece__joined d_Piece__joined ["self", "other"] (spP K 2 f_Piece__joined)) (GX_Piece__joined : FnG P w K mg base (CX P w) 7 a_Piece__joined d_Piece__joined ["self", "other"] (spX K 2 x_Piece__joined)) :
    FnG P w K mg base CX0 8 f fd ["_law_near", "_law_far"] (spP K 2 f__law_unlike) := by
  have b_Piece__joined_1_other := bd_Piece__joined_1_other F_Piece__joined
  have b_Piece__joined_2 := bd_Piece__joined_2 F_Piece__joined
  refine fn_pure (k := 7) F s__law_unlike m__law_unlike (fun cdv A outer s H E hr hg => ?_)
  have S := s__law_unlike
  have hU := hr.units
  have hU1 := hu_of hr
  exact (psm_seq (psm_set (i := 2) S.nd rfl (Or.inl rfl) pem_non) (psm_seq (psm_try (i := 3) rfl rfl S.nd rfl rfl ⟨rfl, by decide, .inl TC.g_OtherTally⟩ (exm_of TC.n_OtherTally TC.xm_OtherTally) (fun pn xe => (psm_one (psm_set (i := 2) S.nd rfl (Or.inl rfl) (pem_meth ⟨hr.mono (by decide), hg⟩ (pem_var 0 (pv 0)) TC.n_Piece TC.l_Piece M_Piece__joined G_Piece__joined b_Piece__joined_2 (fix_cons fix_nil) (by decide) rfl (pam_cons (pem_var 1 (pv 1)) pam_nil))))) (fun W pn xe tk => (pssx_head0 (psx_set (i := 2) S.nd rfl (Or.inl rfl) (pex_meth ⟨hr.mono (by decide), hg⟩ tk (pem_var 0 (pv 0)) TC.n_Piece TC.l_Piece M_Piece__joined GX_Piece__joined b_Piece__joined_2 (fix_cons fix_nil) (by decide) rfl (pam_cons (pem_var 1 (pv 1)) pam_nil))))) (fun a0 oe C0 d0 pn hn hz hf => (psm_one (psm_set (i := 2) S.nd rfl (Or.inl rfl) (pem_xis (TC.k_OtherTally.of hn) (ki_of TC.k_OtherTally TC.ki_OtherTally_TallyError hn) hz hf rfl T.g_isinstance rfl TC.g_TallyError (pem_var 3 (pv 3))))))) (psm_one (psm_ret (pem_var 2 (pv 2))))))
/-! _law_wider -/
noncomputable def m__law_wider : MS := (mRet (mBin dAdd (mApp dTuple (mCons (mLc (mItems (mVar 0)) (gmName 1) mYes (mBin dAdd (mVar 1) (mApp dTup (mCons (mC (.int 0)) mNil))) [1]) mNil)) (mApp dTup (mCons (mBin dAdd (mBin dMulB (mApp dTup (mCons (mC (.int 0)) mNil)) (mApp dLen (mCons (mVar 0) mNil))) (mApp dTup (mCons (mC (.int 1)) mNil))) mNil))))
theorem s__law_wider : FnScope ["_law_lot", "_law_line_here"] ["_law_lot"] (defScope (top 64)) := ⟨rfl, rfl, rfl, by decide +kernel, rfl, by decide +kernel, by decide +kernel⟩
noncomputable def f__law_wider : List D → Option D := runP 2 m__law_wider
theorem bd__law_wider_1 {f : Addr} {fd : FuncData} (F : Fun K "_law_wider" "_law_wider" (top 64) f fd) : Bd fd ["_law_lot"] 1 [] ([0]) := by
  obtain ⟨oc, od, kV, doc, pm, an, cdv, ct, osl, rfl, lk, hcd⟩ := F.ex
  exact ⟨fun s us ws h1 h2 => match us, ws, h1, h2 with | [v0], [], _, _ => .of_eq rfl⟩
theorem ok__law_wider {f : Addr} {fd : FuncData} (F : Fun K "_law_wider" "_law_wider" (top 64) f fd) (T : Txt mg) (TC : TCs K mg C_BadTicket C_OtherTally C_Piece C_Tally C_TallyError fI_BadTicket) :
    FnG P w K mg base CX0 1 f fd ["_law_lot"] (spP K 1 f__law_wider) := by
  refine fn_pure (k := 0) F s__law_wider m__law_wider (fun cdv A outer s H E hr hg => ?_)
  have S := s__law_wider
  have hU := hr.units
  have hU1 := hu_of hr
  exact (psm_one (psm_ret (pem_op op_addA ro_add (pem_callTy (call_tupleA rfl) rc_tuple rfl T.g_tuple (by rfl) (pam_cons (pem_lc (own := [("_law_line_here", 1)]) rfl S.nd (pim_items (pem_var 0 (pv 0))) (by show blkC ["_law_lot", "_law_line_here"] (defScope (top 64)) _ _ = true; decide +kernel) (fun _ _ _ _ _ => (pg_name (i := 1) S.nd rfl (Or.inl rfl))) (gm_name 1) (by decide) (fun _ _ _ _ _ => ptms_nil) (fun _ _ _ _ _ => (pem_op op_addA ro_add (pem_var 1 (pv 1)) (pem_tup (pam_cons pem_int pam_nil))))) pam_nil)) (pem_tup (pam_cons (pem_op op_addA ro_add (pem_op op_mulB ro_mulB (pem_tup (pam_cons pem_int pam_nil)) (pem_callB call_lenA rc_len rfl T.g_len (by rfl) (pam_cons (pem_var 0 (pv 0)) pam_nil))) (pem_tup (pam_cons pem_int pam_nil))) pam_nil)))))
/-! _law_line -/
noncomputable def m__law_line : MS := (mRet (mApp dTuple (mCons (mLc (mRange (mCons (mVar 1) mNil)) (gmName 3) mYes (mCallD 0 f__law_pick (mCons (mVar 2) mNil)) [3]) mNil)))
theorem s__law_line : FnScope ["_law_deck_here", "_law_size", "_law_some", "_law_k"] ["_law_deck_here", "_law_size", "_law_some"] (defScope (top 53)) := ⟨rfl, rfl, rfl, by decide +kernel, rfl, by decide +kernel, by decide +kernel⟩
noncomputable def f__law_line : Dk → List D → Option (D × Dk) := runD 4 m__law_line
theorem bd__law_line {f : Addr} {fd : FuncData} (F : Fun K "_law_line" "_law_line" (top 53) f fd) : Bd fd ["_law_deck_here", "_law_size", "_law_some"] 3 [] (List.range 3) := by
  obtain ⟨oc, od, kV, doc, pm, an, cdv, ct, osl, rfl, lk, hcd⟩ := F.ex
  exact ⟨fun s us ws h1 h2 => match us, ws, h1, h2 with | [v0, v1, v2], [], _, _ => .of_eq rfl⟩
theorem ok__law_line {f : Addr} {fd : FuncData} (F : Fun K "_law_line" "_law_line" (top 53) f fd) (T : Txt mg) (TC : TCs K mg C_BadTicket C_OtherTally C_Piece C_Tally C_TallyError fI_BadTicket) {a__law_pick : Addr} {d__law_pick : FuncData} (A__law_pick : At K mg "_law_pick" a__law_pick) (F__law_pick : Fun K "_law_pick" "_law_pick" (top 52) a__law_pick d__law_pick) (G__law_pick : FnG P w K mg base CX0 2 a__law_pick d__law_pick ["_law_deck_here", "_law_some"] (spD K 2 f__law_pick)) :
    FnG P w K mg base CX0 3 f fd ["_law_deck_here", "_law_size", "_law_some"] (spD K 3 f__law_line) := by
  have b__law_pick := bd__law_pick F__law_pick
  refine fn_deck (k := 2) F s__law_line m__law_line (fun cdv A outer s H E hr hg => ?_)
  have S := s__law_line
  have hU := hr.units
  have hU1 := hu_of hr
  exact (psm_one (psm_ret (pem_callTy (call_tupleA rfl) rc_tuple rfl T.g_tuple (by rfl) (pam_cons (pem_lc (own := [("_law_k", 3)]) rfl S.nd (pim_range1 rfl T.g_range (pam_cons (pem_var 1 (pv 1)) pam_nil) (fun _ _ _ h => fix_cons fix_nil _ _ _ h)) (by show blkC ["_law_deck_here", "_law_size", "_law_some", "_law_k"] (defScope (top 53)) _ _ = true; decide +kernel) (fun _ _ _ _ _ => (pg_name (i := 3) S.nd rfl (Or.inl rfl))) (gm_name 3) (by decide) (fun _ _ _ _ _ => ptms_nil) (fun _ _ _ _ _ => (pem_callD (i := 0) ⟨hr.mono (by decide), hg⟩ G__law_pick rfl A__law_pick.mg A__law_pick.kp b__law_pick (fix_cons fix_nil) rfl (pv 0) (pam_cons (pem_var 2 (pv 2)) pam_nil)))) pam_nil))))
/-! _law_world -/
noncomputable def m__law_world : MS := (mSeq (mAsg (mApp dTup (mCons (mCallD 0 f__law_pick (mCons (mApp dLst (mCons (mC (.str "01")) (mCons (mC (.str "01")) (mCons (mC (.str "0")) (mCons (mC (.str "012")) (mCons (mC (.str "38")) mNil)))))) mNil)) (mCons (mCallD 0 f__law_draw (mCons (mC (.int 8)) mNil)) mNil))) (gmTup (gmCons (gmName 2) (gmCons (gmName 3) gmNil)) 2)) (mSeq (mOwnD 4 (mNDsp [((mC (.str "signs")), (mVar 2)), ((mC (.str "begin")), (mApp dTup (mCons (mC (.int 1)) (mCons (mC (.int 0)) mNil)))), ((mC (.str "last")), (mApp dTup (mCons (mC (.int 0)) (mCons (mC (.int 1)) mNil))))])) (mSeq (mIfS (mTest (mBin dLt (mVar 3) (mC (.int 2)))) (mSeq (mDPut 4 (mC (.str "lots")) (mApp dTuple (mCons (mLc (mRange (mCons (mApp dLen (mCons (mVar 2) mNil)) mNil)) (gmName 12) mYes (mApp dTup (mCons (mApp dTup (mCons (mC (.int 1)) (mCons (mVar 12) mNil))) (mCons (mApp dTup (mCons (mC (.int 0)) (mCons (mBin dAdd (mC (.int 1)) (mVar 3)) mNil))) mNil))) [12]) mNil))) (mSeq (mFrzD 4) (mRet (mVar 4)))) mSkip) (mSeq (mIfS (mTest (mBin dEq (mVar 3) (mC (.int 2)))) (mSeq (mAsg (mIfE (mTest (mBin dGt (mApp dLen (mCons (mVar 2) mNil)) (mC (.int 1)))) (mApp dLst (mCons (mApp dTup (mCons (mApp dTup (mCons (mC (.int 1)) (mCons (mC (.int 0)) mNil))) (mCons (mApp dTup (mCons (mC (.int 0)) (mCons (mC (.int 1)) mNil))) mNil))) (mCons (mApp dTup (mCons (mApp dTup (mCons (mC (.int 0)) (mCons (mC (.int 1)) mNil))) (mCons (mApp dTup (mCons (mC (.int 1)) (mCons (mC (.int 0)) mNil))) mNil))) mNil))) (mApp dLst (mCons (mApp dTup (mCons (mApp dTup (mCons (mC (.int 0)) (mCons (mC (.int 1)) mNil))) (mCons (mApp dTup (mCons (mC (.int 1)) (mCons (mC (.int 0)) mNil))) mNil))) mNil))) (gmName 11)) (mSeq (mDPut 4 (mC (.str "lots")) (mApp dTuple (mCons (mLc (mRange (mCons (mApp dLen (mCons (mVar 2) mNil)) mNil)) (gmName 12) mYes (mBin dItemA (mVar 11) (mBin dMod (mVar 12) (mApp dLen (mCons (mVar 11) mNil)))) [12]) mNil))) (mSeq (mFrzD 4) (mRet (mVar 4))))) mSkip) (mSeq (mParDO 5 6 (mApp dMin2 (mCons (mVar 1) (mCons (mCallD 0 f__law_draw (mCons (mBin dAdd (mBin dMulA (mC (.int 2)) (mVar 1)) (mC (.int 1))) mNil)) mNil))) (mNLst mNil)) (mSeq (mAsg (mCallD 0 f__law_pick (mCons (mApp dLst (mCons (mApp dLst (mCons (mC (.int 0)) (mCons (mC (.int 0)) (mCons (mC (.int 1)) mNil)))) (mCons (mApp dLst (mCons (mC (.int 0)) (mCons (mC (.int 1)) (mCons (mC (.int 1)) (mCons (mC (.int 2)) mNil))))) (mCons (mApp dLst (mCons (mC (.int 0)) (mCons (mC (.int 0)) (mCons (mC (.int 1)) (mCons (mUn dNeg (mC (.int 1))) mNil))))) (mCons (mApp dLst (mCons (mC (.int 0)) (mCons (mC (.int 1)) (mCons (mC (.int 2)) (mCons (mUn dNeg (mC (.int 2))) (mCons (mC (.int 9)) (mCons (mUn dNeg (mC (.int 9))) mNil))))))) mNil))))) mNil)) (gmName 7)) (mSeq (mFor (mItems (mVar 2)) (gmName 8) (mPush 6 (mApp dTuple (mCons (mLc (mRange (mCons (mVar 5) mNil)) (gmName 12) mYes (mCallD 0 f__law_line (mCons (mVar 5) (mCons (mVar 7) mNil))) [12]) mNil)))) (mSeq (mPar 9 10 (mCons (mCallD 0 f__law_line (mCons (mVar 5) (mCons (mVar 7) mNil))) (mCons (mCallD 0 f__law_line (mCons (mVar 5) (mCons (mVar 7) mNil))) mNil))) (mSeq (mIfS (mAndT (mTest (mBin dGt (mVar 5) (mC (.int 0)))) (mTest (mBin dGt (mCallD 0 f__law_draw (mCons (mC (.int 4)) mNil)) (mC (.int 0))))) (mPar 9 10 (mCons (mBin dAdd (mApp dTup (mCons (mC (.int 1)) mNil)) (mSlice (mVar 9) (mPart (mC (.int 1))) mNoPart)) (mCons (mBin dAdd (mSlice (mVar 10) mNoPart (mPart (mUn dNeg (mC (.int 1))))) (mApp dTup (mCons (mC (.int 1)) mNil))) mNil))) mSkip) (mSeq (mFrz 6) (mRet (mDisp [((mC (.str "signs")), (mVar 2)), ((mC (.str "begin")), (mVar 9)), ((mC (.str "lots")), (mApp dTuple (mCons (mVar 6) mNil))), ((mC (.str "last")), (mVar 10))]))))))))))))
theorem s__law_world : FnScope ["_law_deck_here", "_law_top", "_law_signs", "_law_way", "_law_w", "_law_size", "_law_lots", "_law_some", "_law_sign", "_law_begin", "_law_last", "_law_turns", "_law_k"] ["_law_deck_here", "_law_top"] (defScope (top 54)) := ⟨rfl, rfl, rfl, by decide +kernel, rfl, by decide +kernel, by decide +kernel⟩
noncomputable def f__law_world : Dk → List D → Option (D × Dk) := runD 13 m__law_world
theorem bd__law_world {f : Addr} {fd : FuncData} (F : Fun K "_law_world" "_law_world" (top 54) f fd) : Bd fd ["_law_deck_here", "_law_top"] 2 [] (List.range 2) := by
  obtain ⟨oc, od, kV, doc, pm, an, cdv, ct, osl, rfl, lk, hcd⟩ := F.ex
  exact ⟨fun s us ws h1 h2 => match us, ws, h1, h2 with | [v0, v1], [], _, _ => .of_eq rfl⟩
theorem ok__law_world {f : Addr} {fd : FuncData} (F : Fun K "_law_world" "_law_world" (top 54) f fd) (T : Txt mg) (TC : TCs K mg C_BadTicket C_OtherTally C_Piece C_Tally C_TallyError fI_BadTicket) {a__law_draw : Addr} {d__law_draw : FuncData} (A__law_draw : At K mg "_law_draw" a__law_draw) (F__law_draw : Fun K "_law_draw" "_law_draw" (top 51) a__law_draw d__law_draw) (G__law_draw : FnG P w K mg base CX0 1 a__law_draw d__law_draw ["_law_deck_here", "_law_many"] (spD K 2 f__law_draw)) {a__law_line : Addr} {d__law_line : FuncData} (A__law_line : At K mg "_law_line" a__law_line) (F__law_line : Fun K "_law_line" "_law_line" (top 53) a__law_line d__law_line) (G__law_line : FnG P w K mg base CX0 3 a__law_line d__law_line ["_law_deck_here", "_law_size", "_law_some"] (spD K 3 f__law_line)) {a__law_pick : Addr} {d__law_pick : FuncData} (A__law_pick : At K mg "_law_pick" a__law_pick) (F__law_pick : Fun K "_law_pick" "_law_pick" (top 52) a__law_pick d__law_pick) (G__law_pick : FnG P w K mg base CX0 2 a__law_pick d__law_pick ["_law_deck_here", "_law_some"] (spD K 2 f__law_pick)) :
    FnG P w K mg base CX0 4 f fd ["_law_deck_here", "_law_top"] (spD K 2 f__law_world) := by
  have b__law_draw := bd__law_draw F__law_draw
  have b__law_line := bd__law_line F__law_line
  have b__law_pick := bd__law_pick F__law_pick
  refine fn_deck (k := 3) F s__law_world m__law_world (fun cdv A outer s H E hr hg => ?_)
  have S := s__law_world
  have hU := hr.units
  have hU1 := hu_of hr
  exact (psm_seq (psm_asg (pem_tup (pam_cons (pem_callD (i := 0) ⟨hr.mono (by decide), hg⟩ G__law_pick rfl A__law_pick.mg A__law_pick.kp b__law_pick (fix_cons fix_nil) rfl (pv 0) (pam_cons (pem_lst (pam_cons pem_str (pam_cons pem_str (pam_cons pem_str (pam_cons pem_str (pam_cons pem_str pam_nil)))))) pam_nil)) (pam_cons (pem_callD (i := 0) ⟨hr.mono (by decide), hg⟩ G__law_draw rfl A__law_draw.mg A__law_draw.kp b__law_draw (fix_cons fix_nil) rfl (pv 0) (pam_cons pem_int pam_nil)) pam_nil))) (pg_tup rfl (pgs_cons (pg_name (i := 2) S.nd rfl (Or.inl rfl)) (pgs_cons (pg_name (i := 3) S.nd rfl (Or.inr rfl)) pgs_nil))) (gm_tup (gm_cons (gm_name 2) (gm_cons (gm_name 3) gm_nil)))) (psm_seq (psm_ownD (i := 4) S.nd rfl (Or.inl rfl) (pend_disp (ms := [((mC (.str "signs")), (mVar 2)), ((mC (.str "begin")), (mApp dTup (mCons (mC (.int 1)) (mCons (mC (.int 0)) mNil)))), ((mC (.str "last")), (mApp dTup (mCons (mC (.int 0)) (mCons (mC (.int 1)) mNil))))]) (ppm_cons pem_str (pem_var 2 (pv 2)) (ppm_cons pem_str (pem_tup (pam_cons pem_int (pam_cons pem_int pam_nil))) (ppm_cons pem_str (pem_tup (pam_cons pem_int (pam_cons pem_int pam_nil))) ppm_nil))) rfl rfl (by intro z; cases z) (by show 3 ≤ 15; decide))) (psm_seq (psm_if (ptm_cmp (op_ltP hU) ro_cmp (nomark _) (pem_var 3 (pv 3)) pem_int) (psm_seq (psm_dput hU1 (pv 4) pem_str (pem_callTy (call_tupleA rfl) rc_tuple rfl T.g_tuple (by rfl) (pam_cons (pem_lc (own := [("_law_k", 12)]) rfl S.nd (pim_range1 rfl T.g_range (pam_cons (pem_callB call_lenA rc_len rfl T.g_len (by rfl) (pam_cons (pem_var 2 (pv 2)) pam_nil)) pam_nil) (fun _ _ _ h => fix_cons fix_nil _ _ _ h)) (by show blkC ["_law_deck_here", "_law_top", "_law_signs", "_law_way", "_law_w", "_law_size", "_law_lots", "_law_some", "_law_sign", "_law_begin", "_law_last", "_law_turns", "_law_k"] (defScope (top 54)) _ _ = true; decide +kernel) (fun _ _ _ _ _ => (pg_name (i := 12) S.nd rfl (Or.inl rfl))) (gm_name 12) (by decide) (fun _ _ _ _ _ => ptms_nil) (fun _ _ _ _ _ => (pem_tup (pam_cons (pem_tup (pam_cons pem_int (pam_cons (pem_var 12 (pv 12)) pam_nil))) (pam_cons (pem_tup (pam_cons pem_int (pam_cons (pem_op op_addA ro_add pem_int (pem_var 3 (pv 3))) pam_nil))) pam_nil))))) pam_nil))) (psm_one (psm_frzD (i := 4) (psm_ret (pem_var 4 (pv 4)))))) psm_nil) (psm_seq (psm_if (ptm_cmp (op_eqP hU) ro_cmp (nomark _) (pem_var 3 (pv 3)) pem_int) (psm_seq (psm_set (i := 11) S.nd rfl (Or.inr rfl) (pem_if (ptm_cmp (op_gtP hU) ro_cmp (nomark _) (pem_callB call_lenA rc_len rfl T.g_len (by rfl) (pam_cons (pem_var 2 (pv 2)) pam_nil)) pem_int) (pem_lst (pam_cons (pem_tup (pam_cons (pem_tup (pam_cons pem_int (pam_cons pem_int pam_nil))) (pam_cons (pem_tup (pam_cons pem_int (pam_cons pem_int pam_nil))) pam_nil))) (pam_cons (pem_tup (pam_cons (pem_tup (pam_cons pem_int (pam_cons pem_int pam_nil))) (pam_cons (pem_tup (pam_cons pem_int (pam_cons pem_int pam_nil))) pam_nil))) pam_nil))) (pem_lst (pam_cons (pem_tup (pam_cons (pem_tup (pam_cons pem_int (pam_cons pem_int pam_nil))) (pam_cons (pem_tup (pam_cons pem_int (pam_cons pem_int pam_nil))) pam_nil))) pam_nil)))) (psm_seq (psm_dput hU1 (pv 4) pem_str (pem_callTy (call_tupleA rfl) rc_tuple rfl T.g_tuple (by rfl) (pam_cons (pem_lc (own := [("_law_k", 12)]) rfl S.nd (pim_range1 rfl T.g_range (pam_cons (pem_callB call_lenA rc_len rfl T.g_len (by rfl) (pam_cons (pem_var 2 (pv 2)) pam_nil)) pam_nil) (fun _ _ _ h => fix_cons fix_nil _ _ _ h)) (by show blkC ["_law_deck_here", "_law_top", "_law_signs", "_law_way", "_law_w", "_law_size", "_law_lots", "_law_some", "_law_sign", "_law_begin", "_law_last", "_law_turns", "_law_k"] (defScope (top 54)) _ _ = true; decide +kernel) (fun _ _ _ _ _ => (pg_name (i := 12) S.nd rfl (Or.inl rfl))) (gm_name 12) (by decide) (fun _ _ _ _ _ => ptms_nil) (fun _ _ _ _ _ => (pem_itemA hU1 (pem_var 11 (pv 11)) (pem_op op_mod ro_mod (pem_var 12 (pv 12)) (pem_callB call_lenA rc_len rfl T.g_len (by rfl) (pam_cons (pem_var 11 (pv 11)) pam_nil))) (fun _ _ => rfl)))) pam_nil))) (psm_one (psm_frzD (i := 4) (psm_ret (pem_var 4 (pv 4))))))) psm_nil) (psm_seq (psm_parDOC rfl S.nd (i := 5) (j := 6) rfl rfl (Or.inr rfl) (Or.inl rfl) (pem_callB (call_min2 rfl) rc_min2 rfl T.g_min (by rfl) (pam_cons (pem_var 1 (pv 1)) (pam_cons (pem_callD (i := 0) ⟨hr.mono (by decide), hg⟩ G__law_draw rfl A__law_draw.mg A__law_draw.kp b__law_draw (fix_cons fix_nil) rfl (pv 0) (pam_cons (pem_op op_addA ro_add (pem_op op_mulA ro_mulA pem_int (pem_var 1 (pv 1))) pem_int) pam_nil)) pam_nil))) (pen_lst pam_nil) rfl) (psm_seq (psm_set (i := 7) S.nd rfl (Or.inr rfl) (pem_callD (i := 0) ⟨hr.mono (by decide), hg⟩ G__law_pick rfl A__law_pick.mg A__law_pick.kp b__law_pick (fix_cons fix_nil) rfl (pv 0) (pam_cons (pem_lst (pam_cons (pem_lst (pam_cons pem_int (pam_cons pem_int (pam_cons pem_int pam_nil)))) (pam_cons (pem_lst (pam_cons pem_int (pam_cons pem_int (pam_cons pem_int (pam_cons pem_int pam_nil))))) (pam_cons (pem_lst (pam_cons pem_int (pam_cons pem_int (pam_cons pem_int (pam_cons (pem_un un_neg ru_neg pem_int) pam_nil))))) (pam_cons (pem_lst (pam_cons pem_int (pam_cons pem_int (pam_cons pem_int (pam_cons (pem_un un_neg ru_neg pem_int) (pam_cons pem_int (pam_cons (pem_un un_neg ru_neg pem_int) pam_nil))))))) pam_nil))))) pam_nil))) (psm_seq (psm_for PassesOwn.never rfl (pim_items (pem_var 2 (pv 2))) (pg_name (i := 8) S.nd rfl (Or.inl rfl)) (gm_name 8) (psm_one (psm_push (i := 6) (pv 6) (pem_callTy (call_tupleA rfl) rc_tuple rfl T.g_tuple (by rfl) (pam_cons (pem_lc (own := [("_law_k", 12)]) rfl S.nd (pim_range1 rfl T.g_range (pam_cons (pem_var 5 (pv 5)) pam_nil) (fun _ _ _ h => fix_cons fix_nil _ _ _ h)) (by show blkC ["_law_deck_here", "_law_top", "_law_signs", "_law_way", "_law_w", "_law_size", "_law_lots", "_law_some", "_law_sign", "_law_begin", "_law_last", "_law_turns", "_law_k"] (defScope (top 54)) _ _ = true; decide +kernel) (fun _ _ _ _ _ => (pg_name (i := 12) S.nd rfl (Or.inl rfl))) (gm_name 12) (by decide) (fun _ _ _ _ _ => ptms_nil) (fun _ _ _ _ _ => (pem_callD (i := 0) ⟨hr.mono (by decide), hg⟩ G__law_line rfl A__law_line.mg A__law_line.kp b__law_line (fix_cons (fix_cons fix_nil)) rfl (pv 0) (pam_cons (pem_var 5 (pv 5)) (pam_cons (pem_var 7 (pv 7)) pam_nil))))) pam_nil))))) (psm_seq (psm_par rfl S.nd (i := 9) (j := 10) rfl rfl (by decide) rfl rfl (pam_cons (pem_callD (i := 0) ⟨hr.mono (by decide), hg⟩ G__law_line rfl A__law_line.mg A__law_line.kp b__law_line (fix_cons (fix_cons fix_nil)) rfl (pv 0) (pam_cons (pem_var 5 (pv 5)) (pam_cons (pem_var 7 (pv 7)) pam_nil))) (pam_cons (pem_callD (i := 0) ⟨hr.mono (by decide), hg⟩ G__law_line rfl A__law_line.mg A__law_line.kp b__law_line (fix_cons (fix_cons fix_nil)) rfl (pv 0) (pam_cons (pem_var 5 (pv 5)) (pam_cons (pem_var 7 (pv 7)) pam_nil))) pam_nil)) rfl) (psm_seq (psm_if (ptm_w (pwm_and (ptm_cmp (op_gtP hU) ro_cmp (nomark _) (pem_var 5 (pv 5)) pem_int) (pwm_and1 (ptm_cmp (op_gtP hU) ro_cmp (nomark _) (pem_callD (i := 0) ⟨hr.mono (by decide), hg⟩ G__law_draw rfl A__law_draw.mg A__law_draw.kp b__law_draw (fix_cons fix_nil) rfl (pv 0) (pam_cons pem_int pam_nil)) pem_int)))) (psm_one (psm_par rfl S.nd (i := 9) (j := 10) rfl rfl (by decide) rfl rfl (pam_cons (pem_op op_addA ro_add (pem_tup (pam_cons pem_int pam_nil)) (pem_slice (pem_var 9 (pv 9)) (pom_some pem_int) pom_none)) (pam_cons (pem_op op_addA ro_add (pem_slice (pem_var 10 (pv 10)) pom_none (pom_some (pem_un un_neg ru_neg pem_int))) (pem_tup (pam_cons pem_int pam_nil))) pam_nil)) rfl)) psm_nil) (psm_one (psm_frz (i := 6) (psm_ret (pem_disp (ms := [((mC (.str "signs")), (mVar 2)), ((mC (.str "begin")), (mVar 9)), ((mC (.str "lots")), (mApp dTuple (mCons (mVar 6) mNil))), ((mC (.str "last")), (mVar 10))]) (ppm_cons pem_str (pem_var 2 (pv 2)) (ppm_cons pem_str (pem_var 9 (pv 9)) (ppm_cons pem_str (pem_callTy (call_tupleA rfl) rc_tuple rfl T.g_tuple (by rfl) (pam_cons (pem_var 6 (pv 6)) pam_nil)) (ppm_cons pem_str (pem_var 10 (pv 10)) ppm_nil)))) rfl rfl (by intro z; cases z) (by show 4 ≤ 15; decide))))))))))))))
/-! law -/
noncomputable def m_law : MS := (mSeq (mSetDk 1 f__law_deck (mCons (mVar 0) mNil)) (mSeq (mFor (mRange (mCons (mC (.int 2)) mNil)) (gmName 2) (mSeq (mAsg (mCallD 1 f__law_world (mCons (mC (.int 3)) mNil)) (gmName 3)) (mSeq (mAsg (mApp dTup (mCons (mCallP f__law_code [0] (mCons (mVar 3) mNil) mNil) (mCons (mBin dItemA (mVar 3) (mC (.str "signs"))) mNil))) (gmTup (gmCons (gmName 4) (gmCons (gmName 5) gmNil)) 2)) (mSeq (mAsg (mLc (mRange (mCons (mBin dAdd (mC (.int 1)) (mCallD 1 f__law_draw (mCons (mC (.int 4)) mNil))) mNil)) (gmName 13) mYes (mCallD 1 f__law_page (mCons (mVar 5) (mCons (mC (.int 4)) mNil))) [13]) (gmName 6)) (mSeq (mAsg (mBin dJoin (mC (.str "")) (mVar 6)) (gmName 7)) (mSeq (mAsg (mApp dTup (mCons (mCallD 1 (f__law_bracketed 12) (mCons (mVar 4) (mCons (mVar 6) mNil))) (mCons (mCallD 1 (f__law_bracketed 12) (mCons (mVar 4) (mCons (mVar 6) mNil))) mNil))) (gmTup (gmCons (gmName 8) (gmCons (gmName 9) gmNil)) 2)) (mSeq (mIfS (mOrT (mNotT (mTest (mCallD 1 f__law_is_piece (mCons (mVar 3) (mCons (mVar 4) (mCons (mVar 8) (mCons (mVar 7) mNil))))))) (mNotT (mTest (mCallD 1 f__law_is_piece (mCons (mVar 3) (mCons (mCallP f__law_code [0] (mCons (mVar 3) mNil) mNil) (mCons (mVar 9) (mCons (mVar 7) mNil)))))))) (mRet (mC (.bl false))) mSkip) (mSeq (mPar 10 11 (mCons (mMake "Piece" f_Piece____init__ [0, 1] (mCons (mVar 4) (mCons (mBin dAdd (mVar 7) (mBin dItemA (mVar 5) (mC (.int 0)))) mNil)) mNil) (mCons (mMake "Piece" f_Piece____init__ [0, 1] (mCons (mVar 4) (mCons (mC (.str "")) mNil)) mNil) mNil))) (mSeq (mIfS (mOrT (mNotT (mTest (mBin (dOE "Piece" f_Piece____eq__ false) (mVar 8) (mVar 9)))) (mTest (mBin (dOE "Piece" f_Piece____eq__ false) (mVar 8) (mVar 10)))) (mRet (mC (.bl false))) mSkip) (mSeq (mIfS (mTest (mBin dNe (mLc (mItems (mApp dTup (mCons (mC .non) (mCons (mVar 7) (mCons (mC (.int 0)) (mCons (mVar 4) mNil)))))) (gmName 14) (mTest (mBin (dOEA "Piece" ["Tally"] f_Piece____eq__) (mVar 8) (mVar 14))) (mVar 14) [14]) (mApp dLst mNil))) (mRet (mC (.bl false))) mSkip) (mSeq (mIfS (mOrT (mNotT (mTest (mBin (dOE "Piece" f_Piece____eq__ false) (mMeth "Piece" "joined" f_Piece__joined [0, 1] (mVar 8) (mCons (mVar 11) mNil) mNil) (mMeth "Piece" "joined" f_Piece__joined [0, 1] (mVar 11) (mCons (mVar 8) mNil) mNil)))) (mTest (mBin (dOE "Piece" f_Piece____eq__ true) (mMeth "Piece" "joined" f_Piece__joined [0, 1] (mVar 11) (mCons (mVar 11) mNil) mNil) (mVar 11)))) (mRet (mC (.bl false))) mSkip) (mSeq (mAsg (mMake "Tally" f_Tally____init__ [0, 1, 2, 3] (mCons (mVar 5) (mCons (mBin dAdd (mBin dItemA (mVar 3) (mC (.str "begin"))) (mApp dTup (mCons (mC (.int 1)) mNil))) (mCons (mApp dTuple (mCons (mLc (mItems (mBin dItemA (mVar 3) (mC (.str "lots")))) (gmName 15) mYes (mCallP f__law_wider [0] (mCons (mVar 15) mNil) mNil) [15]) mNil)) (mCons (mBin dAdd (mBin dItemA (mVar 3) (mC (.str "last"))) (mApp dTup (mCons (mC (.int 0)) mNil))) mNil)))) mNil) (gmName 12)) (mSeq (mIfS (mOrT (mTest (mBin (dOE "Piece" f_Piece____eq__ false) (mVar 8) (mMake "Piece" f_Piece____init__ [0, 1] (mCons (mVar 12) (mCons (mVar 7) mNil)) mNil))) (mTest (mBin dNotA (mCallP f__law_unlike [0, 1] (mCons (mVar 8) (mCons (mMake "Piece" f_Piece____init__ [0, 1] (mCons (mVar 12) (mCons (mVar 7) mNil)) mNil) mNil)) mNil) (mC (.bl true))))) (mRet (mC (.bl false))) mSkip) (mIfS (mTest (mBin dNe (mLc (mRange (mCons (mC (.int 3)) mNil)) (gmName 13) mYes (mCallP f__law_refused [0, 1] (mCons (mVar 4) (mCons (mCallD 1 f__law_odd (mCons (mVar 5) mNil)) mNil)) mNil) [13]) (mBin dMulA (mApp dLst (mCons (mApp dLst (mCons (mC (.bl true)) (mCons (mC (.bl true)) mNil))) mNil)) (mC (.int 3))))) (mRet (mC (.bl false))) mSkip)))))))))))))) (mRet (mC (.bl true)))))
theorem s_law : FnScope ["_law_script", "_law_deck_here", "_law_turn", "_law_w", "_law_code_here", "_law_signs", "_law_cuts", "_law_page_here", "_law_one_way", "_law_other_way", "_law_further", "_law_bare", "_law_far", "_law_k", "_law_it", "_law_lot"] ["_law_script"] (defScope (top 66)) := ⟨rfl, rfl, rfl, by decide +kernel, rfl, by decide +kernel, by decide +kernel⟩
noncomputable def f_law : List D → Option D := runP 16 m_law
theorem ok_law {f : Addr} {fd : FuncData} (F : Fun K "law" "law" (top 66) f fd) (T : Txt mg) (TC : TCs K mg C_BadTicket C_OtherTally C_Piece C_Tally C_TallyError fI_BadTicket) {a_Piece____eq__ : Addr} {d_Piece____eq__ : FuncData} (E_Piece : EqC K "Piece" C_Piece a_Piece____eq__) (F_Piece____eq__ : Fun K "__eq__" "Piece.__eq__" (inClass (top 18) 2) a_Piece____eq__ d_Piece____eq__) (G_Piece____eq__ : FnG P w K mg base CX0 2 a_Piece____eq__ d_Piece____eq__ ["self", "other"] (spP K 2 f_Piece____eq__)) {a_Piece____init__ : Addr} {d_Piece____init__ : FuncData} (MK_Piece : Mk K C_Piece a_Piece____init__) (F_Piece____init__ : Fun K "__init__" "Piece.__init__" (inClass (top 18) 0) a_Piece____init__ d_Piece____init__) (G_Piece____init__ : FnG P w K mg base CX0 5 a_Piece____init__ d_Piece____init__ ["self", "tally", "ticket"] (spI K "Piece" 3 f_Piece____init__)) {a_Piece__joined : Addr} {d_Piece__joined : FuncData} (M_Piece__joined : Meth K C_Piece "joined" a_Piece__joined) (F_Piece__joined : Fun K "joined" "Piece.joined" (inClass (top 18) 3) a_Piece__joined d_Piece__joined) (G_Piece__joined : FnG P w K mg base CX0 7 a_Piece__joined d_Piece__joined ["self", "other"] (spP K 2 f_Piece__joined)) {a_Tally____init__ : Addr} {d_Tally____init__ : FuncData} (MK_Tally : Mk K C_Tally a_Tally____init__) (F_Tally____init__ : Fun K "__init__" "Tally.__init__" (inClass (top 41) 0) a_Tally____init__ d_Tally____init__) (G_Tally____init__ : FnG P w K mg base CX0 7 a_Tally____init__ d_Tally____init__ ["self", "digits", "start", "tables", "ends"] (spI K "Tally" 5 f_Tally____init__)) {a__law_bracketed : Addr} {d__law_bracketed : FuncData} (A__law_bracketed : At K mg "_law_bracketed" a__law_bracketed) (F__law_bracketed : Fun K "_law_bracketed" "_law_bracketed" (top 61) a__law_bracketed d__law_bracketed) (G__law_bracketed : FnG P w K mg base CX0 19 a__law_bracketed d__law_bracketed ["_law_deck_here", "_law_code_here", "_law_cuts"] (spD K 3 (f__law_bracketed 12))) {a__law_code : Addr} {d__law_code : FuncData} (A__law_code : At K mg "_law_code" a__law_code) (F__law_code : Fun K "_law_code" "_law_code" (top 55) a__law_code d__law_code) (G__law_code : FnG P w K mg base CX0 9 a__law_code d__law_code ["_law_w"] (spP K 1 f__law_code)) {a__law_deck : Addr} {d__law_deck : FuncData} (A__law_deck : At K mg "_law_deck" a__law_deck) (F__law_deck : Fun K "_law_deck" "_law_deck" (top 50) a__law_deck d__law_deck) (G__law_deck : FnG P w K mg base CX0 1 a__law_deck d__law_deck ["_law_script"] (spN K 1 f__law_deck)) {a__law_draw : Addr} {d__law_draw : FuncData} (A__law_draw : At K mg "_law_draw" a__law_draw) (F__law_draw : Fun K "_law_draw" "_law_draw" (top 51) a__law_draw d__law_draw) (G__law_draw : FnG P w K mg base CX0 1 a__law_draw d__law_draw ["_law_deck_here", "_law_many"] (spD K 2 f__law_draw)) {a__law_is_piece : Addr} {d__law_is_piece : FuncData} (A__law_is_piece : At K mg "_law_is_piece" a__law_is_piece) (F__law_is_piece : Fun K "_law_is_piece" "_law_is_piece" (top 62) a__law_is_piece d__law_is_piece) (G__law_is_piece : FnG P w K mg base CX0 7 a__law_is_piece d__law_is_piece ["_law_deck_here", "_law_w", "_law_code_here", "_law_it", "_law_page_here"] (spD K 5 f__law_is_piece)) {a__law_odd : Addr} {d__law_odd : FuncData} (A__law_odd : At K mg "_law_odd" a__law_odd) (F__law_odd : Fun K "_law_odd" "_law_odd" (top 59) a__law_odd d__law_odd) (G__law_odd : FnG P w K mg base CX0 3 a__law_odd d__law_odd ["_law_deck_here", "_law_signs"] (spD K 2 f__law_odd)) {a__law_page : Addr} {d__law_page : FuncData} (A__law_page : At K mg "_law_page" a__law_page) (F__law_page : Fun K "_law_page" "_law_page" (top 58) a__law_page d__law_page) (G__law_page : FnG P w K mg base CX0 3 a__law_page d__law_page ["_law_deck_here", "_law_signs", "_law_most"] (spD K 3 f__law_page)) {a__law_refused : Addr} {d__law_refused : FuncData} (A__law_refused : At K mg "_law_refused" a__law_refused) (F__law_refused : Fun K "_law_refused" "_law_refused" (top 63) a__law_refused d__law_refused) (G__law_refused : FnG P w K mg base CX0 7 a__law_refused d__law_refused ["_law_code_here", "_law_it"] (spP K 2 f__law_refused)) {a__law_unlike : Addr} {d__law_unlike : FuncData} (A__law_unlike : At K mg "_law_unlike" a__law_unlike) (F__law_unlike : Fun K "_law_unlike" "_law_unlike" (top 65) a__law_unlike d__law_unlike) (G__law_unlike : FnG P w K mg base CX0 8 a__law_unlike d__law_unlike ["_law_near", "_law_far"] (spP K 2 f__law_unlike)) {a__law_wider : Addr} {d__law_wider : FuncData} (A__law_wider : At K mg "_law_wider" a__law_wider) (F__law_wider : Fun K "_law_wider" "_law_wider" (top 64) a__law_wider d__law_wider) (G__law_wider : FnG P w K mg base CX0 1 a__law_wider d__law_wider ["_law_lot"] (spP K 1 f__law_wider)) {a__law_world : Addr} {d__law_world : FuncData} (A__law_world : At K mg "_law_world" a__law_world) (F__law_world : Fun K "_law_world" "_law_world" (top 54) a__law_world d__law_world) (G__law_world : FnG P w K mg base CX0 4 a__law_world d__law_world ["_law_deck_here", "_law_top"] (spD K 2 f__law_world)) :
    FnG P w K mg base CX0 20 f fd ["_law_script"] (spP K 1 f_law) := by
  have b_Piece____eq___2 := bd_Piece____eq___2 F_Piece____eq__
  have b_Piece____init___1_ticket_tally := bd_Piece____init___1_ticket_tally F_Piece____init__
  have b_Piece____init___3 := bd_Piece____init___3 F_Piece____init__
  have b_Piece__joined_1_other := bd_Piece__joined_1_other F_Piece__joined
  have b_Piece__joined_2 := bd_Piece__joined_2 F_Piece__joined
  have b_Tally____init___5 := bd_Tally____init___5 F_Tally____init__
  have b__law_bracketed := bd__law_bracketed F__law_bracketed
  have b__law_code_1 := bd__law_code_1 F__law_code
  have b__law_deck := bd__law_deck F__law_deck
  have b__law_draw := bd__law_draw F__law_draw
  have b__law_is_piece := bd__law_is_piece F__law_is_piece
  have b__law_odd := bd__law_odd F__law_odd
  have b__law_page := bd__law_page F__law_page
  have b__law_refused_2 := bd__law_refused_2 F__law_refused
  have b__law_unlike_2 := bd__law_unlike_2 F__law_unlike
  have b__law_wider_1 := bd__law_wider_1 F__law_wider
  have b__law_world := bd__law_world F__law_world
  refine fn_pure (k := 19) F s_law m_law (fun cdv A outer s H E hr hg => ?_)
  have S := s_law
  have hU := hr.units
  have hU1 := hu_of hr
  exact (psm_seq (psm_setDk (i := 1) ⟨hr.mono (by decide), hg⟩ G__law_deck rfl A__law_deck.mg A__law_deck.kp b__law_deck (fix_cons fix_nil) (pam_cons (pem_var 0 (pv 0)) pam_nil) S.nd rfl (Or.inr rfl)) (psm_seq (psm_for PassesOwn.never rfl (pim_range1 rfl T.g_range (pam_cons pem_int pam_nil) (fun _ _ _ h => fix_cons fix_nil _ _ _ h)) (pg_name (i := 2) S.nd rfl (Or.inl rfl)) (gm_name 2) (psm_seq (psm_set (i := 3) S.nd rfl (Or.inl rfl) (pem_callD (i := 1) ⟨hr.mono (by decide), hg⟩ G__law_world rfl A__law_world.mg A__law_world.kp b__law_world (fix_cons fix_nil) rfl (pv 1) (pam_cons pem_int pam_nil))) (psm_seq (psm_asg (pem_tup (pam_cons (pem_callP ⟨hr.mono (by decide), hg⟩ G__law_code rfl A__law_code.mg A__law_code.kp b__law_code_1 (fix_cons fix_nil) (by decide) rfl (pam_cons (pem_var 3 (pv 3)) pam_nil)) (pam_cons (pem_itemA hU1 (pem_var 3 (pv 3)) pem_str (fun _ _ => rfl)) pam_nil))) (pg_tup rfl (pgs_cons (pg_name (i := 4) S.nd rfl (Or.inr rfl)) (pgs_cons (pg_name (i := 5) S.nd rfl (Or.inr rfl)) pgs_nil))) (gm_tup (gm_cons (gm_name 4) (gm_cons (gm_name 5) gm_nil)))) (psm_seq (psm_setLc (i := 6) (own := [("_law_k", 13)]) rfl S.nd rfl rfl (sw_true rfl rfl rfl (by decide +kernel)) (pim_range1 rfl T.g_range (pam_cons (pem_op op_addA ro_add pem_int (pem_callD (i := 1) ⟨hr.mono (by decide), hg⟩ G__law_draw rfl A__law_draw.mg A__law_draw.kp b__law_draw (fix_cons fix_nil) rfl (pv 1) (pam_cons pem_int pam_nil))) pam_nil) (fun _ _ _ h => fix_cons fix_nil _ _ _ h)) (by show blkC ["_law_script", "_law_deck_here", "_law_turn", "_law_w", "_law_code_here", "_law_signs", "_law_cuts", "_law_page_here", "_law_one_way", "_law_other_way", "_law_further", "_law_bare", "_law_far", "_law_k", "_law_it", "_law_lot"] (defScope (top 66)) _ _ = true; decide +kernel) (fun _ _ _ _ _ => (pg_name (i := 13) S.nd rfl (Or.inl rfl))) (gm_name 13) (by decide) (fun _ _ _ _ _ => ptms_nil) (fun _ _ _ _ _ => (pem_callD (i := 1) ⟨hr.mono (by decide), hg⟩ G__law_page rfl A__law_page.mg A__law_page.kp b__law_page (fix_cons (fix_cons fix_nil)) rfl (pv 1) (pam_cons (pem_var 5 (pv 5)) (pam_cons pem_int pam_nil))))) (psm_seq (psm_set (i := 7) S.nd rfl (Or.inl rfl) (pem_join pem_str (pem_var 6 (pv 6)))) (psm_seq (psm_asg (pem_tup (pam_cons (pem_callD (i := 1) ⟨hr.mono (by decide), hg⟩ G__law_bracketed rfl A__law_bracketed.mg A__law_bracketed.kp b__law_bracketed (fix_cons (fix_cons fix_nil)) rfl (pv 1) (pam_cons (pem_var 4 (pv 4)) (pam_cons (pem_var 6 (pv 6)) pam_nil))) (pam_cons (pem_callD (i := 1) ⟨hr.mono (by decide), hg⟩ G__law_bracketed rfl A__law_bracketed.mg A__law_bracketed.kp b__law_bracketed (fix_cons (fix_cons fix_nil)) rfl (pv 1) (pam_cons (pem_var 4 (pv 4)) (pam_cons (pem_var 6 (pv 6)) pam_nil))) pam_nil))) (pg_tup rfl (pgs_cons (pg_name (i := 8) S.nd rfl (Or.inr rfl)) (pgs_cons (pg_name (i := 9) S.nd rfl (Or.inl rfl)) pgs_nil))) (gm_tup (gm_cons (gm_name 8) (gm_cons (gm_name 9) gm_nil)))) (psm_seq (psm_if (ptm_w (pwm_or (ptm_not (ptm_val (pem_callD (i := 1) ⟨hr.mono (by decide), hg⟩ G__law_is_piece rfl A__law_is_piece.mg A__law_is_piece.kp b__law_is_piece (fix_cons (fix_cons (fix_cons (fix_cons fix_nil)))) rfl (pv 1) (pam_cons (pem_var 3 (pv 3)) (pam_cons (pem_var 4 (pv 4)) (pam_cons (pem_var 8 (pv 8)) (pam_cons (pem_var 7 (pv 7)) pam_nil))))))) (pwm_or1 (ptm_not (ptm_val (pem_callD (i := 1) ⟨hr.mono (by decide), hg⟩ G__law_is_piece rfl A__law_is_piece.mg A__law_is_piece.kp b__law_is_piece (fix_cons (fix_cons (fix_cons (fix_cons fix_nil)))) rfl (pv 1) (pam_cons (pem_var 3 (pv 3)) (pam_cons (pem_callP ⟨hr.mono (by decide), hg⟩ G__law_code rfl A__law_code.mg A__law_code.kp b__law_code_1 (fix_cons fix_nil) (by decide) rfl (pam_cons (pem_var 3 (pv 3)) pam_nil)) (pam_cons (pem_var 9 (pv 9)) (pam_cons (pem_var 7 (pv 7)) pam_nil)))))))))) (psm_one (psm_ret pem_bl)) psm_nil) (psm_seq (psm_par rfl S.nd (i := 10) (j := 11) rfl rfl (by decide) rfl rfl (pam_cons (pem_make ⟨hr.mono (by decide), hg⟩ TC.n_Piece MK_Piece G_Piece____init__ rfl TC.g_Piece b_Piece____init___3 (fix_cons (fix_cons fix_nil)) (by decide) rfl (pam_cons (pem_var 4 (pv 4)) (pam_cons (pem_op op_addA ro_add (pem_var 7 (pv 7)) (pem_itemA hU1 (pem_var 5 (pv 5)) pem_int (fun _ _ => rfl))) pam_nil))) (pam_cons (pem_make ⟨hr.mono (by decide), hg⟩ TC.n_Piece MK_Piece G_Piece____init__ rfl TC.g_Piece b_Piece____init___3 (fix_cons (fix_cons fix_nil)) (by decide) rfl (pam_cons (pem_var 4 (pv 4)) (pam_cons pem_str pam_nil))) pam_nil)) rfl) (psm_seq (psm_if (ptm_w (pwm_or (ptm_not (ptm_cmp (op_ownEq E_Piece G_Piece____eq__ b_Piece____eq___2 ⟨hr.mono (by decide), hg⟩) ro_OE (nomark _) (pem_var 8 (pv 8)) (pem_var 9 (pv 9)))) (pwm_or1 (ptm_cmp (op_ownEq E_Piece G_Piece____eq__ b_Piece____eq___2 ⟨hr.mono (by decide), hg⟩) ro_OE (nomark _) (pem_var 8 (pv 8)) (pem_var 10 (pv 10)))))) (psm_one (psm_ret pem_bl)) psm_nil) (psm_seq (psm_if (ptm_cmp (op_neP hU) ro_cmp (nomark _) (pem_lc (own := [("_law_it", 14)]) rfl S.nd (pim_items (pem_tup (pam_cons pem_non (pam_cons (pem_var 7 (pv 7)) (pam_cons pem_int (pam_cons (pem_var 4 (pv 4)) pam_nil)))))) (by show blkC ["_law_script", "_law_deck_here", "_law_turn", "_law_w", "_law_code_here", "_law_signs", "_law_cuts", "_law_page_here", "_law_one_way", "_law_other_way", "_law_further", "_law_bare", "_law_far", "_law_k", "_law_it", "_law_lot"] (defScope (top 66)) _ _ = true; decide +kernel) (fun _ _ _ _ _ => (pg_name (i := 14) S.nd rfl (Or.inl rfl))) (gm_name 14) (by decide) (fun _ _ _ _ _ => (ptms_one (ptm_cmp (op_ownEqA E_Piece TC.io_Piece (ap_cons TC.ap_Piece_Tally ap_nil) G_Piece____eq__ b_Piece____eq___2 ⟨hr.mono (by decide), hg⟩) ro_OEA (nomark _) (pem_var 8 (pv 8)) (pem_var 14 (pv 14))))) (fun _ _ _ _ _ => (pem_var 14 (pv 14)))) (pem_lst pam_nil)) (psm_one (psm_ret pem_bl)) psm_nil) (psm_seq (psm_if (ptm_w (pwm_or (ptm_not (ptm_cmp (op_ownEq E_Piece G_Piece____eq__ b_Piece____eq___2 ⟨hr.mono (by decide), hg⟩) ro_OE (nomark _) (pem_meth ⟨hr.mono (by decide), hg⟩ (pem_var 8 (pv 8)) TC.n_Piece TC.l_Piece M_Piece__joined G_Piece__joined b_Piece__joined_2 (fix_cons fix_nil) (by decide) rfl (pam_cons (pem_var 11 (pv 11)) pam_nil)) (pem_meth ⟨hr.mono (by decide), hg⟩ (pem_var 11 (pv 11)) TC.n_Piece TC.l_Piece M_Piece__joined G_Piece__joined b_Piece__joined_2 (fix_cons fix_nil) (by decide) rfl (pam_cons (pem_var 8 (pv 8)) pam_nil)))) (pwm_or1 (ptm_cmp (op_ownNe E_Piece G_Piece____eq__ b_Piece____eq___2 ⟨hr.mono (by decide), hg⟩) ro_OE (nomark _) (pem_meth ⟨hr.mono (by decide), hg⟩ (pem_var 11 (pv 11)) TC.n_Piece TC.l_Piece M_Piece__joined G_Piece__joined b_Piece__joined_2 (fix_cons fix_nil) (by decide) rfl (pam_cons (pem_var 11 (pv 11)) pam_nil)) (pem_var 11 (pv 11)))))) (psm_one (psm_ret pem_bl)) psm_nil) (psm_seq (psm_set (i := 12) S.nd rfl (Or.inl rfl) (pem_make ⟨hr.mono (by decide), hg⟩ TC.n_Tally MK_Tally G_Tally____init__ rfl TC.g_Tally b_Tally____init___5 (fix_cons (fix_cons (fix_cons (fix_cons fix_nil)))) (by decide) rfl (pam_cons (pem_var 5 (pv 5)) (pam_cons (pem_op op_addA ro_add (pem_itemA hU1 (pem_var 3 (pv 3)) pem_str (fun _ _ => rfl)) (pem_tup (pam_cons pem_int pam_nil))) (pam_cons (pem_callTy (call_tupleA rfl) rc_tuple rfl T.g_tuple (by rfl) (pam_cons (pem_lc (own := [("_law_lot", 15)]) rfl S.nd (pim_items (pem_itemA hU1 (pem_var 3 (pv 3)) pem_str (fun _ _ => rfl))) (by show blkC ["_law_script", "_law_deck_here", "_law_turn", "_law_w", "_law_code_here", "_law_signs", "_law_cuts", "_law_page_here", "_law_one_way", "_law_other_way", "_law_further", "_law_bare", "_law_far", "_law_k", "_law_it", "_law_lot"] (defScope (top 66)) _ _ = true; decide +kernel) (fun _ _ _ _ _ => (pg_name (i := 15) S.nd rfl (Or.inl rfl))) (gm_name 15) (by decide) (fun _ _ _ _ _ => ptms_nil) (fun _ _ _ _ _ => (pem_callP ⟨hr.mono (by decide), hg⟩ G__law_wider rfl A__law_wider.mg A__law_wider.kp b__law_wider_1 (fix_cons fix_nil) (by decide) rfl (pam_cons (pem_var 15 (pv 15)) pam_nil)))) pam_nil)) (pam_cons (pem_op op_addA ro_add (pem_itemA hU1 (pem_var 3 (pv 3)) pem_str (fun _ _ => rfl)) (pem_tup (pam_cons pem_int pam_nil))) pam_nil)))))) (psm_seq (psm_if (ptm_w (pwm_or (ptm_cmp (op_ownEq E_Piece G_Piece____eq__ b_Piece____eq___2 ⟨hr.mono (by decide), hg⟩) ro_OE (nomark _) (pem_var 8 (pv 8)) (pem_make ⟨hr.mono (by decide), hg⟩ TC.n_Piece MK_Piece G_Piece____init__ rfl TC.g_Piece b_Piece____init___3 (fix_cons (fix_cons fix_nil)) (by decide) rfl (pam_cons (pem_var 12 (pv 12)) (pam_cons (pem_var 7 (pv 7)) pam_nil)))) (pwm_or1 (ptm_cmp op_notA ro_notA (nomark _) (pem_callP ⟨hr.mono (by decide), hg⟩ G__law_unlike rfl A__law_unlike.mg A__law_unlike.kp b__law_unlike_2 (fix_cons (fix_cons fix_nil)) (by decide) rfl (pam_cons (pem_var 8 (pv 8)) (pam_cons (pem_make ⟨hr.mono (by decide), hg⟩ TC.n_Piece MK_Piece G_Piece____init__ rfl TC.g_Piece b_Piece____init___3 (fix_cons (fix_cons fix_nil)) (by decide) rfl (pam_cons (pem_var 12 (pv 12)) (pam_cons (pem_var 7 (pv 7)) pam_nil))) pam_nil))) pem_bl)))) (psm_one (psm_ret pem_bl)) psm_nil) (psm_one (psm_if (ptm_cmp (op_neP hU) ro_cmp (nomark _) (pem_lc (own := [("_law_k", 13)]) rfl S.nd (pim_range1 rfl T.g_range (pam_cons pem_int pam_nil) (fun _ _ _ h => fix_cons fix_nil _ _ _ h)) (by show blkC ["_law_script", "_law_deck_here", "_law_turn", "_law_w", "_law_code_here", "_law_signs", "_law_cuts", "_law_page_here", "_law_one_way", "_law_other_way", "_law_further", "_law_bare", "_law_far", "_law_k", "_law_it", "_law_lot"] (defScope (top 66)) _ _ = true; decide +kernel) (fun _ _ _ _ _ => (pg_name (i := 13) S.nd rfl (Or.inl rfl))) (gm_name 13) (by decide) (fun _ _ _ _ _ => ptms_nil) (fun _ _ _ _ _ => (pem_callP ⟨hr.mono (by decide), hg⟩ G__law_refused rfl A__law_refused.mg A__law_refused.kp b__law_refused_2 (fix_cons (fix_cons fix_nil)) (by decide) rfl (pam_cons (pem_var 4 (pv 4)) (pam_cons (pem_callD (i := 1) ⟨hr.mono (by decide), hg⟩ G__law_odd rfl A__law_odd.mg A__law_odd.kp b__law_odd (fix_cons fix_nil) rfl (pv 1) (pam_cons (pem_var 5 (pv 5)) pam_nil)) pam_nil))))) (pem_op op_mulA ro_mulA (pem_lst (pam_cons (pem_lst (pam_cons pem_bl (pam_cons pem_bl pam_nil))) pam_nil)) pem_int)) (psm_one (psm_ret pem_bl)) psm_nil))))))))))))))) (psm_one (psm_ret pem_bl))))
theorem all_mk {h : Heap} {fa : Addr} (X : K.In h) (G : h.Ns mainGlobals mg) (hfa : mg "law" = some (.ref fa))
    {oc_xi_BadTicket kV_xi_BadTicket dc_xi_BadTicket pm_xi_BadTicket cd_xi_BadTicket ct_xi_BadTicket : Value} {od_xi_BadTicket an_xi_BadTicket : Option Addr} {sl_xi_BadTicket : Array (Option Value)}
    {a_Tally____eq__ : Addr} {oc_Tally____eq__ kV_Tally____eq__ dc_Tally____eq__ pm_Tally____eq__ cd_Tally____eq__ ct_Tally____eq__ : Value} {od_Tally____eq__ an_Tally____eq__ : Option Addr} {sl_Tally____eq__ : Array (Option Value)}
    {a_Piece____eq__ : Addr} {oc_Piece____eq__ kV_Piece____eq__ dc_Piece____eq__ pm_Piece____eq__ cd_Piece____eq__ ct_Piece____eq__ : Value} {od_Piece____eq__ an_Piece____eq__ : Option Addr} {sl_Piece____eq__ : Array (Option Value)}
    {a_is_ticket : Addr} {oc_is_ticket kV_is_ticket dc_is_ticket pm_is_ticket cd_is_ticket ct_is_ticket : Value} {od_is_ticket an_is_ticket : Option Addr} {sl_is_ticket : Array (Option Value)}
    {a_check_ticket : Addr} {oc_check_ticket kV_check_ticket dc_check_ticket pm_check_ticket cd_check_ticket ct_check_ticket : Value} {od_check_ticket an_check_ticket : Option Addr} {sl_check_ticket : Array (Option Value)}
    {a_led_on : Addr} {oc_led_on kV_led_on dc_led_on pm_led_on cd_led_on ct_led_on : Value} {od_led_on an_led_on : Option Addr} {sl_led_on : Array (Option Value)}
    {a_table_product : Addr} {oc_table_product kV_table_product dc_table_product pm_table_product cd_table_product ct_table_product : Value} {od_table_product an_table_product : Option Addr} {sl_table_product : Array (Option Value)}
    {a_noughts : Addr} {oc_noughts kV_noughts dc_noughts pm_noughts cd_noughts ct_noughts : Value} {od_noughts an_noughts : Option Addr} {sl_noughts : Array (Option Value)}
    {a_unit_row : Addr} {oc_unit_row kV_unit_row dc_unit_row pm_unit_row cd_unit_row ct_unit_row : Value} {od_unit_row an_unit_row : Option Addr} {sl_unit_row : Array (Option Value)}
    {a_unit_table : Addr} {oc_unit_table kV_unit_table dc_unit_table pm_unit_table cd_unit_table ct_unit_table : Value} {od_unit_table an_unit_table : Option Addr} {sl_unit_table : Array (Option Value)}
    {a_Tally__table : Addr} {oc_Tally__table kV_Tally__table dc_Tally__table pm_Tally__table cd_Tally__table ct_Tally__table : Value} {od_Tally__table an_Tally__table : Option Addr} {sl_Tally__table : Array (Option Value)}
    {a_Piece____init__ : Addr} {oc_Piece____init__ kV_Piece____init__ dc_Piece____init__ pm_Piece____init__ cd_Piece____init__ ct_Piece____init__ : Value} {od_Piece____init__ an_Piece____init__ : Option Addr} {sl_Piece____init__ : Array (Option Value)}
    {a_Piece__joined : Addr} {oc_Piece__joined kV_Piece__joined dc_Piece__joined pm_Piece__joined cd_Piece__joined ct_Piece__joined : Value} {od_Piece__joined an_Piece__joined : Option Addr} {sl_Piece__joined : Array (Option Value)}
    {a_is_ascending : Addr} {oc_is_ascending kV_is_ascending dc_is_ascending pm_is_ascending cd_is_ascending ct_is_ascending : Value} {od_is_ascending an_is_ascending : Option Addr} {sl_is_ascending : Array (Option Value)}
    {a_are_digits : Addr} {oc_are_digits kV_are_digits dc_are_digits pm_are_digits cd_are_digits ct_are_digits : Value} {od_are_digits an_are_digits : Option Addr} {sl_are_digits : Array (Option Value)}
    {a_is_whole : Addr} {oc_is_whole kV_is_whole dc_is_whole pm_is_whole cd_is_whole ct_is_whole : Value} {od_is_whole an_is_whole : Option Addr} {sl_is_whole : Array (Option Value)}
    {a_is_row : Addr} {oc_is_row kV_is_row dc_is_row pm_is_row cd_is_row ct_is_row : Value} {od_is_row an_is_row : Option Addr} {sl_is_row : Array (Option Value)}
    {a_is_row_of : Addr} {oc_is_row_of kV_is_row_of dc_is_row_of pm_is_row_of cd_is_row_of ct_is_row_of : Value} {od_is_row_of an_is_row_of : Option Addr} {sl_is_row_of : Array (Option Value)}
    {a_are_rows : Addr} {oc_are_rows kV_are_rows dc_are_rows pm_are_rows cd_are_rows ct_are_rows : Value} {od_are_rows an_are_rows : Option Addr} {sl_are_rows : Array (Option Value)}
    {a_is_table : Addr} {oc_is_table kV_is_table dc_is_table pm_is_table cd_is_table ct_is_table : Value} {od_is_table an_is_table : Option Addr} {sl_is_table : Array (Option Value)}
    {a_are_tables : Addr} {oc_are_tables kV_are_tables dc_are_tables pm_are_tables cd_are_tables ct_are_tables : Value} {od_are_tables an_are_tables : Option Addr} {sl_are_tables : Array (Option Value)}
    {a_Tally____init__ : Addr} {oc_Tally____init__ kV_Tally____init__ dc_Tally____init__ pm_Tally____init__ cd_Tally____init__ ct_Tally____init__ : Value} {od_Tally____init__ an_Tally____init__ : Option Addr} {sl_Tally____init__ : Array (Option Value)}
    {a__law_draw : Addr} {oc__law_draw kV__law_draw dc__law_draw pm__law_draw cd__law_draw ct__law_draw : Value} {od__law_draw an__law_draw : Option Addr} {sl__law_draw : Array (Option Value)}
    {a__law_bracketed : Addr} {oc__law_bracketed kV__law_bracketed dc__law_bracketed pm__law_bracketed cd__law_bracketed ct__law_bracketed : Value} {od__law_bracketed an__law_bracketed : Option Addr} {sl__law_bracketed : Array (Option Value)}
    {a__law_code : Addr} {oc__law_code kV__law_code dc__law_code pm__law_code cd__law_code ct__law_code : Value} {od__law_code an__law_code : Option Addr} {sl__law_code : Array (Option Value)}
    {a__law_deck : Addr} {oc__law_deck kV__law_deck dc__law_deck pm__law_deck cd__law_deck ct__law_deck : Value} {od__law_deck an__law_deck : Option Addr} {sl__law_deck : Array (Option Value)}
    {a_Piece____len__ : Addr} {oc_Piece____len__ kV_Piece____len__ dc_Piece____len__ pm_Piece____len__ cd_Piece____len__ ct_Piece____len__ : Value} {od_Piece____len__ an_Piece____len__ : Option Addr} {sl_Piece____len__ : Array (Option Value)}
    {a_Piece__led : Addr} {oc_Piece__led kV_Piece__led dc_Piece__led pm_Piece__led cd_Piece__led ct_Piece__led : Value} {od_Piece__led an_Piece__led : Option Addr} {sl_Piece__led : Array (Option Value)}
    {a_product_of : Addr} {oc_product_of kV_product_of dc_product_of pm_product_of cd_product_of ct_product_of : Value} {od_product_of an_product_of : Option Addr} {sl_product_of : Array (Option Value)}
    {p_Piece__worth_now : Addr} {rest_Piece__worth_now : List Value}
    {a_Piece__worth_now : Addr} {oc_Piece__worth_now kV_Piece__worth_now dc_Piece__worth_now pm_Piece__worth_now cd_Piece__worth_now ct_Piece__worth_now : Value} {od_Piece__worth_now an_Piece__worth_now : Option Addr} {sl_Piece__worth_now : Array (Option Value)}
    {a__law_dot : Addr} {oc__law_dot kV__law_dot dc__law_dot pm__law_dot cd__law_dot ct__law_dot : Value} {od__law_dot an__law_dot : Option Addr} {sl__law_dot : Array (Option Value)}
    {a__law_led : Addr} {oc__law_led kV__law_led dc__law_led pm__law_led cd__law_led ct__law_led : Value} {od__law_led an__law_led : Option Addr} {sl__law_led : Array (Option Value)}
    {a__law_lot_of : Addr} {oc__law_lot_of kV__law_lot_of dc__law_lot_of pm__law_lot_of cd__law_lot_of ct__law_lot_of : Value} {od__law_lot_of an__law_lot_of : Option Addr} {sl__law_lot_of : Array (Option Value)}
    {a__law_pick : Addr} {oc__law_pick kV__law_pick dc__law_pick pm__law_pick cd__law_pick ct__law_pick : Value} {od__law_pick an__law_pick : Option Addr} {sl__law_pick : Array (Option Value)}
    {a__law_is_piece : Addr} {oc__law_is_piece kV__law_is_piece dc__law_is_piece pm__law_is_piece cd__law_is_piece ct__law_is_piece : Value} {od__law_is_piece an__law_is_piece : Option Addr} {sl__law_is_piece : Array (Option Value)}
    {a__law_odd : Addr} {oc__law_odd kV__law_odd dc__law_odd pm__law_odd cd__law_odd ct__law_odd : Value} {od__law_odd an__law_odd : Option Addr} {sl__law_odd : Array (Option Value)}
    {a__law_page : Addr} {oc__law_page kV__law_page dc__law_page pm__law_page cd__law_page ct__law_page : Value} {od__law_page an__law_page : Option Addr} {sl__law_page : Array (Option Value)}
    {a__law_refused : Addr} {oc__law_refused kV__law_refused dc__law_refused pm__law_refused cd__law_refused ct__law_refused : Value} {od__law_refused an__law_refused : Option Addr} {sl__law_refused : Array (Option Value)}
    {a__law_unlike : Addr} {oc__law_unlike kV__law_unlike dc__law_unlike pm__law_unlike cd__law_unlike ct__law_unlike : Value} {od__law_unlike an__law_unlike : Option Addr} {sl__law_unlike : Array (Option Value)}
    {a__law_wider : Addr} {oc__law_wider kV__law_wider dc__law_wider pm__law_wider cd__law_wider ct__law_wider : Value} {od__law_wider an__law_wider : Option Addr} {sl__law_wider : Array (Option Value)}
    {a__law_line : Addr} {oc__law_line kV__law_line dc__law_line pm__law_line cd__law_line ct__law_line : Value} {od__law_line an__law_line : Option Addr} {sl__law_line : Array (Option Value)}
    {a__law_world : Addr} {oc__law_world kV__law_world dc__law_world pm__law_world cd__law_world ct__law_world : Value} {od__law_world an__law_world : Option Addr} {sl__law_world : Array (Option Value)}
    {a_law : Addr} {oc_law kV_law dc_law pm_law cd_law ct_law : Value} {od_law an_law : Option Addr} {sl_law : Array (Option Value)}
    (n_BadTicket : PySem.W.nsIn K mainGlobals "BadTicket" = some (some (.ref C_BadTicket)))
    (n_OtherTally : PySem.W.nsIn K mainGlobals "OtherTally" = some (some (.ref C_OtherTally)))
    (n_Piece : PySem.W.nsIn K mainGlobals "Piece" = some (some (.ref C_Piece)))
    (n_Tally : PySem.W.nsIn K mainGlobals "Tally" = some (some (.ref C_Tally)))
    (n_TallyError : PySem.W.nsIn K mainGlobals "TallyError" = some (some (.ref C_TallyError)))
    (ap_Piece_Tally : PySem.W.subIn K (.ref C_Tally) (.ref C_Piece) = some false)
    (ap_Tally_Piece : PySem.W.subIn K (.ref C_Piece) (.ref C_Tally) = some false)
    (pg_Piece : PySem.W.plainGet K C_Piece Str.empty = true)
    (hd_Piece : PySem.W.hasDictIn K C_Piece = true)
    (po_Piece : PySem.W.plainOver K C_Piece = true)
    (sa_Piece : PySem.W.findIn K (.ref C_Piece) "__setattr__" = some (some (.builtin "object.__setattr__")))
    (cl_Piece : PySem.W.findIn K (.ref C_Piece) "__class__" = some (some (.builtin "object.__class__")))
    (ocg : PySem.W.specialIn K (.builtin "object.__class__") "__get__" = some (some (.builtin "getset_descriptor.__get__")))
    (oct : PySem.W.takesIn K (.builtin "object.__class__") = some true)
    (mr_Piece : PySem.W.mroIn K C_Piece (.type "object") = some true)
    (k1_Piece : PySem.W.kitOne K (.type "NoneType") (.ref C_Piece) = some false)
    (k2_Piece : PySem.W.kitOne K (.type "bool") (.ref C_Piece) = some false)
    (k3_Piece : PySem.W.kitOne K (.type "int") (.ref C_Piece) = some false)
    (k4_Piece : PySem.W.kitOne K (.type "str") (.ref C_Piece) = some false)
    (k5_Piece : PySem.W.kitOne K (.type "tuple") (.ref C_Piece) = some false)
    (k6_Piece : PySem.W.kitOne K (.type "list") (.ref C_Piece) = some false)
    (k7_Piece : PySem.W.kitOne K (.type "dict") (.ref C_Piece) = some false)
    (pg_Tally : PySem.W.plainGet K C_Tally Str.empty = true)
    (hd_Tally : PySem.W.hasDictIn K C_Tally = true)
    (po_Tally : PySem.W.plainOver K C_Tally = true)
    (sa_Tally : PySem.W.findIn K (.ref C_Tally) "__setattr__" = some (some (.builtin "object.__setattr__")))
    (cl_Tally : PySem.W.findIn K (.ref C_Tally) "__class__" = some (some (.builtin "object.__class__")))
    (mr_Tally : PySem.W.mroIn K C_Tally (.type "object") = some true)
    (k1_Tally : PySem.W.kitOne K (.type "NoneType") (.ref C_Tally) = some false)
    (k2_Tally : PySem.W.kitOne K (.type "bool") (.ref C_Tally) = some false)
    (k3_Tally : PySem.W.kitOne K (.type "int") (.ref C_Tally) = some false)
    (k4_Tally : PySem.W.kitOne K (.type "str") (.ref C_Tally) = some false)
    (k5_Tally : PySem.W.kitOne K (.type "tuple") (.ref C_Tally) = some false)
    (k6_Tally : PySem.W.kitOne K (.type "list") (.ref C_Tally) = some false)
    (k7_Tally : PySem.W.kitOne K (.type "dict") (.ref C_Tally) = some false)
    (cl_BadTicket : PySem.W.findIn K (.ref C_BadTicket) "__class__" = some (some (.builtin "object.__class__")))
    (mr_BadTicket : PySem.W.mroIn K C_BadTicket (.type "object") = some true)
    (ga_BadTicket : PySem.W.findIn K (.ref C_BadTicket) "__getattribute__" = some (some (.builtin "BaseException.__getattribute__")))
    (gg_BadTicket : PySem.W.findIn K (.ref C_BadTicket) "__getattr__" = some none)
    (ex_BadTicket : PySem.W.subIn K (.ref C_BadTicket) (.type "BaseException") = some true)
    (hd_BadTicket : PySem.W.hasDictIn K C_BadTicket = true)
    (cl_OtherTally : PySem.W.findIn K (.ref C_OtherTally) "__class__" = some (some (.builtin "object.__class__")))
    (mr_OtherTally : PySem.W.mroIn K C_OtherTally (.type "object") = some true)
    (ga_OtherTally : PySem.W.findIn K (.ref C_OtherTally) "__getattribute__" = some (some (.builtin "BaseException.__getattribute__")))
    (gg_OtherTally : PySem.W.findIn K (.ref C_OtherTally) "__getattr__" = some none)
    (ex_OtherTally : PySem.W.subIn K (.ref C_OtherTally) (.type "BaseException") = some true)
    (hd_OtherTally : PySem.W.hasDictIn K C_OtherTally = true)
    (ki_BadTicket_TallyError : PySem.W.kitOne K (.ref C_BadTicket) (.ref C_TallyError) = some true)
    (ki_OtherTally_TallyError : PySem.W.kitOne K (.ref C_OtherTally) (.ref C_TallyError) = some true)
    (ki_Piece_Tally : PySem.W.kitOne K (.ref C_Piece) (.ref C_Tally) = some false)
    (ki_Tally_Piece : PySem.W.kitOne K (.ref C_Tally) (.ref C_Piece) = some false)
    (na_Piece_table_now : PySem.W.findIn K (.ref C_Piece) "table_now" = some none)
    (na_Piece_tally : PySem.W.findIn K (.ref C_Piece) "tally" = some none)
    (na_Piece_ticket : PySem.W.findIn K (.ref C_Piece) "ticket" = some none)
    (na_Tally_digits : PySem.W.findIn K (.ref C_Tally) "digits" = some none)
    (na_Tally_ends : PySem.W.findIn K (.ref C_Tally) "ends" = some none)
    (na_Tally_start : PySem.W.findIn K (.ref C_Tally) "start" = some none)
    (na_Tally_tables : PySem.W.findIn K (.ref C_Tally) "tables" = some none)
    (iC_BadTicket : PySem.W.findIn K (.ref C_BadTicket) "__init__" = some (some (.ref fI_BadTicket)))
    (isF_BadTicket : PySem.W.isFn K (.ref fI_BadTicket) = true)
    (kC_BadTicket : PySem.W.keepIn K (.ref C_BadTicket) = true)
    (tyC_BadTicket : PySem.W.typeIn K (.ref C_BadTicket) = some (.type "type"))
    (sa_BadTicket : PySem.W.findIn K (.ref C_BadTicket) "__setattr__" = some (some (.builtin "object.__setattr__")))
    (no_BadTicket : PySem.W.findIn K (.ref C_BadTicket) "ticket" = some none)
    (ov_BadTicket : PySem.W.excOver K C_BadTicket exTl = true)
    (ini_BadTicket : PySem.W.excInitIn K C_BadTicket exTl "Exception.__new__" = true)
    (iB_OtherTally : PySem.W.findIn K (.ref C_OtherTally) "__init__" = some (some (.builtin "Exception.__init__")))
    (kC_OtherTally : PySem.W.keepIn K (.ref C_OtherTally) = true)
    (tyC_OtherTally : PySem.W.typeIn K (.ref C_OtherTally) = some (.type "type"))
    (ini_OtherTally : PySem.W.excInitIn K C_OtherTally exTl "Exception.__new__" = true)
    (xm_BadTicket : PySem.W.exmOne K (.ref C_BadTicket) (.ref C_BadTicket) = some true)
    (xm_OtherTally : PySem.W.exmOne K (.ref C_OtherTally) (.ref C_OtherTally) = some true)
    (at_Tally____eq__ : PySem.W.findIn K (.ref C_Tally) "__eq__" = some (some (.ref a_Tally____eq__)))
    (is_Tally____eq__ : PySem.W.isFn K (.ref a_Tally____eq__) = true)
    (ne_Tally : PySem.W.findIn K (.ref C_Tally) "__ne__" = some (some (.builtin "object.__ne__")))
    (at_Piece____eq__ : PySem.W.findIn K (.ref C_Piece) "__eq__" = some (some (.ref a_Piece____eq__)))
    (is_Piece____eq__ : PySem.W.isFn K (.ref a_Piece____eq__) = true)
    (ne_Piece : PySem.W.findIn K (.ref C_Piece) "__ne__" = some (some (.builtin "object.__ne__")))
    (at_Tally__table : PySem.W.findIn K (.ref C_Tally) "table" = some (some (.ref a_Tally__table)))
    (is_Tally__table : PySem.W.isFn K (.ref a_Tally__table) = true)
    (at_Piece____init__ : PySem.W.findIn K (.ref C_Piece) "__init__" = some (some (.ref a_Piece____init__)))
    (is_Piece____init__ : PySem.W.isFn K (.ref a_Piece____init__) = true)
    (mks_Piece : PySem.W.makesIn K C_Piece = true)
    (kC_Piece : PySem.W.keepIn K (.ref C_Piece) = true)
    (at_Piece__joined : PySem.W.findIn K (.ref C_Piece) "joined" = some (some (.ref a_Piece__joined)))
    (is_Piece__joined : PySem.W.isFn K (.ref a_Piece__joined) = true)
    (at_Tally____init__ : PySem.W.findIn K (.ref C_Tally) "__init__" = some (some (.ref a_Tally____init__)))
    (is_Tally____init__ : PySem.W.isFn K (.ref a_Tally____init__) = true)
    (mks_Tally : PySem.W.makesIn K C_Tally = true)
    (kC_Tally : PySem.W.keepIn K (.ref C_Tally) = true)
    (at_Piece____len__ : PySem.W.findIn K (.ref C_Piece) "__len__" = some (some (.ref a_Piece____len__)))
    (is_Piece____len__ : PySem.W.isFn K (.ref a_Piece____len__) = true)
    (at_Piece__led : PySem.W.findIn K (.ref C_Piece) "led" = some (some (.ref a_Piece__led)))
    (is_Piece__led : PySem.W.isFn K (.ref a_Piece__led) = true)
    (at_Piece__worth_now : PySem.W.findIn K (.ref C_Piece) "worth_now" = some (some (.ref p_Piece__worth_now)))
    (pgt_Piece__worth_now : PySem.W.specialIn K (.ref p_Piece__worth_now) "__get__" = some (some (.builtin "property.__get__")))
    (ptk_Piece__worth_now : PySem.W.takesIn K (.ref p_Piece__worth_now) = some true)
    (prc_Piece__worth_now : PySem.W.recIn K p_Piece__worth_now "property" = some (.ref a_Piece__worth_now :: rest_Piece__worth_now))
    (l_xi_BadTicket : K.lookup fI_BadTicket = some ⟨oc_xi_BadTicket, od_xi_BadTicket, .func (PySem.W.fnOf "__init__" "BadTicket.__init__" (defArgs (inClass (top 5) 0)) (defBody (inClass (top 5) 0)) (defScope (inClass (top 5) 0)) .none kV_xi_BadTicket dc_xi_BadTicket pm_xi_BadTicket an_xi_BadTicket cd_xi_BadTicket ct_xi_BadTicket), sl_xi_BadTicket⟩)
    (c_xi_BadTicket : PySem.W.codeIn K cd_xi_BadTicket "BadTicket.__init__" = true)
    (l_Tally____eq__ : K.lookup a_Tally____eq__ = some ⟨oc_Tally____eq__, od_Tally____eq__, .func (PySem.W.fnOf "__eq__" "Tally.__eq__" (defArgs (inClass (top 41) 2)) (defBody (inClass (top 41) 2)) (defScope (inClass (top 41) 2)) .none kV_Tally____eq__ dc_Tally____eq__ pm_Tally____eq__ an_Tally____eq__ cd_Tally____eq__ ct_Tally____eq__), sl_Tally____eq__⟩)
    (c_Tally____eq__ : PySem.W.codeIn K cd_Tally____eq__ "Tally.__eq__" = true) (k_Tally____eq__ : PySem.W.keepIn K (.ref a_Tally____eq__) = true)
    (l_Piece____eq__ : K.lookup a_Piece____eq__ = some ⟨oc_Piece____eq__, od_Piece____eq__, .func (PySem.W.fnOf "__eq__" "Piece.__eq__" (defArgs (inClass (top 18) 2)) (defBody (inClass (top 18) 2)) (defScope (inClass (top 18) 2)) .none kV_Piece____eq__ dc_Piece____eq__ pm_Piece____eq__ an_Piece____eq__ cd_Piece____eq__ ct_Piece____eq__), sl_Piece____eq__⟩)
    (c_Piece____eq__ : PySem.W.codeIn K cd_Piece____eq__ "Piece.__eq__" = true) (k_Piece____eq__ : PySem.W.keepIn K (.ref a_Piece____eq__) = true)
    (n_is_ticket : PySem.W.nsIn K mainGlobals "is_ticket" = some (some (.ref a_is_ticket)))
    (l_is_ticket : K.lookup a_is_ticket = some ⟨oc_is_ticket, od_is_ticket, .func (PySem.W.fnOf "is_ticket" "is_ticket" (defArgs (top 25)) (defBody (top 25)) (defScope (top 25)) .none kV_is_ticket dc_is_ticket pm_is_ticket an_is_ticket cd_is_ticket ct_is_ticket), sl_is_ticket⟩)
    (c_is_ticket : PySem.W.codeIn K cd_is_ticket "is_ticket" = true) (k_is_ticket : PySem.W.keepIn K (.ref a_is_ticket) = true)
    (n_check_ticket : PySem.W.nsIn K mainGlobals "check_ticket" = some (some (.ref a_check_ticket)))
    (l_check_ticket : K.lookup a_check_ticket = some ⟨oc_check_ticket, od_check_ticket, .func (PySem.W.fnOf "check_ticket" "check_ticket" (defArgs (top 43)) (defBody (top 43)) (defScope (top 43)) .none kV_check_ticket dc_check_ticket pm_check_ticket an_check_ticket cd_check_ticket ct_check_ticket), sl_check_ticket⟩)
    (c_check_ticket : PySem.W.codeIn K cd_check_ticket "check_ticket" = true) (k_check_ticket : PySem.W.keepIn K (.ref a_check_ticket) = true)
    (n_led_on : PySem.W.nsIn K mainGlobals "led_on" = some (some (.ref a_led_on)))
    (l_led_on : K.lookup a_led_on = some ⟨oc_led_on, od_led_on, .func (PySem.W.fnOf "led_on" "led_on" (defArgs (top 16)) (defBody (top 16)) (defScope (top 16)) .none kV_led_on dc_led_on pm_led_on an_led_on cd_led_on ct_led_on), sl_led_on⟩)
    (c_led_on : PySem.W.codeIn K cd_led_on "led_on" = true) (k_led_on : PySem.W.keepIn K (.ref a_led_on) = true)
    (n_table_product : PySem.W.nsIn K mainGlobals "table_product" = some (some (.ref a_table_product)))
    (l_table_product : K.lookup a_table_product = some ⟨oc_table_product, od_table_product, .func (PySem.W.fnOf "table_product" "table_product" (defArgs (top 21)) (defBody (top 21)) (defScope (top 21)) .none kV_table_product dc_table_product pm_table_product an_table_product cd_table_product ct_table_product), sl_table_product⟩)
    (c_table_product : PySem.W.codeIn K cd_table_product "table_product" = true) (k_table_product : PySem.W.keepIn K (.ref a_table_product) = true)
    (n_noughts : PySem.W.nsIn K mainGlobals "noughts" = some (some (.ref a_noughts)))
    (l_noughts : K.lookup a_noughts = some ⟨oc_noughts, od_noughts, .func (PySem.W.fnOf "noughts" "noughts" (defArgs (top 13)) (defBody (top 13)) (defScope (top 13)) .none kV_noughts dc_noughts pm_noughts an_noughts cd_noughts ct_noughts), sl_noughts⟩)
    (c_noughts : PySem.W.codeIn K cd_noughts "noughts" = true) (k_noughts : PySem.W.keepIn K (.ref a_noughts) = true)
    (n_unit_row : PySem.W.nsIn K mainGlobals "unit_row" = some (some (.ref a_unit_row)))
    (l_unit_row : K.lookup a_unit_row = some ⟨oc_unit_row, od_unit_row, .func (PySem.W.fnOf "unit_row" "unit_row" (defArgs (top 14)) (defBody (top 14)) (defScope (top 14)) .none kV_unit_row dc_unit_row pm_unit_row an_unit_row cd_unit_row ct_unit_row), sl_unit_row⟩)
    (c_unit_row : PySem.W.codeIn K cd_unit_row "unit_row" = true) (k_unit_row : PySem.W.keepIn K (.ref a_unit_row) = true)
    (n_unit_table : PySem.W.nsIn K mainGlobals "unit_table" = some (some (.ref a_unit_table)))
    (l_unit_table : K.lookup a_unit_table = some ⟨oc_unit_table, od_unit_table, .func (PySem.W.fnOf "unit_table" "unit_table" (defArgs (top 20)) (defBody (top 20)) (defScope (top 20)) .none kV_unit_table dc_unit_table pm_unit_table an_unit_table cd_unit_table ct_unit_table), sl_unit_table⟩)
    (c_unit_table : PySem.W.codeIn K cd_unit_table "unit_table" = true) (k_unit_table : PySem.W.keepIn K (.ref a_unit_table) = true)
    (l_Tally__table : K.lookup a_Tally__table = some ⟨oc_Tally__table, od_Tally__table, .func (PySem.W.fnOf "table" "Tally.table" (defArgs (inClass (top 41) 7)) (defBody (inClass (top 41) 7)) (defScope (inClass (top 41) 7)) .none kV_Tally__table dc_Tally__table pm_Tally__table an_Tally__table cd_Tally__table ct_Tally__table), sl_Tally__table⟩)
    (c_Tally__table : PySem.W.codeIn K cd_Tally__table "Tally.table" = true) (k_Tally__table : PySem.W.keepIn K (.ref a_Tally__table) = true)
    (l_Piece____init__ : K.lookup a_Piece____init__ = some ⟨oc_Piece____init__, od_Piece____init__, .func (PySem.W.fnOf "__init__" "Piece.__init__" (defArgs (inClass (top 18) 0)) (defBody (inClass (top 18) 0)) (defScope (inClass (top 18) 0)) .none kV_Piece____init__ dc_Piece____init__ pm_Piece____init__ an_Piece____init__ cd_Piece____init__ ct_Piece____init__), sl_Piece____init__⟩)
    (c_Piece____init__ : PySem.W.codeIn K cd_Piece____init__ "Piece.__init__" = true) (k_Piece____init__ : PySem.W.keepIn K (.ref a_Piece____init__) = true)
    (l_Piece__joined : K.lookup a_Piece__joined = some ⟨oc_Piece__joined, od_Piece__joined, .func (PySem.W.fnOf "joined" "Piece.joined" (defArgs (inClass (top 18) 3)) (defBody (inClass (top 18) 3)) (defScope (inClass (top 18) 3)) .none kV_Piece__joined dc_Piece__joined pm_Piece__joined an_Piece__joined cd_Piece__joined ct_Piece__joined), sl_Piece__joined⟩)
    (c_Piece__joined : PySem.W.codeIn K cd_Piece__joined "Piece.joined" = true) (k_Piece__joined : PySem.W.keepIn K (.ref a_Piece__joined) = true)
    (n_is_ascending : PySem.W.nsIn K mainGlobals "is_ascending" = some (some (.ref a_is_ascending)))
    (l_is_ascending : K.lookup a_is_ascending = some ⟨oc_is_ascending, od_is_ascending, .func (PySem.W.fnOf "is_ascending" "is_ascending" (defArgs (top 23)) (defBody (top 23)) (defScope (top 23)) .none kV_is_ascending dc_is_ascending pm_is_ascending an_is_ascending cd_is_ascending ct_is_ascending), sl_is_ascending⟩)
    (c_is_ascending : PySem.W.codeIn K cd_is_ascending "is_ascending" = true) (k_is_ascending : PySem.W.keepIn K (.ref a_is_ascending) = true)
    (n_are_digits : PySem.W.nsIn K mainGlobals "are_digits" = some (some (.ref a_are_digits)))
    (l_are_digits : K.lookup a_are_digits = some ⟨oc_are_digits, od_are_digits, .func (PySem.W.fnOf "are_digits" "are_digits" (defArgs (top 24)) (defBody (top 24)) (defScope (top 24)) .none kV_are_digits dc_are_digits pm_are_digits an_are_digits cd_are_digits ct_are_digits), sl_are_digits⟩)
    (c_are_digits : PySem.W.codeIn K cd_are_digits "are_digits" = true) (k_are_digits : PySem.W.keepIn K (.ref a_are_digits) = true)
    (n_is_whole : PySem.W.nsIn K mainGlobals "is_whole" = some (some (.ref a_is_whole)))
    (l_is_whole : K.lookup a_is_whole = some ⟨oc_is_whole, od_is_whole, .func (PySem.W.fnOf "is_whole" "is_whole" (defArgs (top 8)) (defBody (top 8)) (defScope (top 8)) .none kV_is_whole dc_is_whole pm_is_whole an_is_whole cd_is_whole ct_is_whole), sl_is_whole⟩)
    (c_is_whole : PySem.W.codeIn K cd_is_whole "is_whole" = true) (k_is_whole : PySem.W.keepIn K (.ref a_is_whole) = true)
    (n_is_row : PySem.W.nsIn K mainGlobals "is_row" = some (some (.ref a_is_row)))
    (l_is_row : K.lookup a_is_row = some ⟨oc_is_row, od_is_row, .func (PySem.W.fnOf "is_row" "is_row" (defArgs (top 9)) (defBody (top 9)) (defScope (top 9)) .none kV_is_row dc_is_row pm_is_row an_is_row cd_is_row ct_is_row), sl_is_row⟩)
    (c_is_row : PySem.W.codeIn K cd_is_row "is_row" = true) (k_is_row : PySem.W.keepIn K (.ref a_is_row) = true)
    (n_is_row_of : PySem.W.nsIn K mainGlobals "is_row_of" = some (some (.ref a_is_row_of)))
    (l_is_row_of : K.lookup a_is_row_of = some ⟨oc_is_row_of, od_is_row_of, .func (PySem.W.fnOf "is_row_of" "is_row_of" (defArgs (top 10)) (defBody (top 10)) (defScope (top 10)) .none kV_is_row_of dc_is_row_of pm_is_row_of an_is_row_of cd_is_row_of ct_is_row_of), sl_is_row_of⟩)
    (c_is_row_of : PySem.W.codeIn K cd_is_row_of "is_row_of" = true) (k_is_row_of : PySem.W.keepIn K (.ref a_is_row_of) = true)
    (n_are_rows : PySem.W.nsIn K mainGlobals "are_rows" = some (some (.ref a_are_rows)))
    (l_are_rows : K.lookup a_are_rows = some ⟨oc_are_rows, od_are_rows, .func (PySem.W.fnOf "are_rows" "are_rows" (defArgs (top 11)) (defBody (top 11)) (defScope (top 11)) .none kV_are_rows dc_are_rows pm_are_rows an_are_rows cd_are_rows ct_are_rows), sl_are_rows⟩)
    (c_are_rows : PySem.W.codeIn K cd_are_rows "are_rows" = true) (k_are_rows : PySem.W.keepIn K (.ref a_are_rows) = true)
    (n_is_table : PySem.W.nsIn K mainGlobals "is_table" = some (some (.ref a_is_table)))
    (l_is_table : K.lookup a_is_table = some ⟨oc_is_table, od_is_table, .func (PySem.W.fnOf "is_table" "is_table" (defArgs (top 12)) (defBody (top 12)) (defScope (top 12)) .none kV_is_table dc_is_table pm_is_table an_is_table cd_is_table ct_is_table), sl_is_table⟩)
    (c_is_table : PySem.W.codeIn K cd_is_table "is_table" = true) (k_is_table : PySem.W.keepIn K (.ref a_is_table) = true)
    (n_are_tables : PySem.W.nsIn K mainGlobals "are_tables" = some (some (.ref a_are_tables)))
    (l_are_tables : K.lookup a_are_tables = some ⟨oc_are_tables, od_are_tables, .func (PySem.W.fnOf "are_tables" "are_tables" (defArgs (top 42)) (defBody (top 42)) (defScope (top 42)) .none kV_are_tables dc_are_tables pm_are_tables an_are_tables cd_are_tables ct_are_tables), sl_are_tables⟩)
    (c_are_tables : PySem.W.codeIn K cd_are_tables "are_tables" = true) (k_are_tables : PySem.W.keepIn K (.ref a_are_tables) = true)
    (l_Tally____init__ : K.lookup a_Tally____init__ = some ⟨oc_Tally____init__, od_Tally____init__, .func (PySem.W.fnOf "__init__" "Tally.__init__" (defArgs (inClass (top 41) 0)) (defBody (inClass (top 41) 0)) (defScope (inClass (top 41) 0)) .none kV_Tally____init__ dc_Tally____init__ pm_Tally____init__ an_Tally____init__ cd_Tally____init__ ct_Tally____init__), sl_Tally____init__⟩)
    (c_Tally____init__ : PySem.W.codeIn K cd_Tally____init__ "Tally.__init__" = true) (k_Tally____init__ : PySem.W.keepIn K (.ref a_Tally____init__) = true)
    (n__law_draw : PySem.W.nsIn K mainGlobals "_law_draw" = some (some (.ref a__law_draw)))
    (l__law_draw : K.lookup a__law_draw = some ⟨oc__law_draw, od__law_draw, .func (PySem.W.fnOf "_law_draw" "_law_draw" (defArgs (top 51)) (defBody (top 51)) (defScope (top 51)) .none kV__law_draw dc__law_draw pm__law_draw an__law_draw cd__law_draw ct__law_draw), sl__law_draw⟩)
    (c__law_draw : PySem.W.codeIn K cd__law_draw "_law_draw" = true) (k__law_draw : PySem.W.keepIn K (.ref a__law_draw) = true)
    (n__law_bracketed : PySem.W.nsIn K mainGlobals "_law_bracketed" = some (some (.ref a__law_bracketed)))
    (l__law_bracketed : K.lookup a__law_bracketed = some ⟨oc__law_bracketed, od__law_bracketed, .func (PySem.W.fnOf "_law_bracketed" "_law_bracketed" (defArgs (top 61)) (defBody (top 61)) (defScope (top 61)) .none kV__law_bracketed dc__law_bracketed pm__law_bracketed an__law_bracketed cd__law_bracketed ct__law_bracketed), sl__law_bracketed⟩)
    (c__law_bracketed : PySem.W.codeIn K cd__law_bracketed "_law_bracketed" = true) (k__law_bracketed : PySem.W.keepIn K (.ref a__law_bracketed) = true)
    (n__law_code : PySem.W.nsIn K mainGlobals "_law_code" = some (some (.ref a__law_code)))
    (l__law_code : K.lookup a__law_code = some ⟨oc__law_code, od__law_code, .func (PySem.W.fnOf "_law_code" "_law_code" (defArgs (top 55)) (defBody (top 55)) (defScope (top 55)) .none kV__law_code dc__law_code pm__law_code an__law_code cd__law_code ct__law_code), sl__law_code⟩)
    (c__law_code : PySem.W.codeIn K cd__law_code "_law_code" = true) (k__law_code : PySem.W.keepIn K (.ref a__law_code) = true)
    (n__law_deck : PySem.W.nsIn K mainGlobals "_law_deck" = some (some (.ref a__law_deck)))
    (l__law_deck : K.lookup a__law_deck = some ⟨oc__law_deck, od__law_deck, .func (PySem.W.fnOf "_law_deck" "_law_deck" (defArgs (top 50)) (defBody (top 50)) (defScope (top 50)) .none kV__law_deck dc__law_deck pm__law_deck an__law_deck cd__law_deck ct__law_deck), sl__law_deck⟩)
    (c__law_deck : PySem.W.codeIn K cd__law_deck "_law_deck" = true) (k__law_deck : PySem.W.keepIn K (.ref a__law_deck) = true)
    (l_Piece____len__ : K.lookup a_Piece____len__ = some ⟨oc_Piece____len__, od_Piece____len__, .func (PySem.W.fnOf "__len__" "Piece.__len__" (defArgs (inClass (top 18) 1)) (defBody (inClass (top 18) 1)) (defScope (inClass (top 18) 1)) .none kV_Piece____len__ dc_Piece____len__ pm_Piece____len__ an_Piece____len__ cd_Piece____len__ ct_Piece____len__), sl_Piece____len__⟩)
    (c_Piece____len__ : PySem.W.codeIn K cd_Piece____len__ "Piece.__len__" = true) (k_Piece____len__ : PySem.W.keepIn K (.ref a_Piece____len__) = true)
    (l_Piece__led : K.lookup a_Piece__led = some ⟨oc_Piece__led, od_Piece__led, .func (PySem.W.fnOf "led" "Piece.led" (defArgs (inClass (top 18) 4)) (defBody (inClass (top 18) 4)) (defScope (inClass (top 18) 4)) .none kV_Piece__led dc_Piece__led pm_Piece__led an_Piece__led cd_Piece__led ct_Piece__led), sl_Piece__led⟩)
    (c_Piece__led : PySem.W.codeIn K cd_Piece__led "Piece.led" = true) (k_Piece__led : PySem.W.keepIn K (.ref a_Piece__led) = true)
    (n_product_of : PySem.W.nsIn K mainGlobals "product_of" = some (some (.ref a_product_of)))
    (l_product_of : K.lookup a_product_of = some ⟨oc_product_of, od_product_of, .func (PySem.W.fnOf "product_of" "product_of" (defArgs (top 15)) (defBody (top 15)) (defScope (top 15)) .none kV_product_of dc_product_of pm_product_of an_product_of cd_product_of ct_product_of), sl_product_of⟩)
    (c_product_of : PySem.W.codeIn K cd_product_of "product_of" = true) (k_product_of : PySem.W.keepIn K (.ref a_product_of) = true)
    (l_Piece__worth_now : K.lookup a_Piece__worth_now = some ⟨oc_Piece__worth_now, od_Piece__worth_now, .func (PySem.W.fnOf "worth_now" "Piece.worth_now" (defArgs (inClass (top 18) 5)) (defBody (inClass (top 18) 5)) (defScope (inClass (top 18) 5)) .none kV_Piece__worth_now dc_Piece__worth_now pm_Piece__worth_now an_Piece__worth_now cd_Piece__worth_now ct_Piece__worth_now), sl_Piece__worth_now⟩)
    (c_Piece__worth_now : PySem.W.codeIn K cd_Piece__worth_now "Piece.worth_now" = true) (k_Piece__worth_now : PySem.W.keepIn K (.ref a_Piece__worth_now) = true)
    (n__law_dot : PySem.W.nsIn K mainGlobals "_law_dot" = some (some (.ref a__law_dot)))
    (l__law_dot : K.lookup a__law_dot = some ⟨oc__law_dot, od__law_dot, .func (PySem.W.fnOf "_law_dot" "_law_dot" (defArgs (top 57)) (defBody (top 57)) (defScope (top 57)) .none kV__law_dot dc__law_dot pm__law_dot an__law_dot cd__law_dot ct__law_dot), sl__law_dot⟩)
    (c__law_dot : PySem.W.codeIn K cd__law_dot "_law_dot" = true) (k__law_dot : PySem.W.keepIn K (.ref a__law_dot) = true)
    (n__law_led : PySem.W.nsIn K mainGlobals "_law_led" = some (some (.ref a__law_led)))
    (l__law_led : K.lookup a__law_led = some ⟨oc__law_led, od__law_led, .func (PySem.W.fnOf "_law_led" "_law_led" (defArgs (top 56)) (defBody (top 56)) (defScope (top 56)) .none kV__law_led dc__law_led pm__law_led an__law_led cd__law_led ct__law_led), sl__law_led⟩)
    (c__law_led : PySem.W.codeIn K cd__law_led "_law_led" = true) (k__law_led : PySem.W.keepIn K (.ref a__law_led) = true)
    (n__law_lot_of : PySem.W.nsIn K mainGlobals "_law_lot_of" = some (some (.ref a__law_lot_of)))
    (l__law_lot_of : K.lookup a__law_lot_of = some ⟨oc__law_lot_of, od__law_lot_of, .func (PySem.W.fnOf "_law_lot_of" "_law_lot_of" (defArgs (top 60)) (defBody (top 60)) (defScope (top 60)) .none kV__law_lot_of dc__law_lot_of pm__law_lot_of an__law_lot_of cd__law_lot_of ct__law_lot_of), sl__law_lot_of⟩)
    (c__law_lot_of : PySem.W.codeIn K cd__law_lot_of "_law_lot_of" = true) (k__law_lot_of : PySem.W.keepIn K (.ref a__law_lot_of) = true)
    (n__law_pick : PySem.W.nsIn K mainGlobals "_law_pick" = some (some (.ref a__law_pick)))
    (l__law_pick : K.lookup a__law_pick = some ⟨oc__law_pick, od__law_pick, .func (PySem.W.fnOf "_law_pick" "_law_pick" (defArgs (top 52)) (defBody (top 52)) (defScope (top 52)) .none kV__law_pick dc__law_pick pm__law_pick an__law_pick cd__law_pick ct__law_pick), sl__law_pick⟩)
    (c__law_pick : PySem.W.codeIn K cd__law_pick "_law_pick" = true) (k__law_pick : PySem.W.keepIn K (.ref a__law_pick) = true)
    (n__law_is_piece : PySem.W.nsIn K mainGlobals "_law_is_piece" = some (some (.ref a__law_is_piece)))
    (l__law_is_piece : K.lookup a__law_is_piece = some ⟨oc__law_is_piece, od__law_is_piece, .func (PySem.W.fnOf "_law_is_piece" "_law_is_piece" (defArgs (top 62)) (defBody (top 62)) (defScope (top 62)) .none kV__law_is_piece dc__law_is_piece pm__law_is_piece an__law_is_piece cd__law_is_piece ct__law_is_piece), sl__law_is_piece⟩)
    (c__law_is_piece : PySem.W.codeIn K cd__law_is_piece "_law_is_piece" = true) (k__law_is_piece : PySem.W.keepIn K (.ref a__law_is_piece) = true)
    (n__law_odd : PySem.W.nsIn K mainGlobals "_law_odd" = some (some (.ref a__law_odd)))
    (l__law_odd : K.lookup a__law_odd = some ⟨oc__law_odd, od__law_odd, .func (PySem.W.fnOf "_law_odd" "_law_odd" (defArgs (top 59)) (defBody (top 59)) (defScope (top 59)) .none kV__law_odd dc__law_odd pm__law_odd an__law_odd cd__law_odd ct__law_odd), sl__law_odd⟩)
    (c__law_odd : PySem.W.codeIn K cd__law_odd "_law_odd" = true) (k__law_odd : PySem.W.keepIn K (.ref a__law_odd) = true)
    (n__law_page : PySem.W.nsIn K mainGlobals "_law_page" = some (some (.ref a__law_page)))
    (l__law_page : K.lookup a__law_page = some ⟨oc__law_page, od__law_page, .func (PySem.W.fnOf "_law_page" "_law_page" (defArgs (top 58)) (defBody (top 58)) (defScope (top 58)) .none kV__law_page dc__law_page pm__law_page an__law_page cd__law_page ct__law_page), sl__law_page⟩)
    (c__law_page : PySem.W.codeIn K cd__law_page "_law_page" = true) (k__law_page : PySem.W.keepIn K (.ref a__law_page) = true)
    (n__law_refused : PySem.W.nsIn K mainGlobals "_law_refused" = some (some (.ref a__law_refused)))
    (l__law_refused : K.lookup a__law_refused = some ⟨oc__law_refused, od__law_refused, .func (PySem.W.fnOf "_law_refused" "_law_refused" (defArgs (top 63)) (defBody (top 63)) (defScope (top 63)) .none kV__law_refused dc__law_refused pm__law_refused an__law_refused cd__law_refused ct__law_refused), sl__law_refused⟩)
    (c__law_refused : PySem.W.codeIn K cd__law_refused "_law_refused" = true) (k__law_refused : PySem.W.keepIn K (.ref a__law_refused) = true)
    (n__law_unlike : PySem.W.nsIn K mainGlobals "_law_unlike" = some (some (.ref a__law_unlike)))
    (l__law_unlike : K.lookup a__law_unlike = some ⟨oc__law_unlike, od__law_unlike, .func (PySem.W.fnOf "_law_unlike" "_law_unlike" (defArgs (top 65)) (defBody (top 65)) (defScope (top 65)) .none kV__law_unlike dc__law_unlike pm__law_unlike an__law_unlike cd__law_unlike ct__law_unlike), sl__law_unlike⟩)
    (c__law_unlike : PySem.W.codeIn K cd__law_unlike "_law_unlike" = true) (k__law_unlike : PySem.W.keepIn K (.ref a__law_unlike) = true)
    (n__law_wider : PySem.W.nsIn K mainGlobals "_law_wider" = some (some (.ref a__law_wider)))
    (l__law_wider : K.lookup a__law_wider = some ⟨oc__law_wider, od__law_wider, .func (PySem.W.fnOf "_law_wider" "_law_wider" (defArgs (top 64)) (defBody (top 64)) (defScope (top 64)) .none kV__law_wider dc__law_wider pm__law_wider an__law_wider cd__law_wider ct__law_wider), sl__law_wider⟩)
    (c__law_wider : PySem.W.codeIn K cd__law_wider "_law_wider" = true) (k__law_wider : PySem.W.keepIn K (.ref a__law_wider) = true)
    (n__law_line : PySem.W.nsIn K mainGlobals "_law_line" = some (some (.ref a__law_line)))
    (l__law_line : K.lookup a__law_line = some ⟨oc__law_line, od__law_line, .func (PySem.W.fnOf "_law_line" "_law_line" (defArgs (top 53)) (defBody (top 53)) (defScope (top 53)) .none kV__law_line dc__law_line pm__law_line an__law_line cd__law_line ct__law_line), sl__law_line⟩)
    (c__law_line : PySem.W.codeIn K cd__law_line "_law_line" = true) (k__law_line : PySem.W.keepIn K (.ref a__law_line) = true)
    (n__law_world : PySem.W.nsIn K mainGlobals "_law_world" = some (some (.ref a__law_world)))
    (l__law_world : K.lookup a__law_world = some ⟨oc__law_world, od__law_world, .func (PySem.W.fnOf "_law_world" "_law_world" (defArgs (top 54)) (defBody (top 54)) (defScope (top 54)) .none kV__law_world dc__law_world pm__law_world an__law_world cd__law_world ct__law_world), sl__law_world⟩)
    (c__law_world : PySem.W.codeIn K cd__law_world "_law_world" = true) (k__law_world : PySem.W.keepIn K (.ref a__law_world) = true)
    (n_law : PySem.W.nsIn K mainGlobals "law" = some (some (.ref a_law)))
    (l_law : K.lookup a_law = some ⟨oc_law, od_law, .func (PySem.W.fnOf "law" "law" (defArgs (top 66)) (defBody (top 66)) (defScope (top 66)) .none kV_law dc_law pm_law an_law cd_law ct_law), sl_law⟩)
    (c_law : PySem.W.codeIn K cd_law "law" = true) (k_law : PySem.W.keepIn K (.ref a_law) = true)
    (z_all : PySem.W.nsIn K mainGlobals "all" = some none)
    (z_bool : PySem.W.nsIn K mainGlobals "bool" = some none)
    (z_int : PySem.W.nsIn K mainGlobals "int" = some none)
    (z_isinstance : PySem.W.nsIn K mainGlobals "isinstance" = some none)
    (z_len : PySem.W.nsIn K mainGlobals "len" = some none)
    (z_list : PySem.W.nsIn K mainGlobals "list" = some none)
    (z_min : PySem.W.nsIn K mainGlobals "min" = some none)
    (z_range : PySem.W.nsIn K mainGlobals "range" = some none)
    (z_repr : PySem.W.nsIn K mainGlobals "repr" = some none)
    (z_str : PySem.W.nsIn K mainGlobals "str" = some none)
    (z_sum : PySem.W.nsIn K mainGlobals "sum" = some none)
    (z_tuple : PySem.W.nsIn K mainGlobals "tuple" = some none)
    (z_zip : PySem.W.nsIn K mainGlobals "zip" = some none)
    : ∃ fd : FuncData, (∀ (z : Shared) (v : Value), BindsTo z fd ⟨[v], []⟩ [("_law_script", v)]) ∧ ∀ bs : Heap, K.In bs → bs.Ns mainGlobals mg → FnG P w K mg bs CX0 20 fa fd ["_law_script"] (spP K 1 f_law) := by
  have e := hfa.symm.trans (PySem.W.mg_of X G n_law)
  cases e
  have T : Txt mg := ⟨PySem.W.mg_none_of X G z_all, PySem.W.mg_none_of X G z_bool, PySem.W.mg_none_of X G z_int, PySem.W.mg_none_of X G z_isinstance, PySem.W.mg_none_of X G z_len, PySem.W.mg_none_of X G z_list, PySem.W.mg_none_of X G z_min, PySem.W.mg_none_of X G z_range, PySem.W.mg_none_of X G z_repr, PySem.W.mg_none_of X G z_str, PySem.W.mg_none_of X G z_sum, PySem.W.mg_none_of X G z_tuple, PySem.W.mg_none_of X G z_zip⟩
  have Cl_Piece : Cls K C_Piece := ⟨pg_Piece, hd_Piece, po_Piece, sa_Piece⟩
  have Cl_Tally : Cls K C_Tally := ⟨pg_Tally, hd_Tally, po_Tally, sa_Tally⟩
  have TC : TCs K mg C_BadTicket C_OtherTally C_Piece C_Tally C_TallyError fI_BadTicket := ⟨⟨n_Tally, ap_Piece_Tally⟩, ⟨n_Piece, ap_Tally_Piece⟩, PySem.W.mg_of X G n_BadTicket, PySem.W.mg_of X G n_OtherTally, PySem.W.mg_of X G n_Piece, PySem.W.mg_of X G n_Tally, PySem.W.mg_of X G n_TallyError, ⟨n_Piece, Cl_Piece, cl_Piece, ocg, oct, mr_Piece, k1_Piece, k2_Piece, k3_Piece, k4_Piece, k5_Piece, k6_Piece, k7_Piece⟩, ⟨n_Tally, Cl_Tally, cl_Tally, ocg, oct, mr_Tally, k1_Tally, k2_Tally, k3_Tally, k4_Tally, k5_Tally, k6_Tally, k7_Tally⟩, ⟨n_BadTicket, ga_BadTicket, gg_BadTicket, ex_BadTicket, hd_BadTicket, cl_BadTicket, ocg, oct, mr_BadTicket⟩, ⟨n_OtherTally, ga_OtherTally, gg_OtherTally, ex_OtherTally, hd_OtherTally, cl_OtherTally, ocg, oct, mr_OtherTally⟩, ki_BadTicket_TallyError, ki_OtherTally_TallyError, ki_Piece_Tally, ki_Tally_Piece, Cl_Piece, Cl_Tally, n_BadTicket, n_OtherTally, n_Piece, n_Tally, na_Piece_table_now, na_Piece_tally, na_Piece_ticket, na_Tally_digits, na_Tally_ends, na_Tally_start, na_Tally_tables, ⟨PySem.W.mg_of X G n_BadTicket, n_BadTicket, ini_BadTicket, ov_BadTicket, hd_BadTicket, sa_BadTicket, no_BadTicket, iC_BadTicket, isF_BadTicket, kC_BadTicket, ex_BadTicket, tyC_BadTicket, ⟨_, _, _, _, _, _, _, _, _, _, _, _, _, _, _, l_xi_BadTicket, c_xi_BadTicket, fun z x v => .of_eq rfl⟩⟩, ⟨PySem.W.mg_of X G n_OtherTally, n_OtherTally, ini_OtherTally, iB_OtherTally, kC_OtherTally, ex_OtherTally, tyC_OtherTally⟩, xm_BadTicket, xm_OtherTally⟩
  have F_Tally____eq__ := fun_mk (st := (inClass (top 41) 2)) l_Tally____eq__ c_Tally____eq__ k_Tally____eq__
  have F_Piece____eq__ := fun_mk (st := (inClass (top 18) 2)) l_Piece____eq__ c_Piece____eq__ k_Piece____eq__
  have F_is_ticket := fun_mk (st := (top 25)) l_is_ticket c_is_ticket k_is_ticket
  have F_check_ticket := fun_mk (st := (top 43)) l_check_ticket c_check_ticket k_check_ticket
  have F_led_on := fun_mk (st := (top 16)) l_led_on c_led_on k_led_on
  have F_table_product := fun_mk (st := (top 21)) l_table_product c_table_product k_table_product
  have F_noughts := fun_mk (st := (top 13)) l_noughts c_noughts k_noughts
  have F_unit_row := fun_mk (st := (top 14)) l_unit_row c_unit_row k_unit_row
  have F_unit_table := fun_mk (st := (top 20)) l_unit_table c_unit_table k_unit_table
  have F_Tally__table := fun_mk (st := (inClass (top 41) 7)) l_Tally__table c_Tally__table k_Tally__table
  have F_Piece____init__ := fun_mk (st := (inClass (top 18) 0)) l_Piece____init__ c_Piece____init__ k_Piece____init__
  have F_Piece__joined := fun_mk (st := (inClass (top 18) 3)) l_Piece__joined c_Piece__joined k_Piece__joined
  have F_is_ascending := fun_mk (st := (top 23)) l_is_ascending c_is_ascending k_is_ascending
  have F_are_digits := fun_mk (st := (top 24)) l_are_digits c_are_digits k_are_digits
  have F_is_whole := fun_mk (st := (top 8)) l_is_whole c_is_whole k_is_whole
  have F_is_row := fun_mk (st := (top 9)) l_is_row c_is_row k_is_row
  have F_is_row_of := fun_mk (st := (top 10)) l_is_row_of c_is_row_of k_is_row_of
  have F_are_rows := fun_mk (st := (top 11)) l_are_rows c_are_rows k_are_rows
  have F_is_table := fun_mk (st := (top 12)) l_is_table c_is_table k_is_table
  have F_are_tables := fun_mk (st := (top 42)) l_are_tables c_are_tables k_are_tables
  have F_Tally____init__ := fun_mk (st := (inClass (top 41) 0)) l_Tally____init__ c_Tally____init__ k_Tally____init__
  have F__law_draw := fun_mk (st := (top 51)) l__law_draw c__law_draw k__law_draw
  have F__law_bracketed := fun_mk (st := (top 61)) l__law_bracketed c__law_bracketed k__law_bracketed
  have F__law_code := fun_mk (st := (top 55)) l__law_code c__law_code k__law_code
  have F__law_deck := fun_mk (st := (top 50)) l__law_deck c__law_deck k__law_deck
  have F_Piece____len__ := fun_mk (st := (inClass (top 18) 1)) l_Piece____len__ c_Piece____len__ k_Piece____len__
  have F_Piece__led := fun_mk (st := (inClass (top 18) 4)) l_Piece__led c_Piece__led k_Piece__led
  have F_product_of := fun_mk (st := (top 15)) l_product_of c_product_of k_product_of
  have F_Piece__worth_now := fun_mk (st := (inClass (top 18) 5)) l_Piece__worth_now c_Piece__worth_now k_Piece__worth_now
  have F__law_dot := fun_mk (st := (top 57)) l__law_dot c__law_dot k__law_dot
  have F__law_led := fun_mk (st := (top 56)) l__law_led c__law_led k__law_led
  have F__law_lot_of := fun_mk (st := (top 60)) l__law_lot_of c__law_lot_of k__law_lot_of
  have F__law_pick := fun_mk (st := (top 52)) l__law_pick c__law_pick k__law_pick
  have F__law_is_piece := fun_mk (st := (top 62)) l__law_is_piece c__law_is_piece k__law_is_piece
  have F__law_odd := fun_mk (st := (top 59)) l__law_odd c__law_odd k__law_odd
  have F__law_page := fun_mk (st := (top 58)) l__law_page c__law_page k__law_page
  have F__law_refused := fun_mk (st := (top 63)) l__law_refused c__law_refused k__law_refused
  have F__law_unlike := fun_mk (st := (top 65)) l__law_unlike c__law_unlike k__law_unlike
  have F__law_wider := fun_mk (st := (top 64)) l__law_wider c__law_wider k__law_wider
  have F__law_line := fun_mk (st := (top 53)) l__law_line c__law_line k__law_line
  have F__law_world := fun_mk (st := (top 54)) l__law_world c__law_world k__law_world
  have F_law := fun_mk (st := (top 66)) l_law c_law k_law
  have E_Tally : EqC K "Tally" C_Tally a_Tally____eq__ := ⟨n_Tally, at_Tally____eq__, is_Tally____eq__, ne_Tally, mr_Tally⟩
  have E_Piece : EqC K "Piece" C_Piece a_Piece____eq__ := ⟨n_Piece, at_Piece____eq__, is_Piece____eq__, ne_Piece, mr_Piece⟩
  have A_is_ticket : At K mg "is_ticket" a_is_ticket := ⟨PySem.W.mg_of X G n_is_ticket, k_is_ticket⟩
  have A_check_ticket : At K mg "check_ticket" a_check_ticket := ⟨PySem.W.mg_of X G n_check_ticket, k_check_ticket⟩
  have A_led_on : At K mg "led_on" a_led_on := ⟨PySem.W.mg_of X G n_led_on, k_led_on⟩
  have A_table_product : At K mg "table_product" a_table_product := ⟨PySem.W.mg_of X G n_table_product, k_table_product⟩
  have A_noughts : At K mg "noughts" a_noughts := ⟨PySem.W.mg_of X G n_noughts, k_noughts⟩
  have A_unit_row : At K mg "unit_row" a_unit_row := ⟨PySem.W.mg_of X G n_unit_row, k_unit_row⟩
  have A_unit_table : At K mg "unit_table" a_unit_table := ⟨PySem.W.mg_of X G n_unit_table, k_unit_table⟩
  have M_Tally__table : Meth K C_Tally "table" a_Tally__table := ⟨at_Tally__table, is_Tally__table, k_Tally__table⟩
  have MK_Piece : Mk K C_Piece a_Piece____init__ := ⟨mks_Piece, at_Piece____init__, is_Piece____init__, kC_Piece⟩
  have M_Piece__joined : Meth K C_Piece "joined" a_Piece__joined := ⟨at_Piece__joined, is_Piece__joined, k_Piece__joined⟩
  have A_is_ascending : At K mg "is_ascending" a_is_ascending := ⟨PySem.W.mg_of X G n_is_ascending, k_is_ascending⟩
  have A_are_digits : At K mg "are_digits" a_are_digits := ⟨PySem.W.mg_of X G n_are_digits, k_are_digits⟩
  have A_is_whole : At K mg "is_whole" a_is_whole := ⟨PySem.W.mg_of X G n_is_whole, k_is_whole⟩
  have A_is_row : At K mg "is_row" a_is_row := ⟨PySem.W.mg_of X G n_is_row, k_is_row⟩
  have A_is_row_of : At K mg "is_row_of" a_is_row_of := ⟨PySem.W.mg_of X G n_is_row_of, k_is_row_of⟩
  have A_are_rows : At K mg "are_rows" a_are_rows := ⟨PySem.W.mg_of X G n_are_rows, k_are_rows⟩
  have A_is_table : At K mg "is_table" a_is_table := ⟨PySem.W.mg_of X G n_is_table, k_is_table⟩
  have A_are_tables : At K mg "are_tables" a_are_tables := ⟨PySem.W.mg_of X G n_are_tables, k_are_tables⟩
  have MK_Tally : Mk K C_Tally a_Tally____init__ := ⟨mks_Tally, at_Tally____init__, is_Tally____init__, kC_Tally⟩
  have A__law_draw : At K mg "_law_draw" a__law_draw := ⟨PySem.W.mg_of X G n__law_draw, k__law_draw⟩
  have A__law_bracketed : At K mg "_law_bracketed" a__law_bracketed := ⟨PySem.W.mg_of X G n__law_bracketed, k__law_bracketed⟩
  have A__law_code : At K mg "_law_code" a__law_code := ⟨PySem.W.mg_of X G n__law_code, k__law_code⟩
  have A__law_deck : At K mg "_law_deck" a__law_deck := ⟨PySem.W.mg_of X G n__law_deck, k__law_deck⟩
  have LN_Piece : LenC K "Piece" C_Piece a_Piece____len__ := ⟨n_Piece, at_Piece____len__, is_Piece____len__⟩
  have M_Piece__led : Meth K C_Piece "led" a_Piece__led := ⟨at_Piece__led, is_Piece__led, k_Piece__led⟩
  have A_product_of : At K mg "product_of" a_product_of := ⟨PySem.W.mg_of X G n_product_of, k_product_of⟩
  have PR_Piece__worth_now : PropOf K C_Piece "worth_now" p_Piece__worth_now a_Piece__worth_now := ⟨at_Piece__worth_now, pgt_Piece__worth_now, ptk_Piece__worth_now, ⟨_, prc_Piece__worth_now⟩⟩
  have A__law_dot : At K mg "_law_dot" a__law_dot := ⟨PySem.W.mg_of X G n__law_dot, k__law_dot⟩
  have A__law_led : At K mg "_law_led" a__law_led := ⟨PySem.W.mg_of X G n__law_led, k__law_led⟩
  have A__law_lot_of : At K mg "_law_lot_of" a__law_lot_of := ⟨PySem.W.mg_of X G n__law_lot_of, k__law_lot_of⟩
  have A__law_pick : At K mg "_law_pick" a__law_pick := ⟨PySem.W.mg_of X G n__law_pick, k__law_pick⟩
  have A__law_is_piece : At K mg "_law_is_piece" a__law_is_piece := ⟨PySem.W.mg_of X G n__law_is_piece, k__law_is_piece⟩
  have A__law_odd : At K mg "_law_odd" a__law_odd := ⟨PySem.W.mg_of X G n__law_odd, k__law_odd⟩
  have A__law_page : At K mg "_law_page" a__law_page := ⟨PySem.W.mg_of X G n__law_page, k__law_page⟩
  have A__law_refused : At K mg "_law_refused" a__law_refused := ⟨PySem.W.mg_of X G n__law_refused, k__law_refused⟩
  have A__law_unlike : At K mg "_law_unlike" a__law_unlike := ⟨PySem.W.mg_of X G n__law_unlike, k__law_unlike⟩
  have A__law_wider : At K mg "_law_wider" a__law_wider := ⟨PySem.W.mg_of X G n__law_wider, k__law_wider⟩
  have A__law_line : At K mg "_law_line" a__law_line := ⟨PySem.W.mg_of X G n__law_line, k__law_line⟩
  have A__law_world : At K mg "_law_world" a__law_world := ⟨PySem.W.mg_of X G n__law_world, k__law_world⟩
  refine ⟨PySem.W.fnOf "law" "law" (defArgs (top 66)) (defBody (top 66)) (defScope (top 66)) .none kV_law dc_law pm_law an_law cd_law ct_law, fun z v => .of_eq rfl, fun bs _ _ => ?_⟩
  have G_Tally____eq__ := ok_Tally____eq__ (P := P) (w := w) (base := bs) F_Tally____eq__ T TC
  have G_Piece____eq__ := ok_Piece____eq__ (P := P) (w := w) (base := bs) F_Piece____eq__ T TC E_Tally F_Tally____eq__ G_Tally____eq__
  have G_is_ticket := ok_is_ticket (P := P) (w := w) (base := bs) F_is_ticket T TC
  have G_check_ticket := ok_check_ticket (P := P) (w := w) (base := bs) F_check_ticket T TC A_is_ticket F_is_ticket G_is_ticket
  have GX_check_ticket := okx_check_ticket (P := P) (w := w) (base := bs) F_check_ticket T TC A_is_ticket F_is_ticket G_is_ticket
  have G_led_on := ok_led_on (P := P) (w := w) (base := bs) F_led_on T TC
  have G_table_product := ok_table_product (P := P) (w := w) (base := bs) F_table_product T TC A_led_on F_led_on G_led_on
  have G_noughts := ok_noughts (P := P) (w := w) (base := bs) F_noughts T TC
  have G_unit_row := ok_unit_row (P := P) (w := w) (base := bs) F_unit_row T TC A_noughts F_noughts G_noughts
  have G_unit_table := ok_unit_table (P := P) (w := w) (base := bs) F_unit_table T TC A_unit_row F_unit_row G_unit_row
  have G_Tally__table := ok_Tally__table (P := P) (w := w) (base := bs) F_Tally__table T TC A_check_ticket F_check_ticket G_check_ticket GX_check_ticket A_table_product F_table_product G_table_product A_unit_table F_unit_table G_unit_table
  have GX_Tally__table := okx_Tally__table (P := P) (w := w) (base := bs) F_Tally__table T TC A_check_ticket F_check_ticket G_check_ticket GX_check_ticket A_table_product F_table_product G_table_product A_unit_table F_unit_table G_unit_table
  have G_Piece____init__ := ok_Piece____init__ (P := P) (w := w) (base := bs) F_Piece____init__ T TC M_Tally__table F_Tally__table G_Tally__table GX_Tally__table
  have GX_Piece____init__ := okx_Piece____init__ (P := P) (w := w) (base := bs) F_Piece____init__ T TC M_Tally__table F_Tally__table G_Tally__table GX_Tally__table
  have G_Piece__joined := ok_Piece__joined (P := P) (w := w) (base := bs) F_Piece__joined T TC MK_Piece F_Piece____init__ G_Piece____init__ GX_Piece____init__ E_Tally F_Tally____eq__ G_Tally____eq__
  have GX_Piece__joined := okx_Piece__joined (P := P) (w := w) (base := bs) F_Piece__joined T TC MK_Piece F_Piece____init__ G_Piece____init__ GX_Piece____init__ E_Tally F_Tally____eq__ G_Tally____eq__
  have G_is_ascending := ok_is_ascending (P := P) (w := w) (base := bs) F_is_ascending T TC
  have G_are_digits := ok_are_digits (P := P) (w := w) (base := bs) F_are_digits T TC A_is_ascending F_is_ascending G_is_ascending
  have G_is_whole := ok_is_whole (P := P) (w := w) (base := bs) F_is_whole T TC
  have G_is_row := ok_is_row (P := P) (w := w) (base := bs) F_is_row T TC A_is_whole F_is_whole G_is_whole
  have G_is_row_of := ok_is_row_of (P := P) (w := w) (base := bs) F_is_row_of T TC A_is_row F_is_row G_is_row
  have G_are_rows := ok_are_rows (P := P) (w := w) (base := bs) F_are_rows T TC A_is_row_of F_is_row_of G_is_row_of
  have G_is_table := ok_is_table (P := P) (w := w) (base := bs) F_is_table T TC A_are_rows F_are_rows G_are_rows
  have G_are_tables := ok_are_tables (P := P) (w := w) (base := bs) F_are_tables T TC A_is_table F_is_table G_is_table
  have G_Tally____init__ := ok_Tally____init__ (P := P) (w := w) (base := bs) F_Tally____init__ T TC A_are_digits F_are_digits G_are_digits A_are_tables F_are_tables G_are_tables A_is_row F_is_row G_is_row A_is_row_of F_is_row_of G_is_row_of
  have G__law_draw := ok__law_draw (P := P) (w := w) (base := bs) F__law_draw T TC
  have G__law_bracketed := ok__law_bracketed (P := P) (w := w) (base := bs) F__law_bracketed T TC MK_Piece F_Piece____init__ G_Piece____init__ M_Piece__joined F_Piece__joined G_Piece__joined A__law_draw F__law_draw G__law_draw A__law_bracketed
  have G__law_code := ok__law_code (P := P) (w := w) (base := bs) F__law_code T TC MK_Tally F_Tally____init__ G_Tally____init__
  have G__law_deck := ok__law_deck (P := P) (w := w) (base := bs) F__law_deck T TC
  have G_Piece____len__ := ok_Piece____len__ (P := P) (w := w) (base := bs) F_Piece____len__ T TC
  have G_Piece__led := ok_Piece__led (P := P) (w := w) (base := bs) F_Piece__led T TC A_led_on F_led_on G_led_on
  have G_product_of := ok_product_of (P := P) (w := w) (base := bs) F_product_of T TC
  have G_Piece__worth_now := ok_Piece__worth_now (P := P) (w := w) (base := bs) F_Piece__worth_now T TC A_led_on F_led_on G_led_on A_product_of F_product_of G_product_of
  have G__law_dot := ok__law_dot (P := P) (w := w) (base := bs) F__law_dot T TC
  have G__law_led := ok__law_led (P := P) (w := w) (base := bs) F__law_led T TC
  have G__law_lot_of := ok__law_lot_of (P := P) (w := w) (base := bs) F__law_lot_of T TC A__law_led F__law_led G__law_led
  have G__law_pick := ok__law_pick (P := P) (w := w) (base := bs) F__law_pick T TC A__law_draw F__law_draw G__law_draw
  have G__law_is_piece := ok__law_is_piece (P := P) (w := w) (base := bs) F__law_is_piece T TC E_Piece F_Piece____eq__ G_Piece____eq__ MK_Piece F_Piece____init__ G_Piece____init__ LN_Piece F_Piece____len__ G_Piece____len__ M_Piece__led F_Piece__led G_Piece__led PR_Piece__worth_now F_Piece__worth_now G_Piece__worth_now E_Tally F_Tally____eq__ G_Tally____eq__ A__law_dot F__law_dot G__law_dot A__law_led F__law_led G__law_led A__law_lot_of F__law_lot_of G__law_lot_of A__law_pick F__law_pick G__law_pick
  have G__law_odd := ok__law_odd (P := P) (w := w) (base := bs) F__law_odd T TC A__law_pick F__law_pick G__law_pick
  have G__law_page := ok__law_page (P := P) (w := w) (base := bs) F__law_page T TC A__law_draw F__law_draw G__law_draw A__law_pick F__law_pick G__law_pick
  have G__law_refused := ok__law_refused (P := P) (w := w) (base := bs) F__law_refused T TC MK_Piece F_Piece____init__ G_Piece____init__ GX_Piece____init__
  have G__law_unlike := ok__law_unlike (P := P) (w := w) (base := bs) F__law_unlike T TC M_Piece__joined F_Piece__joined G_Piece__joined GX_Piece__joined
  have G__law_wider := ok__law_wider (P := P) (w := w) (base := bs) F__law_wider T TC
  have G__law_line := ok__law_line (P := P) (w := w) (base := bs) F__law_line T TC A__law_pick F__law_pick G__law_pick
  have G__law_world := ok__law_world (P := P) (w := w) (base := bs) F__law_world T TC A__law_draw F__law_draw G__law_draw A__law_line F__law_line G__law_line A__law_pick F__law_pick G__law_pick
  exact ok_law F_law T TC E_Piece F_Piece____eq__ G_Piece____eq__ MK_Piece F_Piece____init__ G_Piece____init__ M_Piece__joined F_Piece__joined G_Piece__joined MK_Tally F_Tally____init__ G_Tally____init__ A__law_bracketed F__law_bracketed G__law_bracketed A__law_code F__law_code G__law_code A__law_deck F__law_deck G__law_deck A__law_draw F__law_draw G__law_draw A__law_is_piece F__law_is_piece G__law_is_piece A__law_odd F__law_odd G__law_odd A__law_page F__law_page G__law_page A__law_refused F__law_refused G__law_refused A__law_unlike F__law_unlike G__law_unlike A__law_wider F__law_wider G__law_wider A__law_world F__law_world G__law_world
end
end Lk07

namespace Lk07
open PySem L2 TL

/-! ### rows and tables of whole numbers -/
def led (v : List Int) (M : List (List Int)) : List Int := (List.range v.length).map fun j => ((List.range v.length).map fun k => v.getD k 0 * (M.getD k []).getD j 0).sum
structure Sq (n : Nat) (M : List (List Int)) : Prop where
  len : M.length = n
  row : ∀ r ∈ M, r.length = n
def Bv (b : Nat) (v : List Int) : Prop := ∀ x ∈ v, x.natAbs ≤ b
theorem led_len (v : List Int) (M : List (List Int)) : (led v M).length = v.length := by simp [led]
theorem getD_map_range {n : Nat} (f : Nat → Int) {k : Nat} (h : k < n) : ((List.range n).map f).getD k 0 = f k := by
  rw [List.getD_eq_getElem?_getD, List.getElem?_map, List.getElem?_range h]; rfl
theorem led_getD {v : List Int} {M : List (List Int)} {j : Nat} (h : j < v.length) : (led v M).getD j 0 = ((List.range v.length).map fun k => v.getD k 0 * (M.getD k []).getD j 0).sum := getD_map_range _ h
theorem sum_add (f g : Nat → Int) : ∀ l : List Nat, (l.map fun i => f i + g i).sum = (l.map f).sum + (l.map g).sum
  | [] => rfl
  | a :: l => by simp only [List.map_cons, List.sum_cons, sum_add f g l]; omega
theorem sum_mul (c : Int) (f : Nat → Int) : ∀ l : List Nat, (l.map fun i => c * f i).sum = c * (l.map f).sum
  | [] => by simp
  | a :: l => by simp only [List.map_cons, List.sum_cons, sum_mul c f l, Int.mul_add]
theorem sum_mulr (c : Int) (f : Nat → Int) : ∀ l : List Nat, (l.map fun i => f i * c).sum = (l.map f).sum * c
  | [] => by simp
  | a :: l => by simp only [List.map_cons, List.sum_cons, sum_mulr c f l, Int.add_mul]
theorem sum_zero : ∀ l : List Nat, (l.map fun _ => (0 : Int)).sum = 0
  | [] => rfl
  | a :: l => by simp only [List.map_cons, List.sum_cons, sum_zero l]; omega
theorem sum_comm (f : Nat → Nat → Int) (m : List Nat) : ∀ l : List Nat, (l.map fun k => (m.map fun i => f k i).sum).sum = (m.map fun i => (l.map fun k => f k i).sum).sum
  | [] => by simp only [List.map_nil, List.sum_nil]; exact (sum_zero m).symm
  | a :: l => by
    simp only [List.map_cons, List.sum_cons, sum_comm f m l]
    rw [← sum_add]
theorem map_eq_range {f g : Nat → Int} {n : Nat} (h : ∀ i, i < n → f i = g i) : (List.range n).map f = (List.range n).map g :=
  List.map_congr_left fun i hi => h i (List.mem_range.mp hi)
theorem getD_map_led {M T : List (List Int)} {k : Nat} (h : k < M.length) : (M.map fun r => led r T).getD k [] = led (M.getD k []) T := by
  rw [List.getD_eq_getElem?_getD, List.getD_eq_getElem?_getD, List.getElem?_map, List.getElem?_eq_getElem h]; rfl
theorem Sq.getD {n : Nat} {M : List (List Int)} (s : Sq n M) {k : Nat} (h : k < n) : (M.getD k []).length = n := by
  have hk : k < M.length := by rw [s.len]; exact h
  rw [List.getD_eq_getElem?_getD, List.getElem?_eq_getElem hk]
  exact s.row _ (List.getElem_mem hk)
theorem Sq.led {n : Nat} {M T : List (List Int)} (s : Sq n M) : Sq n (M.map fun r => led r T) :=
  ⟨by rw [List.length_map]; exact s.len, fun r hr => by
    obtain ⟨q, hq, rfl⟩ := List.mem_map.mp hr
    rw [led_len]; exact s.row q hq⟩
theorem led_assoc {n : Nat} {v : List Int} {M T : List (List Int)} (hv : v.length = n) (s : Sq n M) : led v (M.map fun r => led r T) = led (led v M) T := by
  have e1 : led v (M.map fun r => led r T) = (List.range n).map fun j => ((List.range n).map fun k => v.getD k 0 * ((List.range n).map fun i => (M.getD k []).getD i 0 * (T.getD i []).getD j 0).sum).sum := by
    unfold led
    rw [hv]
    refine map_eq_range fun j hj => ?_
    congr 1
    refine map_eq_range fun k hk => ?_
    have e := getD_map_led (T := T) (show k < M.length by rw [s.len]; exact hk)
    unfold led at e
    rw [e, s.getD hk, getD_map_range _ hj]
  rw [e1]
  unfold led
  simp only [List.length_map, List.length_range]
  rw [hv]
  refine map_eq_range fun j hj => ?_
  have e2 : ∀ i, i < n → ((List.range n).map fun j => ((List.range n).map fun k => v.getD k 0 * (M.getD k []).getD j 0).sum).getD i 0 * (T.getD i []).getD j 0 = ((List.range n).map fun k => v.getD k 0 * (M.getD k []).getD i 0 * (T.getD i []).getD j 0).sum := fun i hi => by
    rw [getD_map_range _ hi, ← sum_mulr]
  rw [map_eq_range e2, ← sum_comm]
  congr 1
  refine map_eq_range fun k hk => ?_
  rw [← sum_mul]
  congr 1
  refine map_eq_range fun i hi => ?_
  rw [Int.mul_assoc]
/-- the unit rows -/
def unit (n k : Nat) : List Int := (List.range n).map fun a => if a = k then 1 else 0
def units (n : Nat) : List (List Int) := (List.range n).map (unit n)
theorem units_sq (n : Nat) : Sq n (units n) := ⟨by simp [units], fun r hr => by
  obtain ⟨k, _, rfl⟩ := List.mem_map.mp hr
  simp [unit]⟩
theorem sum_pick (f : Nat → Int) (j : Nat) : ∀ n, ((List.range n).map fun k => f k * (if j = k then 1 else 0)).sum = if j < n then f j else 0
  | 0 => by simp
  | n + 1 => by
    rw [List.range_succ, List.map_append, List.sum_append, sum_pick f j n]
    simp only [List.map_cons, List.map_nil, List.sum_cons, List.sum_nil]
    by_cases h : j = n
    · subst h; simp
    · by_cases h2 : j < n
      · rw [if_pos h2, if_neg h, if_pos (by omega)]; omega
      · rw [if_neg h2, if_neg h, if_neg (by omega)]; omega
theorem led_units {v : List Int} {n : Nat} (h : v.length = n) : led v (units n) = v := by
  unfold led
  rw [h]
  refine List.ext_getElem (by simp [h]) fun j h1 h2 => ?_
  simp only [List.length_map, List.length_range] at h1
  rw [List.getElem_map, List.getElem_range]
  have e : ((List.range n).map fun k => v.getD k 0 * ((units n).getD k []).getD j 0) = (List.range n).map fun k => v.getD k 0 * (if j = k then 1 else 0) := by
    refine map_eq_range fun k hk => ?_
    have : (units n).getD k [] = unit n k := by
      unfold units
      rw [List.getD_eq_getElem?_getD, List.getElem?_map, List.getElem?_range hk]; rfl
    rw [this]
    unfold unit
    rw [getD_map_range _ h1]
  rw [e, sum_pick, if_pos h1, List.getD_eq_getElem?_getD, List.getElem?_eq_getElem h2]; rfl
/-! ### round a page -/
def run (S : List Nat) (L : List (List (List Int))) (v : List Int) (p : List Nat) : List Int := p.foldl (fun v c => led v (L.getD (S.idxOf c) [])) v
theorem run_len (S : List Nat) (L : List (List (List Int))) : ∀ (p : List Nat) (v : List Int), (run S L v p).length = v.length
  | [], v => rfl
  | c :: p, v => by
    show (run S L (led v _) p).length = _
    rw [run_len S L p, led_len]
theorem run_app (S : List Nat) (L : List (List (List Int))) (v : List Int) (p q : List Nat) : run S L v (p ++ q) = run S L (run S L v p) q := List.foldl_append
theorem run_rows (S : List Nat) (L : List (List (List Int))) {n : Nat} : ∀ (p : List Nat) (v : List Int) (M : List (List Int)), v.length = n → Sq n M → led v (M.map fun r => run S L r p) = run S L (led v M) p
  | [], v, M, _, _ => by
    show led v (M.map fun r => r) = led v M
    rw [List.map_id']
  | c :: p, v, M, hv, s => by
    have ih := run_rows S L p v (M.map fun r => led r (L.getD (S.idxOf c) [])) hv s.led
    rw [List.map_map] at ih
    show led v (M.map ((fun r => run S L r p) ∘ fun r => led r _)) = run S L (led (led v M) _) p
    rw [ih, led_assoc hv s]
theorem run_table (S : List Nat) (L : List (List (List Int))) {n : Nat} (p : List Nat) {v : List Int} (hv : v.length = n) : led v ((units n).map fun r => run S L r p) = run S L v p := by
  rw [run_rows S L p v _ hv (units_sq n), led_units hv]
theorem table_sq (S : List Nat) (L : List (List (List Int))) (n : Nat) (p : List Nat) : Sq n ((units n).map fun r => run S L r p) :=
  ⟨by rw [List.length_map]; exact (units_sq n).len, fun r hr => by
    obtain ⟨q, hq, rfl⟩ := List.mem_map.mp hr
    rw [run_len]; exact (units_sq n).row q hq⟩
/-! ### how great they are -/
theorem sum_abs {B : Nat} : ∀ l : List Int, (∀ x ∈ l, x.natAbs ≤ B) → l.sum.natAbs ≤ l.length * B
  | [], _ => by simp
  | a :: l, h => by
    have ih := sum_abs l fun x hx => h x (List.mem_cons_of_mem _ hx)
    have := h a List.mem_cons_self
    rw [List.sum_cons, List.length_cons, Nat.succ_mul]
    omega
theorem Bv.getD {b : Nat} {v : List Int} (h : Bv b v) (k : Nat) : (v.getD k 0).natAbs ≤ b := by
  rw [List.getD_eq_getElem?_getD]
  cases e : v[k]? with
  | none => exact Nat.zero_le _
  | some x => exact h x (List.mem_of_getElem? e)
theorem led_bound {b c n : Nat} {v : List Int} {M : List (List Int)} (hv : v.length = n) (h : Bv b v) (h2 : ∀ r ∈ M, Bv c r) : Bv (n * (b * c)) (led v M) := by
  intro x hx
  obtain ⟨j, _, rfl⟩ := List.mem_map.mp hx
  refine Nat.le_trans (sum_abs (B := b * c) _ fun y hy => ?_) (by simp [hv])
  obtain ⟨k, _, rfl⟩ := List.mem_map.mp hy
  rw [Int.natAbs_mul]
  refine Nat.mul_le_mul (h.getD k) ?_
  rw [List.getD_eq_getElem?_getD (l := M)]
  cases e : M[k]? with
  | none => simp
  | some r => exact (h2 r (List.mem_of_getElem? e)).getD j
theorem Bv.mono {b c : Nat} {v : List Int} (h : Bv b v) (hb : b ≤ c) : Bv c v := fun x hx => Nat.le_trans (h x hx) hb
theorem run_bound {S : List Nat} {L : List (List (List Int))} {n : Nat} (hn : n ≤ 4) (hL : ∀ M ∈ L, ∀ r ∈ M, Bv 9 r) : ∀ (p : List Nat) (v : List Int) (b : Nat), v.length = n → Bv b v → Bv (36 ^ p.length * b) (run S L v p)
  | [], v, b, _, h => by
    show Bv (1 * b) v
    rw [Nat.one_mul]; exact h
  | c :: p, v, b, hv, h => by
    have hM : ∀ r ∈ L.getD (S.idxOf c) [], Bv 9 r := by
      rw [List.getD_eq_getElem?_getD]
      cases e : L[S.idxOf c]? with
      | none => intro r hr; cases hr
      | some M => exact hL M (List.mem_of_getElem? e)
    have h1 : Bv (36 * b) (led v (L.getD (S.idxOf c) [])) := (led_bound hv h hM).mono (by
      rw [show 36 * b = 4 * (b * 9) by omega]
      exact Nat.mul_le_mul_right _ hn)
    have ih := run_bound (S := S) hn hL p _ _ ((led_len v _).trans hv) h1
    show Bv (36 ^ (p.length + 1) * b) (run S L (led v _) p)
    rw [Nat.pow_succ, Nat.mul_assoc]
    exact ih
end Lk07

namespace Lk07
open PySem L2 TL

abbrev vD (v : List Int) : D := .tup (v.map D.int)
abbrev mD (M : List (List Int)) : D := .tup (M.map vD)
abbrev tD (L : List (List (List Int))) : D := .tup (L.map mD)
abbrev BIG : Nat := 2 ^ 400
theorem sz : (100000 : Nat) ≤ sizeLine := by decide
theorem item_T {ds : List D} {k : Nat} {d : D} (h : ds[k]? = some d) : dItemA (.tup ds) (.int (0 + (k : Int))) = some d := by
  rw [Int.zero_add]
  exact atI_nat h
theorem item_v {v : List Int} {k : Nat} (h : k < v.length) : dItemA (vD v) (.int (0 + (k : Int))) = some (.int (v.getD k 0)) :=
  item_T (by rw [List.getElem?_map, List.getElem?_eq_getElem h, List.getD_eq_getElem?_getD, List.getElem?_eq_getElem h]; rfl)
theorem item_m {M : List (List Int)} {k : Nat} (h : k < M.length) : dItemA (mD M) (.int (0 + (k : Int))) = some (vD (M.getD k [])) :=
  item_T (by rw [List.getElem?_map, List.getElem?_eq_getElem h, List.getD_eq_getElem?_getD, List.getElem?_eq_getElem h]; rfl)
theorem lgB {a : Int} (h : a.natAbs ≤ BIG) : a.natAbs.log2 < 400000 := by
  by_cases h0 : a.natAbs = 0
  · rw [h0]; decide
  · have h1 : a.natAbs < 2 ^ 401 := Nat.lt_of_le_of_lt h (Nat.pow_lt_pow_right (by decide) (by decide))
    exact Nat.lt_trans ((Nat.log2_lt h0).mpr h1) (by decide)
theorem mulB {a b : Int} (ha : a.natAbs ≤ BIG) (hb : b.natAbs ≤ BIG) : dMulA (.int a) (.int b) = some (.int (a * b)) := mul_ok (lgB ha) (lgB hb)
theorem sum_mapf {α : Type} (f : α → Int) (l : List α) : dSum [.lst (l.map fun a => .int (f a))] = some (.int (l.map f).sum) := by
  have : (l.map fun a => D.int (f a)) = (l.map f).map D.int := by rw [List.map_map]; rfl
  rw [this]
  show ((asInts ((l.map f).map D.int)).map fun bs => D.int bs.sum) = _
  rw [asInts_map]; rfl
theorem len_v {v : List Int} {n : Nat} (h : v.length = n) : dLen [vD v] = some (.int (n : Int)) := by
  show some (D.int ((v.map D.int).length : Nat)) = _
  rw [List.length_map, h]
theorem dNe_int (a b : Int) : dNe (.int a) (.int b) = some (.bl (decide (a ≠ b))) := by
  unfold dNe cmpP fNe
  simp only [D.py, Option.bind_some]
  rw [if_pos (by show 0 ≤ 64; omega)]
  simp [PyData.plain, PyData.eqv]
  by_cases h : a = b <;> simp [h]
theorem f__law_led_spec {v : List Int} {M : List (List Int)} {n : Nat} (hv : v.length = n) (s : Sq n M) (hn : n ≤ 1000) (b1 : Bv BIG v) (b2 : ∀ r ∈ M, Bv BIG r) : f__law_led [vD v, mD M] = some (vD (led v M)) := by
  have hz := sz
  have hr := range_n n (by omega)
  have inner : ∀ j, j < n → mLc (mRange (mCons (mApp dLen (mCons (mVar 0) mNil)) mNil)) (gmName 3) mYes (mBin dMulA (mBin dItemA (mVar 0) (mVar 3)) (mBin dItemA (mBin dItemA (mVar 1) (mVar 3)) (mVar 2))) [3] [.d (vD v), .d (mD M), .d (.int (0 + (j : Int))), .no]
      = some (.lst ((List.range n).map fun k => .int (v.getD k 0 * (M.getD k []).getD j 0)), [.d (vD v), .d (mD M), .d (.int (0 + (j : Int))), .no]) := fun j hj =>
    ev_lc (ρ1 := [.d (vD v), .d (mD M), .d (.int (0 + (j : Int))), .no]) (ev_range (ev_cons (ev_app (ev_cons (ev_var rfl) ev_nil) (len_v hv)) ev_nil) hr) rfl
      (lcGo_mapT (fun i : Nat => .int (0 + (i : Int))) (fun k => .int (v.getD k 0 * (M.getD k []).getD j 0)) (List.range n) fun k hk => by
        have hk := List.mem_range.mp hk
        have hb : (((M.getD k []).getD j 0 : Int)).natAbs ≤ BIG := by
          rw [List.getD_eq_getElem?_getD (l := M)]
          cases e : M[k]? with
          | none => simp
          | some r => exact (b2 r (List.mem_of_getElem? e)).getD j
        exact ⟨[.d (vD v), .d (mD M), .d (.int (0 + (j : Int))), .d (.int (0 + (k : Int)))], rfl, rfl, ev_bin (ev_bin (ev_var rfl) (ev_var rfl) (item_v (by omega))) (ev_bin (ev_bin (ev_var rfl) (ev_var rfl) (item_m (by rw [s.len]; exact hk))) (ev_var rfl) (item_v (by rw [s.getD hk]; exact hj))) (mulB (b1.getD k) hb), rfl⟩)
      (by rw [List.length_map, List.length_range]; omega)
  have outer := lcGo_mapT (f := gmName 2) (mt := mYes) (me := (mApp dSum (mCons (mLc (mRange (mCons (mApp dLen (mCons (mVar 0) mNil)) mNil)) (gmName 3) mYes (mBin dMulA (mBin dItemA (mVar 0) (mVar 3)) (mBin dItemA (mBin dItemA (mVar 1) (mVar 3)) (mVar 2))) [3]) mNil))) (vs := [2]) (ρ := [.d (vD v), .d (mD M), .no, .no]) (fun i : Nat => .int (0 + (i : Int))) (fun j => .int ((List.range n).map fun k => v.getD k 0 * (M.getD k []).getD j 0).sum) (List.range n) fun j hj =>
    ⟨[.d (vD v), .d (mD M), .d (.int (0 + (j : Int))), .no], rfl, rfl, ev_app (ev_cons (inner j (List.mem_range.mp hj)) ev_nil) (sum_mapf _ _), rfl⟩
  have e : ((List.range n).map fun j => D.int ((List.range n).map fun k => v.getD k 0 * (M.getD k []).getD j 0).sum) = (led v M).map D.int := by
    unfold led
    rw [List.map_map, hv]; rfl
  refine ev_runP (ρ := [.d (vD v), .d (mD M), .no, .no]) (ev_ret (ev_app (ds := [.lst ((led v M).map D.int)]) (ev_cons (ev_lc (ρ1 := [.d (vD v), .d (mD M), .no, .no]) (ev_range (ev_cons (ev_app (ev_cons (ev_var rfl) ev_nil) (len_v hv)) ev_nil) hr) rfl (by rw [← e]; exact outer) ?_) ev_nil) rfl))
  rw [List.length_map, led_len]; omega
theorem zip_D (v : List Int) (M : List (List Int)) : dZip [vD v, mD M] = some ((v.zip M).map fun p => .tup [.int p.1, vD p.2]) := by
  show some (List.zipWith (fun x y => D.tup [x, y]) (v.map D.int) (M.map vD)) = _
  rw [List.zipWith_map, List.zip, List.map_zipWith]
theorem zip_sum (g : Int × List Int → Int) {n : Nat} {v : List Int} {M : List (List Int)} (hv : v.length = n) (hM : M.length = n) : (v.zip M).map g = (List.range n).map fun k => g (v.getD k 0, M.getD k []) := by
  refine List.ext_getElem (by simp [hv, hM]) fun i h1 h2 => ?_
  have a : i < v.length := by simp at h1; omega
  have b : i < M.length := by simp at h1; omega
  simp [List.getElem_zip, a, b]
theorem filter_sum (g : Int × List Int → Int) (hg : ∀ p, p.1 = 0 → g p = 0) : ∀ l : List (Int × List Int), ((l.filter fun p => decide (p.1 ≠ 0)).map g).sum = (l.map g).sum
  | [] => rfl
  | p :: l => by
    have ih := filter_sum g hg l
    rw [List.filter_cons, List.map_cons, List.sum_cons]
    by_cases h : p.1 = 0
    · rw [if_neg (by simp [h]), ih, hg p h]; omega
    · rw [if_pos (by simp [h]), List.map_cons, List.sum_cons, ih]
theorem f_led_on_spec {v : List Int} {M : List (List Int)} {n : Nat} (hv : v.length = n) (s : Sq n M) (hn : n ≤ 1000) (b1 : Bv BIG v) (b2 : ∀ r ∈ M, Bv BIG r) : f_led_on [vD v, mD M] = some (vD (led v M)) := by
  have hz := sz
  have hr := range_n n (by omega)
  let Z := (v.zip M).filter fun p => decide (p.1 ≠ 0)
  have hZl : Z.length ≤ n := Nat.le_trans (List.length_filter_le _ _) (by rw [List.length_zip]; omega)
  let emb : Int × List Int → D := fun p => .tup [.int p.1, vD p.2]
  have parts := lcGo_map (f := gmTup (gmCons (gmName 3) (gmCons (gmName 4) gmNil)) 2) (mt := mTest (mBin dNe (mVar 3) (mC (.int 0)))) (me := (mApp dTup (mCons (mVar 3) (mCons (mVar 4) mNil)))) (vs := [3, 4]) (ρ := [.d (vD v), .d (mD M), .no, .no, .no, .no]) emb (fun p => decide (p.1 ≠ 0)) emb (v.zip M) fun p _ =>
    ⟨[.d (vD v), .d (mD M), .no, .d (.int p.1), .d (vD p.2), .no], rfl, ev_test (ev_bin (ev_var rfl) ev_c (dNe_int _ _)), fun _ => ev_app (ev_cons (ev_var rfl) (ev_cons (ev_var rfl) ev_nil)) rfl, rfl⟩
  have g1 : (mAsg (mLc (mZip (mCons (mVar 0) (mCons (mVar 1) mNil))) (gmTup (gmCons (gmName 3) (gmCons (gmName 4) gmNil)) 2) (mTest (mBin dNe (mVar 3) (mC (.int 0)))) (mApp dTup (mCons (mVar 3) (mCons (mVar 4) mNil))) [3, 4]) (gmName 2)) [.d (vD v), .d (mD M), .no, .no, .no, .no] = some (.nx [.d (vD v), .d (mD M), .d (.lst (Z.map emb)), .no, .no, .no]) := by
    have a : mZip (mCons (mVar 0) (mCons (mVar 1) mNil)) [.d (vD v), .d (mD M), .no, .no, .no, .no] = some ((v.zip M).map emb, [.d (vD v), .d (mD M), .no, .no, .no, .no]) := by
      show ((dZip [vD v, mD M]).map fun ds => (ds, _)) = _
      rw [zip_D]; rfl
    rw [ev_set (ev_lc (ρ1 := [.d (vD v), .d (mD M), .no, .no, .no, .no]) a rfl parts (by rw [List.length_map]; exact Nat.le_trans hZl (by omega))) rfl]
    rfl
  have inner : ∀ j, j < n → mLc (mItems (mVar 2)) (gmTup (gmCons (gmName 3) (gmCons (gmName 4) gmNil)) 2) mYes (mBin dMulA (mVar 3) (mBin dItemA (mVar 4) (mVar 5))) [3, 4] [.d (vD v), .d (mD M), .d (.lst (Z.map emb)), .no, .no, .d (.int (0 + (j : Int)))]
      = some (.lst (Z.map fun p => .int (p.1 * p.2.getD j 0)), [.d (vD v), .d (mD M), .d (.lst (Z.map emb)), .no, .no, .d (.int (0 + (j : Int)))]) := fun j hj =>
    ev_lc (ρ1 := [.d (vD v), .d (mD M), .d (.lst (Z.map emb)), .no, .no, .d (.int (0 + (j : Int)))]) (ev_items (ev_var rfl) rfl) rfl
      (lcGo_mapT emb (fun p => .int (p.1 * p.2.getD j 0)) Z fun p hp => by
        have hp := List.of_mem_zip (List.mem_filter.mp hp).1
        exact ⟨[.d (vD v), .d (mD M), .d (.lst (Z.map emb)), .d (.int p.1), .d (vD p.2), .d (.int (0 + (j : Int)))], rfl, rfl, ev_bin (ev_var rfl) (ev_bin (ev_var rfl) (ev_var rfl) (item_v (by rw [s.row _ hp.2]; exact hj))) (mulB (b1 _ hp.1) ((b2 _ hp.2).getD j)), rfl⟩)
      (by rw [List.length_map]; omega)
  have outer := lcGo_mapT (f := gmName 5) (mt := mYes) (me := (mApp dSum (mCons (mLc (mItems (mVar 2)) (gmTup (gmCons (gmName 3) (gmCons (gmName 4) gmNil)) 2) mYes (mBin dMulA (mVar 3) (mBin dItemA (mVar 4) (mVar 5))) [3, 4]) mNil))) (vs := [5]) (ρ := [.d (vD v), .d (mD M), .d (.lst (Z.map emb)), .no, .no, .no]) (fun i : Nat => .int (0 + (i : Int))) (fun j => .int (Z.map fun p => p.1 * p.2.getD j 0).sum) (List.range n) fun j hj =>
    ⟨[.d (vD v), .d (mD M), .d (.lst (Z.map emb)), .no, .no, .d (.int (0 + (j : Int)))], rfl, rfl, ev_app (ev_cons (inner j (List.mem_range.mp hj)) ev_nil) (sum_mapf _ _), rfl⟩
  have e : ((List.range n).map fun j => D.int (Z.map fun p => p.1 * p.2.getD j 0).sum) = (led v M).map D.int := by
    unfold led
    rw [List.map_map, hv]
    refine List.map_congr_left fun j _ => ?_
    show D.int _ = D.int _
    rw [filter_sum (fun p => p.1 * p.2.getD j 0) (fun p h => by simp [h]), zip_sum _ hv s.len]
  have h : ∃ ρ, m_led_on [.d (vD v), .d (mD M), .no, .no, .no, .no] = some (.rt (vD (led v M)) ρ) := by
    unfold m_led_on
    rw [ev_seq g1]
    exact ⟨_, ev_ret (ev_app (ds := [.lst ((led v M).map D.int)]) (ev_cons (ev_lc (ρ1 := [.d (vD v), .d (mD M), .d (.lst (Z.map emb)), .no, .no, .no]) (ev_range (ev_cons (ev_app (ev_cons (ev_var rfl) ev_nil) (len_v hv)) ev_nil) hr) rfl (by rw [← e]; exact outer) (by rw [List.length_map, led_len]; omega)) ev_nil) rfl)⟩
  obtain ⟨ρ, h⟩ := h
  exact ev_runP h
/-! ### products of rows -/
def dot (v e : List Int) : Int := ((v.zip e).map fun p => p.1 * p.2).sum
theorem zip_V (v e : List Int) : dZip [vD v, vD e] = some ((v.zip e).map fun p => .tup [.int p.1, .int p.2]) := by
  show some (List.zipWith (fun x y => D.tup [x, y]) (v.map D.int) (e.map D.int)) = _
  rw [List.zipWith_map, List.zip, List.map_zipWith]
theorem f_product_of_spec {v e : List Int} (hn : v.length ≤ 1000) (b1 : Bv BIG v) (b2 : Bv BIG e) : f_product_of [vD v, vD e] = some (.int (dot v e)) := by
  have hz := sz
  have a : mZip (mCons (mVar 0) (mCons (mVar 1) mNil)) [.d (vD v), .d (vD e), .no, .no] = some ((v.zip e).map (fun p => .tup [.int p.1, .int p.2]), [.d (vD v), .d (vD e), .no, .no]) := by
    show ((dZip [vD v, vD e]).map fun ds => (ds, _)) = _
    rw [zip_V]; rfl
  have go := lcGo_mapT (f := gmTup (gmCons (gmName 2) (gmCons (gmName 3) gmNil)) 2) (mt := mYes) (me := mBin dMulA (mVar 2) (mVar 3)) (vs := [2, 3]) (ρ := [.d (vD v), .d (vD e), .no, .no]) (fun p : Int × Int => .tup [.int p.1, .int p.2]) (fun p => .int (p.1 * p.2)) (v.zip e) fun p hp => by
    have hp := List.of_mem_zip hp
    exact ⟨[.d (vD v), .d (vD e), .d (.int p.1), .d (.int p.2)], rfl, rfl, ev_bin (ev_var rfl) (ev_var rfl) (mulB (b1 _ hp.1) (b2 _ hp.2)), rfl⟩
  exact ev_runP (ρ := [.d (vD v), .d (vD e), .no, .no]) (ev_ret (ev_app (ev_cons (ev_lc (ρ1 := [.d (vD v), .d (vD e), .no, .no]) a rfl go (by rw [List.length_map, List.length_zip]; omega)) ev_nil) (sum_mapf _ _)))
theorem f__law_dot_spec {v e : List Int} (hn : v.length ≤ 1000) (b1 : Bv BIG v) (b2 : Bv BIG e) : f__law_dot [vD v, vD e] = some (.int (dot v e)) := f_product_of_spec hn b1 b2
end Lk07

namespace Lk07
open PySem L2 TL

/-! ### more steps -/
section
variable {ρ ρ1 ρ2 ρ3 : List Cell} {a b d : D} {ds es : List D} {ma mb mo : ME} {mr mk : MA} {ta tb : MT} {s u : MS} {k : Bool}
theorem ev_andVT (h1 : ma ρ = some (.bl true, ρ1)) : mAndV ma mb ρ = mb ρ1 := by simp only [mAndV, h1, Option.bind_some, if_true]
theorem ev_andVF (h1 : ma ρ = some (.bl false, ρ1)) : mAndV ma mb ρ = some (.bl false, ρ1) := by simp only [mAndV, h1, Option.bind_some, Bool.false_eq_true, if_false]
theorem ev_ifET (h1 : ta ρ = some (true, ρ1)) : mIfE ta ma mb ρ = ma ρ1 := by simp only [mIfE, h1, Option.bind_some, if_true]
theorem ev_ifEF (h1 : ta ρ = some (false, ρ1)) : mIfE ta ma mb ρ = mb ρ1 := by simp only [mIfE, h1, Option.bind_some, Bool.false_eq_true, if_false]
theorem ev_xIfT {x y : MX} (h1 : ta ρ = some (true, ρ1)) : xIfE ta x y ρ = x ρ1 := by simp only [xIfE, h1, Option.bind_some, if_true]
theorem ev_xIfF {x y : MX} (h1 : ta ρ = some (false, ρ1)) : xIfE ta x y ρ = y ρ1 := by simp only [xIfE, h1, Option.bind_some, Bool.false_eq_true, if_false]
theorem ev_push {i : Nat} {ds0 ds1 : List D} (h0 : ρ[i]? = some (.ol ds0)) (h1 : ma ρ = some (a, ρ1)) (h2 : ρ1[i]? = some (.ol ds1)) (h3 : ds1.length < sizeLine) : mPush i ma ρ = some (.nx (ρ1.set i (.ol (ds1 ++ [a])))) := by
  simp only [mPush, h0, h1, h2, Option.bind_some, if_pos h3]
theorem ev_drop (h1 : ma ρ = some (a, ρ1)) : mDrop ma ρ = some (.nx ρ1) := by simp only [mDrop, h1, Option.map_some]
theorem ev_meth {c m : Str} {f : List D → Option D} {pm : List Nat} {fs : List (Str × D)} {xs : List D} (h0 : mo ρ = some (.obj c fs, ρ1)) (hl : fs.lookup m = none) (h1 : mr ρ1 = some (ds, ρ2)) (h2 : mk ρ2 = some (es, ρ3)) (hx : (pm.map fun i => ((.obj c fs :: ds) ++ es).getD i .non) = xs) (h3 : f xs = some d) :
    mMeth c m f pm mo mr mk ρ = some (d, ρ3) := by
  subst hx
  simp only [mMeth, h0, h1, h2, h3, Option.bind_some, Option.map_some]
  rw [if_pos ⟨trivial, hl⟩]
theorem ev_methN {c m : Str} {f : List D → Option D} {pm : List Nat} {fs : List (Str × D)} {xs : List D} (h0 : mo ρ = some (.obj c fs, ρ1)) (hl : fs.lookup m = none) (h1 : mr ρ1 = some (ds, ρ2)) (h2 : mk ρ2 = some (es, ρ3)) (hx : (pm.map fun i => ((.obj c fs :: ds) ++ es).getD i .non) = xs) (h3 : f xs = none) :
    mMeth c m f pm mo mr mk ρ = none := by
  subst hx
  simp only [mMeth, h0, h1, h2, h3, Option.bind_some, Option.map_none]
  rw [if_pos ⟨trivial, hl⟩]
theorem ev_xMeth {c m : Str} {g : List D → Option Exn} {pm : List Nat} {fs : List (Str × D)} {xs : List D} {x : Exn} (h0 : mo ρ = some (.obj c fs, ρ1)) (hl : fs.lookup m = none) (h1 : mr ρ1 = some (ds, ρ2)) (h2 : mk ρ2 = some (es, ρ3)) (hx : (pm.map fun i => ((.obj c fs :: ds) ++ es).getD i .non) = xs) (h3 : g xs = some x) :
    xMeth c m g pm mo mr mk ρ = some (x, ρ3) := by
  subst hx
  simp only [xMeth, h0, h1, h2, h3, Option.bind_some, Option.map_some]
  rw [if_pos ⟨trivial, hl⟩]
theorem ev_xCallP {g : List D → Option Exn} {pm : List Nat} {xs : List D} {x : Exn} (h1 : mr ρ = some (ds, ρ1)) (h2 : mk ρ1 = some (es, ρ2)) (hx : (pm.map fun i => (ds ++ es).getD i .non) = xs) (h3 : g xs = some x) : xCallP g pm mr mk ρ = some (x, ρ2) := by
  subst hx
  simp only [xCallP, h1, h2, h3, Option.bind_some, Option.map_some]
theorem ev_callN {f : List D → Option D} {pm : List Nat} {xs : List D} (h1 : mr ρ = some (ds, ρ1)) (h2 : mk ρ1 = some (es, ρ2)) (hx : (pm.map fun i => (ds ++ es).getD i .non) = xs) (h3 : f xs = none) : mCallP f pm mr mk ρ = none := by
  subst hx
  simp only [mCallP, h1, h2, h3, Option.bind_some, Option.map_none]
theorem asg_none {g : MG} (h : ma ρ = none) : mAsg ma g ρ = none := by simp only [mAsg, h, Option.bind_none]
theorem seq_none (h : s ρ = none) : mSeq s u ρ = none := by simp only [mSeq, h, Option.bind_none]
theorem ret_none (h : ma ρ = none) : mRet ma ρ = none := by simp only [mRet, h, Option.map_none]
theorem drop_none (h : ma ρ = none) : mDrop ma ρ = none := by simp only [mDrop, h, Option.map_none]
theorem cons_none (h : ma ρ = none) : mCons ma mr ρ = none := by simp only [mCons, h, Option.bind_none]
theorem call_none {f : List D → Option D} {pm : List Nat} (h : mr ρ = none) : mCallP f pm mr mk ρ = none := by simp only [mCallP, h, Option.bind_none]
theorem ev_runX {N : Nat} {m : MX} {x : Exn} (h : m (ds.map Cell.d ++ List.replicate (N - ds.length) .no) = some (x, ρ)) : runX N m ds = some x := by unfold runX; rw [h]; rfl
theorem ev_parDO {i j : Nat} {mn : MN} {xs : List D} {c1 : Cell} (h1 : ma ρ = some (a, ρ1)) (h2 : mn ρ1 = some (xs, ρ2)) (h3 : plainAt ρ2 i = true) (h4 : plainAt (ρ2.set i (.d a)) j = true) : mParDO i j ma mn ρ = some (.nx ((ρ2.set i (.d a)).set j (.ol xs))) := by
  simp only [mParDO, h1, h2, Option.bind_some, gmName, if_pos h3, setOwn, if_pos h4, Option.map_some]
theorem ev_fld {cs : List Str} {f c : Str} {fs : List (Str × D)} (h1 : ma ρ = some (.obj c fs, ρ1)) (hc : c ∈ cs) (h2 : fs.lookup f = some d) : mUn (dFld cs f) ma ρ = some (d, ρ1) := ev_un h1 (by simp only [dFld]; rw [if_pos hc]; exact h2)
end
theorem name_ok {i : Nat} {d : D} {ρ : List Cell} {c : Cell} (h : ρ[i]? = some c) (p : isP c = true) : gmName i d ρ = some (ρ.set i (.d d)) := by
  unfold gmName
  rw [if_pos (by rw [plainAt_eq, h]; exact p)]
/-- a loop over the signs of a page -/
theorem loopP {body : MS} {i : Nat} {p : List Nat} {R : Nat → Cell → List Cell} {c0 : Cell} (h0 : isP c0 = true) (hg : ∀ j c d, isP c = true → gmName i d (R j c) = some (R j (.d d)))
    (step : ∀ j (hj : j < p.length), body (R j (.d (tx [p[j]]))) = some (.nx (R (j + 1) (.d (tx [p[j]]))))) : ∃ c, isP c = true ∧ forGo (gmName i) body (signs (Tx p)) (R 0 c0) = some (.nx (R p.length c)) := by
  obtain ⟨ρ', e1, e2⟩ := forGo_inv (f := gmName i) (body := body) (fun j ρ => ∃ c, isP c = true ∧ j ≤ p.length ∧ ρ = R j c) (signs (Tx p)) 0 (R 0 c0) ⟨c0, h0, Nat.zero_le _, rfl⟩ (fun j d hj ρ hI => by
    rw [Nat.zero_add] at hI ⊢
    obtain ⟨c, pc, _, rfl⟩ := hI
    have hj' := (List.getElem?_eq_some_iff.mp hj).1
    rw [Tx_signs, List.length_map] at hj'
    rw [Tx_signs, List.getElem?_map, List.getElem?_eq_getElem hj'] at hj
    cases hj
    exact ⟨_, _, hg j c _ pc, step j hj', .d (tx [p[j]]), rfl, hj', rfl⟩)
  obtain ⟨c, pc, _, rfl⟩ := e2
  rw [Nat.zero_add, Tx_signs, List.length_map] at e1
  exact ⟨c, pc, e1⟩
/-! ### the law's tallies -/
def fours : List (List Nat) := [[48, 49], [48], [48, 49, 50], [51, 56]]
structure WOk (S : List Nat) (b : List Int) (L : List (List (List Int))) (e : List Int) (n : Nat) : Prop where
  sg : S ∈ fours
  n4 : n ≤ 4
  lb : b.length = n
  le : e.length = n
  lL : L.length = S.length
  sq : ∀ M ∈ L, Sq n M
  bb : Bv 9 b
  be : Bv 9 e
  bL : ∀ M ∈ L, ∀ r ∈ M, Bv 9 r
/-- a page of it -/
structure Pg (S p : List Nat) : Prop where
  ok : ∀ c ∈ p, c ∈ S
  len : p.length ≤ 50
theorem occ_all : ∀ S ∈ fours, ∀ c ∈ S, occ1 (Tx S) (Tx [c]) = some (S.idxOf c) := by decide +kernel
theorem four_len : ∀ S ∈ fours, S.length ≤ 4 ∧ S ≠ [] := by decide
theorem idx_S {S : List Nat} (h : S ∈ fours) {c : Nat} (hc : c ∈ S) : dIndexA (tx S) (tx [c]) = some (.int ((S.idxOf c : Nat) : Int)) := by
  show (occ1 (Tx S) (Tx [c])).map _ = _
  rw [occ_all S h c hc]; rfl
section
variable {S : List Nat} {b e : List Int} {L : List (List (List Int))} {n : Nat}
theorem WOk.tab (W : WOk S b L e n) {c : Nat} (hc : c ∈ S) : L.getD (S.idxOf c) [] ∈ L ∧ dItemA (tD L) (.int ((S.idxOf c : Nat) : Int)) = some (mD (L.getD (S.idxOf c) [])) := by
  have hi : S.idxOf c < L.length := by rw [W.lL]; exact List.idxOf_lt_length_iff.mpr hc
  have e : L.getD (S.idxOf c) [] = L[S.idxOf c] := by rw [List.getD_eq_getElem?_getD, List.getElem?_eq_getElem hi]; rfl
  rw [e]
  refine ⟨List.getElem_mem hi, ?_⟩
  exact atI_nat (xs := L.map mD) (by rw [List.getElem?_map, List.getElem?_eq_getElem hi]; rfl)
theorem nine_big : (9 : Nat) ≤ BIG := Nat.le_trans (show (9 : Nat) ≤ 2 ^ 4 by decide) (Nat.pow_le_pow_right (by decide) (by decide))
theorem pow_big {j : Nat} (h : j ≤ 50) : 36 ^ j * 9 ≤ BIG := by
  have e : 36 ^ j ≤ 36 ^ 50 := Nat.pow_le_pow_right (by decide) h
  have e2 : (36 : Nat) ^ 50 ≤ (2 ^ 6) ^ 50 := Nat.pow_le_pow_left (by decide) 50
  rw [← Nat.pow_mul] at e2
  have e3 : (36 : Nat) ^ j * 9 ≤ 2 ^ (6 * 50) * 2 ^ 4 := Nat.mul_le_mul (Nat.le_trans e e2) (by decide)
  rw [← Nat.pow_add] at e3
  exact Nat.le_trans e3 (Nat.pow_le_pow_right (by decide) (by decide))
/-- rows that come up are small enough -/
theorem WOk.big (W : WOk S b L e n) {v : List Int} (hv : v.length = n) (h : Bv 9 v) {p : List Nat} (hp : p.length ≤ 50) : Bv BIG (run S L v p) := (run_bound W.n4 W.bL p v 9 hv h).mono (pow_big hp)
theorem WOk.bigL (W : WOk S b L e n) {M : List (List Int)} (hM : M ∈ L) : ∀ r ∈ M, Bv BIG r := fun r hr => (W.bL M hM r hr).mono nine_big
theorem take_succ {α : Type} (p : List α) {j : Nat} (h : j < p.length) : p.take (j + 1) = p.take j ++ [p[j]] := by
  rw [List.take_add_one, List.getElem?_eq_getElem h]; rfl
theorem run_succ {v : List Int} {p : List Nat} {j : Nat} (h : j < p.length) : run S L v (p.take (j + 1)) = led (run S L v (p.take j)) (L.getD (S.idxOf p[j]) []) := by
  rw [take_succ p h, run_app]; rfl
theorem take_le {α : Type} (p : List α) (j : Nat) (h : p.length ≤ 50) : (p.take j).length ≤ 50 := by rw [List.length_take]; omega
/-- what the law bears of it -/
structure Has (w : D) (S : List Nat) (b : List Int) (L : List (List (List Int))) (e : List Int) : Prop where
  s : dItemA w (.str "signs") = some (tx S)
  b : dItemA w (.str "begin") = some (vD b)
  l : dItemA w (.str "lots") = some (tD L)
  e : dItemA w (.str "last") = some (vD e)
end
end Lk07

namespace Lk07
open PySem L2 TL

section
variable {S : List Nat} {b e : List Int} {L : List (List (List Int))} {n : Nat}
theorem range_z (k : Nat) (h : k ≤ 100000) : dRange [.int (k : Int)] = some ((List.range k).map fun i : Nat => .int (0 + (i : Int))) := range_n k h
/-- the law's table of a page -/
theorem f__law_lot_of_spec (W : WOk S b L e n) {w : D} (Hw : Has w S b L e) {p : List Nat} (hp : Pg S p) : f__law_lot_of [w, tx p] = some (mD ((units n).map fun r => run S L r p)) := by
  have hz := sz
  have hn := W.n4
  obtain ⟨U, hdef⟩ : ∃ U : List D, U = (units n).map fun r => vD (run S L r p) := ⟨_, rfl⟩
  have hU : U.length = n := by rw [hdef, List.length_map, (units_sq n).len]
  have g0 : (mParDO 2 3 (mApp dLen (mCons (mBin dItemA (mVar 0) (mC (.str "begin"))) mNil)) (mNLst mNil)) [.d w, .d (tx p), .no, .no, .no, .no, .no, .no] = some (.nx [.d w, .d (tx p), .d (.int n), .ol [], .no, .no, .no, .no]) := by
    rw [ev_parDO (ρ2 := [.d w, .d (tx p), .no, .no, .no, .no, .no, .no]) (xs := []) (c1 := .no) (ev_app (ev_cons (ev_bin (ev_var rfl) ev_c Hw.b) ev_nil) (len_v W.lb)) rfl rfl rfl]; rfl
  obtain ⟨ρ', q1, q2⟩ := forGo_inv (f := gmName 4) (body := (mSeq (mAsg (mApp dTuple (mCons (mLc (mRange (mCons (mVar 2) mNil)) (gmName 7) mYes (mApp dInt (mCons (mBin dEq (mVar 7) (mVar 4)) mNil)) [7]) mNil)) (gmName 5)) (mSeq (mFor (mItems (mVar 1)) (gmName 6) (mAsg (mCallP f__law_led [0, 1] (mCons (mVar 5) (mCons (mBin dItemA (mBin dItemA (mVar 0) (mC (.str "lots"))) (mBin dIndexA (mBin dItemA (mVar 0) (mC (.str "signs"))) (mVar 6))) mNil)) mNil) (gmName 5))) (mPush 3 (mVar 5)))))
    (fun j ρ => ∃ c4 c5 c6, isP c4 = true ∧ isP c5 = true ∧ isP c6 = true ∧ j ≤ n ∧ ρ = [.d w, .d (tx p), .d (.int n), .ol (U.take j), c4, c5, c6, .no]) ((List.range n).map fun i : Nat => .int (0 + (i : Int))) 0 [.d w, .d (tx p), .d (.int n), .ol [], .no, .no, .no, .no] ⟨.no, .no, .no, rfl, rfl, rfl, Nat.zero_le _, rfl⟩ (fun j d hj ρ hI => by
      rw [Nat.zero_add] at hI ⊢
      obtain ⟨c4, c5, c6, p4, p5, p6, _, rfl⟩ := hI
      have hj' := (List.getElem?_eq_some_iff.mp hj).1
      simp only [List.length_map, List.length_range] at hj'
      rw [List.getElem?_map, List.getElem?_range hj'] at hj
      cases hj
      have go := lcGo_mapT (f := gmName 7) (mt := mYes) (me := (mApp dInt (mCons (mBin dEq (mVar 7) (mVar 4)) mNil))) (vs := [7]) (ρ := [.d w, .d (tx p), .d (.int n), .ol (U.take j), .d (.int (0 + (j : Int))), c5, c6, .no]) (fun i : Nat => .int (0 + (i : Int))) (fun i : Nat => .int (if i = j then 1 else 0)) (List.range n) fun i _ => by
        refine ⟨[.d w, .d (tx p), .d (.int n), .ol (U.take j), .d (.int (0 + (j : Int))), c5, c6, .d (.int (0 + (i : Int)))], rfl, rfl, ev_app (ev_cons (ev_bin (ev_var rfl) (ev_var rfl) (dEq_int _ _)) ev_nil) ?_, rfl⟩
        show some (D.int (if decide ((0 : Int) + i = 0 + j) = true then 1 else 0)) = _
        by_cases h : i = j
        · subst h; simp
        · rw [if_neg h, decide_eq_false (by omega)]; rfl
      have eu : ((List.range n).map fun i : Nat => D.int (if i = j then 1 else 0)) = (unit n j).map D.int := by
        unfold unit
        rw [List.map_map]
        exact List.map_congr_left fun i _ => by show D.int _ = D.int _; rfl
      rw [eu] at go
      have t1 : (mAsg (mApp dTuple (mCons (mLc (mRange (mCons (mVar 2) mNil)) (gmName 7) mYes (mApp dInt (mCons (mBin dEq (mVar 7) (mVar 4)) mNil)) [7]) mNil)) (gmName 5)) [.d w, .d (tx p), .d (.int n), .ol (U.take j), .d (.int (0 + (j : Int))), c5, c6, .no] = some (.nx [.d w, .d (tx p), .d (.int n), .ol (U.take j), .d (.int (0 + (j : Int))), .d (vD (unit n j)), c6, .no]) := by
        rw [ev_set (d := vD (unit n j)) (ρ1 := [.d w, .d (tx p), .d (.int n), .ol (U.take j), .d (.int (0 + (j : Int))), c5, c6, .no]) (ev_app (ds := [.lst ((unit n j).map D.int)]) (ev_cons (ev_lc (ρ1 := [.d w, .d (tx p), .d (.int n), .ol (U.take j), .d (.int (0 + (j : Int))), c5, c6, .no]) (ev_range (ev_cons (ev_var rfl) ev_nil) (range_n n (by omega))) rfl go (by simp [unit]; omega)) ev_nil) rfl) (by rw [plainAt_eq]; exact p5)]
        rfl
      have hlu : (unit n j).length = n := by simp [unit]
      have hbu : Bv 9 (unit n j) := fun x hx => by
        obtain ⟨i, _, rfl⟩ := List.mem_map.mp hx
        split <;> decide
      obtain ⟨c, pc, g⟩ := loopP (i := 6) (p := p) (c0 := c6) (body := (mAsg (mCallP f__law_led [0, 1] (mCons (mVar 5) (mCons (mBin dItemA (mBin dItemA (mVar 0) (mC (.str "lots"))) (mBin dIndexA (mBin dItemA (mVar 0) (mC (.str "signs"))) (mVar 6))) mNil)) mNil) (gmName 5))) (R := fun i c => [.d w, .d (tx p), .d (.int n), .ol (U.take j), .d (.int (0 + (j : Int))), .d (vD (run S L (unit n j) (p.take i))), c, .no]) p6
        (fun i c d pc => name_ok (c := c) rfl pc) fun i hi => by
          have hc := hp.ok _ (List.getElem_mem hi)
          obtain ⟨m1, m2⟩ := W.tab hc
          have hl : (run S L (unit n j) (p.take i)).length = n := (run_len ..).trans hlu
          have q := f__law_led_spec hl (W.sq _ m1) (by omega) (W.big hlu hbu (take_le p i hp.len)) (W.bigL m1)
          rw [← run_succ hi] at q
          rw [ev_set (ev_callQ (xs := [vD (run S L (unit n j) (p.take i)), mD (L.getD (S.idxOf p[i]) [])]) (ev_cons (ev_var rfl) (ev_cons (ev_bin (ev_bin (ev_var rfl) ev_c Hw.l) (ev_bin (ev_bin (ev_var rfl) ev_c Hw.s) (ev_var rfl) (idx_S W.sg hc)) m2) ev_nil)) ev_nil rfl q) rfl]
          rfl
      rw [List.take_length] at g
      change forGo _ _ _ [.d w, .d (tx p), .d (.int n), .ol (U.take j), .d (.int (0 + (j : Int))), .d (vD (unit n j)), c6, .no] = _ at g
      have hjU : j < U.length := by rw [hU]; exact hj'
      have eU : U.take (j + 1) = U.take j ++ [vD (run S L (unit n j) p)] := by
        have e1 : U[j] = vD (run S L (unit n j) p) := by
          have e2 : U[j]? = some (vD (run S L (unit n j) p)) := by
            rw [hdef, List.getElem?_map, units, List.getElem?_map, List.getElem?_range hj']; rfl
          rw [List.getElem?_eq_getElem hjU] at e2
          exact Option.some.inj e2
        rw [← e1]
        exact take_succ U hjU
      refine ⟨_, _, name_ok (c := c4) rfl p4, ?_, .d (.int (0 + (j : Int))), .d (vD (run S L (unit n j) p)), c, rfl, rfl, pc, hj', rfl⟩
      show mSeq _ _ [.d w, .d (tx p), .d (.int n), .ol (U.take j), .d (.int (0 + (j : Int))), c5, c6, .no] = _
      rw [ev_seq t1, ev_seq (ev_for (ev_items (ev_var rfl) rfl) g), ev_push (ds0 := U.take j) (ds1 := U.take j) rfl (ev_var rfl) rfl (by rw [List.length_take]; omega), ← eU]
      rfl)
  obtain ⟨c4, c5, c6, _, _, _, _, rfl⟩ := q2
  rw [Nat.zero_add, List.length_map, List.length_range, List.take_of_length_le (by omega)] at q1
  have hh : ∃ ρ, m__law_lot_of [.d w, .d (tx p), .no, .no, .no, .no, .no, .no] = some (.rt (.tup U) ρ) := by
    unfold m__law_lot_of
    rw [ev_seq g0, ev_seq (ev_for (ev_range (ev_cons (ev_var rfl) ev_nil) (range_n n (by omega))) q1), ev_seq (ev_frz (ds := U) rfl)]
    exact ⟨_, ev_ret (ev_app (ev_cons (ev_var rfl) ev_nil) rfl)⟩
  obtain ⟨ρ, hh⟩ := hh
  have := ev_runP (ds := [w, tx p]) (N := 8) hh
  have e2 : D.tup U = mD ((units n).map fun r => run S L r p) := by
    rw [hdef]
    show D.tup _ = D.tup _
    rw [List.map_map]; rfl
  rw [← e2]
  exact this
/-! ### the program's unit rows -/
theorem f_noughts_spec {k : Nat} (h : k ≤ 1000) : f_noughts [.int (k : Int)] = some (vD (List.replicate k 0)) := by
  have e : dMulB (.tup [.int 0]) (.int (k : Int)) = some (vD (List.replicate k 0)) := by
    simp only [dMulB]
    rw [if_pos ⟨by omega, by omega, by simp⟩]
    have : ((k : Int)).toNat = k := by omega
    rw [this]
    congr 2
    clear h this
    induction k with
    | zero => rfl
    | succ k ih => rw [List.replicate_succ, List.flatten_cons, ih, List.replicate_succ]; rfl
  exact ev_runP (ρ := [.d (.int k)]) (ev_ret (ev_bin (ev_app (ev_cons ev_c ev_nil) rfl) (ev_var rfl) e))
theorem add_V {a b : List Int} (h : a.length + b.length ≤ 100000) : dAdd (vD a) (vD b) = some (vD (a ++ b)) := by
  show (if (a.map D.int).length + (b.map D.int).length ≤ sizeLine then some (D.tup (a.map D.int ++ b.map D.int)) else none) = _
  rw [if_pos (by rw [List.length_map, List.length_map]; exact Nat.le_trans h sz), ← List.map_append]
theorem unit_eq {n k : Nat} (h : k < n) : List.replicate k (0 : Int) ++ [1] ++ List.replicate (n - k - 1) 0 = unit n k := by
  refine List.ext_getElem (by simp [unit]; omega) fun i h1 h2 => ?_
  have hi : i < n := by simpa [unit] using h2
  simp only [unit, List.getElem_map, List.getElem_range]
  rcases Nat.lt_trichotomy i k with q | q | q
  · rw [if_neg (by omega), List.getElem_append_left (by simp; omega), List.getElem_append_left (by simp; omega), List.getElem_replicate]
  · subst q
    rw [if_pos rfl, List.getElem_append_left (by simp), List.getElem_append_right (by simp)]
    simp
  · rw [if_neg (by omega), List.getElem_append_right (by simp; omega), List.getElem_replicate]
theorem f_unit_row_spec {n k : Nat} (h : k < n) (hn : n ≤ 1000) : f_unit_row [.int (n : Int), .int (0 + (k : Int))] = some (vD (unit n k)) := by
  rw [Int.zero_add]
  have e : ((n : Int) - k - 1) = ((n - k - 1 : Nat) : Int) := by omega
  refine ev_runP (ρ := [.d (.int n), .d (.int k)]) (ev_ret (ev_bin (ev_bin (ev_callQ (xs := [.int k]) (ev_cons (ev_var rfl) ev_nil) ev_nil rfl (f_noughts_spec (by omega))) (ev_app (d := vD [1]) (ev_cons ev_c ev_nil) rfl) (add_V (by simp; omega)))
    (ev_callQ (xs := [.int ((n - k - 1 : Nat) : Int)]) (ev_cons (ev_bin (ev_bin (ev_var rfl) (ev_var rfl) rfl) ev_c (show dSub (.int (n - k)) (.int 1) = some (.int ((n - k - 1 : Nat) : Int)) by rw [← e]; rfl)) ev_nil) ev_nil rfl (f_noughts_spec (by omega))) ?_))
  rw [add_V (by simp; omega), unit_eq h]
theorem f_unit_table_spec {n : Nat} (hn : n ≤ 1000) : f_unit_table [.int (n : Int)] = some (mD (units n)) := by
  have hz := sz
  have go := lcGo_mapT (f := gmName 1) (mt := mYes) (me := (mCallP f_unit_row [0, 1] (mCons (mVar 0) (mCons (mVar 1) mNil)) mNil)) (vs := [1]) (ρ := [.d (.int n), .no]) (fun i : Nat => .int (0 + (i : Int))) (fun k => vD (unit n k)) (List.range n) fun k hk =>
    ⟨[.d (.int n), .d (.int (0 + (k : Int)))], rfl, rfl, ev_callQ (xs := [.int n, .int (0 + (k : Int))]) (ev_cons (ev_var rfl) (ev_cons (ev_var rfl) ev_nil)) ev_nil rfl (f_unit_row_spec (List.mem_range.mp hk) hn), rfl⟩
  have e : ((List.range n).map fun k => vD (unit n k)) = (units n).map vD := by
    unfold units
    rw [List.map_map]; rfl
  rw [e] at go
  exact ev_runP (ρ := [.d (.int n), .no]) (ev_ret (ev_app (ds := [.lst ((units n).map vD)]) (ev_cons (ev_lc (ρ1 := [.d (.int n), .no]) (ev_range (ev_cons (ev_var rfl) ev_nil) (range_n n (by omega))) rfl go (by rw [List.length_map, (units_sq n).len]; omega)) ev_nil) rfl))
theorem f_table_product_spec {n : Nat} {M T : List (List Int)} (hM : Sq n M) (hT : Sq n T) (hn : n ≤ 1000) (b1 : ∀ r ∈ M, Bv BIG r) (b2 : ∀ r ∈ T, Bv BIG r) : f_table_product [mD M, mD T] = some (mD (M.map fun r => led r T)) := by
  have hz := sz
  have go := lcGo_mapT (f := gmName 2) (mt := mYes) (me := (mCallP f_led_on [0, 1] (mCons (mVar 2) (mCons (mVar 1) mNil)) mNil)) (vs := [2]) (ρ := [.d (mD M), .d (mD T), .no]) vD (fun r => vD (led r T)) M fun r hr =>
    ⟨[.d (mD M), .d (mD T), .d (vD r)], rfl, rfl, ev_callQ (xs := [vD r, mD T]) (ev_cons (ev_var rfl) (ev_cons (ev_var rfl) ev_nil)) ev_nil rfl (f_led_on_spec (hM.row r hr) hT hn (b1 r hr) b2), rfl⟩
  have e : (M.map fun r => vD (led r T)) = (M.map fun r => led r T).map vD := by rw [List.map_map]; rfl
  rw [e] at go
  exact ev_runP (ρ := [.d (mD M), .d (mD T), .no]) (ev_ret (ev_app (ds := [.lst ((M.map fun r => led r T).map vD)]) (ev_cons (ev_lc (ρ1 := [.d (mD M), .d (mD T), .no]) (ev_items (ev_var rfl) rfl) rfl go (by rw [List.length_map, List.length_map, hM.len]; omega)) ev_nil) rfl))
end
end Lk07

namespace Lk07
open PySem L2 TL
def digs : List Nat := [48, 49, 50, 51, 52, 53, 54, 55, 56, 57]
theorem digs_eq : ("0123456789" : Str) = Tx digs := by decide +kernel
def isT (l s : List Nat) : Bool := s.all fun c => decide (c ∈ l)
theorem dAll_isT (g x : List Nat) : dAll [.lst (x.map fun c => .bl (decide (c ∈ g)))] = some (.bl (isT g x)) := by
  simp only [dAll, one, dAll1, asBls_mapf, Option.map_some, List.all_map, isT]
  rfl
theorem len_T {x : List Nat} (h : x.length ≤ sizeLine) : dLen [.str (Tx x)] = some (.int x.length) := if_pos h
theorem f_is_ticket_str (g x : List Nat) (hx : x.length ≤ 1000) : f_is_ticket [.str (Tx g), .str (Tx x)] = some (.bl (isT g x)) := by
  have h := lcGo_mapT (f := gmName 2) (mt := mYes) (me := mBin dIn (mVar 2) (mVar 0)) (vs := [2]) (ρ := [.d (.str (Tx g)), .d (.str (Tx x)), .no]) (fun c => .str (Tx [c])) (fun c => .bl (decide (c ∈ g))) x (fun c hc =>
      ⟨[.d (.str (Tx g)), .d (.str (Tx x)), .d (.str (Tx [c]))], by simp [mVar, mC, mBin, mUn, mNil, mCons, mApp, mTest, mAndT, mOrT, mNotT, mIfE, mAndV, mOrV, mNotV, mChain, mSeq, mSkip, mRet, mRetN, mIfS, mDrop, mAsg, gmName, plainAt_eq, gmNil, gmCons, gmTup, mItems, mRange, mFor, mLc, mLc2, wipeC, backC, plainC, mYes, mPar, mCallP, mCallD, dLt_Tx, dLt_int, dGe_int, dLe_int, dEq_int, dEq_str, dNe_str, strIn_Tx, Tx_len, Tx_beq, Tx_app, kit_NoneType_str, kit_bool_str, kit_int_str, kit_str_str, kit_tuple_str, kit_list_str, kit_dict_str, dIsi, dTy, dItems, Tx_signs], rfl, by simp [mVar, mC, mBin, mUn, mNil, mCons, mApp, mTest, mAndT, mOrT, mNotT, mIfE, mAndV, mOrV, mNotV, mChain, mSeq, mSkip, mRet, mRetN, mIfS, mDrop, mAsg, gmName, plainAt_eq, gmNil, gmCons, gmTup, mItems, mRange, mFor, mLc, mLc2, wipeC, backC, plainC, mYes, mPar, mCallP, mCallD, dLt_Tx, dLt_int, dGe_int, dLe_int, dEq_int, dEq_str, dNe_str, strIn_Tx, Tx_len, Tx_beq, Tx_app, kit_NoneType_str, kit_bool_str, kit_int_str, kit_str_str, kit_tuple_str, kit_list_str, kit_dict_str, dIsi, dTy, dItems, Tx_signs, dIn], by simp [mVar, mC, mBin, mUn, mNil, mCons, mApp, mTest, mAndT, mOrT, mNotT, mIfE, mAndV, mOrV, mNotV, mChain, mSeq, mSkip, mRet, mRetN, mIfS, mDrop, mAsg, gmName, plainAt_eq, gmNil, gmCons, gmTup, mItems, mRange, mFor, mLc, mLc2, wipeC, backC, plainC, mYes, mPar, mCallP, mCallD, dLt_Tx, dLt_int, dGe_int, dLe_int, dEq_int, dEq_str, dNe_str, strIn_Tx, Tx_len, Tx_beq, Tx_app, kit_NoneType_str, kit_bool_str, kit_int_str, kit_str_str, kit_tuple_str, kit_list_str, kit_dict_str, dIsi, dTy, dItems, Tx_signs]⟩)
  have := sz
  have hz : x.length ≤ sizeLine := by omega
  simp only [f_is_ticket, runP, m_is_ticket]
  simp [mVar, mC, mBin, mUn, mNil, mCons, mApp, mTest, mAndT, mOrT, mNotT, mIfE, mAndV, mOrV, mNotV, mChain, mSeq, mSkip, mRet, mRetN, mIfS, mDrop, mAsg, gmName, plainAt_eq, gmNil, gmCons, gmTup, mItems, mRange, mFor, mLc, mLc2, wipeC, backC, plainC, mYes, mPar, mCallP, mCallD, dLt_Tx, dLt_int, dGe_int, dLe_int, dEq_int, dEq_str, dNe_str, strIn_Tx, Tx_len, Tx_beq, Tx_app, kit_NoneType_str, kit_bool_str, kit_int_str, kit_str_str, kit_tuple_str, kit_list_str, kit_dict_str, dIsi, dTy, dItems, Tx_signs, h, hz, dAll_isT]
theorem f_is_ticket_no (g : Str) (d : D) (h : dTy d ≠ none) (h2 : dTy d ≠ some "str") : f_is_ticket [.str g, d] = some (.bl false) := by
  simp only [f_is_ticket, runP, m_is_ticket]
  cases d <;> first | (exact absurd rfl h2) | (exact absurd rfl h) | simp [mVar, mC, mBin, mUn, mNil, mCons, mApp, mTest, mAndT, mOrT, mNotT, mIfE, mAndV, mOrV, mNotV, mChain, mSeq, mSkip, mRet, mRetN, mIfS, mDrop, mAsg, gmName, plainAt_eq, gmNil, gmCons, gmTup, mItems, mRange, mFor, mLc, mLc2, wipeC, backC, plainC, mYes, mPar, mCallP, mCallD, dLt_Tx, dLt_int, dGe_int, dLe_int, dEq_int, dEq_str, dNe_str, strIn_Tx, Tx_len, Tx_beq, Tx_app, kit_NoneType_str, kit_bool_str, kit_int_str, kit_str_str, kit_tuple_str, kit_list_str, kit_dict_str, dIsi, dTy, dItems, Tx_signs]
def up : List Nat → Bool
  | a :: b :: l => decide (a < b) && up (b :: l)
  | _ => true
theorem sliceT (x : List Nat) (h : x.length ≤ 1000) : dSlice (.str (Tx x)) (some 1) none = some (.str (Tx x.tail)) := by
  have := sz
  have e : cutS (Tx x) (some 1) none = Tx x.tail := by
    unfold cutS
    show (⟨_⟩ : Str) = ⟨_⟩
    congr 1
    have e1 : HT.sIx (Tx x).length 0 (some 1) = min 1 x.length := HT.sIx_nat _ _ 1
    have e2 : HT.sIx (Tx x).length (Tx x).length none = x.length := rfl
    rw [e1, e2, Tx_cps]
    cases x with
    | nil => rfl
    | cons a l =>
      have : min 1 (a :: l).length = 1 := by rw [List.length_cons]; omega
      rw [this, List.drop_one, List.tail_cons, List.length_cons, Nat.add_sub_cancel, List.take_length]
  show (if (Tx x).length ≤ sizeLine then some (D.str (cutS (Tx x) (some 1) none)) else none) = _
  rw [if_pos (by rw [Tx_len]; omega), e]
theorem zip_up : ∀ x : List Nat, ((List.zip x x.tail).all fun p => decide (p.1 < p.2)) = up x
  | [] => rfl
  | [_] => rfl
  | a :: b :: l => by
    have := zip_up (b :: l)
    simp only [List.tail_cons, List.zip_cons_cons, List.all_cons, up] at this ⊢
    rw [this]
theorem f_is_ascending_str (x : List Nat) (hx : x.length ≤ 1000) : f_is_ascending [.str (Tx x)] = some (.bl (up x)) := by
  have h := lcGo_mapT (f := gmTup (gmCons (gmName 1) (gmCons (gmName 2) gmNil)) 2) (mt := mYes) (me := mBin dLt (mVar 1) (mVar 2)) (vs := [1, 2]) (ρ := [.d (.str (Tx x)), .no, .no]) (fun p : Nat × Nat => .tup [.str (Tx [p.1]), .str (Tx [p.2])]) (fun p => .bl (decide (p.1 < p.2))) (List.zip x x.tail) (fun p hp =>
      ⟨[.d (.str (Tx x)), .d (.str (Tx [p.1])), .d (.str (Tx [p.2]))], by simp [mVar, mC, mBin, mUn, mNil, mCons, mApp, mTest, mAndT, mOrT, mNotT, mIfE, mAndV, mOrV, mNotV, mChain, mSeq, mSkip, mRet, mRetN, mIfS, mDrop, mAsg, gmName, plainAt_eq, gmNil, gmCons, gmTup, mItems, mRange, mFor, mLc, mLc2, wipeC, backC, plainC, mYes, mPar, mCallP, mCallD, dLt_Tx, dLt_int, dGe_int, dLe_int, dEq_int, dEq_str, dNe_str, strIn_Tx, Tx_len, Tx_beq, Tx_app, kit_NoneType_str, kit_bool_str, kit_int_str, kit_str_str, kit_tuple_str, kit_list_str, kit_dict_str, dIsi, dTy, dItems, Tx_signs], rfl, by simp [mVar, mC, mBin, mUn, mNil, mCons, mApp, mTest, mAndT, mOrT, mNotT, mIfE, mAndV, mOrV, mNotV, mChain, mSeq, mSkip, mRet, mRetN, mIfS, mDrop, mAsg, gmName, plainAt_eq, gmNil, gmCons, gmTup, mItems, mRange, mFor, mLc, mLc2, wipeC, backC, plainC, mYes, mPar, mCallP, mCallD, dLt_Tx, dLt_int, dGe_int, dLe_int, dEq_int, dEq_str, dNe_str, strIn_Tx, Tx_len, Tx_beq, Tx_app, kit_NoneType_str, kit_bool_str, kit_int_str, kit_str_str, kit_tuple_str, kit_list_str, kit_dict_str, dIsi, dTy, dItems, Tx_signs, lt_one], by simp [mVar, mC, mBin, mUn, mNil, mCons, mApp, mTest, mAndT, mOrT, mNotT, mIfE, mAndV, mOrV, mNotV, mChain, mSeq, mSkip, mRet, mRetN, mIfS, mDrop, mAsg, gmName, plainAt_eq, gmNil, gmCons, gmTup, mItems, mRange, mFor, mLc, mLc2, wipeC, backC, plainC, mYes, mPar, mCallP, mCallD, dLt_Tx, dLt_int, dGe_int, dLe_int, dEq_int, dEq_str, dNe_str, strIn_Tx, Tx_len, Tx_beq, Tx_app, kit_NoneType_str, kit_bool_str, kit_int_str, kit_str_str, kit_tuple_str, kit_list_str, kit_dict_str, dIsi, dTy, dItems, Tx_signs]⟩)
  have hq : List.zipWith (fun a b => D.tup [a, b]) (x.map fun c => .str (Tx [c])) (x.map fun c => .str (Tx [c])).tail = (List.zip x x.tail).map fun p : Nat × Nat => D.tup [.str (Tx [p.1]), .str (Tx [p.2])] := by
    rw [← List.map_tail, List.zipWith_map, List.zip, List.map_zipWith]
  have := sz
  have hz : (List.zip x x.tail).length ≤ sizeLine := by rw [List.length_zip]; omega
  simp only [f_is_ascending, runP, m_is_ascending]
  have hz1 : x.length ≤ sizeLine + 1 := by omega
  simp [mVar, mC, mBin, mUn, mNil, mCons, mApp, mTest, mAndT, mOrT, mNotT, mIfE, mAndV, mOrV, mNotV, mChain, mSeq, mSkip, mRet, mRetN, mIfS, mDrop, mAsg, gmName, plainAt_eq, gmNil, gmCons, gmTup, mItems, mRange, mFor, mLc, mLc2, wipeC, backC, plainC, mYes, mPar, mCallP, mCallD, dLt_Tx, dLt_int, dGe_int, dLe_int, dEq_int, dEq_str, dNe_str, strIn_Tx, Tx_len, Tx_beq, Tx_app, kit_NoneType_str, kit_bool_str, kit_int_str, kit_str_str, kit_tuple_str, kit_list_str, kit_dict_str, dIsi, dTy, dItems, Tx_signs, mSlice, mPart, mNoPart, sliceT x hx, mZip, dZip, hq, h, hz1, dAll, one, dAll1, asBls_mapf, List.all_map]
  exact zip_up x
def dg (x : List Nat) : Bool := !x.isEmpty && isT digs x && up x
theorem f_are_digits_str (x : List Nat) (hx : x.length ≤ 1000) : f_are_digits [.str (Tx x)] = some (.bl (dg x)) := by
  have h := lcGo_mapT (f := gmName 1) (mt := mYes) (me := mBin dIn (mVar 1) (mC (.str "0123456789"))) (vs := [1]) (ρ := [.d (.str (Tx x)), .no]) (fun c => .str (Tx [c])) (fun c => .bl (decide (c ∈ digs))) x (fun c hc =>
      ⟨[.d (.str (Tx x)), .d (.str (Tx [c]))], by simp [mVar, mC, mBin, mUn, mNil, mCons, mApp, mTest, mAndT, mOrT, mNotT, mIfE, mAndV, mOrV, mNotV, mChain, mSeq, mSkip, mRet, mRetN, mIfS, mDrop, mAsg, gmName, plainAt_eq, gmNil, gmCons, gmTup, mItems, mRange, mFor, mLc, mLc2, wipeC, backC, plainC, mYes, mPar, mCallP, mCallD, dLt_Tx, dLt_int, dGe_int, dLe_int, dEq_int, dEq_str, dNe_str, strIn_Tx, Tx_len, Tx_beq, Tx_app, kit_NoneType_str, kit_bool_str, kit_int_str, kit_str_str, kit_tuple_str, kit_list_str, kit_dict_str, dIsi, dTy, dItems, Tx_signs], rfl, by simp [mVar, mC, mBin, mUn, mNil, mCons, mApp, mTest, mAndT, mOrT, mNotT, mIfE, mAndV, mOrV, mNotV, mChain, mSeq, mSkip, mRet, mRetN, mIfS, mDrop, mAsg, gmName, plainAt_eq, gmNil, gmCons, gmTup, mItems, mRange, mFor, mLc, mLc2, wipeC, backC, plainC, mYes, mPar, mCallP, mCallD, dLt_Tx, dLt_int, dGe_int, dLe_int, dEq_int, dEq_str, dNe_str, strIn_Tx, Tx_len, Tx_beq, Tx_app, kit_NoneType_str, kit_bool_str, kit_int_str, kit_str_str, kit_tuple_str, kit_list_str, kit_dict_str, dIsi, dTy, dItems, Tx_signs, dIn, digs_eq], by simp [mVar, mC, mBin, mUn, mNil, mCons, mApp, mTest, mAndT, mOrT, mNotT, mIfE, mAndV, mOrV, mNotV, mChain, mSeq, mSkip, mRet, mRetN, mIfS, mDrop, mAsg, gmName, plainAt_eq, gmNil, gmCons, gmTup, mItems, mRange, mFor, mLc, mLc2, wipeC, backC, plainC, mYes, mPar, mCallP, mCallD, dLt_Tx, dLt_int, dGe_int, dLe_int, dEq_int, dEq_str, dNe_str, strIn_Tx, Tx_len, Tx_beq, Tx_app, kit_NoneType_str, kit_bool_str, kit_int_str, kit_str_str, kit_tuple_str, kit_list_str, kit_dict_str, dIsi, dTy, dItems, Tx_signs]⟩)
  have := sz
  have hz : x.length ≤ sizeLine := by omega
  have hu := f_is_ascending_str x hx
  simp only [f_are_digits, runP, m_are_digits]
  by_cases h0 : x = []
  · subst h0; simp [mVar, mC, mBin, mUn, mNil, mCons, mApp, mTest, mAndT, mOrT, mNotT, mIfE, mAndV, mOrV, mNotV, mChain, mSeq, mSkip, mRet, mRetN, mIfS, mDrop, mAsg, gmName, plainAt_eq, gmNil, gmCons, gmTup, mItems, mRange, mFor, mLc, mLc2, wipeC, backC, plainC, mYes, mPar, mCallP, mCallD, dLt_Tx, dLt_int, dGe_int, dLe_int, dEq_int, dEq_str, dNe_str, strIn_Tx, Tx_len, Tx_beq, Tx_app, kit_NoneType_str, kit_bool_str, kit_int_str, kit_str_str, kit_tuple_str, kit_list_str, kit_dict_str, dIsi, dTy, dItems, Tx_signs, dLen, one, dLen1, dg]
  · have hl : ¬ ((x.length : Int) = 0) := by
      have := List.length_pos_iff.mpr h0
      omega
    simp [mVar, mC, mBin, mUn, mNil, mCons, mApp, mTest, mAndT, mOrT, mNotT, mIfE, mAndV, mOrV, mNotV, mChain, mSeq, mSkip, mRet, mRetN, mIfS, mDrop, mAsg, gmName, plainAt_eq, gmNil, gmCons, gmTup, mItems, mRange, mFor, mLc, mLc2, wipeC, backC, plainC, mYes, mPar, mCallP, mCallD, dLt_Tx, dLt_int, dGe_int, dLe_int, dEq_int, dEq_str, dNe_str, strIn_Tx, Tx_len, Tx_beq, Tx_app, kit_NoneType_str, kit_bool_str, kit_int_str, kit_str_str, kit_tuple_str, kit_list_str, kit_dict_str, dIsi, dTy, dItems, Tx_signs, dLen, one, dLen1, h, hz, dAll_isT, hu, dg, h0]
    cases isT digs x <;> simp [mVar, mC, mBin, mUn, mNil, mCons, mApp, mTest, mAndT, mOrT, mNotT, mIfE, mAndV, mOrV, mNotV, mChain, mSeq, mSkip, mRet, mRetN, mIfS, mDrop, mAsg, gmName, plainAt_eq, gmNil, gmCons, gmTup, mItems, mRange, mFor, mLc, mLc2, wipeC, backC, plainC, mYes, mPar, mCallP, mCallD, dLt_Tx, dLt_int, dGe_int, dLe_int, dEq_int, dEq_str, dNe_str, strIn_Tx, Tx_len, Tx_beq, Tx_app, kit_NoneType_str, kit_bool_str, kit_int_str, kit_str_str, kit_tuple_str, kit_list_str, kit_dict_str, dIsi, dTy, dItems, Tx_signs, h0]
end Lk07

namespace Lk07
open PySem L2 TL

/-! ### the Tally -/
def fsD (S : List Nat) (b : List Int) (L : List (List (List Int))) (e : List Int) : List (Str × D) := [("digits", tx S), ("start", vD b), ("tables", tD L), ("ends", vD e)]
abbrev obD (S : List Nat) (b : List Int) (L : List (List (List Int))) (e : List Int) : D := .obj "Tally" (fsD S b L e)
section
variable {S : List Nat} {b e : List Int} {L : List (List (List Int))} {n : Nat}
theorem fs1 : (fsD S b L e).lookup ("digits" : Str) = some (tx S) := rfl
theorem fs2 : (fsD S b L e).lookup ("start" : Str) = some (vD b) := by with_unfolding_all rfl
theorem fs3 : (fsD S b L e).lookup ("tables" : Str) = some (tD L) := by with_unfolding_all rfl
theorem fs4 : (fsD S b L e).lookup ("ends" : Str) = some (vD e) := by with_unfolding_all rfl
theorem fs5 : (fsD S b L e).lookup ("row" : Str) = none := by with_unfolding_all rfl
theorem fs6 : (fsD S b L e).lookup ("worth" : Str) = none := by with_unfolding_all rfl
theorem fs7 : (fsD S b L e).lookup ("table" : Str) = none := by with_unfolding_all rfl
theorem isT_pg {p : List Nat} (hp : ∀ c ∈ p, c ∈ S) : isT S p = true := List.all_eq_true.mpr fun c hc => decide_eq_true (hp c hc)
theorem f_check_ok {p : List Nat} (hp : Pg S p) : f_check_ticket [tx S, tx p] = some .non := by
  have q := f_is_ticket_str S p (by have := hp.len; omega)
  rw [isT_pg hp.ok] at q
  have h : m_check_ticket [.d (tx S), .d (tx p)] = some (.nx [.d (tx S), .d (tx p)]) := by
    unfold m_check_ticket
    exact (ev_ifF (ev_not (ev_test (ev_callQ (xs := [tx S, tx p]) (ev_cons (ev_var rfl) (ev_cons (ev_var rfl) ev_nil)) ev_nil rfl q)))).trans ev_skip
  show runP 2 m_check_ticket [tx S, tx p] = _
  unfold runP
  show (match m_check_ticket [.d (tx S), .d (tx p)] with
    | some (.rt d _) => some d
    | some (.nx _) => some .non
    | _ => none) = _
  rw [h]
/-- no ticket of it -/
def Odd (S : List Nat) (d : D) : Prop := f_is_ticket [tx S, d] = some (.bl false)
theorem f_check_no {d : D} (h : Odd S d) : f_check_ticket [tx S, d] = none := by
  have g : m_check_ticket [.d (tx S), .d d] = none := by
    unfold m_check_ticket
    exact ev_ifT (ev_not (ev_test (ev_callQ (xs := [tx S, d]) (ev_cons (ev_var rfl) (ev_cons (ev_var rfl) ev_nil)) ev_nil rfl h)))
  show runP 2 m_check_ticket [tx S, d] = _
  unfold runP
  show (match m_check_ticket [.d (tx S), .d d] with
    | some (.rt d _) => some d
    | some (.nx _) => some .non
    | _ => none) = _
  rw [g]
abbrev exD (d : D) : Exn := ("BadTicket", [("ticket", d)])
theorem x_check_no {d : D} (h : Odd S d) : x_check_ticket [tx S, d] = some (exD d) := by
  have g : xm_check_ticket [.d (tx S), .d d] = some (exD d, [.d (tx S), .d d]) := by
    unfold xm_check_ticket
    exact (ev_xIfT (ev_not (ev_test (ev_callQ (xs := [tx S, d]) (ev_cons (ev_var rfl) (ev_cons (ev_var rfl) ev_nil)) ev_nil rfl h)))).trans rfl
  exact ev_runX (ds := [tx S, d]) (N := 2) g
theorem mem1 {c : Str} : c ∈ ([c] : List Str) := List.mem_cons_self
theorem f_table_spec (W : WOk S b L e n) {p : List Nat} (hp : Pg S p) : f_Tally__table [obD S b L e, tx p] = some (mD ((units n).map fun r => run S L r p)) := by
  have hn := W.n4
  have hub : ∀ r ∈ units n, r.length = n ∧ Bv 9 r := fun r hr => by
    obtain ⟨k, _, rfl⟩ := List.mem_map.mp hr
    refine ⟨by simp [unit], fun x hx => ?_⟩
    obtain ⟨i, _, rfl⟩ := List.mem_map.mp hx
    split <;> decide
  obtain ⟨c, pc, g⟩ := loopP (i := 3) (p := p) (c0 := .no) (body := (mAsg (mCallP f_table_product [0, 1] (mCons (mVar 2) (mCons (mBin dItemA (mUn (dFld ["Tally"] "tables") (mVar 0)) (mBin dIndexA (mUn (dFld ["Tally"] "digits") (mVar 0)) (mVar 3))) mNil)) mNil) (gmName 2))) (R := fun j c => [.d (obD S b L e), .d (tx p), .d (mD ((units n).map fun r => run S L r (p.take j))), c]) rfl
    (fun j c d pc => name_ok (c := c) rfl pc) fun j hj => by
      have hc := hp.ok _ (List.getElem_mem hj)
      obtain ⟨m1, m2⟩ := W.tab hc
      have q := f_table_product_spec (table_sq S L n (p.take j)) (W.sq _ m1) (by omega) (fun r hr => by
        obtain ⟨u, hu, rfl⟩ := List.mem_map.mp hr
        exact W.big (hub u hu).1 (hub u hu).2 (take_le p j hp.len)) (W.bigL m1)
      have e2 : (((units n).map fun r => run S L r (p.take j)).map fun r => led r (L.getD (S.idxOf p[j]) [])) = (units n).map fun r => run S L r (p.take (j + 1)) := by
        rw [List.map_map]
        exact List.map_congr_left fun r _ => (run_succ hj).symm
      rw [e2] at q
      rw [ev_set (ev_callQ (xs := [mD ((units n).map fun r => run S L r (p.take j)), mD (L.getD (S.idxOf p[j]) [])]) (ev_cons (ev_var rfl) (ev_cons (ev_bin (ev_fld (ev_var rfl) mem1 fs3) (ev_bin (ev_fld (ev_var rfl) mem1 fs1) (ev_var rfl) (idx_S W.sg hc)) m2) ev_nil)) ev_nil rfl q) rfl]
      rfl
  rw [List.take_length] at g
  have e0 : ((units n).map fun r => run S L r (p.take 0)) = units n := List.map_id' (units n)
  rw [e0] at g
  have hh : ∃ ρ, m_Tally__table [.d (obD S b L e), .d (tx p), .no, .no] = some (.rt (mD ((units n).map fun r => run S L r p)) ρ) := by
    unfold m_Tally__table
    rw [ev_seq (ev_drop (ev_callQ (xs := [tx S, tx p]) (ev_cons (ev_fld (ev_var rfl) mem1 fs1) (ev_cons (ev_var rfl) ev_nil)) ev_nil rfl (f_check_ok hp)))]
    rw [ev_seq (ev_set (ev_callQ (xs := [.int (n : Int)]) (ev_cons (ev_app (ev_cons (ev_fld (ev_var rfl) mem1 fs2) ev_nil) (len_v W.lb)) ev_nil) ev_nil rfl (f_unit_table_spec (by omega))) rfl)]
    show ∃ ρ, mSeq _ _ [.d (obD S b L e), .d (tx p), .d (mD (units n)), .no] = _
    rw [ev_seq (ev_for (ev_items (ev_var rfl) rfl) g)]
    exact ⟨_, ev_ret (ev_var rfl)⟩
  obtain ⟨ρ, hh⟩ := hh
  exact ev_runP hh
theorem f_table_no {d : D} (h : Odd S d) : f_Tally__table [obD S b L e, d] = none := by
  have g : m_Tally__table [.d (obD S b L e), .d d, .no, .no] = none := by
    unfold m_Tally__table
    exact seq_none (drop_none (ev_callN (xs := [tx S, d]) (ev_cons (ev_fld (ev_var rfl) mem1 fs1) (ev_cons (ev_var rfl) ev_nil)) ev_nil rfl (f_check_no h)))
  show runP 4 m_Tally__table [obD S b L e, d] = _
  unfold runP
  show (match m_Tally__table [.d (obD S b L e), .d d, .no, .no] with
    | some (.rt d _) => some d
    | some (.nx _) => some .non
    | _ => none) = _
  rw [g]
theorem x_table_no {d : D} (h : Odd S d) : x_Tally__table [obD S b L e, d] = some (exD d) := by
  have g : xm_Tally__table [.d (obD S b L e), .d d, .no, .no] = some (exD d, [.d (obD S b L e), .d d, .no, .no]) := by
    unfold xm_Tally__table
    exact ev_xCallP (xs := [tx S, d]) (ev_cons (ev_fld (ev_var rfl) mem1 fs1) (ev_cons (ev_var rfl) ev_nil)) ev_nil rfl (x_check_no h)
  exact ev_runX (ds := [obD S b L e, d]) (N := 4) g
end
end Lk07

namespace Lk07
open PySem L2 TL

/-! ### six ways -/
noncomputable def suiM (a0 : Addr) (d0 : Option Addr) : MS := (mAsg (mApp dLst (mCons (mBin dEq (mApp dRepr (mCons (mUn (dXf a0 d0 "BadTicket" "ticket") (mVar 5)) mNil)) (mApp dRepr (mCons (mVar 1) mNil))) (mCons (mUn (dXis a0 d0 "BadTicket" true) (mVar 5)) mNil))) (gmName 4))
theorem t_lt {i k : Nat} {ρ : List Cell} (h : ρ[3]? = some (.d (.int (0 + (i : Int))))) : mTest (mBin dLt (mVar 3) (mC (.int (k : Int)))) ρ = some (decide (i < k), ρ) := by
  refine ev_test (ev_bin (ev_var h) ev_c ?_)
  rw [dLt_int]
  congr 2
  exact decide_eq_decide.mpr (by omega)
theorem t_eq {i k : Nat} {ρ : List Cell} (h : ρ[3]? = some (.d (.int (0 + (i : Int))))) : mTest (mBin dEq (mVar 3) (mC (.int (k : Int)))) ρ = some (decide (i = k), ρ) := by
  refine ev_test (ev_bin (ev_var h) ev_c ?_)
  rw [dEq_int]
  congr 2
  exact decide_eq_decide.mpr (by omega)
def val (r1 r2 r3 : D) (i : Nat) : D := if i < 2 then r1 else if i < 4 then r2 else r3
section
variable {fs : List (Str × D)} {it : D} {acc : List D} {c4 : Cell} (l1 : fs.lookup ("row" : Str) = none) (l2 : fs.lookup ("worth" : Str) = none) (l3 : fs.lookup ("table" : Str) = none)
abbrev st (fs : List (Str × D)) (it : D) (acc : List D) (i : Nat) (c4 c5 : Cell) : List Cell := [.d (.obj "Tally" fs), .d it, .ol acc, .d (.int (0 + (i : Int))), c4, c5]
include l1 l2 l3
omit l1 l2 l3
theorem dEq_same (t : Str) : dEq (.str t) (.str t) = some (.bl true) := by rw [dEq_str, str_beq_self]
theorem suit_ok {t : Str} (ht : dRepr [it] = some (.str t)) (i : Nat) : Suit 5 suiM (exD it) (st fs it acc i (.d .non) .no) (.nx (st fs it acc i (.d (.lst [.bl true, .bl true])) .no)) := fun a d => by
  have e1 : dXf a d "BadTicket" "ticket" (.exc a d "BadTicket" [("ticket", it)]) = some it := by
    simp only [dXf]
    rw [if_pos ⟨trivial, trivial, trivial⟩]; rfl
  have e2 : dXis a d "BadTicket" true (.exc a d "BadTicket" [("ticket", it)]) = some (.bl true) := by
    simp only [dXis]
    rw [if_pos ⟨trivial, trivial, trivial⟩]
  refine ⟨.nx (st fs it acc i (.d (.lst [.bl true, .bl true])) (.d (.exc a d "BadTicket" [("ticket", it)]))), ?_, rfl, rfl⟩
  show suiM a d (st fs it acc i (.d .non) (.d (.exc a d "BadTicket" [("ticket", it)]))) = _
  unfold suiM
  rw [ev_set (ev_app (d := .lst [.bl true, .bl true]) (ev_cons (ev_bin (ev_app (ev_cons (ev_un (ev_var rfl) e1) ev_nil) ht) (ev_app (ev_cons (ev_var rfl) ev_nil) ht) (dEq_same t)) (ev_cons (ev_un (ev_var rfl) e2) ev_nil)) rfl) rfl]
  rfl
end
section
variable {S : List Nat} {b e : List Int} {L : List (List (List Int))} {n : Nat}
end
end Lk07

namespace Lk07
open PySem L2 TL

/-! ### what repr shows -/
theorem shw_int {i : Int} (h : i.natAbs.log2 < 1920) : Shw (.int i) 0 1921 := ⟨.int i, rfl, by show decide _ = true; exact decide_eq_true h, rfl, Nat.le_refl _, PyProof.Rows.int_text_len_1921 h⟩
theorem log_of {i : Int} (h : i.natAbs ≤ 36 * BIG) : i.natAbs.log2 < 1920 := by
  by_cases h0 : i.natAbs = 0
  · rw [h0]; decide
  · have h2 : 36 * BIG ≤ 2 ^ 6 * 2 ^ 400 := Nat.mul_le_mul_right _ (by decide)
    rw [← Nat.pow_add] at h2
    have h1 : i.natAbs < 2 ^ 407 := Nat.lt_of_le_of_lt (Nat.le_trans h h2) (Nat.pow_lt_pow_right (by decide) (by decide))
    exact Nat.lt_trans ((Nat.log2_lt h0).mpr h1) (by decide)
theorem shw_v {v : List Int} {n : Nat} (h : Bv BIG v) (hn : v.length ≤ 4) : Shw (vD v) 1 7695 := by
  refine (shw_tup (k := 0) (n := 1921) fun d hd => ?_).le (Nat.le_refl _) (by rw [List.length_map]; omega)
  obtain ⟨x, hx, rfl⟩ := List.mem_map.mp hd
  exact shw_int (log_of (Nat.le_trans (h x hx) (Nat.le_mul_of_pos_left _ (by decide))))
theorem shw_m {M : List (List Int)} {n : Nat} (s : Sq n M) (hn : n ≤ 4) (h : ∀ r ∈ M, Bv BIG r) : Shw (mD M) 2 30791 := by
  refine (shw_tup (k := 1) (n := 7695) fun d hd => ?_).le (Nat.le_refl _) (by rw [List.length_map, s.len]; omega)
  obtain ⟨r, hr, rfl⟩ := List.mem_map.mp hd
  exact shw_v (n := n) (h r hr) (by rw [s.row r hr]; exact hn)
theorem dot_bound {v e : List Int} (hn : v.length ≤ 4) (h : Bv BIG v) (h2 : Bv 9 e) : (dot v e).natAbs ≤ 36 * BIG := by
  refine Nat.le_trans (sum_abs (B := BIG * 9) _ fun y hy => ?_) ?_
  · obtain ⟨p, hp, rfl⟩ := List.mem_map.mp hy
    have hp := List.of_mem_zip hp
    rw [Int.natAbs_mul]
    exact Nat.mul_le_mul (h _ hp.1) (h2 _ hp.2)
  · rw [List.length_map, List.length_zip, show 36 * BIG = 4 * (BIG * 9) by rw [Nat.mul_comm BIG 9, ← Nat.mul_assoc]]
    exact Nat.mul_le_mul_right _ (by omega)
/-- data that are equal to themselves -/
def Pl (d : D) (k : Nat) : Prop := ∃ p, d.py = some p ∧ p.plain = true ∧ p.depth ≤ k ∧ PyData.eqv p p = true
theorem pl_int (i : Int) : Pl (.int i) 0 := ⟨.int i, rfl, rfl, Nat.le_refl _, by simp [PyData.eqv]⟩
theorem pl_str (x : Str) : Pl (.str x) 0 := ⟨.str x, rfl, rfl, Nat.le_refl _, by simp [PyData.eqv]⟩
theorem pl_all {k : Nat} : ∀ {ds : List D}, (∀ d ∈ ds, Pl d k) → ∃ ps, D.pys ds = some ps ∧ PyData.plainAll ps = true ∧ PyData.depthAll ps ≤ k ∧ PyData.eqvAll ps ps = true
  | [], _ => ⟨[], rfl, rfl, Nat.zero_le _, by simp [PyData.eqvAll]⟩
  | d :: ds, h => by
    obtain ⟨p, h1, h2, h3, h4⟩ := h d List.mem_cons_self
    obtain ⟨ps, g1, g2, g3, g4⟩ := pl_all fun x hx => h x (List.mem_cons_of_mem _ hx)
    refine ⟨p :: ps, by simp only [D.pys, h1, g1, Option.bind_some, Option.map_some], by simp only [PyData.plainAll, h2, g2, Bool.and_self], ?_, by simp only [PyData.eqvAll, h4, g4, Bool.and_self]⟩
    simp only [PyData.depthAll]; omega
theorem pl_tup {k : Nat} {ds : List D} (h : ∀ d ∈ ds, Pl d k) : Pl (.tup ds) (k + 1) := by
  obtain ⟨ps, g1, g2, g3, g4⟩ := pl_all h
  exact ⟨.tuple ps, by simp only [D.py, g1, Option.map_some], by simp only [PyData.plain, g2], by simp only [PyData.depth]; omega, by simp only [PyData.eqv, g4]⟩
theorem Pl.eq {d : D} {k : Nat} (h : Pl d k) (hk : k ≤ 64) : dEq d d = some (.bl true) := by
  obtain ⟨p, h1, h2, h3, h4⟩ := h
  unfold dEq cmpP fEq
  simp only [h1, Option.bind_some]
  rw [if_pos (Nat.le_trans h3 hk), if_pos ⟨h2, h2⟩, h4]; rfl
theorem Pl.ne {d : D} {k : Nat} (h : Pl d k) (hk : k ≤ 64) : dNe d d = some (.bl false) := by
  obtain ⟨p, h1, h2, h3, h4⟩ := h
  unfold dNe cmpP fNe
  simp only [h1, Option.bind_some]
  rw [if_pos (Nat.le_trans h3 hk), if_pos ⟨h2, h2⟩, h4]; rfl
theorem pl_v (v : List Int) : Pl (vD v) 1 := pl_tup fun d hd => by
  obtain ⟨x, _, rfl⟩ := List.mem_map.mp hd
  exact pl_int x
theorem pl_m (M : List (List Int)) : Pl (mD M) 2 := pl_tup fun d hd => by
  obtain ⟨x, _, rfl⟩ := List.mem_map.mp hd
  exact pl_v x
theorem pl_t (L : List (List (List Int))) : Pl (tD L) 3 := pl_tup fun d hd => by
  obtain ⟨x, _, rfl⟩ := List.mem_map.mp hd
  exact pl_m x
/-! ### the law's look at a page -/
section
variable {S : List Nat} {b e : List Int} {L : List (List (List Int))} {n : Nat}
theorem unit_row_ok {r : List Int} (hr : r ∈ units n) : r.length = n ∧ Bv 9 r := by
  obtain ⟨k, _, rfl⟩ := List.mem_map.mp hr
  refine ⟨by simp [unit], fun x hx => ?_⟩
  obtain ⟨i, _, rfl⟩ := List.mem_map.mp hx
  split <;> decide
theorem WOk.tabBig (W : WOk S b L e n) {p : List Nat} (hp : Pg S p) : ∀ r ∈ (units n).map (fun r => run S L r p), Bv BIG r := fun r hr => by
  obtain ⟨u, hu, rfl⟩ := List.mem_map.mp hr
  exact W.big (unit_row_ok hu).1 (unit_row_ok hu).2 hp.len
end
end Lk07

namespace Lk07
open PySem L2 TL

theorem ev_notVb {ρ ρ1 : List Cell} {ma : ME} {k : Bool} (h1 : ma ρ = some (.bl k, ρ1)) : mNotV ma ρ = some (.bl (!k), ρ1) := ev_notV h1
theorem all_true {α : Type} (l : List α) : dAll [.lst (l.map fun _ => D.bl true)] = some (.bl true) := by
  show ((asBls (l.map fun _ => D.bl true)).map fun bs => D.bl (bs.all id)) = _
  rw [asBls_mapf (fun _ => true)]
  simp
theorem isi_tup {ds : List D} : dIsi "tuple" (.tup ds) = some (.bl true) := by
  unfold dIsi dTy
  rw [Option.bind_some, kit_tuple_tuple]; rfl
theorem f_is_whole_int (x : Int) : f_is_whole [.int x] = some (.bl true) := by
  have e1 : dIsi "int" (.int x) = some (.bl true) := by unfold dIsi dTy; rw [Option.bind_some, kit_int_int]; rfl
  have e2 : dIsi "bool" (.int x) = some (.bl false) := by unfold dIsi dTy; rw [Option.bind_some, kit_int_bool]; rfl
  exact ev_runP (ρ := [.d (.int x)]) (ev_ret ((ev_andVT (ev_un (ev_var rfl) e1)).trans (ev_notV (k := false) (ev_un (ev_var rfl) e2))))
theorem f_is_row_v {v : List Int} (h : v.length ≤ 1000) : f_is_row [vD v] = some (.bl true) := by
  have hz := sz
  have go := lcGo_mapT (f := gmName 1) (mt := mYes) (me := (mCallP f_is_whole [0] (mCons (mVar 1) mNil) mNil)) (vs := [1]) (ρ := [.d (vD v), .no]) D.int (fun _ => .bl true) v fun x _ =>
    ⟨[.d (vD v), .d (.int x)], rfl, rfl, ev_callQ (xs := [.int x]) (ev_cons (ev_var rfl) ev_nil) ev_nil rfl (f_is_whole_int x), rfl⟩
  exact ev_runP (ρ := [.d (vD v), .no]) (ev_ret ((ev_andVT (ev_un (ev_var rfl) isi_tup)).trans (ev_app (ev_cons (ev_lc (ρ1 := [.d (vD v), .no]) (ev_items (ev_var rfl) rfl) rfl go (by rw [List.length_map]; omega)) ev_nil) (all_true v))))
theorem f_is_row_of_v {v : List Int} {n : Nat} (h : v.length = n) (hn : n ≤ 1000) : f_is_row_of [vD v, .int (n : Int)] = some (.bl true) :=
  ev_runP (ρ := [.d (vD v), .d (.int n)]) (ev_ret ((ev_andVT (ev_callQ (xs := [vD v]) (ev_cons (ev_var rfl) ev_nil) ev_nil rfl (f_is_row_v (by omega)))).trans (ev_bin (ev_app (ev_cons (ev_var rfl) ev_nil) (len_v h)) (ev_var rfl) (by rw [dEq_int, decide_eq_true rfl]))))
theorem f_are_rows_m {M : List (List Int)} {n : Nat} (s : Sq n M) (hn : n ≤ 1000) : f_are_rows [mD M, .int (n : Int)] = some (.bl true) := by
  have hz := sz
  have go := lcGo_mapT (f := gmName 2) (mt := mYes) (me := (mCallP f_is_row_of [0, 1] (mCons (mVar 2) (mCons (mVar 1) mNil)) mNil)) (vs := [2]) (ρ := [.d (mD M), .d (.int n), .no]) vD (fun _ => .bl true) M fun r hr =>
    ⟨[.d (mD M), .d (.int n), .d (vD r)], rfl, rfl, ev_callQ (xs := [vD r, .int n]) (ev_cons (ev_var rfl) (ev_cons (ev_var rfl) ev_nil)) ev_nil rfl (f_is_row_of_v (s.row r hr) hn), rfl⟩
  exact ev_runP (ρ := [.d (mD M), .d (.int n), .no]) (ev_ret ((ev_andVT (ev_un (ev_var rfl) isi_tup)).trans (ev_app (ev_cons (ev_lc (ρ1 := [.d (mD M), .d (.int n), .no]) (ev_items (ev_var rfl) rfl) rfl go (by rw [List.length_map, s.len]; omega)) ev_nil) (all_true M))))
theorem len_m {M : List (List Int)} {n : Nat} (h : M.length = n) : dLen [mD M] = some (.int (n : Int)) := by
  show some (D.int ((M.map vD).length : Nat)) = _
  rw [List.length_map, h]
theorem len_t {L : List (List (List Int))} {n : Nat} (h : L.length = n) : dLen [tD L] = some (.int (n : Int)) := by
  show some (D.int ((L.map mD).length : Nat)) = _
  rw [List.length_map, h]
theorem f_is_table_m {M : List (List Int)} {n : Nat} (s : Sq n M) (hn : n ≤ 1000) : f_is_table [mD M, .int (n : Int)] = some (.bl true) :=
  ev_runP (ρ := [.d (mD M), .d (.int n)]) (ev_ret ((ev_andVT (ev_callQ (xs := [mD M, .int n]) (ev_cons (ev_var rfl) (ev_cons (ev_var rfl) ev_nil)) ev_nil rfl (f_are_rows_m s hn))).trans (ev_bin (ev_app (ev_cons (ev_var rfl) ev_nil) (len_m s.len)) (ev_var rfl) (by rw [dEq_int, decide_eq_true rfl]))))
theorem f_are_tables_t {L : List (List (List Int))} {m n : Nat} (hl : L.length = m) (hm : m ≤ 1000) (s : ∀ M ∈ L, Sq n M) (hn : n ≤ 1000) : f_are_tables [tD L, .int (m : Int), .int (n : Int)] = some (.bl true) := by
  have hz := sz
  have go := lcGo_mapT (f := gmName 3) (mt := mYes) (me := (mCallP f_is_table [0, 1] (mCons (mVar 3) (mCons (mVar 2) mNil)) mNil)) (vs := [3]) (ρ := [.d (tD L), .d (.int m), .d (.int n), .no]) mD (fun _ => .bl true) L fun M hM =>
    ⟨[.d (tD L), .d (.int m), .d (.int n), .d (mD M)], rfl, rfl, ev_callQ (xs := [mD M, .int n]) (ev_cons (ev_var rfl) (ev_cons (ev_var rfl) ev_nil)) ev_nil rfl (f_is_table_m (s M hM) hn), rfl⟩
  exact ev_runP (ρ := [.d (tD L), .d (.int m), .d (.int n), .no]) (ev_ret ((ev_andVT (ev_un (ev_var rfl) isi_tup)).trans ((ev_andVT (ev_bin (ev_app (ev_cons (ev_var rfl) ev_nil) (len_t hl)) (ev_var rfl) (by rw [dEq_int, decide_eq_true rfl]))).trans
    (ev_app (ev_cons (ev_lc (ρ1 := [.d (tD L), .d (.int m), .d (.int n), .no]) (ev_items (ev_var rfl) rfl) rfl go (by rw [List.length_map, hl]; omega)) ev_nil) (all_true L)))))
theorem ev_fst {i : Nat} {c f : Str} {me : ME} {ρ ρ1 : List Cell} {c0 : Str} {fs0 fs : List (Str × D)} {d : D} (h0 : ρ[i]? = some (.ns c0 fs0)) (h1 : me ρ = some (d, ρ1)) (h2 : ρ1[i]? = some (.ns c fs)) (h3 : fs.length < 999) : mFst i c f me ρ = some (.nx (ρ1.set i (.ns c (putFD f d fs)))) := by
  simp only [mFst, h0, h1, h2, Option.bind_some]
  rw [if_pos ⟨trivial, h3⟩]
theorem ev_make {c : Str} {f : List D → Option (List (Str × D))} {pm : List Nat} {ma mk : MA} {ρ ρ1 ρ2 : List Cell} {ds es xs : List D} {fs : List (Str × D)} (h1 : ma ρ = some (ds, ρ1)) (h2 : mk ρ1 = some (es, ρ2)) (hx : (pm.map fun i => (ds ++ es).getD i .non) = xs) (h3 : f xs = some fs) : mMake c f pm ma mk ρ = some (.obj c fs, ρ2) := by
  subst hx
  simp only [mMake, h1, h2, h3, Option.bind_some, Option.map_some]
section
variable {S : List Nat} {b e : List Int} {L : List (List (List Int))} {n : Nat}
theorem four_dg : ∀ S ∈ fours, dg S = true := by decide
theorem f_init_spec (W : WOk S b L e n) : f_Tally____init__ [tx S, vD b, tD L, vD e] = some (fsD S b L e) := by
  have hn := W.n4
  have hS := four_len S W.sg
  have c1 := f_are_digits_str S (by omega)
  rw [four_dg S W.sg] at c1
  have hls : dLen [tx S] = some (.int (S.length : Int)) := len_T (by have := sz; omega)
  have a1 : mTest (mCallP f_are_digits [0] (mCons (mVar 1) mNil) mNil) [.ns "Tally" [], .d (tx S), .d (vD b), .d (tD L), .d (vD e)] = some (true, [.ns "Tally" [], .d (tx S), .d (vD b), .d (tD L), .d (vD e)]) := ev_test (ev_callQ (xs := [tx S]) (ev_cons (ev_var rfl) ev_nil) ev_nil rfl c1)
  have a2 : mTest (mCallP f_is_row [0] (mCons (mVar 2) mNil) mNil) [.ns "Tally" [], .d (tx S), .d (vD b), .d (tD L), .d (vD e)] = some (true, [.ns "Tally" [], .d (tx S), .d (vD b), .d (tD L), .d (vD e)]) := ev_test (ev_callQ (xs := [vD b]) (ev_cons (ev_var rfl) ev_nil) ev_nil rfl (f_is_row_v (by rw [W.lb]; omega)))
  have a3 : mTest (mCallP f_are_tables [0, 1, 2] (mCons (mVar 3) (mCons (mApp dLen (mCons (mVar 1) mNil)) (mCons (mApp dLen (mCons (mVar 2) mNil)) mNil))) mNil) [.ns "Tally" [], .d (tx S), .d (vD b), .d (tD L), .d (vD e)] = some (true, [.ns "Tally" [], .d (tx S), .d (vD b), .d (tD L), .d (vD e)]) :=
    ev_test (ev_callQ (xs := [tD L, .int (S.length : Int), .int (n : Int)]) (ev_cons (ev_var rfl) (ev_cons (ev_app (ev_cons (ev_var rfl) ev_nil) hls) (ev_cons (ev_app (ev_cons (ev_var rfl) ev_nil) (len_v W.lb)) ev_nil))) ev_nil rfl (f_are_tables_t W.lL (by omega) W.sq (by omega)))
  have a4 : mTest (mCallP f_is_row_of [0, 1] (mCons (mVar 4) (mCons (mApp dLen (mCons (mVar 2) mNil)) mNil)) mNil) [.ns "Tally" [], .d (tx S), .d (vD b), .d (tD L), .d (vD e)] = some (true, [.ns "Tally" [], .d (tx S), .d (vD b), .d (tD L), .d (vD e)]) :=
    ev_test (ev_callQ (xs := [vD e, .int (n : Int)]) (ev_cons (ev_var rfl) (ev_cons (ev_app (ev_cons (ev_var rfl) ev_nil) (len_v W.lb)) ev_nil)) ev_nil rfl (f_is_row_of_v W.le (by omega)))
  have hh : m_Tally____init__ [.ns "Tally" [], .d (tx S), .d (vD b), .d (tD L), .d (vD e)] = some (.nx [.ns "Tally" (fsD S b L e), .d (tx S), .d (vD b), .d (tD L), .d (vD e)]) := by
    unfold m_Tally____init__
    rw [ev_seq ((ev_ifF (ev_not a1)).trans ev_skip), ev_seq ((ev_ifF (ev_not a2)).trans ev_skip), ev_seq ((ev_ifF (ev_not a3)).trans ev_skip), ev_seq ((ev_ifF (ev_not a4)).trans ev_skip)]
    rw [ev_seq (ev_fst (fs := []) rfl (ev_var rfl) rfl (by decide))]
    show mSeq _ _ [.ns "Tally" [("digits", tx S)], .d (tx S), .d (vD b), .d (tD L), .d (vD e)] = _
    rw [ev_seq (ev_fst (fs := [("digits", tx S)]) rfl (ev_var rfl) rfl (by show (1 : Nat) < 999; decide))]
    show mSeq _ _ [.ns "Tally" [("digits", tx S), ("start", vD b)], .d (tx S), .d (vD b), .d (tD L), .d (vD e)] = _
    rw [ev_seq (ev_fst (fs := [("digits", tx S), ("start", vD b)]) rfl (ev_var rfl) rfl (by show (2 : Nat) < 999; decide))]
    show mFst _ _ _ _ [.ns "Tally" [("digits", tx S), ("start", vD b), ("tables", tD L)], .d (tx S), .d (vD b), .d (tD L), .d (vD e)] = _
    rw [ev_fst (fs := [("digits", tx S), ("start", vD b), ("tables", tD L)]) rfl (ev_var rfl) rfl (by show (3 : Nat) < 999; decide)]
    rfl
  show runI "Tally" 5 m_Tally____init__ [tx S, vD b, tD L, vD e] = _
  unfold runI
  show (match m_Tally____init__ [.ns "Tally" [], .d (tx S), .d (vD b), .d (tD L), .d (vD e)] with
    | some (.nx (.ns c' fs :: _)) => if c' = "Tally" then some fs else none
    | _ => none) = _
  rw [hh]
  exact if_pos rfl
theorem f__law_code_spec (W : WOk S b L e n) {w : D} (Hw : Has w S b L e) : f__law_code [w] = some (obD S b L e) :=
  ev_runP (ρ := [.d w]) (ev_ret (ev_make (xs := [tx S, vD b, tD L, vD e]) (ev_cons (ev_bin (ev_var rfl) ev_c Hw.s) (ev_cons (ev_bin (ev_var rfl) ev_c Hw.b) (ev_cons (ev_bin (ev_var rfl) ev_c Hw.l) (ev_cons (ev_bin (ev_var rfl) ev_c Hw.e) ev_nil)))) ev_nil rfl (f_init_spec W)))
theorem f_eq_spec : f_Tally____eq__ [obD S b L e, obD S b L e] = some (.bl true) := by
  have i1 : dIsOA "Tally" ["Piece"] (obD S b L e) = some (.bl true) := by simp only [dIsOA]; exact if_pos trivial
  refine ev_runP (ρ := [.d (obD S b L e), .d (obD S b L e)]) (ev_ret ?_)
  refine (ev_andVT (ev_un (ev_var rfl) i1)).trans ?_
  refine (ev_andVT (ev_bin (ev_fld (ev_var rfl) mem1 fs1) (ev_fld (ev_var rfl) mem1 fs1) ((pl_str _).eq (by decide)))).trans ?_
  refine (ev_andVT (ev_bin (ev_fld (ev_var rfl) mem1 fs2) (ev_fld (ev_var rfl) mem1 fs2) ((pl_v _).eq (by decide)))).trans ?_
  refine (ev_andVT (ev_bin (ev_fld (ev_var rfl) mem1 fs3) (ev_fld (ev_var rfl) mem1 fs3) ((pl_t _).eq (by decide)))).trans ?_
  exact ev_bin (ev_fld (ev_var rfl) mem1 fs4) (ev_fld (ev_var rfl) mem1 fs4) ((pl_v _).eq (by decide))
theorem ne_spec : dOE "Tally" f_Tally____eq__ true (obD S b L e) (obD S b L e) = some (.bl false) := by
  show (if ("Tally" : Str) = "Tally" ∧ ("Tally" : Str) = "Tally" then (f_Tally____eq__ [obD S b L e, obD S b L e]).bind _ else none) = _
  rw [if_pos ⟨rfl, rfl⟩, f_eq_spec]; rfl
end
end Lk07

namespace Lk07
open PySem L2 TL

theorem draws : Draws f__law_draw false := fun s n many hd hf h0 h1 => draw_spec (c1 := 60271) (c2 := 251) hd (by decide) (by decide) h0 h1 hf
theorem f_draw_spec {s : Dk} {n : Nat} {many : Int} (hd : s.dr = false) (hf : Fine s (n + 1)) (h0 : 0 < many) (h1 : many < 2 ^ 40) : ∃ r s', f__law_draw s [.int many] = some (.int r, s') ∧ 0 ≤ r ∧ r < many ∧ Fine s' n ∧ s'.dr = false := by
  obtain ⟨r, s', e, r0, r1, q⟩ := draws s n many hd hf h0 h1
  exact ⟨r, s', e, r0, r1, q.fine hf, q.dr.trans hd⟩
theorem f_pick_spec {s : Dk} {n : Nat} {ds : List D} (hd : s.dr = false) (h : Fine s (n + 1)) (h0 : ds ≠ []) (h1 : ds.length < 2 ^ 40) : ∃ d s', f__law_pick s [.lst ds] = some (d, s') ∧ d ∈ ds ∧ Fine s' n ∧ s'.dr = false := by
  obtain ⟨d, s', e, m, q⟩ := pick_spec draws hd h h0 h1
  exact ⟨d, s', e, m, q.fine h, q.dr.trans hd⟩
theorem f_page_spec {s : Dk} {n most : Nat} {l : List Nat} (hd : s.dr = false) (h : Fine s (n + most + 2)) (h0 : l ≠ []) (h1 : l.length ≤ 100000) (hm : most ≤ 1000) :
    ∃ p s', f__law_page s [.str (Tx l), .int most] = some (.str (Tx p), s') ∧ (∀ c ∈ p, c ∈ l) ∧ p.length ≤ most ∧ Fine s' n ∧ s'.dr = false := page_spec draws hd h h0 h1 hm
/-- a block without a test, whose turns change what they go by -/
theorem lcGo_invT {f : MG} {me : ME} {vs : List Nat} (Iv : Nat → List Cell → Prop) (Pd : D → Prop) : ∀ (ds : List D) (k : Nat) (ρ : List Cell), Iv k ρ → (∀ i d, ds[i]? = some d → ∀ ρ, Iv (k + i) ρ → ∃ ρ1 x ρ3, f d ρ = some ρ1 ∧ me ρ1 = some (x, ρ3) ∧ Pd x ∧ Iv (k + i + 1) (wipeC ρ3 vs)) →
    ∃ out ρ', lcGo f mYes me vs ds ρ = some (out, ρ') ∧ Iv (k + ds.length) ρ' ∧ (∀ x ∈ out, Pd x) ∧ out.length = ds.length
  | [], k, ρ, h0, _ => ⟨[], ρ, rfl, h0, (fun x hx => by cases hx), rfl⟩
  | d :: ds, k, ρ, h0, h => by
    obtain ⟨ρ1, x, ρ3, h1, g1, g2, g3⟩ := h 0 d rfl ρ h0
    obtain ⟨out, ρ', e1, e2, e3, e4⟩ := lcGo_invT Iv Pd ds (k + 1) _ g3 fun i y hy ρ hi => by
      have := h (i + 1) y (by simpa using hy) ρ (by rw [show k + (i + 1) = k + 1 + i by omega]; exact hi)
      rw [show k + (i + 1) = k + 1 + i by omega] at this
      exact this
    refine ⟨x :: out, ρ', ?_, by rw [List.length_cons, show k + (ds.length + 1) = k + 1 + ds.length by omega]; exact e2, fun y hy => ?_, by rw [List.length_cons, List.length_cons, e4]⟩
    · simp only [lcGo, h1, mYes, Option.bind_some, if_true, g1]
      show ((lcGo f mYes me vs ds (wipeC ρ3 vs)).map fun z => (x :: z.1, z.2)) = _
      rw [e1]; rfl
    · rcases List.mem_cons.mp hy with rfl | hy
      · exact g2
      · exact e3 y hy
/-- a whole number from -9 to 9 -/
def Sm (d : D) : Prop := ∃ i : Int, d = .int i ∧ i.natAbs ≤ 9
theorem ints_of : ∀ {out : List D}, (∀ x ∈ out, Sm x) → ∃ v : List Int, out = v.map D.int ∧ Bv 9 v
  | [], _ => ⟨[], rfl, fun x h => by cases h⟩
  | x :: out, h => by
    obtain ⟨v, rfl, hv⟩ := ints_of fun y hy => h y (List.mem_cons_of_mem _ hy)
    obtain ⟨i, rfl, hi⟩ := h x List.mem_cons_self
    exact ⟨i :: v, rfl, fun y hy => (List.mem_cons.mp hy).elim (fun e => e ▸ hi) (hv y)⟩
/-- what may be picked for a line -/
structure Some9 (ds : List D) : Prop where
  ne : ds ≠ []
  len : ds.length ≤ 100
  sm : ∀ d ∈ ds, Sm d
theorem f_line_spec {s : Dk} {m n : Nat} {ds : List D} (hd : s.dr = false) (h : Fine s (m + n)) (hn : n ≤ 1000) (hs : Some9 ds) : ∃ v s', f__law_line s [.int (n : Int), .lst ds] = some (vD v, s') ∧ v.length = n ∧ Bv 9 v ∧ Fine s' m ∧ s'.dr = false := by
  have hz := sz
  obtain ⟨out, ρ', g1, g2, g3, g4⟩ := lcGo_invT (f := gmName 3) (me := mCallD 0 f__law_pick (mCons (mVar 2) mNil)) (vs := [3]) (fun k ρ => ∃ s', ρ = [.dk s', .d (.int n), .d (.lst ds), .no] ∧ k ≤ n ∧ Fine s' (m + (n - k)) ∧ s'.dr = false) Sm
    ((List.range n).map fun i : Nat => .int (0 + (i : Int))) 0 [.dk s, .d (.int n), .d (.lst ds), .no] ⟨s, rfl, Nat.zero_le _, h, hd⟩ (fun i d hi ρ hI => by
      rw [Nat.zero_add] at hI ⊢
      obtain ⟨s2, rfl, hk, f2, hd2⟩ := hI
      have hi := (List.getElem?_eq_some_iff.mp hi).1
      simp only [List.length_map, List.length_range] at hi
      obtain ⟨x, s3, e3, hx, f3, d3⟩ := f_pick_spec (s := s2) (n := m + (n - (i + 1))) (ds := ds) hd2 (f2.le (by omega)) hs.ne (Nat.lt_of_le_of_lt hs.len (by decide))
      exact ⟨[.dk s2, .d (.int n), .d (.lst ds), .d d], x, [.dk s3, .d (.int n), .d (.lst ds), .d d], rfl, ev_callD (k0 := s2) rfl (ev_cons (ev_var rfl) ev_nil) rfl e3, hs.sm x hx, s3, rfl, by omega, f3, d3⟩)
  obtain ⟨s2, rfl, _, f2, hd2⟩ := g2
  obtain ⟨v, rfl, hv⟩ := ints_of g3
  simp only [List.length_map, List.length_range] at g4
  refine ⟨v, s2, ev_runD (ρ := [.d (.int n), .d (.lst ds), .no]) (ev_ret (ev_app (ds := [.lst (v.map D.int)]) (ev_cons (ev_lc (ρ1 := [.dk s, .d (.int n), .d (.lst ds), .no]) (ev_range (ev_cons (ev_var rfl) ev_nil) (range_n n (by omega))) rfl g1 (by rw [List.length_map]; omega)) ev_nil) rfl)), g4, hv, f2.le (by omega), hd2⟩
/-- a line of the law's -/
def Ln (n : Nat) (d : D) : Prop := ∃ v, d = vD v ∧ v.length = n ∧ Bv 9 v
theorem lines_of {n : Nat} : ∀ {out : List D}, (∀ x ∈ out, Ln n x) → ∃ M : List (List Int), out = M.map vD ∧ (∀ r ∈ M, r.length = n) ∧ ∀ r ∈ M, Bv 9 r
  | [], _ => ⟨[], rfl, (fun x h => by cases h), fun x h => by cases h⟩
  | x :: out, h => by
    obtain ⟨M, rfl, h1, h2⟩ := lines_of fun y hy => h y (List.mem_cons_of_mem _ hy)
    obtain ⟨v, rfl, hl, hb⟩ := h x List.mem_cons_self
    exact ⟨v :: M, rfl, fun y hy => (List.mem_cons.mp hy).elim (fun e => e ▸ hl) (h1 y), fun y hy => (List.mem_cons.mp hy).elim (fun e => e ▸ hb) (h2 y)⟩
/-- the signs -/
theorem sgn {d : D} (h : d ∈ [D.str "01", .str "01", .str "0", .str "012", .str "38"]) : ∃ S ∈ fours, d = tx S := by
  have a1 : ("01" : Str) = Tx [48, 49] := by decide +kernel
  have a2 : ("0" : Str) = Tx [48] := by decide +kernel
  have a3 : ("012" : Str) = Tx [48, 49, 50] := by decide +kernel
  have a4 : ("38" : Str) = Tx [51, 56] := by decide +kernel
  simp only [List.mem_cons, List.not_mem_nil, or_false] at h
  rcases h with rfl | rfl | rfl | rfl | rfl
  · exact ⟨[48, 49], by decide, by rw [a1]⟩
  · exact ⟨[48, 49], by decide, by rw [a1]⟩
  · exact ⟨[48], by decide, by rw [a2]⟩
  · exact ⟨[48, 49, 50], by decide, by rw [a3]⟩
  · exact ⟨[51, 56], by decide, by rw [a4]⟩
/-! ### the world, its pieces -/
noncomputable def wA : MS := (mSeq (mDPut 4 (mC (.str "lots")) (mApp dTuple (mCons (mLc (mRange (mCons (mApp dLen (mCons (mVar 2) mNil)) mNil)) (gmName 12) mYes (mApp dTup (mCons (mApp dTup (mCons (mC (.int 1)) (mCons (mVar 12) mNil))) (mCons (mApp dTup (mCons (mC (.int 0)) (mCons (mBin dAdd (mC (.int 1)) (mVar 3)) mNil))) mNil))) [12]) mNil))) (mSeq (mFrzD 4) (mRet (mVar 4))))
noncomputable def wB : MS := (mSeq (mAsg (mIfE (mTest (mBin dGt (mApp dLen (mCons (mVar 2) mNil)) (mC (.int 1)))) (mApp dLst (mCons (mApp dTup (mCons (mApp dTup (mCons (mC (.int 1)) (mCons (mC (.int 0)) mNil))) (mCons (mApp dTup (mCons (mC (.int 0)) (mCons (mC (.int 1)) mNil))) mNil))) (mCons (mApp dTup (mCons (mApp dTup (mCons (mC (.int 0)) (mCons (mC (.int 1)) mNil))) (mCons (mApp dTup (mCons (mC (.int 1)) (mCons (mC (.int 0)) mNil))) mNil))) mNil))) (mApp dLst (mCons (mApp dTup (mCons (mApp dTup (mCons (mC (.int 0)) (mCons (mC (.int 1)) mNil))) (mCons (mApp dTup (mCons (mC (.int 1)) (mCons (mC (.int 0)) mNil))) mNil))) mNil))) (gmName 11)) (mSeq (mDPut 4 (mC (.str "lots")) (mApp dTuple (mCons (mLc (mRange (mCons (mApp dLen (mCons (mVar 2) mNil)) mNil)) (gmName 12) mYes (mBin dItemA (mVar 11) (mBin dMod (mVar 12) (mApp dLen (mCons (mVar 11) mNil)))) [12]) mNil))) (mSeq (mFrzD 4) (mRet (mVar 4)))))
noncomputable def wLots : MS := (mPush 6 (mApp dTuple (mCons (mLc (mRange (mCons (mVar 5) mNil)) (gmName 12) mYes (mCallD 0 f__law_line (mCons (mVar 5) (mCons (mVar 7) mNil))) [12]) mNil)))
noncomputable def wPick : MS := (mAsg (mCallD 0 f__law_pick (mCons (mApp dLst (mCons (mApp dLst (mCons (mC (.int 0)) (mCons (mC (.int 0)) (mCons (mC (.int 1)) mNil)))) (mCons (mApp dLst (mCons (mC (.int 0)) (mCons (mC (.int 1)) (mCons (mC (.int 1)) (mCons (mC (.int 2)) mNil))))) (mCons (mApp dLst (mCons (mC (.int 0)) (mCons (mC (.int 0)) (mCons (mC (.int 1)) (mCons (mUn dNeg (mC (.int 1))) mNil))))) (mCons (mApp dLst (mCons (mC (.int 0)) (mCons (mC (.int 1)) (mCons (mC (.int 2)) (mCons (mUn dNeg (mC (.int 2))) (mCons (mC (.int 9)) (mCons (mUn dNeg (mC (.int 9))) mNil))))))) mNil))))) mNil)) (gmName 7))
noncomputable def wEnds : MS := (mIfS (mAndT (mTest (mBin dGt (mVar 5) (mC (.int 0)))) (mTest (mBin dGt (mCallD 0 f__law_draw (mCons (mC (.int 4)) mNil)) (mC (.int 0))))) (mPar 9 10 (mCons (mBin dAdd (mApp dTup (mCons (mC (.int 1)) mNil)) (mSlice (mVar 9) (mPart (mC (.int 1))) mNoPart)) (mCons (mBin dAdd (mSlice (mVar 10) mNoPart (mPart (mUn dNeg (mC (.int 1))))) (mApp dTup (mCons (mC (.int 1)) mNil))) mNil))) mSkip)
noncomputable def wC : MS := (mSeq (mParDO 5 6 (mApp dMin2 (mCons (mVar 1) (mCons (mCallD 0 f__law_draw (mCons (mBin dAdd (mBin dMulA (mC (.int 2)) (mVar 1)) (mC (.int 1))) mNil)) mNil))) (mNLst mNil)) (mSeq wPick (mSeq (mFor (mItems (mVar 2)) (gmName 8) wLots) (mSeq (mPar 9 10 (mCons (mCallD 0 f__law_line (mCons (mVar 5) (mCons (mVar 7) mNil))) (mCons (mCallD 0 f__law_line (mCons (mVar 5) (mCons (mVar 7) mNil))) mNil))) (mSeq wEnds (mSeq (mFrz 6) (mRet (mDisp [((mC (.str "signs")), (mVar 2)), ((mC (.str "begin")), (mVar 9)), ((mC (.str "lots")), (mApp dTuple (mCons (mVar 6) mNil))), ((mC (.str "last")), (mVar 10))]))))))))
noncomputable def w1 : MS := (mAsg (mApp dTup (mCons (mCallD 0 f__law_pick (mCons (mApp dLst (mCons (mC (.str "01")) (mCons (mC (.str "01")) (mCons (mC (.str "0")) (mCons (mC (.str "012")) (mCons (mC (.str "38")) mNil)))))) mNil)) (mCons (mCallD 0 f__law_draw (mCons (mC (.int 8)) mNil)) mNil))) (gmTup (gmCons (gmName 2) (gmCons (gmName 3) gmNil)) 2))
noncomputable def w2 : MS := (mOwnD 4 (mNDsp [((mC (.str "signs")), (mVar 2)), ((mC (.str "begin")), (mApp dTup (mCons (mC (.int 1)) (mCons (mC (.int 0)) mNil)))), ((mC (.str "last")), (mApp dTup (mCons (mC (.int 0)) (mCons (mC (.int 1)) mNil))))]))
theorem world_eq : m__law_world = mSeq w1 (mSeq w2 (mSeq (mIfS (mTest (mBin dLt (mVar 3) (mC (.int 2)))) wA mSkip) (mSeq (mIfS (mTest (mBin dEq (mVar 3) (mC (.int 2)))) wB mSkip) wC))) := rfl
abbrev od0 (S : List Nat) : List (Key × D) := [(.inr "signs", tx S), (.inr "begin", vD [1, 0]), (.inr "last", vD [0, 1])]
theorem w2_ok {s : Dk} {S : List Nat} {way : Int} : w2 [.dk s, .d (.int 3), .d (tx S), .d (.int way), .no, .no, .no, .no, .no, .no, .no, .no, .no] = some (.nx [.dk s, .d (.int 3), .d (tx S), .d (.int way), .od (od0 S), .no, .no, .no, .no, .no, .no, .no, .no]) := by
  with_unfolding_all rfl
theorem has_1 {S : List Nat} {b e : List Int} {L : List (List (List Int))} : Has (.dct [(.inr "signs", tx S), (.inr "begin", vD b), (.inr "last", vD e), (.inr "lots", tD L)]) S b L e := ⟨by with_unfolding_all rfl, by with_unfolding_all rfl, by with_unfolding_all rfl, by with_unfolding_all rfl⟩
theorem has_2 {S : List Nat} {b e : List Int} {L : List (List (List Int))} : Has (.dct [(.inr "signs", tx S), (.inr "begin", vD b), (.inr "lots", tD L), (.inr "last", vD e)]) S b L e := ⟨by with_unfolding_all rfl, by with_unfolding_all rfl, by with_unfolding_all rfl, by with_unfolding_all rfl⟩
end Lk07

namespace Lk07
open PySem L2 TL

/-- a world, put down -/
def World (w : D) : Prop := ∃ S b L e n, WOk S b L e n ∧ Has w S b L e ∧ n ≤ 3
section
variable {s : Dk} {S : List Nat} {way : Int} {c5 c6 c7 c8 c9 c10 : Cell}
theorem ev_dput {i : Nat} {mk me : ME} {ρ ρ1 ρ2 : List Cell} {kvs0 kvs1 kvs : List (Key × D)} {d k : D} {kk : Key} (h0 : ρ[i]? = some (.od kvs0)) (h1 : me ρ = some (d, ρ1)) (h2 : mk ρ1 = some (k, ρ2)) (h3 : ρ1[i]? = some (.od kvs1)) (h4 : ρ2[i]? = some (.od kvs)) (h5 : keyD k = some kk) (h6 : kvs.length < sizeLine) : mDPut i mk me ρ = some (.nx (ρ2.set i (.od (putD kvs kk d)))) := by
  simp only [mDPut, h0, h1, h2, h3, h4, h5, Option.bind_some, if_pos h6]
theorem ev_frzD {i : Nat} {ρ : List Cell} {kvs : List (Key × D)} (h : ρ[i]? = some (.od kvs)) : mFrzD i ρ = some (.nx (ρ.set i (.d (.dct kvs)))) := by
  simp only [mFrzD, h]
theorem put_lots {d : D} : putD (od0 S) (.inr "lots") d = [(.inr "signs", tx S), (.inr "begin", vD [1, 0]), (.inr "last", vD [0, 1]), (.inr "lots", d)] := by
  with_unfolding_all rfl
theorem len_S (h : S ∈ fours) : dLen [tx S] = some (.int (S.length : Int)) := len_T (by have := sz; have := (four_len S h).1; omega)
theorem bv2 {a b c : Int} (ha : a.natAbs ≤ 9) (hb : b.natAbs ≤ 9) : Bv 9 [a, b] := fun x hx => by
  simp only [List.mem_cons, List.not_mem_nil, or_false] at hx
  rcases hx with rfl | rfl <;> assumption
theorem small_big {n : Nat} (h : n ≤ 1000) : n < sizeLine := Nat.lt_of_lt_of_le (show n < 100000 by omega) sz
theorem wA_ok (hS : S ∈ fours) (h0 : 0 ≤ way) (h1 : way < 2) : ∃ w ρ, wA [.dk s, .d (.int 3), .d (tx S), .d (.int way), .od (od0 S), .no, .no, .no, .no, .no, .no, .no, .no] = some (.rt w (.dk s :: ρ)) ∧ World w := by
  have hz := sz
  have hl := (four_len S hS).1
  let T : Nat → List (List Int) := fun k => [[1, 0 + (k : Int)], [0, 1 + way]]
  have go := lcGo_mapT (f := gmName 12) (mt := mYes) (me := (mApp dTup (mCons (mApp dTup (mCons (mC (.int 1)) (mCons (mVar 12) mNil))) (mCons (mApp dTup (mCons (mC (.int 0)) (mCons (mBin dAdd (mC (.int 1)) (mVar 3)) mNil))) mNil)))) (vs := [12]) (ρ := [.dk s, .d (.int 3), .d (tx S), .d (.int way), .od (od0 S), .no, .no, .no, .no, .no, .no, .no, .no]) (fun i : Nat => .int (0 + (i : Int))) (fun k => mD (T k)) (List.range S.length) fun k hk =>
    ⟨[.dk s, .d (.int 3), .d (tx S), .d (.int way), .od (od0 S), .no, .no, .no, .no, .no, .no, .no, .d (.int (0 + (k : Int)))], rfl, rfl, ev_app (ev_cons (ev_app (d := vD [1, 0 + (k : Int)]) (ev_cons ev_c (ev_cons (ev_var rfl) ev_nil)) rfl) (ev_cons (ev_app (d := vD [0, 1 + way]) (ev_cons ev_c (ev_cons (ev_bin ev_c (ev_var rfl) add_ok) ev_nil)) rfl) ev_nil)) rfl, rfl⟩
  let L : List (List (List Int)) := (List.range S.length).map T
  have e : ((List.range S.length).map fun k => mD (T k)) = L.map mD := by
    show _ = ((List.range S.length).map T).map mD
    rw [List.map_map]; rfl
  rw [e] at go
  refine ⟨.dct [(.inr "signs", tx S), (.inr "begin", vD [1, 0]), (.inr "last", vD [0, 1]), (.inr "lots", tD L)], [.d (.int 3), .d (tx S), .d (.int way), .d (.dct [(.inr "signs", tx S), (.inr "begin", vD [1, 0]), (.inr "last", vD [0, 1]), (.inr "lots", tD L)]), .no, .no, .no, .no, .no, .no, .no, .no], ?_, S, [1, 0], L, [0, 1], 2, ⟨hS, by decide, rfl, rfl, by simp [L], ?_, ?_, ?_, ?_⟩, has_1, by decide⟩
  · unfold wA
    rw [ev_seq (ev_dput (kk := .inr "lots") (d := tD L) (kvs0 := od0 S) (kvs1 := od0 S) (kvs := od0 S) (ρ1 := [.dk s, .d (.int 3), .d (tx S), .d (.int way), .od (od0 S), .no, .no, .no, .no, .no, .no, .no, .no]) rfl (ev_app (ds := [.lst (L.map mD)]) (ev_cons (ev_lc (ρ1 := [.dk s, .d (.int 3), .d (tx S), .d (.int way), .od (od0 S), .no, .no, .no, .no, .no, .no, .no, .no]) (ev_range (ev_cons (ev_app (ev_cons (ev_var rfl) ev_nil) (len_S hS)) ev_nil) (range_n _ (by omega))) rfl go (by rw [← e, List.length_map, List.length_range]; omega)) ev_nil) rfl) ev_c rfl rfl rfl (by show (3 : Nat) < _; exact small_big (by decide))), put_lots]
    show mSeq _ _ [.dk s, .d (.int 3), .d (tx S), .d (.int way), .od [(.inr "signs", tx S), (.inr "begin", vD [1, 0]), (.inr "last", vD [0, 1]), (.inr "lots", tD L)], .no, .no, .no, .no, .no, .no, .no, .no] = _
    rw [ev_seq (ev_frzD rfl)]
    exact ev_ret (ev_var rfl)
  · intro M hM
    obtain ⟨k, _, rfl⟩ := List.mem_map.mp hM
    exact ⟨rfl, fun r hr => by
      simp only [T, List.mem_cons, List.not_mem_nil, or_false] at hr
      rcases hr with rfl | rfl <;> rfl⟩
  · exact bv2 (c := 0) (by decide) (by decide)
  · exact bv2 (c := 0) (by decide) (by decide)
  · intro M hM r hr
    obtain ⟨k, hk, rfl⟩ := List.mem_map.mp hM
    have := List.mem_range.mp hk
    simp only [T, List.mem_cons, List.not_mem_nil, or_false] at hr
    rcases hr with rfl | rfl
    · exact bv2 (c := 0) (by decide) (by omega)
    · exact bv2 (c := 0) (by decide) (by omega)
def tOne : List (List Int) := [[0, 1], [1, 0]]
def tTwo : List (List Int) := [[1, 0], [0, 1]]
def turns (l : Nat) : List (List (List Int)) := if 1 < l then [tTwo, tOne] else [tOne]
theorem turns_ok {l : Nat} {M : List (List Int)} (h : M ∈ turns l) : Sq 2 M ∧ ∀ r ∈ M, Bv 9 r := by
  have a1 : Sq 2 tOne ∧ ∀ r ∈ tOne, Bv 9 r := ⟨⟨rfl, by decide⟩, by unfold Bv; decide⟩
  have a2 : Sq 2 tTwo ∧ ∀ r ∈ tTwo, Bv 9 r := ⟨⟨rfl, by decide⟩, by unfold Bv; decide⟩
  unfold turns at h
  split at h
  · simp only [List.mem_cons, List.not_mem_nil, or_false] at h
    rcases h with rfl | rfl
    · exact a2
    · exact a1
  · simp only [List.mem_cons, List.not_mem_nil, or_false] at h
    subst h; exact a1
theorem turns_len (l : Nat) : 0 < (turns l).length ∧ (turns l).length ≤ 2 := by
  unfold turns
  split <;> decide
theorem dGt_int (a b : Int) : dGt (.int a) (.int b) = some (.bl (decide (b < a))) := by
  unfold dGt cmpP fOrd
  simp only [D.py, Option.bind_some]
  rw [if_pos (by show 0 ≤ 64; omega)]
  simp [PySem.W.alike, PySem.W.dataLt_int]
theorem wB_ok (hS : S ∈ fours) : ∃ w ρ, wB [.dk s, .d (.int 3), .d (tx S), .d (.int way), .od (od0 S), .no, .no, .no, .no, .no, .no, .no, .no] = some (.rt w (.dk s :: ρ)) ∧ World w := by
  have hz := sz
  have hl := (four_len S hS).1
  obtain ⟨U, hU⟩ : ∃ U, U = turns S.length := ⟨_, rfl⟩
  have hUl := turns_len S.length
  rw [← hU] at hUl
  have g1 : (mAsg (mIfE (mTest (mBin dGt (mApp dLen (mCons (mVar 2) mNil)) (mC (.int 1)))) (mApp dLst (mCons (mApp dTup (mCons (mApp dTup (mCons (mC (.int 1)) (mCons (mC (.int 0)) mNil))) (mCons (mApp dTup (mCons (mC (.int 0)) (mCons (mC (.int 1)) mNil))) mNil))) (mCons (mApp dTup (mCons (mApp dTup (mCons (mC (.int 0)) (mCons (mC (.int 1)) mNil))) (mCons (mApp dTup (mCons (mC (.int 1)) (mCons (mC (.int 0)) mNil))) mNil))) mNil))) (mApp dLst (mCons (mApp dTup (mCons (mApp dTup (mCons (mC (.int 0)) (mCons (mC (.int 1)) mNil))) (mCons (mApp dTup (mCons (mC (.int 1)) (mCons (mC (.int 0)) mNil))) mNil))) mNil))) (gmName 11)) [.dk s, .d (.int 3), .d (tx S), .d (.int way), .od (od0 S), .no, .no, .no, .no, .no, .no, .no, .no]
      = some (.nx [.dk s, .d (.int 3), .d (tx S), .d (.int way), .od (od0 S), .no, .no, .no, .no, .no, .no, .d (.lst (U.map mD)), .no]) := by
    have t : mTest (mBin dGt (mApp dLen (mCons (mVar 2) mNil)) (mC (.int 1))) [.dk s, .d (.int 3), .d (tx S), .d (.int way), .od (od0 S), .no, .no, .no, .no, .no, .no, .no, .no] = some (decide (1 < S.length), [.dk s, .d (.int 3), .d (tx S), .d (.int way), .od (od0 S), .no, .no, .no, .no, .no, .no, .no, .no]) := by
      refine ev_test (ev_bin (ev_app (ev_cons (ev_var rfl) ev_nil) (len_S hS)) ev_c ?_)
      rw [dGt_int]
      congr 2
      exact decide_eq_decide.mpr (by omega)
    by_cases q : 1 < S.length
    · rw [decide_eq_true q] at t
      have : U = [tTwo, tOne] := by rw [hU]; exact if_pos q
      rw [this]
      exact (ev_set (d := .lst ([tTwo, tOne].map mD)) ((ev_ifET t).trans (by with_unfolding_all rfl)) rfl).trans rfl
    · rw [decide_eq_false q] at t
      have : U = [tOne] := by rw [hU]; exact if_neg q
      rw [this]
      exact (ev_set (d := .lst ([tOne].map mD)) ((ev_ifEF t).trans (by with_unfolding_all rfl)) rfl).trans rfl
  let R : List Cell := [.dk s, .d (.int 3), .d (tx S), .d (.int way), .od (od0 S), .no, .no, .no, .no, .no, .no, .d (.lst (U.map mD)), .no]
  have hlen : dLen [D.lst (U.map mD)] = some (.int (U.length : Int)) := by
    show some (D.int ((U.map mD).length : Nat)) = _
    rw [List.length_map]
  have go := lcGo_mapT (f := gmName 12) (mt := mYes) (me := (mBin dItemA (mVar 11) (mBin dMod (mVar 12) (mApp dLen (mCons (mVar 11) mNil))))) (vs := [12]) (ρ := R) (fun i : Nat => .int (0 + (i : Int))) (fun k => mD (U.getD (k % U.length) [])) (List.range S.length) fun k hk => by
    have hk2 : k % U.length < U.length := Nat.mod_lt _ hUl.1
    have hi : dItemA (.lst (U.map mD)) (.int ((k % U.length : Nat) : Int)) = some (mD (U.getD (k % U.length) [])) :=
      atI_nat (xs := U.map mD) (by rw [List.getElem?_map, List.getElem?_eq_getElem hk2, List.getD_eq_getElem?_getD, List.getElem?_eq_getElem hk2]; rfl)
    exact ⟨[.dk s, .d (.int 3), .d (tx S), .d (.int way), .od (od0 S), .no, .no, .no, .no, .no, .no, .d (.lst (U.map mD)), .d (.int (0 + (k : Int)))], rfl, rfl, ev_bin (ev_var rfl) (ev_bin (ev_var rfl) (ev_app (ev_cons (ev_var rfl) ev_nil) hlen) (by rw [mod_ok (by omega), Int.zero_add, Int.natCast_emod])) hi, rfl⟩
  obtain ⟨L, hL⟩ : ∃ L : List (List (List Int)), L = (List.range S.length).map fun k => U.getD (k % U.length) [] := ⟨_, rfl⟩
  have e : ((List.range S.length).map fun k => mD (U.getD (k % U.length) [])) = L.map mD := by
    rw [hL, List.map_map]; rfl
  rw [e] at go
  have hLU : ∀ M ∈ L, M ∈ turns S.length := fun M hM => by
    rw [hL] at hM
    obtain ⟨k, _, rfl⟩ := List.mem_map.mp hM
    have hk2 : k % U.length < U.length := Nat.mod_lt _ hUl.1
    rw [← hU, List.getD_eq_getElem?_getD, List.getElem?_eq_getElem hk2]
    exact List.getElem_mem hk2
  have hLl : L.length = S.length := by rw [hL, List.length_map, List.length_range]
  refine ⟨.dct [(.inr "signs", tx S), (.inr "begin", vD [1, 0]), (.inr "last", vD [0, 1]), (.inr "lots", tD L)], [.d (.int 3), .d (tx S), .d (.int way), .d (.dct [(.inr "signs", tx S), (.inr "begin", vD [1, 0]), (.inr "last", vD [0, 1]), (.inr "lots", tD L)]), .no, .no, .no, .no, .no, .no, .d (.lst (U.map mD)), .no], ?_, S, [1, 0], L, [0, 1], 2, ⟨hS, by decide, rfl, rfl, hLl, fun M hM => (turns_ok (hLU M hM)).1, bv2 (c := 0) (by decide) (by decide), bv2 (c := 0) (by decide) (by decide), fun M hM => (turns_ok (hLU M hM)).2⟩, has_1, by decide⟩
  unfold wB
  rw [ev_seq g1]
  rw [ev_seq (ev_dput (kk := .inr "lots") (d := tD L) (kvs0 := od0 S) (kvs1 := od0 S) (kvs := od0 S) (ρ1 := R) rfl (ev_app (ds := [.lst (L.map mD)]) (ev_cons (ev_lc (ρ1 := R) (ev_range (ev_cons (ev_app (ev_cons (ev_var rfl) ev_nil) (len_S hS)) ev_nil) (range_n _ (by omega))) rfl go (by rw [List.length_map, hLl]; omega)) ev_nil) rfl) ev_c rfl rfl rfl (by show (3 : Nat) < _; exact small_big (by decide))), put_lots]
  show mSeq _ _ [.dk s, .d (.int 3), .d (tx S), .d (.int way), .od [(.inr "signs", tx S), (.inr "begin", vD [1, 0]), (.inr "last", vD [0, 1]), (.inr "lots", tD L)], .no, .no, .no, .no, .no, .no, .d (.lst (U.map mD)), .no] = _
  rw [ev_seq (ev_frzD rfl)]
  exact ev_ret (ev_var rfl)
end
end Lk07

namespace Lk07
open PySem L2 TL

theorem cut_1 (v : List Int) : dSlice (vD v) (some 1) none = some (vD v.tail) := by
  show some (D.tup (cutD (v.map D.int) (some 1) none)) = _
  have : cutD (v.map D.int) (some 1) none = v.tail.map D.int := by
    unfold cutD
    have e1 : HT.sIx (v.map D.int).length 0 (some 1) = min 1 (v.map D.int).length := HT.sIx_nat _ _ 1
    have e2 : HT.sIx (v.map D.int).length (v.map D.int).length none = (v.map D.int).length := rfl
    rw [e1, e2]
    cases v with
    | nil => rfl
    | cons a l =>
      have : min 1 ((a :: l).map D.int).length = 1 := by rw [List.length_map, List.length_cons]; omega
      rw [this, List.take_of_length_le (by simp)]
      rfl
  rw [this]
theorem cut_m1 (v : List Int) : dSlice (vD v) none (some (-1)) = some (vD v.dropLast) := by
  show some (D.tup (cutD (v.map D.int) none (some (-1)))) = _
  have : cutD (v.map D.int) none (some (-1)) = v.dropLast.map D.int := by
    unfold cutD
    have e1 : HT.sIx (v.map D.int).length 0 none = 0 := rfl
    have e2 : HT.sIx (v.map D.int).length (v.map D.int).length (some (-1)) = v.length - 1 := by
      show (if (-1 : Int) < 0 then ((-1 : Int) + ((v.map D.int).length : Int)).toNat else min (-1 : Int).toNat (v.map D.int).length) = _
      rw [if_pos (by decide), List.length_map]; omega
    rw [e1, e2, List.drop_zero, Nat.sub_zero, List.dropLast_eq_take, List.map_take]
  rw [this]
/-- a table of the law's -/
def Tb (n : Nat) (d : D) : Prop := ∃ M, d = mD M ∧ Sq n M ∧ ∀ r ∈ M, Bv 9 r
theorem some_of {d : D} (h : d ∈ [D.lst [.int 0, .int 0, .int 1], .lst [.int 0, .int 1, .int 1, .int 2], .lst [.int 0, .int 0, .int 1, .int (-1)], .lst [.int 0, .int 1, .int 2, .int (-2), .int 9, .int (-9)]]) : ∃ ds, d = .lst ds ∧ Some9 ds := by
  have ok : ∀ v : List Int, v ≠ [] → v.length ≤ 100 → (∀ i ∈ v, i.natAbs ≤ 9) → Some9 (v.map D.int) := fun v h1 h2 h3 => ⟨by simpa using h1, by rw [List.length_map]; exact h2, fun d hd => by
    obtain ⟨i, hi, rfl⟩ := List.mem_map.mp hd
    exact ⟨i, rfl, h3 i hi⟩⟩
  simp only [List.mem_cons, List.not_mem_nil, or_false] at h
  rcases h with rfl | rfl | rfl | rfl
  · exact ⟨_, rfl, ok [0, 0, 1] (by decide) (by decide) (by decide)⟩
  · exact ⟨_, rfl, ok [0, 1, 1, 2] (by decide) (by decide) (by decide)⟩
  · exact ⟨_, rfl, ok [0, 0, 1, -1] (by decide) (by decide) (by decide)⟩
  · exact ⟨_, rfl, ok [0, 1, 2, -2, 9, -9] (by decide) (by decide) (by decide)⟩
section
variable {S : List Nat} {way : Int}
abbrev cw (s : Dk) (S : List Nat) (way : Int) (c5 c6 c7 c8 c9 c10 c12 : Cell) : List Cell := [.dk s, .d (.int 3), .d (tx S), .d (.int way), .od (od0 S), c5, c6, c7, c8, c9, c10, .no, c12]
theorem lots_ok {s : Dk} {n m : Nat} {ds acc : List D} {c8 : Cell} (hn : n ≤ 4) (hs : Some9 ds) (hd : s.dr = false) (h : Fine s (m + n * n)) (ha : acc.length ≤ 1000) :
    ∃ x s', wLots (cw s S way (.d (.int n)) (.ol acc) (.d (.lst ds)) c8 .no .no .no) = some (.nx (cw s' S way (.d (.int n)) (.ol (acc ++ [x])) (.d (.lst ds)) c8 .no .no .no)) ∧ Tb n x ∧ Fine s' m ∧ s'.dr = false := by
  have hz := sz
  obtain ⟨out, ρ', g1, g2, g3, g4⟩ := lcGo_invT (f := gmName 12) (me := mCallD 0 f__law_line (mCons (mVar 5) (mCons (mVar 7) mNil))) (vs := [12]) (fun k ρ => ∃ s', ρ = cw s' S way (.d (.int n)) (.ol acc) (.d (.lst ds)) c8 .no .no .no ∧ k ≤ n ∧ Fine s' (m + (n - k) * n) ∧ s'.dr = false) (Ln n)
    ((List.range n).map fun i : Nat => .int (0 + (i : Int))) 0 (cw s S way (.d (.int n)) (.ol acc) (.d (.lst ds)) c8 .no .no .no) ⟨s, rfl, Nat.zero_le _, h, hd⟩ (fun i d hi ρ hI => by
      rw [Nat.zero_add] at hI ⊢
      obtain ⟨s2, rfl, hk, f2, hd2⟩ := hI
      have hi := (List.getElem?_eq_some_iff.mp hi).1
      simp only [List.length_map, List.length_range] at hi
      have e : (n - i) * n = (n - (i + 1)) * n + n := by
        rw [← Nat.succ_mul]
        congr 1
        omega
      obtain ⟨v, s3, e3, hl, hb, f3, d3⟩ := f_line_spec (s := s2) (m := m + (n - (i + 1)) * n) (n := n) (ds := ds) hd2 (f2.le (by rw [e]; omega)) (by omega) hs
      exact ⟨cw s2 S way (.d (.int n)) (.ol acc) (.d (.lst ds)) c8 .no .no (.d d), vD v, cw s3 S way (.d (.int n)) (.ol acc) (.d (.lst ds)) c8 .no .no (.d d), rfl, ev_callD (k0 := s2) rfl (ev_cons (ev_var rfl) (ev_cons (ev_var rfl) ev_nil)) rfl e3, ⟨v, rfl, hl, hb⟩, s3, rfl, by omega, f3, d3⟩)
  obtain ⟨s2, rfl, _, f2, hd2⟩ := g2
  obtain ⟨M, rfl, hM, hb⟩ := lines_of g3
  simp only [List.length_map, List.length_range] at g4
  refine ⟨mD M, s2, ?_, ⟨M, rfl, ⟨g4, hM⟩, hb⟩, f2.le (by omega), hd2⟩
  unfold wLots
  rw [ev_push (ds0 := acc) (ds1 := acc) rfl (ev_app (ds := [.lst (M.map vD)]) (ev_cons (ev_lc (ρ1 := cw s S way (.d (.int n)) (.ol acc) (.d (.lst ds)) c8 .no .no .no) (ev_range (ev_cons (ev_var rfl) ev_nil) (range_n n (by omega))) rfl g1 (by rw [List.length_map]; omega)) ev_nil) rfl) rfl (small_big ha)]
  rfl
theorem tabs_of {n : Nat} : ∀ {acc : List D}, (∀ x ∈ acc, Tb n x) → ∃ L : List (List (List Int)), acc = L.map mD ∧ (∀ M ∈ L, Sq n M) ∧ ∀ M ∈ L, ∀ r ∈ M, Bv 9 r
  | [], _ => ⟨[], rfl, (fun x h => by cases h), fun x h => by cases h⟩
  | x :: out, h => by
    obtain ⟨L, rfl, h1, h2⟩ := tabs_of fun y hy => h y (List.mem_cons_of_mem _ hy)
    obtain ⟨v, rfl, hl, hb⟩ := h x List.mem_cons_self
    exact ⟨v :: L, rfl, fun y hy => (List.mem_cons.mp hy).elim (fun e => e ▸ hl) (h1 y), fun y hy => (List.mem_cons.mp hy).elim (fun e => e ▸ hb) (h2 y)⟩
theorem ends_ok {s : Dk} {n m : Nat} {ds acc : List D} {c8 : Cell} {v e : List Int} (hn : n ≤ 4) (hv : v.length = n) (he : e.length = n) (bv : Bv 9 v) (be : Bv 9 e) (hd : s.dr = false) (h : Fine s (m + 1)) :
    ∃ v' e' s', wEnds (cw s S way (.d (.int n)) (.ol acc) (.d (.lst ds)) c8 (.d (vD v)) (.d (vD e)) .no) = some (.nx (cw s' S way (.d (.int n)) (.ol acc) (.d (.lst ds)) c8 (.d (vD v')) (.d (vD e')) .no)) ∧ v'.length = n ∧ e'.length = n ∧ Bv 9 v' ∧ Bv 9 e' ∧ Fine s' m ∧ s'.dr = false := by
  have t0 : mTest (mBin dGt (mVar 5) (mC (.int 0))) (cw s S way (.d (.int n)) (.ol acc) (.d (.lst ds)) c8 (.d (vD v)) (.d (vD e)) .no) = some (decide (0 < n), cw s S way (.d (.int n)) (.ol acc) (.d (.lst ds)) c8 (.d (vD v)) (.d (vD e)) .no) := by
    refine ev_test (ev_bin (ev_var rfl) ev_c ?_)
    rw [dGt_int]
    congr 2
    exact decide_eq_decide.mpr (by omega)
  unfold wEnds
  by_cases q : 0 < n
  · rw [decide_eq_true q] at t0
    obtain ⟨r, s2, e2, r0, r1, f2, d2⟩ := f_draw_spec (s := s) (n := m) (many := 4) hd h (by decide) (by decide)
    have t1 : mTest (mBin dGt (mCallD 0 f__law_draw (mCons (mC (.int 4)) mNil)) (mC (.int 0))) (cw s S way (.d (.int n)) (.ol acc) (.d (.lst ds)) c8 (.d (vD v)) (.d (vD e)) .no) = some (decide (0 < r), cw s2 S way (.d (.int n)) (.ol acc) (.d (.lst ds)) c8 (.d (vD v)) (.d (vD e)) .no) :=
      ev_test (ev_bin (ev_callD (k0 := s) rfl (ev_cons ev_c ev_nil) rfl e2) ev_c (dGt_int _ _))
    by_cases q2 : 0 < r
    · rw [decide_eq_true q2] at t1
      have hvt : v.tail.length + 1 = n := by rw [List.length_tail]; omega
      have het : e.dropLast.length + 1 = n := by rw [List.length_dropLast]; omega
      refine ⟨1 :: v.tail, e.dropLast ++ [1], s2, ?_, by rw [List.length_cons]; exact hvt, by rw [List.length_append]; exact het, ?_, ?_, f2, d2⟩
      · refine (ev_ifT ((ev_andT t0).trans t1)).trans ?_
        have a1 : mBin dAdd (mApp dTup (mCons (mC (.int 1)) mNil)) (mSlice (mVar 9) (mPart (mC (.int 1))) mNoPart) (cw s2 S way (.d (.int n)) (.ol acc) (.d (.lst ds)) c8 (.d (vD v)) (.d (vD e)) .no) = some (vD (1 :: v.tail), cw s2 S way (.d (.int n)) (.ol acc) (.d (.lst ds)) c8 (.d (vD v)) (.d (vD e)) .no) := by
          refine ev_bin (a := vD [1]) (b := vD v.tail) (ev_app (ev_cons ev_c ev_nil) rfl) ?_ (add_V (by simp; omega))
          show ((dSlice (vD v) (some 1) none).map fun d => (d, _)) = _
          rw [cut_1]; rfl
        have a2 : mBin dAdd (mSlice (mVar 10) mNoPart (mPart (mUn dNeg (mC (.int 1))))) (mApp dTup (mCons (mC (.int 1)) mNil)) (cw s2 S way (.d (.int n)) (.ol acc) (.d (.lst ds)) c8 (.d (vD v)) (.d (vD e)) .no) = some (vD (e.dropLast ++ [1]), cw s2 S way (.d (.int n)) (.ol acc) (.d (.lst ds)) c8 (.d (vD v)) (.d (vD e)) .no) := by
          refine ev_bin (a := vD e.dropLast) (b := vD [1]) (ρ1 := cw s2 S way (.d (.int n)) (.ol acc) (.d (.lst ds)) c8 (.d (vD v)) (.d (vD e)) .no) ?_ (ev_app (ev_cons ev_c ev_nil) rfl) (add_V (by simp; omega))
          show ((dSlice (vD e) none (some (-1))).map fun d => (d, _)) = _
          rw [cut_m1]; rfl
        exact (ev_par (ρ1 := cw s2 S way (.d (.int n)) (.ol acc) (.d (.lst ds)) c8 (.d (vD v)) (.d (vD e)) .no) (ev_cons a1 (ev_cons a2 ev_nil)) rfl rfl).trans rfl
      · intro x hx
        rcases List.mem_cons.mp hx with rfl | hx
        · decide
        · exact bv x (List.mem_of_mem_tail hx)
      · intro x hx
        rcases List.mem_append.mp hx with hx | hx
        · exact be x (List.dropLast_subset e hx)
        · rw [List.mem_singleton] at hx; subst hx; decide
    · rw [decide_eq_false q2] at t1
      exact ⟨v, e, s2, (ev_ifF ((ev_andT t0).trans t1)).trans ev_skip, hv, he, bv, be, f2, d2⟩
  · rw [decide_eq_false q] at t0
    exact ⟨v, e, s, (ev_ifF (ev_andF t0)).trans ev_skip, hv, he, bv, be, h.le (by omega), hd⟩
theorem wC_ok {s : Dk} {m : Nat} (hS : S ∈ fours) (hd : s.dr = false) (h : Fine s (m + 100)) : ∃ w s' ρ, wC (cw s S way .no .no .no .no .no .no .no) = some (.rt w (.dk s' :: ρ)) ∧ World w ∧ Fine s' m ∧ s'.dr = false := by
  have hz := sz
  have hSl := four_len S hS
  obtain ⟨r, s1, e1, r0, r1, f1, d1⟩ := f_draw_spec (s := s) (n := m + 99) (many := 7) hd h (by decide) (by decide)
  obtain ⟨n, hn, hn3⟩ : ∃ n : Nat, (if r < 3 then r else 3) = (n : Int) ∧ n ≤ 3 := by
    refine ⟨(if r < 3 then r else 3).toNat, ?_, ?_⟩ <;> split <;> omega
  have hn4 : n ≤ 4 := by omega
  have g1 : (mParDO 5 6 (mApp dMin2 (mCons (mVar 1) (mCons (mCallD 0 f__law_draw (mCons (mBin dAdd (mBin dMulA (mC (.int 2)) (mVar 1)) (mC (.int 1))) mNil)) mNil))) (mNLst mNil)) (cw s S way .no .no .no .no .no .no .no) = some (.nx (cw s1 S way (.d (.int n)) (.ol []) .no .no .no .no .no)) := by
    have a : mApp dMin2 (mCons (mVar 1) (mCons (mCallD 0 f__law_draw (mCons (mBin dAdd (mBin dMulA (mC (.int 2)) (mVar 1)) (mC (.int 1))) mNil)) mNil)) (cw s S way .no .no .no .no .no .no .no) = some (.int n, cw s1 S way .no .no .no .no .no .no .no) := by
      have q8 : dMulA (.int 2) (.int 3) = some (.int 6) := mul_ok (lg (by decide)) (lg (by decide))
      refine ev_app (ds := [.int 3, .int r]) (ev_cons (ev_var rfl) (ev_cons (ev_callD (k0 := s) (ds := [.int 7]) rfl (ev_cons (ev_bin (ev_bin ev_c (ev_var rfl) q8) ev_c rfl) ev_nil) rfl e1) ev_nil)) ?_
      show some (D.int (if r < 3 then r else 3)) = _
      rw [hn]
    exact (ev_parDO (c1 := .no) (ρ2 := cw s1 S way .no .no .no .no .no .no .no) (xs := []) a rfl rfl rfl).trans rfl
  obtain ⟨x, s2, e2, m2, f2, d2⟩ := f_pick_spec (s := s1) (n := m + 98) d1 f1 (ds := [D.lst [.int 0, .int 0, .int 1], .lst [.int 0, .int 1, .int 1, .int 2], .lst [.int 0, .int 0, .int 1, .int (-1)], .lst [.int 0, .int 1, .int 2, .int (-2), .int 9, .int (-9)]]) (by simp) (by simp)
  obtain ⟨ds, rfl, hds⟩ := some_of m2
  have g2 : wPick (cw s1 S way (.d (.int n)) (.ol []) .no .no .no .no .no) = some (.nx (cw s2 S way (.d (.int n)) (.ol []) (.d (.lst ds)) .no .no .no .no)) :=
    (ev_set (ev_callD (k0 := s1) (ds := [.lst [D.lst [.int 0, .int 0, .int 1], .lst [.int 0, .int 1, .int 1, .int 2], .lst [.int 0, .int 0, .int 1, .int (-1)], .lst [.int 0, .int 1, .int 2, .int (-2), .int 9, .int (-9)]]]) rfl (by with_unfolding_all rfl) rfl e2) rfl).trans rfl
  obtain ⟨ρ', k1, k2⟩ := forGo_inv (f := gmName 8) (body := wLots) (fun j ρ => ∃ s' acc c8, isP c8 = true ∧ j ≤ S.length ∧ acc.length = j ∧ (∀ x ∈ acc, Tb n x) ∧ Fine s' (m + 20 + (S.length - j) * 16) ∧ s'.dr = false ∧ ρ = cw s' S way (.d (.int n)) (.ol acc) (.d (.lst ds)) c8 .no .no .no) (signs (Tx S)) 0 _
    ⟨s2, [], .no, rfl, Nat.zero_le _, rfl, (fun x hx => by cases hx), f2.le (by omega), d2, rfl⟩ (fun j d hj ρ hI => by
      rw [Nat.zero_add] at hI ⊢
      obtain ⟨s3, acc, c8, p8, _, ha, hT, f3, d3, rfl⟩ := hI
      have hj' := (List.getElem?_eq_some_iff.mp hj).1
      rw [Tx_signs, List.length_map] at hj'
      have hnn : n * n ≤ 16 := Nat.mul_le_mul hn4 hn4
      obtain ⟨x, s4, e4, hx, f4, d4⟩ := lots_ok (S := S) (way := way) (s := s3) (m := m + 20 + (S.length - (j + 1)) * 16) (n := n) (ds := ds) (acc := acc) (c8 := .d d) hn4 hds d3 (f3.le (by omega)) (by omega)
      refine ⟨_, _, name_ok (c := c8) rfl p8, e4, s4, acc ++ [x], .d d, rfl, hj', by rw [List.length_append, ha]; rfl, fun y hy => ?_, f4, d4, rfl⟩
      rcases List.mem_append.mp hy with hy | hy
      · exact hT y hy
      · rw [List.mem_singleton] at hy; subst hy; exact hx)
  obtain ⟨s3, acc, c8, p8, _, ha, hT, f3, d3, rfl⟩ := k2
  rw [Nat.zero_add, Tx_signs, List.length_map] at ha f3
  obtain ⟨L, rfl, hL1, hL2⟩ := tabs_of hT
  rw [List.length_map] at ha
  obtain ⟨v, s4, e4, lv, bv, f4, d4⟩ := f_line_spec (s := s3) (m := m + 10) (n := n) (ds := ds) d3 (f3.le (by omega)) (by omega) hds
  obtain ⟨e, s5, e5, le, be, f5, d5⟩ := f_line_spec (s := s4) (m := m + 1) (n := n) (ds := ds) d4 (f4.le (by omega)) (by omega) hds
  have g4 : (mPar 9 10 (mCons (mCallD 0 f__law_line (mCons (mVar 5) (mCons (mVar 7) mNil))) (mCons (mCallD 0 f__law_line (mCons (mVar 5) (mCons (mVar 7) mNil))) mNil))) (cw s3 S way (.d (.int n)) (.ol (L.map mD)) (.d (.lst ds)) c8 .no .no .no) = some (.nx (cw s5 S way (.d (.int n)) (.ol (L.map mD)) (.d (.lst ds)) c8 (.d (vD v)) (.d (vD e)) .no)) :=
    (ev_par (ρ1 := cw s5 S way (.d (.int n)) (.ol (L.map mD)) (.d (.lst ds)) c8 .no .no .no) (ev_cons (ρ1 := cw s4 S way (.d (.int n)) (.ol (L.map mD)) (.d (.lst ds)) c8 .no .no .no) (ev_callD (k0 := s3) rfl (ev_cons (ev_var rfl) (ev_cons (ev_var rfl) ev_nil)) rfl e4) (ev_cons (ev_callD (k0 := s4) rfl (ev_cons (ev_var rfl) (ev_cons (ev_var rfl) ev_nil)) rfl e5) ev_nil)) rfl rfl).trans rfl
  obtain ⟨v', e', s6, e6, lv', le', bv', be', f6, d6⟩ := ends_ok (S := S) (way := way) (s := s5) (m := m) (ds := ds) (acc := L.map mD) (c8 := c8) hn4 lv le bv be d5 f5
  refine ⟨.dct [(.inr "signs", tx S), (.inr "begin", vD v'), (.inr "lots", tD L), (.inr "last", vD e')], s6, [.d (.int 3), .d (tx S), .d (.int way), .od (od0 S), .d (.int n), .d (.lst (L.map mD)), .d (.lst ds), c8, .d (vD v'), .d (vD e'), .no, .no], ?_, ⟨S, v', L, e', n, ⟨hS, hn4, lv', le', ha, hL1, bv', be', hL2⟩, has_2, hn3⟩, f6, d6⟩
  · unfold wC
    rw [ev_seq g1, ev_seq g2, ev_seq (ev_for (ev_items (ev_var rfl) rfl) k1), ev_seq g4, ev_seq e6, ev_seq (ev_frz (ds := L.map mD) rfl)]
    exact ev_ret (by with_unfolding_all rfl)
theorem f__law_world_spec {s : Dk} {m : Nat} (hd : s.dr = false) (h : Fine s (m + 102)) : ∃ w s', f__law_world s [.int 3] = some (w, s') ∧ World w ∧ Fine s' m ∧ s'.dr = false := by
  obtain ⟨x, s1, e1, m1, f1, d1⟩ := f_pick_spec (s := s) (n := m + 101) hd h (ds := [D.str "01", .str "01", .str "0", .str "012", .str "38"]) (by simp) (by simp)
  obtain ⟨S, hS, rfl⟩ := sgn m1
  obtain ⟨way, s2, e2, y0, y1, f2, d2⟩ := f_draw_spec (s := s1) (n := m + 100) (many := 8) d1 f1 (by decide) (by decide)
  have g1 : w1 [.dk s, .d (.int 3), .no, .no, .no, .no, .no, .no, .no, .no, .no, .no, .no] = some (.nx [.dk s2, .d (.int 3), .d (tx S), .d (.int way), .no, .no, .no, .no, .no, .no, .no, .no, .no]) := by
    have a : mApp dTup (mCons (mCallD 0 f__law_pick (mCons (mApp dLst (mCons (mC (.str "01")) (mCons (mC (.str "01")) (mCons (mC (.str "0")) (mCons (mC (.str "012")) (mCons (mC (.str "38")) mNil)))))) mNil)) (mCons (mCallD 0 f__law_draw (mCons (mC (.int 8)) mNil)) mNil)) [.dk s, .d (.int 3), .no, .no, .no, .no, .no, .no, .no, .no, .no, .no, .no] = some (.tup [tx S, .int way], [.dk s2, .d (.int 3), .no, .no, .no, .no, .no, .no, .no, .no, .no, .no, .no]) :=
      ev_app (ev_cons (ρ1 := [.dk s1, .d (.int 3), .no, .no, .no, .no, .no, .no, .no, .no, .no, .no, .no]) (ev_callD (k0 := s) rfl (ev_cons (ev_app (ev_cons ev_c (ev_cons ev_c (ev_cons ev_c (ev_cons ev_c (ev_cons ev_c ev_nil))))) rfl) ev_nil) rfl e1) (ev_cons (ev_callD (k0 := s1) rfl (ev_cons ev_c ev_nil) rfl e2) ev_nil)) rfl
    unfold w1
    simp only [mAsg, a, Option.bind_some]
    rfl
  have fin : ∀ {w : D} {s' : Dk} {ρ : List Cell}, m__law_world [.dk s, .d (.int 3), .no, .no, .no, .no, .no, .no, .no, .no, .no, .no, .no] = some (.rt w (.dk s' :: ρ)) → f__law_world s [.int 3] = some (w, s') := fun h => ev_runD h
  have t2 : mTest (mBin dLt (mVar 3) (mC (.int 2))) [.dk s2, .d (.int 3), .d (tx S), .d (.int way), .od (od0 S), .no, .no, .no, .no, .no, .no, .no, .no] = some (decide (way < 2), [.dk s2, .d (.int 3), .d (tx S), .d (.int way), .od (od0 S), .no, .no, .no, .no, .no, .no, .no, .no]) := ev_test (ev_bin (ev_var rfl) ev_c (dLt_int _ _))
  have t3 : mTest (mBin dEq (mVar 3) (mC (.int 2))) [.dk s2, .d (.int 3), .d (tx S), .d (.int way), .od (od0 S), .no, .no, .no, .no, .no, .no, .no, .no] = some (decide (way = 2), [.dk s2, .d (.int 3), .d (tx S), .d (.int way), .od (od0 S), .no, .no, .no, .no, .no, .no, .no, .no]) := ev_test (ev_bin (ev_var rfl) ev_c (dEq_int _ _))
  by_cases q2 : way < 2
  · rw [decide_eq_true q2] at t2
    obtain ⟨w, ρ, e3, hw⟩ := wA_ok (s := s2) hS y0 q2
    refine ⟨w, s2, fin (ρ := ρ) ?_, hw, f2.le (by omega), d2⟩
    rw [world_eq, ev_seq g1, ev_seq w2_ok]
    exact ev_seqR ((ev_ifT t2).trans e3)
  · rw [decide_eq_false q2] at t2
    by_cases q3 : way = 2
    · rw [decide_eq_true q3] at t3
      obtain ⟨w, ρ, e3, hw⟩ := wB_ok (s := s2) (way := way) hS
      refine ⟨w, s2, fin (ρ := ρ) ?_, hw, f2.le (by omega), d2⟩
      rw [world_eq, ev_seq g1, ev_seq w2_ok, ev_seq ((ev_ifF t2).trans ev_skip)]
      exact ev_seqR ((ev_ifT t3).trans e3)
    · rw [decide_eq_false q3] at t3
      obtain ⟨w, s3, ρ, e3, hw, f3, d3⟩ := wC_ok (S := S) (way := way) (s := s2) (m := m) hS d2 f2
      refine ⟨w, s3, fin (ρ := ρ) ?_, hw, f3, d3⟩
      rw [world_eq, ev_seq g1, ev_seq w2_ok, ev_seq ((ev_ifF t2).trans ev_skip), ev_seq ((ev_ifF t3).trans ev_skip)]
      exact e3
end
end Lk07

namespace Lk07
open PySem L2 TL
theorem cut_ints (ms : List Int) (lo hi : Option Int) : ∃ ns : List Int, cutD (ms.map D.int) lo hi = ns.map D.int ∧ ns.length ≤ ms.length := by
  unfold cutD
  rw [List.length_map]
  refine ⟨(ms.drop (HT.sIx ms.length 0 lo)).take (HT.sIx ms.length ms.length hi - HT.sIx ms.length 0 lo), by rw [← List.map_drop, ← List.map_take], ?_⟩
  rw [List.length_take, List.length_drop]; omega
theorem deck_spec (ms : List Int) (h : ms.length ≤ 63) : ∃ s, f__law_deck [.scr ms] = some s ∧ Fine s 1000 ∧ s.dr = false := by
  obtain ⟨ns, e, hl⟩ := cut_ints ms none (some 63)
  have g1 : (mPar 1 2 (mCons (mApp dList (mCons (mSlice (mVar 0) mNoPart (mPart (mC (.int 63)))) mNil)) (mCons (mC (.int 10870070)) mNil))) [.d (.scr ms), .no, .no, .no] = some (.nx [.d (.scr ms), .d (.lst (ns.map D.int)), .d (.int 10870070), .no]) := by
    have a : mSlice (mVar 0) mNoPart (mPart (mC (.int 63))) [.d (.scr ms), .no, .no, .no] = some (.lst (ns.map D.int), [.d (.scr ms), .no, .no, .no]) := by
      show ((dSlice (.scr ms) none (some 63)).map fun d => (d, _)) = _
      show ((some (D.lst (cutD (ms.map D.int) none (some 63)))).map fun d => (d, _)) = _
      rw [e]; rfl
    rw [ev_par (ev_cons (ev_app (ev_cons a ev_nil) rfl) (ev_cons ev_c ev_nil)) rfl rfl]; rfl
  obtain ⟨ρ1, q1, q2⟩ := forGo_inv (f := gmName 3) (body := (mAsg (mBin dMod (mApp dInt (mCons (mBin dAdd (mBin dAdd (mBin dMulA (mVar 2) (mC (.int 39373))) (mBin dMod (mApp dInt (mCons (mVar 3) mNil)) (mC (.int 2147483629)))) (mC (.int 251))) mNil)) (mC (.int 2147483587))) (gmName 2)))
    (fun j ρ => ∃ (m : Int) (c : Cell), 0 ≤ m ∧ m < 2147483587 ∧ isP c = true ∧ ρ = [.d (.scr ms), .d (.lst (ns.map D.int)), .d (.int m), c]) (ns.map D.int) 0 _ ⟨10870070, .no, by decide, by decide, rfl, rfl⟩ (fun j d hj ρ hI => by
      obtain ⟨m, c, m0, m1, pc, rfl⟩ := hI
      have hj' := (List.getElem?_eq_some_iff.mp hj).1
      rw [List.length_map] at hj'
      rw [List.getElem?_map, List.getElem?_eq_getElem hj'] at hj
      cases hj
      generalize ns[j] = x
      have b1 := Int.emod_nonneg (m * 39373 + x % 2147483629 + 251) (b := 2147483587) (by decide)
      have b2 := Int.emod_lt_of_pos (m * 39373 + x % 2147483629 + 251) (b := 2147483587) (by decide)
      refine ⟨[.d (.scr ms), .d (.lst (ns.map D.int)), .d (.int m), .d (.int x)], [.d (.scr ms), .d (.lst (ns.map D.int)), .d (.int ((m * 39373 + x % 2147483629 + 251) % 2147483587)), .d (.int x)], ?_, ?_, _, _, b1, b2, rfl, rfl⟩
      · unfold gmName
        rw [if_pos (by rw [plainAt_eq]; exact pc)]; rfl
      · rw [ev_set (ev_bin (ev_app (ev_cons (ev_bin (ev_bin (ev_bin (ev_var rfl) ev_c (mul_ok (lg (by omega)) (lg (by decide)))) (ev_bin (ev_app (ev_cons (ev_var rfl) ev_nil) int_ok) ev_c (mod_ok (by decide))) add_ok) ev_c add_ok) ev_nil) int_ok) ev_c (mod_ok (by decide))) rfl]
        rfl)
  obtain ⟨m, c, m0, m1, _, rfl⟩ := q2
  refine ⟨⟨ns.reverse, m, 0, false⟩, ?_, ⟨by rw [List.length_reverse]; omega, m0, by show m < _; omega, by show (0 : Int) ≤ 0; decide, by show (0 : Int) + (1000 : Nat) ≤ _; decide⟩, rfl⟩
  have h1 : m__law_deck [.d (.scr ms), .no, .no, .no] = some (.nx [.d (.scr ms), .d (.lst (ns.map D.int)), .d (.int m), c]) := by
    unfold m__law_deck
    rw [ev_seq g1, ev_seq (ev_for (ev_items (ev_var rfl) rfl) q1)]; rfl
  show (m__law_deck [.d (.scr ms), .no, .no, .no]).bind (endN 1 2 false) = _
  rw [h1]
  show ((asInts (ns.map D.int)).map fun ns => (⟨ns.reverse, m, 0, false⟩ : Dk)) = _
  rw [asInts_map]; rfl
theorem ev_setDk {i : Nat} {f : List D → Option Dk} {ma : MA} {ρ ρ1 : List Cell} {ds : List D} {s : Dk} (h1 : ma ρ = some (ds, ρ1)) (h2 : f ds = some s) (h3 : plainAt ρ1 i = true) : mSetDk i f ma ρ = some (.nx (ρ1.set i (.dk s))) := by
  simp only [mSetDk, h1, h2, Option.bind_some, if_pos h3]
theorem repr_of5 {d : D} {p : PyData} (h : d.py = some p) (hs : shows d p = true) : ∃ t, dRepr [d] = some (.str t) := by
  refine ⟨p.shown, ?_⟩
  show (d.py.bind fun p => if shows d p = true then some (D.str p.shown) else none) = _
  rw [h, Option.bind_some, if_pos hs]
/-! ### values that are no tickets -/
def OddOk (S : List Nat) (d : D) : Prop := Odd S d ∧ ∃ t, dRepr [d] = some (.str t)
abbrev odds (a : Nat) : List D := [.non, .int 0, .int 7, .bl true, .tup [], .lst [], .tup [.str "0"], .lst [.str "0"], .str "a", .str " ", .str "0 ", .str "-0", .str "0\n", .str "x1", tx [a, 63], .tup [.str ""], .dct []]
theorem odd_no {S : List Nat} {d : D} {p : PyData} (h : dTy d ≠ none) (h2 : dTy d ≠ some "str") (h3 : d.py = some p) (h4 : shows d p = true) : OddOk S d := ⟨f_is_ticket_no (Tx S) d h h2, repr_of5 h3 h4⟩
theorem odd_tx {S x : List Nat} (h : isT S x = false) (hl : x.length ≤ 1000) (hc : ∀ c ∈ x, c < 1114112) : OddOk S (tx x) := by
  refine ⟨?_, (shw_str hc).repr (by decide) (by omega)⟩
  show f_is_ticket [tx S, tx x] = _
  rw [f_is_ticket_str S x hl, h]
theorem odd_str {S x : List Nat} {z : Str} (e : z = Tx x) (h : isT S x = false) (hl : x.length ≤ 1000) (hc : ∀ c ∈ x, c < 1114112) : OddOk S (.str z) := by
  subst e; exact odd_tx h hl hc
theorem four_odd : ∀ S ∈ fours, isT S [97] = false ∧ isT S [32] = false ∧ isT S [48, 32] = false ∧ isT S [45, 48] = false ∧ isT S [48, 10] = false ∧ isT S [120, 49] = false ∧ isT S [S.headD 0, 63] = false ∧ S.headD 0 < 100 ∧ S = S.headD 0 :: S.tail := by decide
theorem odds_ok {S : List Nat} (hS : S ∈ fours) : ∀ d ∈ odds (S.headD 0), OddOk S d := by
  obtain ⟨q1, q2, q3, q4, q5, q6, q7, q8, _⟩ := four_odd S hS
  intro d hd
  simp only [odds, List.mem_cons, List.not_mem_nil, or_false] at hd
  rcases hd with rfl | rfl | rfl | rfl | rfl | rfl | rfl | rfl | rfl | rfl | rfl | rfl | rfl | rfl | rfl | rfl | rfl
  · exact odd_no (by decide) (by decide) rfl (by decide +kernel)
  · exact odd_no (by simp [dTy]) (by simp [dTy]) rfl (by decide +kernel)
  · exact odd_no (by simp [dTy]) (by simp [dTy]) rfl (by decide +kernel)
  · exact odd_no (by simp [dTy]) (by simp [dTy]) rfl (by decide +kernel)
  · exact odd_no (by simp [dTy]) (by simp [dTy]) rfl (by decide +kernel)
  · exact odd_no (by simp [dTy]) (by simp [dTy]) rfl (by decide +kernel)
  · exact odd_no (by simp [dTy]) (by simp [dTy]) rfl (by decide +kernel)
  · exact odd_no (by simp [dTy]) (by simp [dTy]) rfl (by decide +kernel)
  · exact odd_str (by decide +kernel) q1 (by decide) (by decide)
  · exact odd_str (by decide +kernel) q2 (by decide) (by decide)
  · exact odd_str (by decide +kernel) q3 (by decide) (by decide)
  · exact odd_str (by decide +kernel) q4 (by decide) (by decide)
  · exact odd_str (by decide +kernel) q5 (by decide) (by decide)
  · exact odd_str (by decide +kernel) q6 (by decide) (by decide)
  · exact odd_tx q7 (by simp) (fun c hc => by
      simp only [List.mem_cons, List.not_mem_nil, or_false] at hc
      rcases hc with rfl | rfl <;> omega)
  · exact odd_no (by simp [dTy]) (by simp [dTy]) rfl (by decide +kernel)
  · exact odd_no (by simp [dTy]) (by simp [dTy]) rfl (by decide +kernel)
theorem digs_small : ∀ c ∈ digs, c < 100 := by decide
theorem f__law_odd_spec {s : Dk} {m : Nat} {S : List Nat} (hS : S ∈ fours) (hd : s.dr = false) (h : Fine s (m + 1)) : ∃ d s', f__law_odd s [tx S] = some (d, s') ∧ OddOk S d ∧ Fine s' m ∧ s'.dr = false := by
  have hz := sz
  obtain ⟨a, ha⟩ : ∃ a, a = S.headD 0 := ⟨_, rfl⟩
  obtain ⟨q1, q2, q3, q4, q5, q6, q7, q8, q9⟩ := four_odd S hS
  rw [← ha] at q7 q8 q9
  have hSl := (four_len S hS).1
  have i0 : dItemA (tx S) (.int 0) = some (tx [a]) := by
    show (if (Tx S).length ≤ sizeLine then (L2.atI (Tx S).cps.toList 0).map (fun c => D.str ⟨#[c]⟩) else none) = _
    rw [if_pos (by rw [Tx_len]; omega), Tx_cps]
    have := atI_nat (xs := S) (j := 0) (v := a) (by rw [q9]; rfl)
    rw [show ((0 : Nat) : Int) = 0 from rfl] at this
    rw [this]; rfl
  let R : Cell → List Cell := fun c => [.dk s, .d (tx S), c, .no]
  have g1 : (mAsg (mApp dLst (mCons (mC .non) (mCons (mC (.int 0)) (mCons (mC (.int 7)) (mCons (mC (.bl true)) (mCons (mApp dTup mNil) (mCons (mApp dLst mNil) (mCons (mApp dTup (mCons (mC (.str "0")) mNil)) (mCons (mApp dLst (mCons (mC (.str "0")) mNil)) (mCons (mC (.str "a")) (mCons (mC (.str " ")) (mCons (mC (.str "0 ")) (mCons (mC (.str "-0")) (mCons (mC (.str "0\n")) (mCons (mC (.str "x1")) (mCons (mBin dAdd (mBin dItemA (mVar 1) (mC (.int 0))) (mC (.str "?"))) (mCons (mApp dTup (mCons (mC (.str "")) mNil)) (mCons mDict0 mNil)))))))))))))))))) (gmName 2)) (R .no) = some (.nx (R (.d (.lst (odds a))))) := by
    have e15 : dAdd (tx [a]) (.str "?") = some (tx [a, 63]) := by
      rw [show ("?" : Str) = Tx [63] by decide +kernel]
      exact add_Tx (by simp)
    exact (ev_set (ev_app (d := .lst (odds a)) (ev_cons ev_c (ev_cons ev_c (ev_cons ev_c (ev_cons ev_c (ev_cons (ev_app ev_nil rfl) (ev_cons (ev_app ev_nil rfl) (ev_cons (ev_app (ev_cons ev_c ev_nil) rfl) (ev_cons (ev_app (ev_cons ev_c ev_nil) rfl) (ev_cons ev_c (ev_cons ev_c (ev_cons ev_c (ev_cons ev_c (ev_cons ev_c (ev_cons ev_c (ev_cons (ev_bin (ev_bin (ev_var rfl) ev_c i0) ev_c e15) (ev_cons (ev_app (ev_cons ev_c ev_nil) rfl) (ev_cons ev_c ev_nil))))))))))))))))) rfl) rfl).trans rfl
  let F : List Nat := digs.filter fun c => !decide (c ∈ S)
  have go := lcGo_map (f := gmName 3) (mt := mTest (mBin dNotIn (mVar 3) (mVar 1))) (me := (mBin dAdd (mBin dItemA (mVar 1) (mC (.int 0))) (mVar 3))) (vs := [3]) (ρ := R (.d (.lst (odds a)))) (fun c : Nat => tx [c]) (fun c => !decide (c ∈ S)) (fun c => tx [a, c]) digs fun c hc =>
    ⟨[.dk s, .d (tx S), .d (.lst (odds a)), .d (tx [c])], rfl, ev_test (ev_bin (ev_var rfl) (ev_var rfl) (by show some (D.bl (!strIn (Tx [c]) (Tx S))) = _; rw [strIn_Tx])), fun _ => ev_bin (ev_bin (ev_var rfl) ev_c i0) (ev_var rfl) (add_Tx (by simp)), rfl⟩
  have hFl : F.length ≤ 10 := Nat.le_trans (List.length_filter_le _ _) (by decide)
  have g2 : (mAsg (mBin dAdd (mVar 2) (mLc (mItems (mC (.str "0123456789"))) (gmName 3) (mTest (mBin dNotIn (mVar 3) (mVar 1))) (mBin dAdd (mBin dItemA (mVar 1) (mC (.int 0))) (mVar 3)) [3])) (gmName 2)) (R (.d (.lst (odds a)))) = some (.nx (R (.d (.lst (odds a ++ F.map fun c => tx [a, c]))))) := by
    have e : dItems (.str "0123456789") = some (digs.map fun c => tx [c]) := by rw [digs_eq]; rfl
    exact (ev_set (ev_bin (ev_var rfl) (ev_lc (ρ1 := R (.d (.lst (odds a)))) (ev_items ev_c e) rfl go (by rw [List.length_map]; exact Nat.le_trans hFl (by omega))) (add_lst (by rw [List.length_map]; exact Nat.le_trans (show _ ≤ 27 from Nat.add_le_add_left hFl 17) (by omega)))) rfl).trans rfl
  obtain ⟨d, s', e3, hm, f3, d3⟩ := f_pick_spec (s := s) (n := m) (ds := odds a ++ F.map fun c => tx [a, c]) hd h (by simp) (by
    rw [List.length_append, List.length_map]
    exact Nat.lt_of_le_of_lt (show _ ≤ 27 from Nat.add_le_add_left hFl 17) (by decide))
  have hok : OddOk S d := by
    rcases List.mem_append.mp hm with hm | hm
    · rw [ha] at hm
      exact odds_ok hS d hm
    · obtain ⟨c, hc, rfl⟩ := List.mem_map.mp hm
      obtain ⟨hc1, hc2⟩ := List.mem_filter.mp hc
      have hcs : c ∉ S := by simpa using hc2
      have := digs_small c hc1
      refine odd_tx ?_ (by simp) (fun x hx => ?_)
      · simp [isT, hcs]
      · simp only [List.mem_cons, List.not_mem_nil, or_false] at hx
        rcases hx with rfl | rfl <;> omega
  refine ⟨d, s', ev_runD (ρ := [.d (tx S), .d (.lst (odds a ++ F.map fun c => tx [a, c])), .no]) ?_, hok, f3, d3⟩
  show m__law_odd (R .no) = _
  unfold m__law_odd
  rw [ev_seq g1, ev_seq g2]
  exact ev_ret (ev_callD (k0 := s) rfl (ev_cons (ev_var rfl) ev_nil) rfl e3)
end Lk07

namespace Lk07
open PySem L2 TL

/-! ### pieces -/
theorem dEq_V (a b : List Int) : dEq (vD a) (vD b) = some (.bl (decide (a = b))) := by
  unfold dEq cmpP fEq
  simp only [D.py, pys_ints, Option.map_some, Option.bind_some]
  rw [if_pos (by show PyData.depthAll _ + 1 ≤ 64; rw [depthAll_ints]; omega), if_pos ⟨plainAll_ints a, plainAll_ints b⟩]
  simp only [Option.map_some, PyData.eqv, eqvAll_ints]
def pfD (S : List Nat) (b : List Int) (L : List (List (List Int))) (e : List Int) (n : Nat) (p : List Nat) : List (Str × D) := [("table_now", mD ((units n).map fun r => run S L r p)), ("tally", obD S b L e), ("ticket", tx p)]
abbrev pcD (S : List Nat) (b : List Int) (L : List (List (List Int))) (e : List Int) (n : Nat) (p : List Nat) : D := .obj "Piece" (pfD S b L e n p)
section
variable {S : List Nat} {b e : List Int} {L : List (List (List Int))} {n : Nat} {p q : List Nat}
theorem pf1 : (pfD S b L e n p).lookup ("table_now" : Str) = some (mD ((units n).map fun r => run S L r p)) := by with_unfolding_all rfl
theorem pf2 : (pfD S b L e n p).lookup ("tally" : Str) = some (obD S b L e) := by with_unfolding_all rfl
theorem pf3 : (pfD S b L e n p).lookup ("ticket" : Str) = some (tx p) := by with_unfolding_all rfl
theorem pf4 : (pfD S b L e n p).lookup ("joined" : Str) = none := by with_unfolding_all rfl
theorem pf5 : (pfD S b L e n p).lookup ("led" : Str) = none := by with_unfolding_all rfl
theorem f_initP (W : WOk S b L e n) (hp : Pg S p) : f_Piece____init__ [obD S b L e, tx p] = some (pfD S b L e n p) := by
  have hh : m_Piece____init__ [.ns "Piece" [], .d (obD S b L e), .d (tx p)] = some (.nx [.ns "Piece" (pfD S b L e n p), .d (obD S b L e), .d (tx p)]) := by
    unfold m_Piece____init__
    rw [ev_seq (ev_fst (fs := []) (ρ1 := [.ns "Piece" [], .d (obD S b L e), .d (tx p)]) rfl (ev_meth (xs := [obD S b L e, tx p]) (ev_var rfl) fs7 (ev_cons (ev_var rfl) ev_nil) ev_nil rfl (f_table_spec W hp)) rfl (by decide))]
    show mSeq _ _ [.ns "Piece" [("table_now", mD ((units n).map fun r => run S L r p))], .d (obD S b L e), .d (tx p)] = _
    rw [ev_seq (ev_fst (fs := [("table_now", mD ((units n).map fun r => run S L r p))]) rfl (ev_var rfl) rfl (by show (1 : Nat) < 999; decide))]
    show mFst _ _ _ _ [.ns "Piece" [("table_now", mD ((units n).map fun r => run S L r p)), ("tally", obD S b L e)], .d (obD S b L e), .d (tx p)] = _
    rw [ev_fst (fs := [("table_now", mD ((units n).map fun r => run S L r p)), ("tally", obD S b L e)]) rfl (ev_var rfl) rfl (by show (2 : Nat) < 999; decide)]
    rfl
  show runI "Piece" 3 m_Piece____init__ [obD S b L e, tx p] = _
  unfold runI
  show (match m_Piece____init__ [.ns "Piece" [], .d (obD S b L e), .d (tx p)] with
    | some (.nx (.ns c' fs :: _)) => if c' = "Piece" then some fs else none
    | _ => none) = _
  rw [hh]
  exact if_pos rfl
theorem fst_none {i : Nat} {c f : Str} {me : ME} {ρ : List Cell} {c0 : Str} {fs0 : List (Str × D)} (h0 : ρ[i]? = some (.ns c0 fs0)) (h1 : me ρ = none) : mFst i c f me ρ = none := by
  simp only [mFst, h0, h1, Option.bind_none]
theorem f_initP_no {d : D} (h : Odd S d) : f_Piece____init__ [obD S b L e, d] = none := by
  have hh : m_Piece____init__ [.ns "Piece" [], .d (obD S b L e), .d d] = none := by
    unfold m_Piece____init__
    exact seq_none (fst_none rfl (ev_methN (xs := [obD S b L e, d]) (ev_var rfl) fs7 (ev_cons (ev_var rfl) ev_nil) ev_nil rfl (f_table_no h)))
  show runI "Piece" 3 m_Piece____init__ [obD S b L e, d] = _
  unfold runI
  show (match m_Piece____init__ [.ns "Piece" [], .d (obD S b L e), .d d] with
    | some (.nx (.ns c' fs :: _)) => if c' = "Piece" then some fs else none
    | _ => none) = _
  rw [hh]
theorem x_initP_no {d : D} (h : Odd S d) : x_Piece____init__ [obD S b L e, d] = some (exD d) := by
  have hh : xm_Piece____init__ [.ns "Piece" [], .d (obD S b L e), .d d] = some (exD d, [.ns "Piece" [], .d (obD S b L e), .d d]) := by
    unfold xm_Piece____init__
    exact ev_xMeth (xs := [obD S b L e, d]) (ev_var rfl) fs7 (ev_cons (ev_var rfl) ev_nil) ev_nil rfl (x_table_no h)
  show runXI "Piece" 3 xm_Piece____init__ [obD S b L e, d] = _
  unfold runXI
  show (xm_Piece____init__ [.ns "Piece" [], .d (obD S b L e), .d d]).map (·.1) = _
  rw [hh]; rfl
theorem eqA_tally : dOEA "Tally" ["Piece"] f_Tally____eq__ (obD S b L e) (obD S b L e) = some (.bl true) := by
  simp only [dOEA]
  rw [if_pos ⟨trivial, by show decide (("Tally" : Str) = "Tally" ∨ ("Tally" : Str) ∈ (["Piece"] : List Str)) = true; decide⟩]
  show (f_Tally____eq__ [obD S b L e, obD S b L e]).bind _ = _
  rw [f_eq_spec]; rfl
theorem f_eq_far {b2 e2 : List Int} {L2 : List (List (List Int))} (h : b ≠ b2) : f_Tally____eq__ [obD S b L e, obD S b2 L2 e2] = some (.bl false) := by
  have i1 : dIsOA "Tally" ["Piece"] (obD S b2 L2 e2) = some (.bl true) := by simp only [dIsOA]; exact if_pos trivial
  refine ev_runP (ρ := [.d (obD S b L e), .d (obD S b2 L2 e2)]) (ev_ret ?_)
  refine (ev_andVT (ev_un (ev_var rfl) i1)).trans ?_
  refine (ev_andVT (ev_bin (ev_fld (ev_var rfl) mem1 fs1) (ev_fld (ev_var rfl) mem1 fs1) ((pl_str _).eq (by decide)))).trans ?_
  exact ev_andVF (ev_bin (ev_fld (ev_var rfl) mem1 fs2) (ev_fld (ev_var rfl) mem1 fs2) (by rw [dEq_V, decide_eq_false h]))
theorem ne_far {b2 e2 : List Int} {L2 : List (List (List Int))} (h : b ≠ b2) : dOE "Tally" f_Tally____eq__ true (obD S b L e) (obD S b2 L2 e2) = some (.bl true) := by
  show (if ("Tally" : Str) = "Tally" ∧ ("Tally" : Str) = "Tally" then (f_Tally____eq__ [obD S b L e, obD S b2 L2 e2]).bind _ else none) = _
  rw [if_pos ⟨rfl, rfl⟩, f_eq_far h]; rfl
theorem eqA_far {b2 e2 : List Int} {L2 : List (List (List Int))} (h : b ≠ b2) : dOEA "Tally" ["Piece"] f_Tally____eq__ (obD S b L e) (obD S b2 L2 e2) = some (.bl false) := by
  simp only [dOEA]
  rw [if_pos ⟨trivial, by show decide (("Tally" : Str) = "Tally" ∨ ("Tally" : Str) ∈ (["Piece"] : List Str)) = true; decide⟩]
  show (f_Tally____eq__ [obD S b L e, obD S b2 L2 e2]).bind _ = _
  rw [f_eq_far h]; rfl
theorem isPc : dIsOA "Piece" ["Tally"] (pcD S b L e n p) = some (.bl true) := by simp only [dIsOA]; exact if_pos trivial
theorem f_eqP : f_Piece____eq__ [pcD S b L e n p, pcD S b L e n q] = some (.bl (decide (p = q))) := by
  refine ev_runP (ρ := [.d (pcD S b L e n p), .d (pcD S b L e n q)]) (ev_ret ?_)
  refine (ev_andVT (ev_un (ev_var rfl) isPc)).trans ?_
  refine (ev_andVT (ev_bin (ev_fld (ev_var rfl) mem1 pf2) (ev_fld (ev_var rfl) mem1 pf2) eqA_tally)).trans ?_
  exact ev_bin (ev_fld (ev_var rfl) mem1 pf3) (ev_fld (ev_var rfl) mem1 pf3) (by rw [dEq_str, Tx_beq])
theorem f_eqP_far {b2 e2 : List Int} {L2 : List (List (List Int))} {n2 : Nat} (h : b ≠ b2) : f_Piece____eq__ [pcD S b L e n p, pcD S b2 L2 e2 n2 q] = some (.bl false) := by
  refine ev_runP (ρ := [.d (pcD S b L e n p), .d (pcD S b2 L2 e2 n2 q)]) (ev_ret ?_)
  refine (ev_andVT (ev_un (ev_var rfl) isPc)).trans ?_
  exact ev_andVF (ev_bin (ev_fld (ev_var rfl) mem1 pf2) (ev_fld (ev_var rfl) mem1 pf2) (eqA_far h))
theorem eqP : dOE "Piece" f_Piece____eq__ false (pcD S b L e n p) (pcD S b L e n q) = some (.bl (decide (p = q))) := by
  show (if ("Piece" : Str) = "Piece" ∧ ("Piece" : Str) = "Piece" then (f_Piece____eq__ [pcD S b L e n p, pcD S b L e n q]).bind _ else none) = _
  rw [if_pos ⟨rfl, rfl⟩, f_eqP]
  show some (D.bl (decide (p = q) != false)) = _
  cases decide (p = q) <;> rfl
theorem neP : dOE "Piece" f_Piece____eq__ true (pcD S b L e n p) (pcD S b L e n p) = some (.bl false) := by
  show (if ("Piece" : Str) = "Piece" ∧ ("Piece" : Str) = "Piece" then (f_Piece____eq__ [pcD S b L e n p, pcD S b L e n p]).bind _ else none) = _
  rw [if_pos ⟨rfl, rfl⟩, f_eqP, decide_eq_true rfl]; rfl
theorem eqP_far {b2 e2 : List Int} {L2 : List (List (List Int))} {n2 : Nat} (h : b ≠ b2) : dOE "Piece" f_Piece____eq__ false (pcD S b L e n p) (pcD S b2 L2 e2 n2 q) = some (.bl false) := by
  show (if ("Piece" : Str) = "Piece" ∧ ("Piece" : Str) = "Piece" then (f_Piece____eq__ [pcD S b L e n p, pcD S b2 L2 e2 n2 q]).bind _ else none) = _
  rw [if_pos ⟨rfl, rfl⟩, f_eqP_far h]; rfl
/-- never equal to what is no piece -/
theorem eqA_other {d : D} (hk : okEA "Piece" ["Tally"] d = true) (h : dIsOA "Piece" ["Tally"] d = some (.bl false)) : dOEA "Piece" ["Tally"] f_Piece____eq__ (pcD S b L e n p) d = some (.bl false) := by
  have g : f_Piece____eq__ [pcD S b L e n p, d] = some (.bl false) := ev_runP (ρ := [.d (pcD S b L e n p), .d d]) (ev_ret (ev_andVF (ev_un (ev_var rfl) h)))
  simp only [dOEA]
  rw [if_pos ⟨trivial, hk⟩]
  show (f_Piece____eq__ [pcD S b L e n p, d]).bind _ = _
  rw [g]; rfl
theorem f_joined (W : WOk S b L e n) (h : Pg S (p ++ q)) : f_Piece__joined [pcD S b L e n p, pcD S b L e n q] = some (pcD S b L e n (p ++ q)) := by
  have hl := h.len
  rw [List.length_append] at hl
  refine ev_runP (ρ := [.d (pcD S b L e n p), .d (pcD S b L e n q)]) ?_
  show m_Piece__joined [.d (pcD S b L e n p), .d (pcD S b L e n q)] = _
  unfold m_Piece__joined
  rw [ev_seq ((ev_ifF (ev_test (ev_bin (ev_fld (ev_var rfl) mem1 pf2) (ev_fld (ev_var rfl) mem1 pf2) ne_spec))).trans ev_skip)]
  exact ev_ret (ev_make (xs := [obD S b L e, tx (p ++ q)]) (ev_cons (ev_fld (ev_var rfl) mem1 pf2) (ev_cons (ev_bin (ev_fld (ev_var rfl) mem1 pf3) (ev_fld (ev_var rfl) mem1 pf3) (add_Tx (by omega))) ev_nil)) ev_nil rfl (f_initP W h))
theorem f_joined_far {b2 e2 : List Int} {L2 : List (List (List Int))} {n2 : Nat} (h : b ≠ b2) : f_Piece__joined [pcD S b L e n p, pcD S b2 L2 e2 n2 q] = none := by
  have g : m_Piece__joined [.d (pcD S b L e n p), .d (pcD S b2 L2 e2 n2 q)] = none := by
    unfold m_Piece__joined
    exact seq_none (ev_ifT (ev_test (ev_bin (ev_fld (ev_var rfl) mem1 pf2) (ev_fld (ev_var rfl) mem1 pf2) (ne_far h))))
  show runP 2 m_Piece__joined [pcD S b L e n p, pcD S b2 L2 e2 n2 q] = _
  unfold runP
  show (match m_Piece__joined [.d (pcD S b L e n p), .d (pcD S b2 L2 e2 n2 q)] with
    | some (.rt d _) => some d
    | some (.nx _) => some .non
    | _ => none) = _
  rw [g]
theorem x_joined_far {b2 e2 : List Int} {L2 : List (List (List Int))} {n2 : Nat} (h : b ≠ b2) : x_Piece__joined [pcD S b L e n p, pcD S b2 L2 e2 n2 q] = some ((("OtherTally" : Str), []) : Exn) := by
  have g : xm_Piece__joined [.d (pcD S b L e n p), .d (pcD S b2 L2 e2 n2 q)] = some (((("OtherTally" : Str), []) : Exn), [.d (pcD S b L e n p), .d (pcD S b2 L2 e2 n2 q)]) := by
    unfold xm_Piece__joined xAlt
    rw [ev_xIfT (ev_test (ev_bin (ev_fld (ev_var rfl) mem1 pf2) (ev_fld (ev_var rfl) mem1 pf2) (ne_far h)))]
    rfl
  exact ev_runX (ds := [pcD S b L e n p, pcD S b2 L2 e2 n2 q]) (N := 2) g
end
end Lk07

namespace Lk07
open PySem L2 TL

theorem cutL_take {ds : List D} {k : Nat} (h : k ≤ ds.length) : dSlice (.lst ds) none (some (k : Int)) = some (.lst (ds.take k)) := by
  show some (D.lst (cutD ds none (some (k : Int)))) = _
  unfold cutD
  rw [show HT.sIx ds.length ds.length (some (k : Int)) = min k ds.length from HT.sIx_nat _ _ k, show HT.sIx ds.length 0 none = 0 from rfl, List.drop_zero, Nat.sub_zero, Nat.min_eq_left h]
theorem cutL_drop {ds : List D} {k : Nat} (h : k ≤ ds.length) : dSlice (.lst ds) (some (k : Int)) none = some (.lst (ds.drop k)) := by
  show some (D.lst (cutD ds (some (k : Int)) none)) = _
  unfold cutD
  rw [show HT.sIx ds.length 0 (some (k : Int)) = min k ds.length from HT.sIx_nat _ _ k, show HT.sIx ds.length ds.length none = ds.length from rfl, Nat.min_eq_left h, List.take_of_length_le (by rw [List.length_drop]; omega)]
theorem ev_sliceR {ρ ρ1 ρ2 : List Cell} {ma mb : ME} {a d : D} {k : Int} (h1 : ma ρ = some (a, ρ1)) (h2 : mb ρ1 = some (.int k, ρ2)) (h3 : dSlice a none (some k) = some d) : mSlice ma mNoPart (mPart mb) ρ = some (d, ρ2) := by
  simp only [mSlice, mNoPart, mPart, h1, h2, h3, Option.bind_some, Option.map_some]
theorem ev_sliceL {ρ ρ1 ρ2 : List Cell} {ma mb : ME} {a d : D} {k : Int} (h1 : ma ρ = some (a, ρ1)) (h2 : mb ρ1 = some (.int k, ρ2)) (h3 : dSlice a (some k) none = some d) : mSlice ma (mPart mb) mNoPart ρ = some (d, ρ2) := by
  simp only [mSlice, mNoPart, mPart, h1, h2, h3, Option.bind_some, Option.map_some]
section
variable {S : List Nat} {b e : List Int} {L : List (List (List Int))} {n : Nat}
theorem len_cuts (cuts : List (List Nat)) : dLen [.lst (cuts.map tx)] = some (.int (cuts.length : Int)) := by
  show some (D.int ((cuts.map tx).length : Nat)) = _
  rw [List.length_map]
/-- in any brackets -/
theorem br_spec (W : WOk S b L e n) : ∀ (fuel : Nat) (cuts : List (List Nat)) (s : Dk) (m : Nat), cuts ≠ [] → cuts.length ≤ fuel → (∀ p ∈ cuts, ∀ c ∈ p, c ∈ S) → cuts.flatten.length ≤ 50 → cuts.length ≤ 100 → s.dr = false → Fine s (m + 2 * (cuts.length - 1)) →
    ∃ s', f__law_bracketed fuel s [obD S b L e, .lst (cuts.map tx)] = some (pcD S b L e n cuts.flatten, s') ∧ Fine s' m ∧ s'.dr = false
  | 0, cuts, s, m, h0, h1, _, _, _, _, _ => absurd (List.length_pos_iff.mpr h0) (by omega)
  | fuel + 1, cuts, s, m, h0, h1, hc, hl, h100, hd, hf => by
    have hpos := List.length_pos_iff.mpr h0
    let R : Dk → Cell → Cell → Cell → List Cell := fun s c3 c4 c5 => [.dk s, .d (obD S b L e), .d (.lst (cuts.map tx)), c3, c4, c5]
    have t1 : mTest (mBin dEq (mApp dLen (mCons (mVar 2) mNil)) (mC (.int 1))) (R s .no .no .no) = some (decide (cuts.length = 1), R s .no .no .no) := by
      refine ev_test (ev_bin (ev_app (ev_cons (ev_var rfl) ev_nil) (len_cuts cuts)) ev_c ?_)
      rw [dEq_int]
      congr 2
      exact decide_eq_decide.mpr (by omega)
    have fin : ∀ {d : D} {s' : Dk} {ρ : List Cell}, m__law_bracketed (f__law_bracketed fuel) (R s .no .no .no) = some (.rt d (.dk s' :: ρ)) → f__law_bracketed (fuel + 1) s [obD S b L e, .lst (cuts.map tx)] = some (d, s') := fun h => ev_runD (N := 6) h
    by_cases q : cuts.length = 1
    · obtain ⟨p, rfl⟩ := List.length_eq_one_iff.mp q
      rw [decide_eq_true q] at t1
      have hp : Pg S p := ⟨hc p List.mem_cons_self, by simpa using hl⟩
      have e1 : dItemA (.lst ([p].map tx)) (.int 0) = some (tx p) := rfl
      have ef : [p].flatten = p := by simp
      rw [ef]
      refine ⟨s, fin (ρ := [.d (obD S b L e), .d (.lst ([p].map tx)), .no, .no, .no]) ?_, hf.le (by omega), hd⟩
      unfold m__law_bracketed
      exact ev_seqR ((ev_ifT t1).trans (ev_ret (ev_make (xs := [obD S b L e, tx p]) (ev_cons (ev_var rfl) (ev_cons (ev_bin (ev_var rfl) ev_c e1) ev_nil)) ev_nil rfl (f_initP W hp))))
    · rw [decide_eq_false q] at t1
      obtain ⟨r, s1, e1, r0, r1, f1, d1⟩ := f_draw_spec (s := s) (n := m + 2 * (cuts.length - 1) - 1) (many := ((cuts.length - 1 : Nat) : Int)) hd (hf.le (by omega)) (by omega) (by omega)
      obtain ⟨k, hk⟩ : ∃ k : Nat, 1 + r = (k : Int) := ⟨(1 + r).toNat, by omega⟩
      have hk1 : 1 ≤ k := by omega
      have hk2 : k < cuts.length := by omega
      have lt : (cuts.take k).length = k := by rw [List.length_take]; omega
      have ld : (cuts.drop k).length = cuts.length - k := List.length_drop
      have ht0 : cuts.take k ≠ [] := fun z => by rw [z] at lt; simp at lt; omega
      have hd0 : cuts.drop k ≠ [] := fun z => by rw [z] at ld; simp at ld; omega
      have split : (cuts.take k).flatten ++ (cuts.drop k).flatten = cuts.flatten := by rw [← List.flatten_append, List.take_append_drop]
      have lens : (cuts.take k).flatten.length + (cuts.drop k).flatten.length = cuts.flatten.length := by rw [← split, List.length_append]
      obtain ⟨s2, e2, f2, d2⟩ := br_spec W fuel (cuts.take k) s1 (m + 2 * (cuts.length - k - 1) + 1) ht0 (by omega) (fun p hp => hc p (List.mem_of_mem_take hp)) (by omega) (by omega) d1 (f1.le (by omega))
      obtain ⟨s3, e3, f3, d3⟩ := br_spec W fuel (cuts.drop k) s2 (m + 1) hd0 (by omega) (fun p hp => hc p (List.mem_of_mem_drop hp)) (by omega) (by omega) d2 (f2.le (by omega))
      obtain ⟨r', s4, e4, r0', r1', f4, d4⟩ := f_draw_spec (s := s3) (n := m) (many := 2) d3 f3 (by decide) (by decide)
      have g1 : (mAsg (mBin dAdd (mC (.int 1)) (mCallD 0 f__law_draw (mCons (mBin dSub (mApp dLen (mCons (mVar 2) mNil)) (mC (.int 1))) mNil))) (gmName 3)) (R s .no .no .no) = some (.nx (R s1 (.d (.int k)) .no .no)) := by
        have es : dSub (.int (cuts.length : Int)) (.int 1) = some (.int ((cuts.length - 1 : Nat) : Int)) := by
          rw [show ((cuts.length - 1 : Nat) : Int) = (cuts.length : Int) - 1 by omega]; rfl
        exact (ev_set (ev_bin ev_c (ev_callD (k0 := s) rfl (ev_cons (ev_bin (ev_app (ev_cons (ev_var rfl) ev_nil) (len_cuts cuts)) ev_c es) ev_nil) rfl e1) (show dAdd (.int 1) (.int r) = some (.int (k : Int)) by rw [← hk]; rfl)) rfl).trans rfl
      have a1 : mCallD 0 (f__law_bracketed fuel) (mCons (mVar 1) (mCons (mSlice (mVar 2) mNoPart (mPart (mVar 3))) mNil)) (R s1 (.d (.int k)) .no .no) = some (pcD S b L e n (cuts.take k).flatten, R s2 (.d (.int k)) .no .no) :=
        ev_callD (k0 := s1) rfl (ev_cons (ev_var rfl) (ev_cons (ev_sliceR (ev_var rfl) (ev_var rfl) (cutL_take (by rw [List.length_map]; omega))) ev_nil)) rfl (by rw [← List.map_take]; exact e2)
      have a2 : mCallD 0 (f__law_bracketed fuel) (mCons (mVar 1) (mCons (mSlice (mVar 2) (mPart (mVar 3)) mNoPart) mNil)) (R s2 (.d (.int k)) .no .no) = some (pcD S b L e n (cuts.drop k).flatten, R s3 (.d (.int k)) .no .no) :=
        ev_callD (k0 := s2) rfl (ev_cons (ev_var rfl) (ev_cons (ev_sliceL (ev_var rfl) (ev_var rfl) (cutL_drop (by rw [List.length_map]; omega))) ev_nil)) rfl (by rw [← List.map_drop]; exact e3)
      have g2 : (mPar 4 5 (mCons (mCallD 0 (f__law_bracketed fuel) (mCons (mVar 1) (mCons (mSlice (mVar 2) mNoPart (mPart (mVar 3))) mNil))) (mCons (mCallD 0 (f__law_bracketed fuel) (mCons (mVar 1) (mCons (mSlice (mVar 2) (mPart (mVar 3)) mNoPart) mNil))) mNil))) (R s1 (.d (.int k)) .no .no) = some (.nx (R s3 (.d (.int k)) (.d (pcD S b L e n (cuts.take k).flatten)) (.d (pcD S b L e n (cuts.drop k).flatten)))) :=
        (ev_par (ev_cons a1 (ev_cons a2 ev_nil)) rfl rfl).trans rfl
      have hpg : Pg S ((cuts.take k).flatten ++ (cuts.drop k).flatten) := by
        rw [split]
        exact ⟨fun c hcc => by
          obtain ⟨p, hp, hcp⟩ := List.mem_flatten.mp hcc
          exact hc p hp c hcp, hl⟩
      have hj := f_joined W hpg
      rw [split] at hj
      have t2 : mTest (mBin dEq (mCallD 0 f__law_draw (mCons (mC (.int 2)) mNil)) (mC (.int 0))) (R s3 (.d (.int k)) (.d (pcD S b L e n (cuts.take k).flatten)) (.d (pcD S b L e n (cuts.drop k).flatten))) = some (decide (r' = 0), R s4 (.d (.int k)) (.d (pcD S b L e n (cuts.take k).flatten)) (.d (pcD S b L e n (cuts.drop k).flatten))) :=
        ev_test (ev_bin (ev_callD (k0 := s3) rfl (ev_cons ev_c ev_nil) rfl e4) ev_c (dEq_int _ _))
      refine ⟨s4, fin (ρ := [.d (obD S b L e), .d (.lst (cuts.map tx)), .d (.int k), .d (pcD S b L e n (cuts.take k).flatten), .d (pcD S b L e n (cuts.drop k).flatten)]) ?_, f4, d4⟩
      unfold m__law_bracketed
      rw [ev_seq ((ev_ifF t1).trans ev_skip), ev_seq g1, ev_seq g2]
      by_cases q2 : r' = 0
      · rw [decide_eq_true q2] at t2
        exact ev_ret ((ev_ifET t2).trans (ev_meth (xs := [pcD S b L e n (cuts.take k).flatten, pcD S b L e n (cuts.drop k).flatten]) (ev_var rfl) pf4 (ev_cons (ev_var rfl) ev_nil) ev_nil rfl hj))
      · rw [decide_eq_false q2] at t2
        exact ev_ret ((ev_ifEF t2).trans (ev_meth (xs := [pcD S b L e n (cuts.take k).flatten, pcD S b L e n (cuts.drop k).flatten]) (ev_var rfl) pf4 ev_nil (ev_cons (ev_var rfl) ev_nil) rfl hj))
end
end Lk07

namespace Lk07
open PySem L2 TL

theorem log_of2 {i : Int} (h : i.natAbs ≤ 2 ^ 30 * BIG) : i.natAbs.log2 < 1920 := by
  by_cases h0 : i.natAbs = 0
  · rw [h0]; decide
  · have h2 : 2 ^ 30 * BIG = 2 ^ 430 := by rw [← Nat.pow_add]
    have h1 : i.natAbs < 2 ^ 431 := Nat.lt_of_le_of_lt (h2 ▸ h) (Nat.pow_lt_pow_right (by decide) (by decide))
    exact Nat.lt_trans ((Nat.log2_lt h0).mpr h1) (by decide)
theorem shw_v2 {v : List Int} (h : Bv (2 ^ 30 * BIG) v) (hn : v.length ≤ 4) : Shw (vD v) 1 7695 := by
  refine (shw_tup (k := 0) (n := 1921) fun d hd => ?_).le (Nat.le_refl _) (by rw [List.length_map]; omega)
  obtain ⟨x, hx, rfl⟩ := List.mem_map.mp hd
  exact shw_int (log_of2 (h x hx))
def Wi (d : D) : Prop := ∃ i : Int, d = .int i ∧ i.natAbs ≤ 999999
theorem intsW_of : ∀ {out : List D}, (∀ x ∈ out, Wi x) → ∃ v : List Int, out = v.map D.int ∧ Bv 999999 v
  | [], _ => ⟨[], rfl, fun x h => by cases h⟩
  | x :: out, h => by
    obtain ⟨v, rfl, hv⟩ := intsW_of fun y hy => h y (List.mem_cons_of_mem _ hy)
    obtain ⟨i, rfl, hi⟩ := h x List.mem_cons_self
    exact ⟨i :: v, rfl, fun y hy => (List.mem_cons.mp hy).elim (fun e => e ▸ hi) (hv y)⟩
abbrev wide : List D := [.int 0, .int 1, .int (-1), .int 7, .int 999999, .int (-999999)]
theorem wide_ok {d : D} (h : d ∈ wide) : Wi d := by
  simp only [wide, List.mem_cons, List.not_mem_nil, or_false] at h
  rcases h with rfl | rfl | rfl | rfl | rfl | rfl
  · exact ⟨_, rfl, by decide⟩
  · exact ⟨_, rfl, by decide⟩
  · exact ⟨_, rfl, by decide⟩
  · exact ⟨_, rfl, by decide⟩
  · exact ⟨_, rfl, by decide⟩
  · exact ⟨_, rfl, by decide⟩
section
variable {S : List Nat} {b e : List Int} {L : List (List (List Int))} {n : Nat} {p : List Nat}
theorem f_lenP (hl : p.length ≤ 50) : f_Piece____len__ [pcD S b L e n p] = some (.int (p.length : Int)) :=
  ev_runP (ρ := [.d (pcD S b L e n p)]) (ev_ret (ev_app (ev_cons (ev_fld (ev_var rfl) mem1 pf3) ev_nil) (len_T (by have := sz; omega))))
theorem dLenO_of {c : Str} {g : List D → Option D} {bb : D → Option D} {fs : List (Str × D)} {k : Int} (h : g [.obj c fs] = some (.int k)) (h0 : 0 ≤ k) (h1 : k < 2 ^ 63) : dLenO c g bb (.obj c fs) = some (.int k) := by
  simp only [dLenO, if_true, h, Option.bind_some]
  rw [if_pos ⟨h0, h1⟩]
theorem dLenP (hl : p.length ≤ 50) : dLenO "Piece" f_Piece____len__ dLen1 (pcD S b L e n p) = some (.int (p.length : Int)) := dLenO_of (f_lenP hl) (by omega) (by omega)
theorem f_ledP (W : WOk S b L e n) (hp : Pg S p) {v : List Int} (hv : v.length = n) (hb : Bv BIG v) : f_Piece__led [pcD S b L e n p, vD v] = some (vD (led v ((units n).map fun r => run S L r p))) := by
  have hn := W.n4
  exact ev_runP (ρ := [.d (pcD S b L e n p), .d (vD v)]) (ev_ret (ev_callQ (xs := [vD v, mD ((units n).map fun r => run S L r p)]) (ev_cons (ev_var rfl) (ev_cons (ev_fld (ev_var rfl) mem1 pf1) ev_nil)) ev_nil rfl (f_led_on_spec hv (table_sq S L n p) (by omega) hb (W.tabBig hp))))
theorem f_worthP (W : WOk S b L e n) (hp : Pg S p) : f_Piece__worth_now [pcD S b L e n p] = some (.int (dot (run S L b p) e)) := by
  have hn := W.n4
  have h1 := f_led_on_spec W.lb (table_sq S L n p) (by omega) (W.bb.mono nine_big) (W.tabBig hp)
  rw [run_table S L p W.lb] at h1
  refine ev_runP (ρ := [.d (pcD S b L e n p)]) (ev_ret (ev_callQ (xs := [vD (run S L b p), vD e]) (ev_cons (ev_callQ (xs := [vD b, mD ((units n).map fun r => run S L r p)]) (ev_cons (ev_fld (ev_fld (ev_var rfl) mem1 pf2) mem1 fs2) (ev_cons (ev_fld (ev_var rfl) mem1 pf1) ev_nil)) ev_nil rfl h1) (ev_cons (ev_fld (ev_fld (ev_var rfl) mem1 pf2) mem1 fs4) ev_nil)) ev_nil rfl
    (f_product_of_spec (by rw [run_len, W.lb]; omega) (W.big W.lb W.bb hp.len) (W.be.mono nine_big))))
theorem ev_self {c : Str} {g : List D → Option D} {mo : ME} {ρ ρ1 : List Cell} {fs : List (Str × D)} {d : D} (h : mo ρ = some (.obj c fs, ρ1)) (hg : g [.obj c fs] = some d) : mSelf c g mo ρ = some (d, ρ1) := by
  simp only [mSelf, h, Option.bind_some]
  rw [if_pos trivial, hg]; rfl
theorem pg_small (W : WOk S b L e n) (hp : Pg S p) : ∀ c ∈ p, c < 1114112 := fun c hc => by
  have : ∀ S ∈ fours, ∀ c ∈ S, c < 1114112 := by decide
  exact this S W.sg c (hp.ok c hc)
theorem is_piece_spec (W : WOk S b L e n) {w : D} (Hw : Has w S b L e) (hp : Pg S p) {s : Dk} {m : Nat} (hd : s.dr = false) (h : Fine s (m + 4)) :
    ∃ s', f__law_is_piece s [w, obD S b L e, pcD S b L e n p, tx p] = some (.bl true, s') ∧ Fine s' m ∧ s'.dr = false := by
  have hz := sz
  have hn := W.n4
  have hl := hp.len
  have hT := table_sq S L n p
  have hTb := W.tabBig hp
  obtain ⟨T, hTd⟩ : ∃ T, T = (units n).map fun r => run S L r p := ⟨_, rfl⟩
  have hlot := f__law_lot_of_spec W Hw hp
  have hworth := f_worthP W hp
  have hled0 : f__law_led [vD b, mD T] = some (vD (run S L b p)) := by
    rw [hTd]
    have := f__law_led_spec W.lb hT (by omega) (W.bb.mono nine_big) hTb
    rw [run_table S L p W.lb] at this
    exact this
  have hpf1 : (pfD S b L e n p).lookup ("table_now" : Str) = some (mD T) := by rw [hTd]; exact pf1
  rw [← hTd] at hlot hT hTb
  let R : Dk → Cell → Cell → Cell → List Cell := fun s c5 c6 c7 => [.dk s, .d w, .d (obD S b L e), .d (pcD S b L e n p), .d (tx p), c5, c6, c7, .no]
  let told : D := .lst [tx p, mD T, .int (p.length : Int)]
  obtain ⟨t, ht⟩ : ∃ t, dRepr [told] = some (.str t) := by
    refine Shw.repr (k := 3) (n := 3 * (30791 + 2) + 2) (shw_lst (k := 2) (n := 30791) fun d hd => ?_) (by decide) (by decide)
    simp only [List.mem_cons, List.not_mem_nil, or_false] at hd
    rcases hd with rfl | rfl | rfl
    · exact (shw_str (pg_small W hp)).le (by decide) (by omega)
    · exact shw_m hT hn hTb
    · exact (shw_int (by
        have : ((p.length : Int)).natAbs < 2 ^ 10 := by omega
        by_cases h0 : ((p.length : Int)).natAbs = 0
        · rw [h0]; decide
        · exact Nat.lt_trans ((Nat.log2_lt h0).mpr this) (by decide))).le (by decide) (by decide)
  have g1 : (mAsg (mCallP f__law_lot_of [0, 1] (mCons (mVar 1) (mCons (mVar 4) mNil)) mNil) (gmName 5)) (R s .no .no .no) = some (.nx (R s (.d (mD T)) .no .no)) :=
    (ev_set (ev_callQ (xs := [w, tx p]) (ev_cons (ev_var rfl) (ev_cons (ev_var rfl) ev_nil)) ev_nil rfl hlot) rfl).trans rfl
  have g2 : (mAsg (mApp dLst (mCons (mUn (dFld ["Piece"] "ticket") (mVar 3)) (mCons (mUn (dFld ["Piece"] "table_now") (mVar 3)) (mCons (mUn (dLenO "Piece" f_Piece____len__ dLen1) (mVar 3)) mNil)))) (gmName 6)) (R s (.d (mD T)) .no .no) = some (.nx (R s (.d (mD T)) (.d told) .no)) :=
    (ev_set (ev_app (d := told) (ev_cons (ev_fld (ev_var rfl) mem1 pf3) (ev_cons (ev_fld (ev_var rfl) mem1 hpf1) (ev_cons (ev_un (ev_var rfl) (dLenP hl)) ev_nil))) rfl) rfl).trans rfl
  have g3 : mOrT (mTest (mBin (dOE "Tally" f_Tally____eq__ true) (mUn (dFld ["Piece"] "tally") (mVar 3)) (mVar 2))) (mTest (mBin dNe (mApp dRepr (mCons (mVar 6) mNil)) (mApp dRepr (mCons (mApp dLst (mCons (mVar 4) (mCons (mVar 5) (mCons (mApp dLen (mCons (mVar 4) mNil)) mNil)))) mNil)))) (R s (.d (mD T)) (.d told) .no) = some (false, R s (.d (mD T)) (.d told) .no) :=
    (ev_orF (ev_test (ev_bin (ev_fld (ev_var rfl) mem1 pf2) (ev_var rfl) ne_spec))).trans (ev_test (ev_bin (ev_app (ev_cons (ev_var rfl) ev_nil) ht) (ev_app (ev_cons (ev_app (d := told) (ev_cons (ev_var rfl) (ev_cons (ev_var rfl) (ev_cons (ev_app (ev_cons (ev_var rfl) ev_nil) (len_T (by omega))) ev_nil))) rfl) ev_nil) ht) (dNe_same t)))
  obtain ⟨t2, ht2⟩ : ∃ t, dRepr [.int (dot (run S L b p) e)] = some (.str t) := (shw_int (log_of (dot_bound (by rw [run_len, W.lb]; exact hn) (W.big W.lb W.bb hl) W.be))).repr (by decide) (by decide)
  have g4 : mTest (mBin dNe (mApp dRepr (mCons (mSelf "Piece" f_Piece__worth_now (mVar 3)) mNil)) (mApp dRepr (mCons (mCallP f__law_dot [0, 1] (mCons (mCallP f__law_led [0, 1] (mCons (mBin dItemA (mVar 1) (mC (.str "begin"))) (mCons (mVar 5) mNil)) mNil) (mCons (mBin dItemA (mVar 1) (mC (.str "last"))) mNil)) mNil) mNil))) (R s (.d (mD T)) (.d told) .no) = some (false, R s (.d (mD T)) (.d told) .no) :=
    ev_test (ev_bin (ev_app (ev_cons (ev_self (ev_var rfl) hworth) ev_nil) ht2) (ev_app (ev_cons (ev_callQ (xs := [vD (run S L b p), vD e]) (ev_cons (ev_callQ (xs := [vD b, mD T]) (ev_cons (ev_bin (ev_var rfl) ev_c Hw.b) (ev_cons (ev_var rfl) ev_nil)) ev_nil rfl hled0) (ev_cons (ev_bin (ev_var rfl) ev_c Hw.e) ev_nil)) ev_nil rfl (f__law_dot_spec (by rw [run_len, W.lb]; omega) (W.big W.lb W.bb hl) (W.be.mono nine_big))) ev_nil) ht2) (dNe_same t2))
  obtain ⟨out, ρ', k1, k2, k3, k4⟩ := lcGo_invT (f := gmName 8) (me := mCallD 0 f__law_pick (mCons (mApp dLst (mCons (mC (.int 0)) (mCons (mC (.int 1)) (mCons (mUn dNeg (mC (.int 1))) (mCons (mC (.int 7)) (mCons (mC (.int 999999)) (mCons (mUn dNeg (mC (.int 999999))) mNil))))))) mNil)) (vs := [8]) (fun k ρ => ∃ s', ρ = R s' (.d (mD T)) (.d told) .no ∧ k ≤ n ∧ Fine s' (m + (n - k)) ∧ s'.dr = false) Wi
    ((List.range n).map fun i : Nat => .int (0 + (i : Int))) 0 (R s (.d (mD T)) (.d told) .no) ⟨s, rfl, Nat.zero_le _, h.le (by omega), hd⟩ (fun i d hi ρ hI => by
      rw [Nat.zero_add] at hI ⊢
      obtain ⟨s2, rfl, hk, f2, hd2⟩ := hI
      have hi := (List.getElem?_eq_some_iff.mp hi).1
      simp only [List.length_map, List.length_range] at hi
      obtain ⟨x, s3, e3, hx, f3, d3⟩ := f_pick_spec (s := s2) (n := m + (n - (i + 1))) (ds := wide) hd2 (f2.le (by omega)) (by simp) (by simp)
      exact ⟨[.dk s2, .d w, .d (obD S b L e), .d (pcD S b L e n p), .d (tx p), .d (mD T), .d told, .no, .d d], x, [.dk s3, .d w, .d (obD S b L e), .d (pcD S b L e n p), .d (tx p), .d (mD T), .d told, .no, .d d], rfl, ev_callD (k0 := s2) rfl (ev_cons (ev_app (d := .lst wide) (ev_cons ev_c (ev_cons ev_c (ev_cons (ev_un ev_c rfl) (ev_cons ev_c (ev_cons ev_c (ev_cons (ev_un ev_c rfl) ev_nil)))))) rfl) ev_nil) rfl e3, wide_ok hx, s3, rfl, by omega, f3, d3⟩)
  obtain ⟨s2, rfl, _, f2, d2⟩ := k2
  obtain ⟨v, rfl, hv⟩ := intsW_of k3
  simp only [List.length_map, List.length_range] at k4
  have hvB : Bv BIG v := hv.mono (Nat.le_trans (show (999999 : Nat) ≤ 2 ^ 20 by decide) (Nat.pow_le_pow_right (by decide) (by decide)))
  have g5 : (mAsg (mApp dTuple (mCons (mLc (mRange (mCons (mApp dLen (mCons (mBin dItemA (mVar 1) (mC (.str "begin"))) mNil)) mNil)) (gmName 8) mYes (mCallD 0 f__law_pick (mCons (mApp dLst (mCons (mC (.int 0)) (mCons (mC (.int 1)) (mCons (mUn dNeg (mC (.int 1))) (mCons (mC (.int 7)) (mCons (mC (.int 999999)) (mCons (mUn dNeg (mC (.int 999999))) mNil))))))) mNil)) [8]) mNil)) (gmName 7)) (R s (.d (mD T)) (.d told) .no) = some (.nx (R s2 (.d (mD T)) (.d told) (.d (vD v)))) :=
    (ev_set (ev_app (ds := [.lst (v.map D.int)]) (ev_cons (ev_lc (ρ1 := R s (.d (mD T)) (.d told) .no) (ev_range (ev_cons (ev_app (ev_cons (ev_bin (ev_var rfl) ev_c Hw.b) ev_nil) (len_v W.lb)) ev_nil) (range_n n (by omega))) rfl k1 (by rw [List.length_map]; omega)) ev_nil) rfl) rfl).trans rfl
  have hledP : f_Piece__led [pcD S b L e n p, vD v] = some (vD (led v T)) := by rw [hTd]; exact f_ledP W hp k4 hvB
  have hledL : f__law_led [vD v, mD T] = some (vD (led v T)) := f__law_led_spec k4 hT (by omega) hvB hTb
  have hbl : Bv (2 ^ 30 * BIG) (led v T) := (led_bound k4 hv hTb).mono (by
    refine Nat.le_trans (Nat.mul_le_mul hn (Nat.le_refl _)) ?_
    rw [← Nat.mul_assoc]
    exact Nat.mul_le_mul_right _ (by decide))
  let two : D := .lst [vD (led v T), vD (led v T)]
  obtain ⟨t3, ht3⟩ : ∃ t, dRepr [two] = some (.str t) := by
    refine Shw.repr (k := 2) (n := 2 * (7695 + 2) + 2) (shw_lst (k := 1) (n := 7695) fun d hd => ?_) (by decide) (by decide)
    simp only [List.mem_cons, List.not_mem_nil, or_false] at hd
    rcases hd with rfl | rfl <;> exact shw_v2 hbl (by rw [led_len]; omega)
  have e6 : dMulA (.lst [vD (led v T)]) (.int 2) = some two := by
    simp only [dMulA]
    rw [if_pos ⟨by decide, by decide, by show 1 * 2 ≤ sizeLine; exact Nat.le_of_lt (small_big (by decide))⟩]
    rfl
  have g6 : mTest (mBin dNe (mApp dRepr (mCons (mApp dLst (mCons (mMeth "Piece" "led" f_Piece__led [0, 1] (mVar 3) (mCons (mVar 7) mNil) mNil) (mCons (mMeth "Piece" "led" f_Piece__led [0, 1] (mVar 3) mNil (mCons (mVar 7) mNil)) mNil))) mNil)) (mApp dRepr (mCons (mBin dMulA (mApp dLst (mCons (mCallP f__law_led [0, 1] (mCons (mVar 7) (mCons (mVar 5) mNil)) mNil) mNil)) (mC (.int 2))) mNil))) (R s2 (.d (mD T)) (.d told) (.d (vD v))) = some (false, R s2 (.d (mD T)) (.d told) (.d (vD v))) :=
    ev_test (ev_bin (ev_app (ev_cons (ev_app (d := two) (ev_cons (ev_meth (xs := [pcD S b L e n p, vD v]) (ev_var rfl) pf5 (ev_cons (ev_var rfl) ev_nil) ev_nil rfl hledP) (ev_cons (ev_meth (xs := [pcD S b L e n p, vD v]) (ev_var rfl) pf5 ev_nil (ev_cons (ev_var rfl) ev_nil) rfl hledP) ev_nil)) rfl) ev_nil) ht3) (ev_app (ev_cons (ev_bin (ev_app (d := .lst [vD (led v T)]) (ev_cons (ev_callQ (xs := [vD v, mD T]) (ev_cons (ev_var rfl) (ev_cons (ev_var rfl) ev_nil)) ev_nil rfl hledL) ev_nil) rfl) ev_c e6) ev_nil) ht3) (dNe_same t3))
  have e7 : dOE "Piece" f_Piece____eq__ false (pcD S b L e n p) (pcD S b L e n p) = some (.bl true) := by rw [eqP, decide_eq_true rfl]
  refine ⟨s2, ev_runD (N := 9) (ρ := [.d w, .d (obD S b L e), .d (pcD S b L e n p), .d (tx p), .d (mD T), .d told, .d (vD v), .no]) ?_, f2.le (by omega), d2⟩
  show m__law_is_piece (R s .no .no .no) = _
  unfold m__law_is_piece
  rw [ev_seq g1, ev_seq g2, ev_seq ((ev_ifF g3).trans ev_skip), ev_seq ((ev_ifF g4).trans ev_skip), ev_seq g5, ev_seq ((ev_ifF g6).trans ev_skip)]
  exact ev_ret (ev_bin (ev_var rfl) (ev_make (xs := [obD S b L e, tx p]) ev_nil (ev_cons (ev_var rfl) (ev_cons (ev_var rfl) ev_nil)) rfl (f_initP W hp)) e7)
end
end Lk07

namespace Lk07
open PySem L2 TL

section
variable {S : List Nat} {b e : List Int} {L : List (List (List Int))} {n : Nat} {p q : List Nat}
abbrev TT : D := .lst [.bl true, .bl true]
theorem f_refused_spec {d : D} {t : Str} (h : Odd S d) (ht : dRepr [d] = some (.str t)) : f__law_refused [obD S b L e, d] = some TT := by
  have s1 : (mAsg (mC .non) (gmName 2)) [.d (obD S b L e), .d d, .no, .no] = some (.nx [.d (obD S b L e), .d d, .d .non, .no]) := (ev_set ev_c rfl).trans rfl
  have h0 : (mAsg (mMake "Piece" f_Piece____init__ [0, 1] (mCons (mVar 0) (mCons (mVar 1) mNil)) mNil) (gmName 2)) [.d (obD S b L e), .d d, .d .non, .no] = none := by
    refine asg_none ?_
    have hx : f_Piece____init__ [obD S b L e, d] = none := f_initP_no h
    show ((f_Piece____init__ [obD S b L e, d]).map fun fs => (D.obj "Piece" fs, [Cell.d (obD S b L e), .d d, .d .non, .no])) = none
    rw [hx]; rfl
  have h1 : xCallP x_Piece____init__ [0, 1] (mCons (mVar 0) (mCons (mVar 1) mNil)) mNil [.d (obD S b L e), .d d, .d .non, .no] = some (exD d, [.d (obD S b L e), .d d, .d .non, .no]) :=
    ev_xCallP (xs := [obD S b L e, d]) (ev_cons (ev_var rfl) (ev_cons (ev_var rfl) ev_nil)) ev_nil rfl (x_initP_no h)
  have h4 : Suit 3 (fun a0 d0 => (mAsg (mApp dLst (mCons (mBin dEq (mApp dRepr (mCons (mUn (dXf a0 d0 "BadTicket" "ticket") (mVar 3)) mNil)) (mApp dRepr (mCons (mVar 1) mNil))) (mCons (mUn (dXis a0 d0 "BadTicket" true) (mVar 3)) mNil))) (gmName 2))) (exD d) [.d (obD S b L e), .d d, .d .non, .no] (.nx [.d (obD S b L e), .d d, .d TT, .no]) := fun a dd => by
    have e1 : dXf a dd "BadTicket" "ticket" (.exc a dd "BadTicket" [("ticket", d)]) = some d := by
      simp only [dXf]
      rw [if_pos ⟨trivial, trivial, trivial⟩]; rfl
    have e2 : dXis a dd "BadTicket" true (.exc a dd "BadTicket" [("ticket", d)]) = some (.bl true) := by
      simp only [dXis]
      rw [if_pos ⟨trivial, trivial, trivial⟩]
    refine ⟨.nx [.d (obD S b L e), .d d, .d TT, .d (.exc a dd "BadTicket" [("ticket", d)])], ?_, rfl, rfl⟩
    show (mAsg _ (gmName 2)) [.d (obD S b L e), .d d, .d .non, .d (.exc a dd "BadTicket" [("ticket", d)])] = _
    exact (ev_set (ev_app (d := TT) (ev_cons (ev_bin (ev_app (ev_cons (ev_un (ev_var rfl) e1) ev_nil) ht) (ev_app (ev_cons (ev_var rfl) ev_nil) ht) (dEq_same t)) (ev_cons (ev_un (ev_var rfl) e2) ev_nil)) rfl) rfl).trans rfl
  refine ev_runP (N := 4) (ρ := [.d (obD S b L e), .d d, .d TT, .no]) ?_
  show m__law_refused [.d (obD S b L e), .d d, .no, .no] = _
  unfold m__law_refused
  rw [ev_seq s1, ev_seq (ev_tryX h0 h1 rfl rfl h4)]
  exact ev_ret (ev_var rfl)
theorem f_unlike_spec {b2 e2 : List Int} {L2 : List (List (List Int))} {n2 : Nat} (h : b ≠ b2) : f__law_unlike [pcD S b L e n p, pcD S b2 L2 e2 n2 q] = some (.bl true) := by
  let x : D := pcD S b L e n p
  let y : D := pcD S b2 L2 e2 n2 q
  have s1 : (mAsg (mC .non) (gmName 2)) [.d x, .d y, .no, .no] = some (.nx [.d x, .d y, .d .non, .no]) := (ev_set ev_c rfl).trans rfl
  have h0 : (mAsg (mMeth "Piece" "joined" f_Piece__joined [0, 1] (mVar 0) (mCons (mVar 1) mNil) mNil) (gmName 2)) [.d x, .d y, .d .non, .no] = none :=
    asg_none (ev_methN (xs := [pcD S b L e n p, pcD S b2 L2 e2 n2 q]) (ev_var rfl) pf4 (ev_cons (ev_var rfl) ev_nil) ev_nil rfl (f_joined_far h))
  have h1 : xMeth "Piece" "joined" x_Piece__joined [0, 1] (mVar 0) (mCons (mVar 1) mNil) mNil [.d x, .d y, .d .non, .no] = some (((("OtherTally" : Str), []) : Exn), [.d x, .d y, .d .non, .no]) :=
    ev_xMeth (xs := [pcD S b L e n p, pcD S b2 L2 e2 n2 q]) (ev_var rfl) pf4 (ev_cons (ev_var rfl) ev_nil) ev_nil rfl (x_joined_far h)
  have h4 : Suit 3 (fun a0 d0 => (mAsg (mUn (dXis a0 d0 "OtherTally" true) (mVar 3)) (gmName 2))) ((("OtherTally" : Str), []) : Exn) [.d x, .d y, .d .non, .no] (.nx [.d x, .d y, .d (.bl true), .no]) := fun a dd => by
    have e2 : dXis a dd "OtherTally" true (.exc a dd "OtherTally" []) = some (.bl true) := by
      simp only [dXis]
      rw [if_pos ⟨trivial, trivial, trivial⟩]
    refine ⟨.nx [.d x, .d y, .d (.bl true), .d (.exc a dd "OtherTally" [])], ?_, rfl, rfl⟩
    show (mAsg _ (gmName 2)) [.d x, .d y, .d .non, .d (.exc a dd "OtherTally" [])] = _
    exact (ev_set (ev_un (ev_var rfl) e2) rfl).trans rfl
  refine ev_runP (N := 4) (ρ := [.d x, .d y, .d (.bl true), .no]) ?_
  show m__law_unlike [.d x, .d y, .no, .no] = _
  unfold m__law_unlike
  rw [ev_seq s1, ev_seq (ev_tryX h0 h1 rfl rfl h4)]
  exact ev_ret (ev_var rfl)
/-! ### one state more -/
def wid (M : List (List Int)) : List (List Int) := (M.map fun r => r ++ [0]) ++ [List.replicate M.length 0 ++ [1]]
theorem wid_sq {M : List (List Int)} (h : Sq n M) : Sq (n + 1) (wid M) := ⟨by simp [wid, h.len], fun r hr => by
  rcases List.mem_append.mp hr with hr | hr
  · obtain ⟨q, hq, rfl⟩ := List.mem_map.mp hr
    rw [List.length_append, h.row q hq]; rfl
  · rw [List.mem_singleton] at hr; subst hr
    rw [List.length_append, List.length_replicate, h.len]; rfl⟩
theorem bv_snoc {v : List Int} {x : Int} (h : Bv 9 v) (hx : x.natAbs ≤ 9) : Bv 9 (v ++ [x]) := fun y hy => by
  rcases List.mem_append.mp hy with hy | hy
  · exact h y hy
  · rw [List.mem_singleton] at hy; subst hy; exact hx
theorem wid_bv {M : List (List Int)} (h : ∀ r ∈ M, Bv 9 r) : ∀ r ∈ wid M, Bv 9 r := fun r hr => by
  rcases List.mem_append.mp hr with hr | hr
  · obtain ⟨q, hq, rfl⟩ := List.mem_map.mp hr
    exact bv_snoc (h q hq) (by decide)
  · rw [List.mem_singleton] at hr; subst hr
    exact bv_snoc (fun x hx => by rw [List.eq_of_mem_replicate hx]; decide) (by decide)
theorem f_wider_spec {M : List (List Int)} (h : Sq n M) (hn : n ≤ 4) : f__law_wider [mD M] = some (mD (wid M)) := by
  have hz := sz
  have go := lcGo_mapT (f := gmName 1) (mt := mYes) (me := (mBin dAdd (mVar 1) (mApp dTup (mCons (mC (.int 0)) mNil)))) (vs := [1]) (ρ := [.d (mD M), .no]) vD (fun r => vD (r ++ [0])) M fun r hr =>
    ⟨[.d (mD M), .d (vD r)], rfl, rfl, ev_bin (b := vD [0]) (ev_var rfl) (ev_app (ev_cons ev_c ev_nil) rfl) (add_V (by rw [h.row r hr]; simp; omega)), rfl⟩
  have e1 : (M.map fun r => vD (r ++ [0])) = (M.map fun r => r ++ [0]).map vD := by rw [List.map_map]; rfl
  rw [e1] at go
  have e2 : dMulB (.tup [.int 0]) (.int (n : Int)) = some (vD (List.replicate n 0)) := by
    have q := f_noughts_spec (k := n) (by omega)
    simp only [dMulB]
    rw [if_pos ⟨by omega, by omega, by simp⟩]
    have : ((n : Int)).toNat = n := by omega
    rw [this]
    congr 2
    clear this q go e1 h hn
    induction n with
    | zero => rfl
    | succ k ih => rw [List.replicate_succ, List.flatten_cons, ih, List.replicate_succ]; rfl
  have e3 : dAdd (mD (M.map fun r => r ++ [0])) (mD [List.replicate n 0 ++ [1]]) = some (mD (wid M)) := by
    show (if ((M.map fun r => r ++ [0]).map vD).length + ([List.replicate n 0 ++ [1]].map vD).length ≤ sizeLine then some (D.tup ((M.map fun r => r ++ [0]).map vD ++ [List.replicate n 0 ++ [1]].map vD)) else none) = _
    rw [if_pos (by simp only [List.length_map, h.len, List.length_singleton]; omega), ← List.map_append]
    unfold wid
    rw [h.len]
  refine ev_runP (ρ := [.d (mD M), .no]) (ev_ret (ev_bin (a := mD (M.map fun r => r ++ [0])) (b := mD [List.replicate n 0 ++ [1]]) (ev_app (ds := [.lst ((M.map fun r => r ++ [0]).map vD)]) (ev_cons (ev_lc (ρ1 := [.d (mD M), .no]) (ev_items (ev_var rfl) rfl) rfl go (by rw [List.length_map, List.length_map, h.len]; omega)) ev_nil) rfl) ?_ e3))
  exact ev_app (ev_cons (ev_bin (a := vD (List.replicate n 0)) (b := vD [1]) (ev_bin (a := .tup [.int 0]) (b := .int (n : Int)) (ev_app (ev_cons ev_c ev_nil) rfl) (ev_app (ev_cons (ev_var rfl) ev_nil) (len_m h.len)) e2) (ev_app (ev_cons ev_c ev_nil) rfl) (add_V (by simp; omega))) ev_nil) rfl
theorem WOk.wide (W : WOk S b L e n) (hn : n ≤ 3) : WOk S (b ++ [1]) (L.map wid) (e ++ [0]) (n + 1) :=
  ⟨W.sg, by omega, by rw [List.length_append, W.lb]; rfl, by rw [List.length_append, W.le]; rfl, by rw [List.length_map]; exact W.lL, fun M hM => by
    obtain ⟨Q, hQ, rfl⟩ := List.mem_map.mp hM
    exact wid_sq (W.sq Q hQ), bv_snoc W.bb (by decide), bv_snoc W.be (by decide), fun M hM => by
    obtain ⟨Q, hQ, rfl⟩ := List.mem_map.mp hM
    exact wid_bv (W.bL Q hQ)⟩
end
end Lk07

namespace Lk07
open PySem L2 TL

theorem pl_bl (k : Bool) : Pl (.bl k) 0 := ⟨.bool k, rfl, rfl, Nat.le_refl _, by simp [PyData.eqv]⟩
theorem pl_lst {k : Nat} {ds : List D} (h : ∀ d ∈ ds, Pl d k) : Pl (.lst ds) (k + 1) := by
  obtain ⟨ps, g1, g2, g3, g4⟩ := pl_all h
  exact ⟨.list ps, by simp only [D.py, g1, Option.map_some], by simp only [PyData.plain, g2], by simp only [PyData.depth]; omega, by simp only [PyData.eqv, g4]⟩
theorem pl_TT : Pl TT 1 := pl_lst fun d hd => by
  simp only [List.mem_cons, List.not_mem_nil, or_false] at hd
  rcases hd with rfl | rfl <;> exact pl_bl _
theorem dNe_nil : dNe (.lst []) (.lst []) = some (.bl false) := by
  have := dNe_strs [] []
  rw [decide_eq_true rfl] at this
  exact this
theorem join_pages (cuts : List (List Nat)) (h : cuts.flatten.length ≤ 1000) : dJoin (.str "") (.lst (cuts.map tx)) = some (tx cuts.flatten) := by
  have hz := sz
  have e : Txt.join (Tx []) (cuts.map Tx) = Tx cuts.flatten := by
    rw [join_cat, List.map_map]
    congr 1
    show (cuts.map fun p => p).flatten = _
    rw [List.map_id']
  have l : ((cuts.map Tx).map (·.length)).sum = cuts.flatten.length := by
    rw [List.map_map, List.length_flatten]; rfl
  rw [empty_Tx]
  simp only [dJoin]
  rw [show cuts.map tx = cuts.map (fun a => D.str (Tx a)) from rfl, asStrs_mapf, Option.bind_some, show (cuts.map fun a => Tx a) = cuts.map Tx from rfl, l, e, if_pos (by rw [Tx_len]; simp only [List.length_nil, Nat.mul_zero]; omega)]
def Pgx (S : List Nat) (d : D) : Prop := ∃ p, d = tx p ∧ (∀ c ∈ p, c ∈ S) ∧ p.length ≤ 4
theorem pages_of {S : List Nat} : ∀ {out : List D}, (∀ x ∈ out, Pgx S x) → ∃ cuts : List (List Nat), out = cuts.map tx ∧ (∀ p ∈ cuts, ∀ c ∈ p, c ∈ S) ∧ cuts.flatten.length ≤ 4 * cuts.length
  | [], _ => ⟨[], rfl, (fun x h => by cases h), Nat.le_refl _⟩
  | x :: out, h => by
    obtain ⟨cuts, rfl, h1, h2⟩ := pages_of fun y hy => h y (List.mem_cons_of_mem _ hy)
    obtain ⟨p, rfl, hp, hl⟩ := h x List.mem_cons_self
    refine ⟨p :: cuts, rfl, fun y hy => (List.mem_cons.mp hy).elim (fun e => e ▸ hp) (h1 y), ?_⟩
    rw [List.flatten_cons, List.length_append, List.length_cons]; omega
/-! ### one turn of the law -/
noncomputable def b1 : MS := (mAsg (mCallD 1 f__law_world (mCons (mC (.int 3)) mNil)) (gmName 3))
noncomputable def b2 : MS := (mAsg (mApp dTup (mCons (mCallP f__law_code [0] (mCons (mVar 3) mNil) mNil) (mCons (mBin dItemA (mVar 3) (mC (.str "signs"))) mNil))) (gmTup (gmCons (gmName 4) (gmCons (gmName 5) gmNil)) 2))
noncomputable def b3 : MS := (mAsg (mLc (mRange (mCons (mBin dAdd (mC (.int 1)) (mCallD 1 f__law_draw (mCons (mC (.int 4)) mNil))) mNil)) (gmName 13) mYes (mCallD 1 f__law_page (mCons (mVar 5) (mCons (mC (.int 4)) mNil))) [13]) (gmName 6))
noncomputable def b4 : MS := (mAsg (mBin dJoin (mC (.str "")) (mVar 6)) (gmName 7))
noncomputable def b5 : MS := (mAsg (mApp dTup (mCons (mCallD 1 (f__law_bracketed 12) (mCons (mVar 4) (mCons (mVar 6) mNil))) (mCons (mCallD 1 (f__law_bracketed 12) (mCons (mVar 4) (mCons (mVar 6) mNil))) mNil))) (gmTup (gmCons (gmName 8) (gmCons (gmName 9) gmNil)) 2))
noncomputable def b6 : MS := (mIfS (mOrT (mNotT (mTest (mCallD 1 f__law_is_piece (mCons (mVar 3) (mCons (mVar 4) (mCons (mVar 8) (mCons (mVar 7) mNil))))))) (mNotT (mTest (mCallD 1 f__law_is_piece (mCons (mVar 3) (mCons (mCallP f__law_code [0] (mCons (mVar 3) mNil) mNil) (mCons (mVar 9) (mCons (mVar 7) mNil)))))))) (mRet (mC (.bl false))) mSkip)
noncomputable def b7 : MS := (mPar 10 11 (mCons (mMake "Piece" f_Piece____init__ [0, 1] (mCons (mVar 4) (mCons (mBin dAdd (mVar 7) (mBin dItemA (mVar 5) (mC (.int 0)))) mNil)) mNil) (mCons (mMake "Piece" f_Piece____init__ [0, 1] (mCons (mVar 4) (mCons (mC (.str "")) mNil)) mNil) mNil)))
noncomputable def b8 : MS := (mIfS (mOrT (mNotT (mTest (mBin (dOE "Piece" f_Piece____eq__ false) (mVar 8) (mVar 9)))) (mTest (mBin (dOE "Piece" f_Piece____eq__ false) (mVar 8) (mVar 10)))) (mRet (mC (.bl false))) mSkip)
noncomputable def b9 : MS := (mIfS (mTest (mBin dNe (mLc (mItems (mApp dTup (mCons (mC .non) (mCons (mVar 7) (mCons (mC (.int 0)) (mCons (mVar 4) mNil)))))) (gmName 14) (mTest (mBin (dOEA "Piece" ["Tally"] f_Piece____eq__) (mVar 8) (mVar 14))) (mVar 14) [14]) (mApp dLst mNil))) (mRet (mC (.bl false))) mSkip)
noncomputable def b10 : MS := (mIfS (mOrT (mNotT (mTest (mBin (dOE "Piece" f_Piece____eq__ false) (mMeth "Piece" "joined" f_Piece__joined [0, 1] (mVar 8) (mCons (mVar 11) mNil) mNil) (mMeth "Piece" "joined" f_Piece__joined [0, 1] (mVar 11) (mCons (mVar 8) mNil) mNil)))) (mTest (mBin (dOE "Piece" f_Piece____eq__ true) (mMeth "Piece" "joined" f_Piece__joined [0, 1] (mVar 11) (mCons (mVar 11) mNil) mNil) (mVar 11)))) (mRet (mC (.bl false))) mSkip)
noncomputable def b11 : MS := (mAsg (mMake "Tally" f_Tally____init__ [0, 1, 2, 3] (mCons (mVar 5) (mCons (mBin dAdd (mBin dItemA (mVar 3) (mC (.str "begin"))) (mApp dTup (mCons (mC (.int 1)) mNil))) (mCons (mApp dTuple (mCons (mLc (mItems (mBin dItemA (mVar 3) (mC (.str "lots")))) (gmName 15) mYes (mCallP f__law_wider [0] (mCons (mVar 15) mNil) mNil) [15]) mNil)) (mCons (mBin dAdd (mBin dItemA (mVar 3) (mC (.str "last"))) (mApp dTup (mCons (mC (.int 0)) mNil))) mNil)))) mNil) (gmName 12))
noncomputable def b12 : MS := (mIfS (mOrT (mTest (mBin (dOE "Piece" f_Piece____eq__ false) (mVar 8) (mMake "Piece" f_Piece____init__ [0, 1] (mCons (mVar 12) (mCons (mVar 7) mNil)) mNil))) (mTest (mBin dNotA (mCallP f__law_unlike [0, 1] (mCons (mVar 8) (mCons (mMake "Piece" f_Piece____init__ [0, 1] (mCons (mVar 12) (mCons (mVar 7) mNil)) mNil) mNil)) mNil) (mC (.bl true))))) (mRet (mC (.bl false))) mSkip)
noncomputable def b13 : MS := (mIfS (mTest (mBin dNe (mLc (mRange (mCons (mC (.int 3)) mNil)) (gmName 13) mYes (mCallP f__law_refused [0, 1] (mCons (mVar 4) (mCons (mCallD 1 f__law_odd (mCons (mVar 5) mNil)) mNil)) mNil) [13]) (mBin dMulA (mApp dLst (mCons (mApp dLst (mCons (mC (.bl true)) (mCons (mC (.bl true)) mNil))) mNil)) (mC (.int 3))))) (mRet (mC (.bl false))) mSkip)
noncomputable def bAll : MS := (mSeq b1 (mSeq b2 (mSeq b3 (mSeq b4 (mSeq b5 (mSeq b6 (mSeq b7 (mSeq b8 (mSeq b9 (mSeq b10 (mSeq b11 (mSeq b12 b13))))))))))))
theorem law_eq : m_law = (mSeq (mSetDk 1 f__law_deck (mCons (mVar 0) mNil)) (mSeq (mFor (mRange (mCons (mC (.int 2)) mNil)) (gmName 2) bAll) (mRet (mC (.bl true))))) := rfl
end Lk07

namespace Lk07
open PySem L2 TL

section
variable {ms : List Int}
abbrev lw (ms : List Int) (s : Dk) (c2 c3 c4 c5 c6 c7 c8 c9 c10 c11 c12 : Cell) : List Cell := [.d (.scr ms), .dk s, c2, c3, c4, c5, c6, c7, c8, c9, c10, c11, c12, .no, .no, .no]
theorem name2 {i j : Nat} {a b : D} {ρ ρ1 ρ2 : List Cell} (h1 : gmName i a ρ = some ρ1) (h2 : gmName j b ρ1 = some ρ2) : gmTup (gmCons (gmName i) (gmCons (gmName j) gmNil)) 2 (.tup [a, b]) ρ = some ρ2 := by
  show ((gmName i a ρ).bind fun ρ' => (gmName j b ρ').bind fun ρ'' => some ρ'') = _
  rw [h1, Option.bind_some, h2]; rfl
theorem turn_ok {s : Dk} {m : Nat} {c2 c3 c4 c5 c6 c7 c8 c9 c10 c11 c12 : Cell} (p3 : isP c3 = true) (p4 : isP c4 = true) (p5 : isP c5 = true) (p6 : isP c6 = true) (p7 : isP c7 = true) (p8 : isP c8 = true) (p9 : isP c9 = true) (p10 : isP c10 = true) (p11 : isP c11 = true) (p12 : isP c12 = true) (hd : s.dr = false) (h : Fine s (m + 250)) :
    ∃ s' d3 d4 d5 d6 d7 d8 d9 d10 d11 d12, bAll (lw ms s c2 c3 c4 c5 c6 c7 c8 c9 c10 c11 c12) = some (.nx (lw ms s' c2 (.d d3) (.d d4) (.d d5) (.d d6) (.d d7) (.d d8) (.d d9) (.d d10) (.d d11) (.d d12))) ∧ Fine s' m ∧ s'.dr = false := by
  have hz := sz
  obtain ⟨w, s1, e1, ⟨S, b, L, e, n, W, Hw, hn3⟩, f1, d1⟩ := f__law_world_spec (s := s) (m := m + 148) hd h
  have hS := W.sg
  have hSl := four_len S hS
  have hn := W.n4
  obtain ⟨ob, hob⟩ : ∃ ob, ob = obD S b L e := ⟨_, rfl⟩
  have hcode : f__law_code [w] = some ob := by rw [hob]; exact f__law_code_spec W Hw
  have g1 : b1 (lw ms s c2 c3 c4 c5 c6 c7 c8 c9 c10 c11 c12) = some (.nx (lw ms s1 c2 (.d w) c4 c5 c6 c7 c8 c9 c10 c11 c12)) := by
    unfold b1
    exact (ev_set (ev_callD (k0 := s) rfl (ev_cons ev_c ev_nil) rfl e1) (by rw [plainAt_eq]; exact p3)).trans rfl
  have g2 : b2 (lw ms s1 c2 (.d w) c4 c5 c6 c7 c8 c9 c10 c11 c12) = some (.nx (lw ms s1 c2 (.d w) (.d ob) (.d (tx S)) c6 c7 c8 c9 c10 c11 c12)) := by
    have a : mApp dTup (mCons (mCallP f__law_code [0] (mCons (mVar 3) mNil) mNil) (mCons (mBin dItemA (mVar 3) (mC (.str "signs"))) mNil)) (lw ms s1 c2 (.d w) c4 c5 c6 c7 c8 c9 c10 c11 c12) = some (.tup [ob, tx S], lw ms s1 c2 (.d w) c4 c5 c6 c7 c8 c9 c10 c11 c12) :=
      ev_app (ev_cons (ev_callQ (xs := [w]) (ev_cons (ev_var rfl) ev_nil) ev_nil rfl hcode) (ev_cons (ev_bin (ev_var rfl) ev_c Hw.s) ev_nil)) rfl
    have q1 : gmName 4 ob (lw ms s1 c2 (.d w) c4 c5 c6 c7 c8 c9 c10 c11 c12) = some (lw ms s1 c2 (.d w) (.d ob) c5 c6 c7 c8 c9 c10 c11 c12) := (name_ok (c := c4) rfl p4).trans rfl
    have q2 : gmName 5 (tx S) (lw ms s1 c2 (.d w) (.d ob) c5 c6 c7 c8 c9 c10 c11 c12) = some (lw ms s1 c2 (.d w) (.d ob) (.d (tx S)) c6 c7 c8 c9 c10 c11 c12) := (name_ok (c := c5) rfl p5).trans rfl
    have q3 := name2 q1 q2
    unfold b2
    simp only [mAsg, a, Option.bind_some, q3, Option.map_some]
  -- the cuts
  obtain ⟨r, s2, e2, r0, r1, f2, d2⟩ := f_draw_spec (s := s1) (n := m + 147) (many := 4) d1 f1 (by decide) (by decide)
  obtain ⟨N, hN⟩ : ∃ N : Nat, 1 + r = (N : Int) := ⟨(1 + r).toNat, by omega⟩
  have hN1 : 1 ≤ N := by omega
  have hN4 : N ≤ 4 := by omega
  obtain ⟨out, ρ', k1, k2, k3, k4⟩ := lcGo_invT (f := gmName 13) (me := mCallD 1 f__law_page (mCons (mVar 5) (mCons (mC (.int 4)) mNil))) (vs := [13]) (fun k ρ => ∃ s', ρ = lw ms s' c2 (.d w) (.d ob) (.d (tx S)) c6 c7 c8 c9 c10 c11 c12 ∧ k ≤ N ∧ Fine s' (m + 100 + (N - k) * 6) ∧ s'.dr = false) (Pgx S)
    ((List.range N).map fun i : Nat => .int (0 + (i : Int))) 0 (lw ms s2 c2 (.d w) (.d ob) (.d (tx S)) c6 c7 c8 c9 c10 c11 c12) ⟨s2, rfl, Nat.zero_le _, f2.le (by omega), d2⟩ (fun i d hi ρ hI => by
      rw [Nat.zero_add] at hI ⊢
      obtain ⟨s3, rfl, hk, f3, hd3⟩ := hI
      have hi := (List.getElem?_eq_some_iff.mp hi).1
      simp only [List.length_map, List.length_range] at hi
      obtain ⟨p, s4, e4, hp, hl, f4, d4⟩ := f_page_spec (s := s3) (n := m + 100 + (N - (i + 1)) * 6) (most := 4) (l := S) hd3 (f3.le (by omega)) hSl.2 (by omega) (by decide)
      exact ⟨[.d (.scr ms), .dk s3, c2, .d w, .d ob, .d (tx S), c6, c7, c8, c9, c10, c11, c12, .d d, .no, .no], tx p, [.d (.scr ms), .dk s4, c2, .d w, .d ob, .d (tx S), c6, c7, c8, c9, c10, c11, c12, .d d, .no, .no], rfl, ev_callD (k0 := s3) rfl (ev_cons (ev_var rfl) (ev_cons ev_c ev_nil)) rfl e4, ⟨p, rfl, hp, hl⟩, s4, rfl, by omega, f4, d4⟩)
  obtain ⟨s3, rfl, _, f3, d3⟩ := k2
  obtain ⟨cuts, rfl, hc, hfl⟩ := pages_of k3
  simp only [List.length_map, List.length_range] at k4
  have hc0 : cuts ≠ [] := fun z => by rw [z] at k4; simp at k4; omega
  obtain ⟨p, hp⟩ : ∃ p, p = cuts.flatten := ⟨_, rfl⟩
  have hpl : p.length ≤ 16 := by rw [hp]; omega
  have hpg : Pg S p := ⟨fun c hcc => by
    rw [hp] at hcc
    obtain ⟨q, hq, hcq⟩ := List.mem_flatten.mp hcc
    exact hc q hq c hcq, by omega⟩
  have g3 : b3 (lw ms s1 c2 (.d w) (.d ob) (.d (tx S)) c6 c7 c8 c9 c10 c11 c12) = some (.nx (lw ms s3 c2 (.d w) (.d ob) (.d (tx S)) (.d (.lst (cuts.map tx))) c7 c8 c9 c10 c11 c12)) := by
    unfold b3
    exact (ev_set (ev_lc (ρ1 := lw ms s2 c2 (.d w) (.d ob) (.d (tx S)) c6 c7 c8 c9 c10 c11 c12) (ev_range (ev_cons (ev_bin ev_c (ev_callD (k0 := s1) rfl (ev_cons ev_c ev_nil) rfl e2) (show dAdd (.int 1) (.int r) = some (.int (N : Int)) by rw [← hN]; rfl)) ev_nil) (range_n N (by omega))) rfl k1 (by rw [List.length_map]; omega)) (by rw [plainAt_eq]; exact p6)).trans rfl
  have g4 : b4 (lw ms s3 c2 (.d w) (.d ob) (.d (tx S)) (.d (.lst (cuts.map tx))) c7 c8 c9 c10 c11 c12) = some (.nx (lw ms s3 c2 (.d w) (.d ob) (.d (tx S)) (.d (.lst (cuts.map tx))) (.d (tx p)) c8 c9 c10 c11 c12)) := by
    unfold b4
    exact (ev_set (ev_bin ev_c (ev_var rfl) (by rw [hp]; exact join_pages cuts (by rw [← hp]; omega))) (by rw [plainAt_eq]; exact p7)).trans rfl
  obtain ⟨pc, hpc⟩ : ∃ pc, pc = pcD S b L e n p := ⟨_, rfl⟩
  obtain ⟨s4, e4, f4, d4⟩ := br_spec W 12 cuts s3 (m + 60) hc0 (by omega) hc (by rw [← hp]; omega) (by omega) d3 (f3.le (by omega))
  obtain ⟨s5, e5, f5, d5⟩ := br_spec W 12 cuts s4 (m + 40) hc0 (by omega) hc (by rw [← hp]; omega) (by omega) d4 (f4.le (by omega))
  rw [← hob, ← hp, ← hpc] at e4 e5
  let Q : Dk → Cell → Cell → Cell → Cell → Cell → List Cell := fun s c8 c9 c10 c11 c12 => lw ms s c2 (.d w) (.d ob) (.d (tx S)) (.d (.lst (cuts.map tx))) (.d (tx p)) c8 c9 c10 c11 c12
  have g5 : b5 (Q s3 c8 c9 c10 c11 c12) = some (.nx (Q s5 (.d pc) (.d pc) c10 c11 c12)) := by
    have a : mApp dTup (mCons (mCallD 1 (f__law_bracketed 12) (mCons (mVar 4) (mCons (mVar 6) mNil))) (mCons (mCallD 1 (f__law_bracketed 12) (mCons (mVar 4) (mCons (mVar 6) mNil))) mNil)) (Q s3 c8 c9 c10 c11 c12) = some (.tup [pc, pc], Q s5 c8 c9 c10 c11 c12) :=
      ev_app (ev_cons (ρ1 := Q s4 c8 c9 c10 c11 c12) (ev_callD (k0 := s3) rfl (ev_cons (ev_var rfl) (ev_cons (ev_var rfl) ev_nil)) rfl e4) (ev_cons (ev_callD (k0 := s4) rfl (ev_cons (ev_var rfl) (ev_cons (ev_var rfl) ev_nil)) rfl e5) ev_nil)) rfl
    have q1 : gmName 8 pc (Q s5 c8 c9 c10 c11 c12) = some (Q s5 (.d pc) c9 c10 c11 c12) := (name_ok (c := c8) rfl p8).trans rfl
    have q2 : gmName 9 pc (Q s5 (.d pc) c9 c10 c11 c12) = some (Q s5 (.d pc) (.d pc) c10 c11 c12) := (name_ok (c := c9) rfl p9).trans rfl
    have q3 := name2 q1 q2
    unfold b5
    simp only [mAsg, a, Option.bind_some, q3, Option.map_some]
  obtain ⟨s6, e6, f6, d6⟩ := is_piece_spec W Hw hpg (s := s5) (m := m + 30) d5 (f5.le (by omega))
  obtain ⟨s7, e7, f7, d7⟩ := is_piece_spec W Hw hpg (s := s6) (m := m + 20) d6 (f6.le (by omega))
  rw [← hob, ← hpc] at e6 e7
  have g6 : b6 (Q s5 (.d pc) (.d pc) c10 c11 c12) = some (.nx (Q s7 (.d pc) (.d pc) c10 c11 c12)) := by
    have t1 : mNotT (mTest (mCallD 1 f__law_is_piece (mCons (mVar 3) (mCons (mVar 4) (mCons (mVar 8) (mCons (mVar 7) mNil)))))) (Q s5 (.d pc) (.d pc) c10 c11 c12) = some (false, Q s6 (.d pc) (.d pc) c10 c11 c12) :=
      ev_not (k := true) (ev_test (ev_callD (k0 := s5) rfl (ev_cons (ev_var rfl) (ev_cons (ev_var rfl) (ev_cons (ev_var rfl) (ev_cons (ev_var rfl) ev_nil)))) rfl e6))
    have t2 : mNotT (mTest (mCallD 1 f__law_is_piece (mCons (mVar 3) (mCons (mCallP f__law_code [0] (mCons (mVar 3) mNil) mNil) (mCons (mVar 9) (mCons (mVar 7) mNil)))))) (Q s6 (.d pc) (.d pc) c10 c11 c12) = some (false, Q s7 (.d pc) (.d pc) c10 c11 c12) :=
      ev_not (k := true) (ev_test (ev_callD (k0 := s6) rfl (ev_cons (ev_var rfl) (ev_cons (ev_callQ (xs := [w]) (ev_cons (ev_var rfl) ev_nil) ev_nil rfl hcode) (ev_cons (ev_var rfl) (ev_cons (ev_var rfl) ev_nil)))) rfl e7))
    unfold b6
    exact (ev_ifF ((ev_orF t1).trans t2)).trans ev_skip
  obtain ⟨a, ha⟩ : ∃ a, a = S.headD 0 := ⟨_, rfl⟩
  have hS1 := (four_odd S hS).2.2.2.2.2.2.2.2
  rw [← ha] at hS1
  have haS : a ∈ S := by rw [hS1]; exact List.mem_cons_self
  have i0 : dItemA (tx S) (.int 0) = some (tx [a]) := by
    show (if (Tx S).length ≤ sizeLine then (L2.atI (Tx S).cps.toList 0).map (fun c => D.str ⟨#[c]⟩) else none) = _
    rw [if_pos (by rw [Tx_len]; omega), Tx_cps]
    have := atI_nat (xs := S) (j := 0) (v := a) (by rw [hS1]; rfl)
    rw [show ((0 : Nat) : Int) = 0 from rfl] at this
    rw [this]; rfl
  have hpg2 : Pg S (p ++ [a]) := ⟨fun c hcc => by
    rcases List.mem_append.mp hcc with hcc | hcc
    · exact hpg.ok c hcc
    · rw [List.mem_singleton] at hcc; subst hcc; exact haS, by rw [List.length_append, List.length_singleton]; omega⟩
  have hpg0 : Pg S [] := ⟨fun c hcc => (by cases hcc), Nat.zero_le _⟩
  obtain ⟨fu, hfu⟩ : ∃ fu, fu = pcD S b L e n (p ++ [a]) := ⟨_, rfl⟩
  obtain ⟨ba, hba⟩ : ∃ ba, ba = pcD S b L e n [] := ⟨_, rfl⟩
  have m1 : f_Piece____init__ [ob, tx (p ++ [a])] = some (pfD S b L e n (p ++ [a])) := by rw [hob]; exact f_initP W hpg2
  have m2 : f_Piece____init__ [ob, .str ""] = some (pfD S b L e n []) := by rw [hob, empty_Tx]; exact f_initP W hpg0
  have g7 : b7 (Q s7 (.d pc) (.d pc) c10 c11 c12) = some (.nx (Q s7 (.d pc) (.d pc) (.d fu) (.d ba) c12)) := by
    rw [hfu, hba]
    unfold b7
    exact (ev_par (ev_cons (ev_make (xs := [ob, tx (p ++ [a])]) (ev_cons (ev_var rfl) (ev_cons (ev_bin (ev_var rfl) (ev_bin (ev_var rfl) ev_c i0) (add_Tx (by simp; omega))) ev_nil)) ev_nil rfl m1) (ev_cons (ev_make (xs := [ob, .str ""]) (ev_cons (ev_var rfl) (ev_cons ev_c ev_nil)) ev_nil rfl m2) ev_nil)) (by rw [plainAt_eq]; exact p10) (by rw [plainAt_eq]; exact p11)).trans rfl
  have q8 : dOE "Piece" f_Piece____eq__ false pc pc = some (.bl true) := by rw [hpc, eqP, decide_eq_true rfl]
  have q8' : dOE "Piece" f_Piece____eq__ false pc fu = some (.bl false) := by
    rw [hpc, hfu, eqP, decide_eq_false]
    intro z
    have := congrArg List.length z
    simp at this
  have g8 : b8 (Q s7 (.d pc) (.d pc) (.d fu) (.d ba) c12) = some (.nx (Q s7 (.d pc) (.d pc) (.d fu) (.d ba) c12)) := by
    unfold b8
    exact (ev_ifF ((ev_orF (ev_not (k := true) (ev_test (ev_bin (ev_var rfl) (ev_var rfl) q8)))).trans (ev_test (ev_bin (ev_var rfl) (ev_var rfl) q8')))).trans ev_skip
  have others : ∀ d ∈ [D.non, tx p, .int 0, ob], dOEA "Piece" ["Tally"] f_Piece____eq__ pc d = some (.bl false) := fun d hd => by
    rw [hpc]
    simp only [List.mem_cons, List.not_mem_nil, or_false] at hd
    rcases hd with rfl | rfl | rfl | rfl
    · exact eqA_other rfl rfl
    · exact eqA_other rfl rfl
    · exact eqA_other rfl rfl
    · rw [hob]
      refine eqA_other (by show decide (("Tally" : Str) = "Piece" ∨ ("Tally" : Str) ∈ (["Tally"] : List Str)) = true; decide) ?_
      simp only [dIsOA]
      rw [if_neg (by decide), if_pos (by decide)]
  have g9 : b9 (Q s7 (.d pc) (.d pc) (.d fu) (.d ba) c12) = some (.nx (Q s7 (.d pc) (.d pc) (.d fu) (.d ba) c12)) := by
    have go := lcGo_pure (f := gmName 14) (mt := mTest (mBin (dOEA "Piece" ["Tally"] f_Piece____eq__) (mVar 8) (mVar 14))) (me := mVar 14) (vs := [14]) (ρ := Q s7 (.d pc) (.d pc) (.d fu) (.d ba) c12) (fun _ => false) (fun d => d) [D.non, tx p, .int 0, ob] fun d hd =>
      ⟨[.d (.scr ms), .dk s7, c2, .d w, .d ob, .d (tx S), .d (.lst (cuts.map tx)), .d (tx p), .d pc, .d pc, .d fu, .d ba, c12, .no, .d d, .no], rfl, ev_test (ev_bin (ev_var rfl) (ev_var rfl) (others d hd)), fun z => (by cases z), rfl⟩
    have e0 : ([D.non, tx p, .int 0, ob].filter fun _ => false).map (fun d => d) = [] := by simp
    rw [e0] at go
    unfold b9
    exact (ev_ifF (ev_test (ev_bin (ev_lc (ρ1 := Q s7 (.d pc) (.d pc) (.d fu) (.d ba) c12) (ev_items (ev_app (ev_cons ev_c (ev_cons (ev_var rfl) (ev_cons ev_c (ev_cons (ev_var rfl) ev_nil)))) rfl) rfl) rfl go (Nat.zero_le _)) (ev_app ev_nil rfl) dNe_nil))).trans ev_skip
  have j1 : f_Piece__joined [pc, ba] = some pc := by
    have := f_joined (p := p) (q := []) W (by rw [List.append_nil]; exact hpg)
    rw [List.append_nil] at this
    rw [hpc, hba]; exact this
  have j2 : f_Piece__joined [ba, pc] = some pc := by
    have := f_joined (p := []) (q := p) W hpg
    rw [hpc, hba]; exact this
  have j3 : f_Piece__joined [ba, ba] = some ba := by
    have := f_joined (p := []) (q := []) W hpg0
    rw [hba]; exact this
  have q10 : dOE "Piece" f_Piece____eq__ true ba ba = some (.bl false) := by rw [hba]; exact neP
  obtain ⟨fp, hfp⟩ : ∃ fp, fp = pfD S b L e n p := ⟨_, rfl⟩
  obtain ⟨fb, hfb⟩ : ∃ fb, fb = pfD S b L e n [] := ⟨_, rfl⟩
  have hpc' : pc = .obj "Piece" fp := by rw [hpc, hfp]
  have hba' : ba = .obj "Piece" fb := by rw [hba, hfb]
  have lp : fp.lookup ("joined" : Str) = none := by rw [hfp]; exact pf4
  have lb : fb.lookup ("joined" : Str) = none := by rw [hfb]; exact pf4
  have g10 : b10 (Q s7 (.d pc) (.d pc) (.d fu) (.d ba) c12) = some (.nx (Q s7 (.d pc) (.d pc) (.d fu) (.d ba) c12)) := by
    have v8 : mVar 8 (Q s7 (.d pc) (.d pc) (.d fu) (.d ba) c12) = some (.obj "Piece" fp, Q s7 (.d pc) (.d pc) (.d fu) (.d ba) c12) := by rw [← hpc']; exact ev_var rfl
    have v11 : mVar 11 (Q s7 (.d pc) (.d pc) (.d fu) (.d ba) c12) = some (.obj "Piece" fb, Q s7 (.d pc) (.d pc) (.d fu) (.d ba) c12) := by rw [← hba']; exact ev_var rfl
    have w8 : mVar 8 (Q s7 (.d pc) (.d pc) (.d fu) (.d ba) c12) = some (pc, Q s7 (.d pc) (.d pc) (.d fu) (.d ba) c12) := ev_var rfl
    have w11 : mVar 11 (Q s7 (.d pc) (.d pc) (.d fu) (.d ba) c12) = some (ba, Q s7 (.d pc) (.d pc) (.d fu) (.d ba) c12) := ev_var rfl
    have a1 := ev_meth (m := "joined") (f := f_Piece__joined) (pm := [0, 1]) (xs := [pc, ba]) v8 lp (ev_cons w11 ev_nil) ev_nil (by rw [hpc']; rfl) j1
    have a2 := ev_meth (m := "joined") (f := f_Piece__joined) (pm := [0, 1]) (xs := [ba, pc]) v11 lb (ev_cons w8 ev_nil) ev_nil (by rw [hba']; rfl) j2
    have a3 := ev_meth (m := "joined") (f := f_Piece__joined) (pm := [0, 1]) (xs := [ba, ba]) v11 lb (ev_cons w11 ev_nil) ev_nil (by rw [hba']; rfl) j3
    unfold b10
    exact (ev_ifF ((ev_orF (ev_not (k := true) (ev_test (ev_bin a1 a2 q8)))).trans (ev_test (ev_bin a3 w11 q10)))).trans ev_skip
  have W2 := W.wide hn3
  have hb2 : b ≠ b ++ [1] := fun z => by
    have := congrArg List.length z
    simp at this
  obtain ⟨fa, hfa⟩ : ∃ fa, fa = obD S (b ++ [1]) (L.map wid) (e ++ [0]) := ⟨_, rfl⟩
  have g11 : b11 (Q s7 (.d pc) (.d pc) (.d fu) (.d ba) c12) = some (.nx (Q s7 (.d pc) (.d pc) (.d fu) (.d ba) (.d fa))) := by
    have go := lcGo_mapT (f := gmName 15) (mt := mYes) (me := mCallP f__law_wider [0] (mCons (mVar 15) mNil) mNil) (vs := [15]) (ρ := Q s7 (.d pc) (.d pc) (.d fu) (.d ba) c12) mD (fun M => mD (wid M)) L fun M hM =>
      ⟨[.d (.scr ms), .dk s7, c2, .d w, .d ob, .d (tx S), .d (.lst (cuts.map tx)), .d (tx p), .d pc, .d pc, .d fu, .d ba, c12, .no, .no, .d (mD M)], rfl, rfl, ev_callQ (xs := [mD M]) (ev_cons (ev_var rfl) ev_nil) ev_nil rfl (f_wider_spec (W.sq M hM) hn), rfl⟩
    have eL : (L.map fun M => mD (wid M)) = (L.map wid).map mD := by rw [List.map_map]; rfl
    rw [eL] at go
    have lL : (L.map wid).length = S.length := by rw [List.length_map]; exact W.lL
    rw [hfa]
    unfold b11
    exact (ev_set (ev_make (xs := [tx S, vD (b ++ [1]), tD (L.map wid), vD (e ++ [0])]) (ev_cons (ev_var rfl) (ev_cons (ev_bin (b := vD [1]) (ev_bin (ev_var rfl) ev_c Hw.b) (ev_app (ev_cons ev_c ev_nil) rfl) (add_V (by rw [W.lb]; simp; omega))) (ev_cons (ev_app (ds := [.lst ((L.map wid).map mD)]) (ev_cons (ev_lc (ρ1 := Q s7 (.d pc) (.d pc) (.d fu) (.d ba) c12) (ev_items (ev_bin (ev_var rfl) ev_c Hw.l) rfl) rfl go (by rw [List.length_map, lL]; omega)) ev_nil) rfl) (ev_cons (ev_bin (b := vD [0]) (ev_bin (ev_var rfl) ev_c Hw.e) (ev_app (ev_cons ev_c ev_nil) rfl) (add_V (by rw [W.le]; simp; omega))) ev_nil)))) ev_nil rfl (f_init_spec W2)) (by rw [plainAt_eq]; exact p12)).trans rfl
  obtain ⟨pf, hpf⟩ : ∃ pf, pf = pcD S (b ++ [1]) (L.map wid) (e ++ [0]) (n + 1) p := ⟨_, rfl⟩
  have m3 : f_Piece____init__ [fa, tx p] = some (pfD S (b ++ [1]) (L.map wid) (e ++ [0]) (n + 1) p) := by rw [hfa]; exact f_initP W2 hpg
  have q12 : dOE "Piece" f_Piece____eq__ false pc pf = some (.bl false) := by rw [hpc, hpf]; exact eqP_far hb2
  have u12 : f__law_unlike [pc, pf] = some (.bl true) := by rw [hpc, hpf]; exact f_unlike_spec hb2
  have g12 : b12 (Q s7 (.d pc) (.d pc) (.d fu) (.d ba) (.d fa)) = some (.nx (Q s7 (.d pc) (.d pc) (.d fu) (.d ba) (.d fa))) := by
    have mk : mMake "Piece" f_Piece____init__ [0, 1] (mCons (mVar 12) (mCons (mVar 7) mNil)) mNil (Q s7 (.d pc) (.d pc) (.d fu) (.d ba) (.d fa)) = some (pf, Q s7 (.d pc) (.d pc) (.d fu) (.d ba) (.d fa)) := by
      rw [hpf]
      exact ev_make (xs := [fa, tx p]) (ev_cons (ev_var rfl) (ev_cons (ev_var rfl) ev_nil)) ev_nil rfl m3
    unfold b12
    exact (ev_ifF ((ev_orF (ev_test (ev_bin (ev_var rfl) mk q12))).trans (ev_test (ev_bin (ev_callQ (xs := [pc, pf]) (ev_cons (ev_var rfl) (ev_cons mk ev_nil)) ev_nil rfl u12) ev_c (show dNotA (.bl true) (.bl true) = some (.bl false) from rfl))))).trans ev_skip
  obtain ⟨out3, ρ3, x1, x2, x3, x4⟩ := lcGo_invT (f := gmName 13) (me := mCallP f__law_refused [0, 1] (mCons (mVar 4) (mCons (mCallD 1 f__law_odd (mCons (mVar 5) mNil)) mNil)) mNil) (vs := [13]) (fun k ρ => ∃ s', ρ = Q s' (.d pc) (.d pc) (.d fu) (.d ba) (.d fa) ∧ k ≤ 3 ∧ Fine s' (m + (3 - k)) ∧ s'.dr = false) (fun d => d = TT)
    ((List.range 3).map fun i : Nat => .int (0 + (i : Int))) 0 (Q s7 (.d pc) (.d pc) (.d fu) (.d ba) (.d fa)) ⟨s7, rfl, by decide, f7.le (by omega), d7⟩ (fun i d hi ρ hI => by
      rw [Nat.zero_add] at hI ⊢
      obtain ⟨s8, rfl, hk, f8, d8⟩ := hI
      have hi := (List.getElem?_eq_some_iff.mp hi).1
      simp only [List.length_map, List.length_range] at hi
      obtain ⟨x, s9, e9, ⟨ho, u, hu⟩, f9, d9⟩ := f__law_odd_spec (s := s8) (m := m + (3 - (i + 1))) hS d8 (f8.le (by omega))
      have hr : f__law_refused [ob, x] = some TT := by rw [hob]; exact f_refused_spec ho hu
      exact ⟨[.d (.scr ms), .dk s8, c2, .d w, .d ob, .d (tx S), .d (.lst (cuts.map tx)), .d (tx p), .d pc, .d pc, .d fu, .d ba, .d fa, .d d, .no, .no], TT, [.d (.scr ms), .dk s9, c2, .d w, .d ob, .d (tx S), .d (.lst (cuts.map tx)), .d (tx p), .d pc, .d pc, .d fu, .d ba, .d fa, .d d, .no, .no], rfl, ev_callQ (xs := [ob, x]) (ev_cons (ev_var rfl) (ev_cons (ev_callD (k0 := s8) rfl (ev_cons (ev_var rfl) ev_nil) rfl e9) ev_nil)) ev_nil rfl hr, rfl, s9, rfl, by omega, f9, d9⟩)
  obtain ⟨s8, rfl, _, f8, d8⟩ := x2
  simp only [List.length_map, List.length_range] at x4
  have ho3 : out3 = [TT, TT, TT] := by
    match out3, x3, x4 with
    | [a, b, c], x3, _ =>
      rw [x3 a (by simp), x3 b (by simp), x3 c (by simp)]
  have g13 : b13 (Q s7 (.d pc) (.d pc) (.d fu) (.d ba) (.d fa)) = some (.nx (Q s8 (.d pc) (.d pc) (.d fu) (.d ba) (.d fa))) := by
    rw [ho3] at x1
    have e3 : dMulA (.lst [TT]) (.int 3) = some (.lst [TT, TT, TT]) := by
      simp only [dMulA]
      rw [if_pos ⟨by decide, by decide, by show 1 * 3 ≤ sizeLine; exact Nat.le_of_lt (small_big (by decide))⟩]
      rfl
    have e4 : dNe (.lst [TT, TT, TT]) (.lst [TT, TT, TT]) = some (.bl false) := (pl_lst (k := 1) fun d hd => by
      simp only [List.mem_cons, List.not_mem_nil, or_false] at hd
      rcases hd with rfl | rfl | rfl <;> exact pl_TT).ne (by decide)
    have r3 : dRange [.int 3] = some ((List.range 3).map fun i : Nat => .int (0 + (i : Int))) := range_n 3 (by decide)
    unfold b13
    exact (ev_ifF (ev_test (ev_bin (ev_lc (ρ1 := Q s7 (.d pc) (.d pc) (.d fu) (.d ba) (.d fa)) (ev_range (ev_cons ev_c ev_nil) r3) rfl x1 (by show (3 : Nat) ≤ sizeLine; omega)) (ev_bin (ev_app (ev_cons (ev_app (ev_cons ev_c (ev_cons ev_c ev_nil)) rfl) ev_nil) rfl) ev_c e3) e4))).trans ev_skip
  refine ⟨s8, w, ob, tx S, .lst (cuts.map tx), tx p, pc, pc, fu, ba, fa, ?_, f8.le (by omega), d8⟩
  unfold bAll
  rw [ev_seq g1, ev_seq g2, ev_seq g3, ev_seq g4, ev_seq g5, ev_seq g6, ev_seq g7, ev_seq g8, ev_seq g9, ev_seq g10, ev_seq g11, ev_seq g12]
  exact g13
end
theorem law_true : ∀ ms : List Int, ms.length ≤ 63 → f_law [.scr ms] = some (.bl true) := by
  intro ms hms
  obtain ⟨s0, e0, f0, d0⟩ := deck_spec ms hms
  have g0 : mSetDk 1 f__law_deck (mCons (mVar 0) mNil) [.d (.scr ms), .no, .no, .no, .no, .no, .no, .no, .no, .no, .no, .no, .no, .no, .no, .no] = some (.nx (lw ms s0 .no .no .no .no .no .no .no .no .no .no .no)) :=
    (ev_setDk (ev_cons (ev_var rfl) ev_nil) e0 rfl).trans rfl
  obtain ⟨ρ', k1, k2⟩ := forGo_inv (f := gmName 2) (body := bAll) (fun j ρ => ∃ s' c2 c3 c4 c5 c6 c7 c8 c9 c10 c11 c12, isP c2 = true ∧ isP c3 = true ∧ isP c4 = true ∧ isP c5 = true ∧ isP c6 = true ∧ isP c7 = true ∧ isP c8 = true ∧ isP c9 = true ∧ isP c10 = true ∧ isP c11 = true ∧ isP c12 = true ∧ j ≤ 2 ∧ Fine s' (250 * (2 - j)) ∧ s'.dr = false ∧ ρ = lw ms s' c2 c3 c4 c5 c6 c7 c8 c9 c10 c11 c12)
    ((List.range 2).map fun i : Nat => .int (0 + (i : Int))) 0 (lw ms s0 .no .no .no .no .no .no .no .no .no .no .no) ⟨s0, .no, .no, .no, .no, .no, .no, .no, .no, .no, .no, .no, rfl, rfl, rfl, rfl, rfl, rfl, rfl, rfl, rfl, rfl, rfl, by decide, f0.le (by decide), d0, rfl⟩ (fun j d hj ρ hI => by
      rw [Nat.zero_add] at hI ⊢
      obtain ⟨s', c2, c3, c4, c5, c6, c7, c8, c9, c10, c11, c12, p2, p3, p4, p5, p6, p7, p8, p9, p10, p11, p12, _, f', d', rfl⟩ := hI
      have hj' := (List.getElem?_eq_some_iff.mp hj).1
      simp only [List.length_map, List.length_range] at hj'
      obtain ⟨s2, x3, x4, x5, x6, x7, x8, x9, x10, x11, x12, e2, f2, d2⟩ := turn_ok (ms := ms) (s := s') (m := 250 * (2 - (j + 1))) (c2 := .d d) p3 p4 p5 p6 p7 p8 p9 p10 p11 p12 d' (f'.le (by omega))
      exact ⟨_, _, name_ok (c := c2) rfl p2, e2, s2, .d d, .d x3, .d x4, .d x5, .d x6, .d x7, .d x8, .d x9, .d x10, .d x11, .d x12, rfl, rfl, rfl, rfl, rfl, rfl, rfl, rfl, rfl, rfl, rfl, hj', f2, d2, rfl⟩)
  have r2 : dRange [.int 2] = some ((List.range 2).map fun i : Nat => .int (0 + (i : Int))) := range_n 2 (by decide)
  have hh : ∃ ρ, m_law [.d (.scr ms), .no, .no, .no, .no, .no, .no, .no, .no, .no, .no, .no, .no, .no, .no, .no] = some (.rt (.bl true) ρ) := by
    rw [law_eq, ev_seq g0, ev_seq (ev_for (ev_range (ev_cons ev_c ev_nil) r2) k1)]
    exact ⟨_, ev_ret ev_c⟩
  obtain ⟨ρ, hh⟩ := hh
  exact ev_runP hh
end Lk07

open PySem PySem.W PyProof.Rows
set_option maxRecDepth 100000 in
set_option maxHeartbeats 0 in
theorem PySem.Challenge.cw_tallyhouse_k07_pieces_of_tickets_holds : PySem.Challenge.rw_tallyhouse_k07_pieces_of_tickets.Holds := by
  w_on; o_law; k_head; (case hw => w_witness2)
  k_fill
  refine TL.walkG (l := PySem.Challenge.rw_tallyhouse_k07_pieces_of_tickets) (n := 63) (k := 20) (y := "_law_script") (f := Lk07.f_law) rfl (by decide) rfl ⟨rfl, by decide, by decide⟩ (fun w h Y => PySem.W.kIn_of Y) ?F Lk07.law_true
  case F =>
    intro w mg fa h KX G hmg
    refine' Lk07.all_mk KX G hmg ?n_BadTicket ?n_OtherTally ?n_Piece ?n_Tally ?n_TallyError ?ap_Piece_Tally ?ap_Tally_Piece ?pg_Piece ?hd_Piece ?po_Piece ?sa_Piece ?cl_Piece ?ocg ?oct ?mr_Piece ?k1_Piece ?k2_Piece ?k3_Piece ?k4_Piece ?k5_Piece ?k6_Piece ?k7_Piece ?pg_Tally ?hd_Tally ?po_Tally ?sa_Tally ?cl_Tally ?mr_Tally ?k1_Tally ?k2_Tally ?k3_Tally ?k4_Tally ?k5_Tally ?k6_Tally ?k7_Tally ?cl_BadTicket ?mr_BadTicket ?ga_BadTicket ?gg_BadTicket ?ex_BadTicket ?hd_BadTicket ?cl_OtherTally ?mr_OtherTally ?ga_OtherTally ?gg_OtherTally ?ex_OtherTally ?hd_OtherTally ?ki_BadTicket_TallyError ?ki_OtherTally_TallyError ?ki_Piece_Tally ?ki_Tally_Piece ?na_Piece_table_now ?na_Piece_tally ?na_Piece_ticket ?na_Tally_digits ?na_Tally_ends ?na_Tally_start ?na_Tally_tables ?iC_BadTicket ?isF_BadTicket ?kC_BadTicket ?tyC_BadTicket ?sa_BadTicket ?no_BadTicket ?ov_BadTicket ?ini_BadTicket ?iB_OtherTally ?kC_OtherTally ?tyC_OtherTally ?ini_OtherTally ?xm_BadTicket ?xm_OtherTally ?at_Tally____eq__ ?is_Tally____eq__ ?ne_Tally ?at_Piece____eq__ ?is_Piece____eq__ ?ne_Piece ?at_Tally__table ?is_Tally__table ?at_Piece____init__ ?is_Piece____init__ ?mks_Piece ?kC_Piece ?at_Piece__joined ?is_Piece__joined ?at_Tally____init__ ?is_Tally____init__ ?mks_Tally ?kC_Tally ?at_Piece____len__ ?is_Piece____len__ ?at_Piece__led ?is_Piece__led ?at_Piece__worth_now ?pgt_Piece__worth_now ?ptk_Piece__worth_now ?prc_Piece__worth_now ?l_xi_BadTicket ?c_xi_BadTicket ?l_Tally____eq__ ?c_Tally____eq__ ?k_Tally____eq__ ?l_Piece____eq__ ?c_Piece____eq__ ?k_Piece____eq__ ?n_is_ticket ?l_is_ticket ?c_is_ticket ?k_is_ticket ?n_check_ticket ?l_check_ticket ?c_check_ticket ?k_check_ticket ?n_led_on ?l_led_on ?c_led_on ?k_led_on ?n_table_product ?l_table_product ?c_table_product ?k_table_product ?n_noughts ?l_noughts ?c_noughts ?k_noughts ?n_unit_row ?l_unit_row ?c_unit_row ?k_unit_row ?n_unit_table ?l_unit_table ?c_unit_table ?k_unit_table ?l_Tally__table ?c_Tally__table ?k_Tally__table ?l_Piece____init__ ?c_Piece____init__ ?k_Piece____init__ ?l_Piece__joined ?c_Piece__joined ?k_Piece__joined ?n_is_ascending ?l_is_ascending ?c_is_ascending ?k_is_ascending ?n_are_digits ?l_are_digits ?c_are_digits ?k_are_digits ?n_is_whole ?l_is_whole ?c_is_whole ?k_is_whole ?n_is_row ?l_is_row ?c_is_row ?k_is_row ?n_is_row_of ?l_is_row_of ?c_is_row_of ?k_is_row_of ?n_are_rows ?l_are_rows ?c_are_rows ?k_are_rows ?n_is_table ?l_is_table ?c_is_table ?k_is_table ?n_are_tables ?l_are_tables ?c_are_tables ?k_are_tables ?l_Tally____init__ ?c_Tally____init__ ?k_Tally____init__ ?n__law_draw ?l__law_draw ?c__law_draw ?k__law_draw ?n__law_bracketed ?l__law_bracketed ?c__law_bracketed ?k__law_bracketed ?n__law_code ?l__law_code ?c__law_code ?k__law_code ?n__law_deck ?l__law_deck ?c__law_deck ?k__law_deck ?l_Piece____len__ ?c_Piece____len__ ?k_Piece____len__ ?l_Piece__led ?c_Piece__led ?k_Piece__led ?n_product_of ?l_product_of ?c_product_of ?k_product_of ?l_Piece__worth_now ?c_Piece__worth_now ?k_Piece__worth_now ?n__law_dot ?l__law_dot ?c__law_dot ?k__law_dot ?n__law_led ?l__law_led ?c__law_led ?k__law_led ?n__law_lot_of ?l__law_lot_of ?c__law_lot_of ?k__law_lot_of ?n__law_pick ?l__law_pick ?c__law_pick ?k__law_pick ?n__law_is_piece ?l__law_is_piece ?c__law_is_piece ?k__law_is_piece ?n__law_odd ?l__law_odd ?c__law_odd ?k__law_odd ?n__law_page ?l__law_page ?c__law_page ?k__law_page ?n__law_refused ?l__law_refused ?c__law_refused ?k__law_refused ?n__law_unlike ?l__law_unlike ?c__law_unlike ?k__law_unlike ?n__law_wider ?l__law_wider ?c__law_wider ?k__law_wider ?n__law_line ?l__law_line ?c__law_line ?k__law_line ?n__law_world ?l__law_world ?c__law_world ?k__law_world ?n_law ?l_law ?c_law ?k_law ?z_all ?z_bool ?z_int ?z_isinstance ?z_len ?z_list ?z_min ?z_range ?z_repr ?z_str ?z_sum ?z_tuple ?z_zip
    (case n_BadTicket => k_is)
    (case n_OtherTally => k_is)
    (case n_Piece => k_is)
    (case n_Tally => k_is)
    (case n_TallyError => k_is)
    (case ap_Piece_Tally => k_is)
    (case ap_Tally_Piece => k_is)
    (case pg_Piece => k_is)
    (case hd_Piece => k_is)
    (case po_Piece => k_is)
    (case sa_Piece => k_is)
    (case cl_Piece => k_is)
    (case ocg => k_is)
    (case oct => k_is)
    (case mr_Piece => k_is)
    (case k1_Piece => kit_is)
    (case k2_Piece => kit_is)
    (case k3_Piece => kit_is)
    (case k4_Piece => kit_is)
    (case k5_Piece => kit_is)
    (case k6_Piece => kit_is)
    (case k7_Piece => kit_is)
    (case pg_Tally => k_is)
    (case hd_Tally => k_is)
    (case po_Tally => k_is)
    (case sa_Tally => k_is)
    (case cl_Tally => k_is)
    (case mr_Tally => k_is)
    (case k1_Tally => kit_is)
    (case k2_Tally => kit_is)
    (case k3_Tally => kit_is)
    (case k4_Tally => kit_is)
    (case k5_Tally => kit_is)
    (case k6_Tally => kit_is)
    (case k7_Tally => kit_is)
    (case cl_BadTicket => k_is)
    (case mr_BadTicket => k_is)
    (case ga_BadTicket => k_is)
    (case gg_BadTicket => k_is)
    (case ex_BadTicket => k_is)
    (case hd_BadTicket => k_is)
    (case cl_OtherTally => k_is)
    (case mr_OtherTally => k_is)
    (case ga_OtherTally => k_is)
    (case gg_OtherTally => k_is)
    (case ex_OtherTally => k_is)
    (case hd_OtherTally => k_is)
    (case ki_BadTicket_TallyError => kit_is)
    (case ki_OtherTally_TallyError => kit_is)
    (case ki_Piece_Tally => kit_is)
    (case ki_Tally_Piece => kit_is)
    (case na_Piece_table_now => k_is)
    (case na_Piece_tally => k_is)
    (case na_Piece_ticket => k_is)
    (case na_Tally_digits => k_is)
    (case na_Tally_ends => k_is)
    (case na_Tally_start => k_is)
    (case na_Tally_tables => k_is)
    (case iC_BadTicket => k_is)
    (case isF_BadTicket => k_is)
    (case kC_BadTicket => k_is)
    (case tyC_BadTicket => k_is)
    (case sa_BadTicket => k_is)
    (case no_BadTicket => k_is)
    (case ov_BadTicket => first | k_is | kx_is)
    (case ini_BadTicket => first | k_is | kx_is)
    (case iB_OtherTally => k_is)
    (case kC_OtherTally => k_is)
    (case tyC_OtherTally => k_is)
    (case ini_OtherTally => first | k_is | kx_is)
    (case xm_BadTicket => kts_exm)
    (case xm_OtherTally => kts_exm)
    (case at_Tally____eq__ => k_is)
    (case is_Tally____eq__ => k_is)
    (case ne_Tally => k_is)
    (case at_Piece____eq__ => k_is)
    (case is_Piece____eq__ => k_is)
    (case ne_Piece => k_is)
    (case at_Tally__table => k_is)
    (case is_Tally__table => k_is)
    (case at_Piece____init__ => k_is)
    (case is_Piece____init__ => k_is)
    (case mks_Piece => k_is)
    (case kC_Piece => k_is)
    (case at_Piece__joined => k_is)
    (case is_Piece__joined => k_is)
    (case at_Tally____init__ => k_is)
    (case is_Tally____init__ => k_is)
    (case mks_Tally => k_is)
    (case kC_Tally => k_is)
    (case at_Piece____len__ => k_is)
    (case is_Piece____len__ => k_is)
    (case at_Piece__led => k_is)
    (case is_Piece__led => k_is)
    (case at_Piece__worth_now => k_is)
    (case pgt_Piece__worth_now => k_is)
    (case ptk_Piece__worth_now => k_is)
    (case prc_Piece__worth_now => k_is)
    (case l_xi_BadTicket => k_is)
    (case c_xi_BadTicket => k_is)
    (case l_Tally____eq__ => k_is)
    (case c_Tally____eq__ => k_is)
    (case k_Tally____eq__ => k_is)
    (case l_Piece____eq__ => k_is)
    (case c_Piece____eq__ => k_is)
    (case k_Piece____eq__ => k_is)
    (case n_is_ticket => k_is)
    (case l_is_ticket => k_is)
    (case c_is_ticket => k_is)
    (case k_is_ticket => k_is)
    (case n_check_ticket => k_is)
    (case l_check_ticket => k_is)
    (case c_check_ticket => k_is)
    (case k_check_ticket => k_is)
    (case n_led_on => k_is)
    (case l_led_on => k_is)
    (case c_led_on => k_is)
    (case k_led_on => k_is)
    (case n_table_product => k_is)
    (case l_table_product => k_is)
    (case c_table_product => k_is)
    (case k_table_product => k_is)
    (case n_noughts => k_is)
    (case l_noughts => k_is)
    (case c_noughts => k_is)
    (case k_noughts => k_is)
    (case n_unit_row => k_is)
    (case l_unit_row => k_is)
    (case c_unit_row => k_is)
    (case k_unit_row => k_is)
    (case n_unit_table => k_is)
    (case l_unit_table => k_is)
    (case c_unit_table => k_is)
    (case k_unit_table => k_is)
    (case l_Tally__table => k_is)
    (case c_Tally__table => k_is)
    (case k_Tally__table => k_is)
    (case l_Piece____init__ => k_is)
    (case c_Piece____init__ => k_is)
    (case k_Piece____init__ => k_is)
    (case l_Piece__joined => k_is)
    (case c_Piece__joined => k_is)
    (case k_Piece__joined => k_is)
    (case n_is_ascending => k_is)
    (case l_is_ascending => k_is)
    (case c_is_ascending => k_is)
    (case k_is_ascending => k_is)
    (case n_are_digits => k_is)
    (case l_are_digits => k_is)
    (case c_are_digits => k_is)
    (case k_are_digits => k_is)
    (case n_is_whole => k_is)
    (case l_is_whole => k_is)
    (case c_is_whole => k_is)
    (case k_is_whole => k_is)
    (case n_is_row => k_is)
    (case l_is_row => k_is)
    (case c_is_row => k_is)
    (case k_is_row => k_is)
    (case n_is_row_of => k_is)
    (case l_is_row_of => k_is)
    (case c_is_row_of => k_is)
    (case k_is_row_of => k_is)
    (case n_are_rows => k_is)
    (case l_are_rows => k_is)
    (case c_are_rows => k_is)
    (case k_are_rows => k_is)
    (case n_is_table => k_is)
    (case l_is_table => k_is)
    (case c_is_table => k_is)
    (case k_is_table => k_is)
    (case n_are_tables => k_is)
    (case l_are_tables => k_is)
    (case c_are_tables => k_is)
    (case k_are_tables => k_is)
    (case l_Tally____init__ => k_is)
    (case c_Tally____init__ => k_is)
    (case k_Tally____init__ => k_is)
    (case n__law_draw => k_is)
    (case l__law_draw => k_is)
    (case c__law_draw => k_is)
    (case k__law_draw => k_is)
    (case n__law_bracketed => k_is)
    (case l__law_bracketed => k_is)
    (case c__law_bracketed => k_is)
    (case k__law_bracketed => k_is)
    (case n__law_code => k_is)
    (case l__law_code => k_is)
    (case c__law_code => k_is)
    (case k__law_code => k_is)
    (case n__law_deck => k_is)
    (case l__law_deck => k_is)
    (case c__law_deck => k_is)
    (case k__law_deck => k_is)
    (case l_Piece____len__ => k_is)
    (case c_Piece____len__ => k_is)
    (case k_Piece____len__ => k_is)
    (case l_Piece__led => k_is)
    (case c_Piece__led => k_is)
    (case k_Piece__led => k_is)
    (case n_product_of => k_is)
    (case l_product_of => k_is)
    (case c_product_of => k_is)
    (case k_product_of => k_is)
    (case l_Piece__worth_now => k_is)
    (case c_Piece__worth_now => k_is)
    (case k_Piece__worth_now => k_is)
    (case n__law_dot => k_is)
    (case l__law_dot => k_is)
    (case c__law_dot => k_is)
    (case k__law_dot => k_is)
    (case n__law_led => k_is)
    (case l__law_led => k_is)
    (case c__law_led => k_is)
    (case k__law_led => k_is)
    (case n__law_lot_of => k_is)
    (case l__law_lot_of => k_is)
    (case c__law_lot_of => k_is)
    (case k__law_lot_of => k_is)
    (case n__law_pick => k_is)
    (case l__law_pick => k_is)
    (case c__law_pick => k_is)
    (case k__law_pick => k_is)
    (case n__law_is_piece => k_is)
    (case l__law_is_piece => k_is)
    (case c__law_is_piece => k_is)
    (case k__law_is_piece => k_is)
    (case n__law_odd => k_is)
    (case l__law_odd => k_is)
    (case c__law_odd => k_is)
    (case k__law_odd => k_is)
    (case n__law_page => k_is)
    (case l__law_page => k_is)
    (case c__law_page => k_is)
    (case k__law_page => k_is)
    (case n__law_refused => k_is)
    (case l__law_refused => k_is)
    (case c__law_refused => k_is)
    (case k__law_refused => k_is)
    (case n__law_unlike => k_is)
    (case l__law_unlike => k_is)
    (case c__law_unlike => k_is)
    (case k__law_unlike => k_is)
    (case n__law_wider => k_is)
    (case l__law_wider => k_is)
    (case c__law_wider => k_is)
    (case k__law_wider => k_is)
    (case n__law_line => k_is)
    (case l__law_line => k_is)
    (case c__law_line => k_is)
    (case k__law_line => k_is)
    (case n__law_world => k_is)
    (case l__law_world => k_is)
    (case c__law_world => k_is)
    (case k__law_world => k_is)
    (case n_law => k_is)
    (case l_law => k_is)
    (case c_law => k_is)
    (case k_law => k_is)
    (case z_all => k_is)
    (case z_bool => k_is)
    (case z_int => k_is)
    (case z_isinstance => k_is)
    (case z_len => k_is)
    (case z_list => k_is)
    (case z_min => k_is)
    (case z_range => k_is)
    (case z_repr => k_is)
    (case z_str => k_is)
    (case z_sum => k_is)
    (case z_tuple => k_is)
    (case z_zip => k_is)
