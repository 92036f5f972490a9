import PyProof.Rows.All
import Wide.All
import OpenK.AllK
import Wide.FinOn
import HandS.ForMost
import HandS.Wide
import HandS.WideBits
import HandS.Gcd
import HandS.TupAny
import HandS.IsInst
import HandS.Zip
import HandS.Conv
import HandS.Deep
import HandS.TupMul
import KE.KMathG
import HandS.Style
import HandS.TupLe
import HandS.TryOnly
import Flt.RightSqrt
import PySem.Challenge.RW_ironships_k02_whole_fractions_and_surds
section
set_option Elab.async false
set_option linter.all false
set_option maxRecDepth 100000
/-! Dx: data in, data out: what a def does, told over plain data (no addresses). -/
namespace Dx
open PySem L2

abbrev D := PyData
/-- the draws' store: three ints -/
structure Ld where
  c : Int
  s : Int
  k : Int
def Ld.ho (l : Ld) : HO := .lst [.int l.c, .int l.s, .int l.k]
inductive Res (α : Type) where
  | ok (a : α) (l : Ld)
  | no
def Res.bind {α β : Type} (r : Res α) (f : α → Ld → Res β) : Res β := match r with
  | .ok a l => f a l
  | .no => .no
theorem Res.bind_ok {α β : Type} {r : Res α} {f : α → Ld → Res β} {b : β} {l : Ld} (h : r.bind f = .ok b l) : ∃ a l1, r = .ok a l1 ∧ f a l1 = .ok b l := by
  cases r with
  | ok a l1 => exact ⟨a, l1, rfl, h⟩
  | no => cases h
/-- a name's content -/
inductive Sl where
  | dat (d : D)
  | own (xs : List D)
  | lode
abbrev En := List (Option Sl)

def Ex (H H' : Hp) : Prop := ∀ a o, H a = some o → H' a = some o
theorem Ex.refl (H : Hp) : Ex H H := fun _ _ h => h
theorem Ex.trans {H H1 H2 : Hp} (a : Ex H H1) (b : Ex H1 H2) : Ex H H2 := fun x o h => b x o (a x o h)
theorem Ex.rd {H H' : Hp} {a : Addr} {u : HO} (e : Ex H H') (h : Rd H a u) : Rd H' a u := by
  rcases h with h | ⟨o, h⟩
  · exact .inl (e a _ h)
  · exact .inr ⟨o, e a _ h⟩
theorem Ex.l {K : PySem.W.Frag} {H H' : Hp} {a : Addr} {xs : List V} (e : Ex H H') (h : SqL K H a xs) : SqL K H' a xs := by
  rcases h with h | h
  · exact .inl (e.rd h)
  · exact .inr h
theorem Ex.t {K : PySem.W.Frag} {H H' : Hp} {a : Addr} {xs : List V} (e : Ex H H') (h : SqT K H a xs) : SqT K H' a xs := by
  rcases h with h | h
  · exact .inl (e.rd h)
  · exact .inr h

/-! ### what stands for what -/
def kD : Key → D
  | .inl i => .int i
  | .inr x => .str x
mutual
inductive Rp (K : PySem.W.Frag) (H : Hp) : V → D → Prop
  | non : Rp K H .non .none
  | bl (b : Bool) : Rp K H (.bl b) (.bool b)
  | int (i : Int) : Rp K H (.int i) (.int i)
  | str (x : Str) : Rp K H (.str x) (.str x)
  | lst {a : Addr} {xs : List V} {ds : List D} : H a = some (.lst xs) → RpAll K H xs ds → Rp K H (.ref a) (.list ds)
  | tup {a : Addr} {xs : List V} {ds : List D} : SqT K H a xs → RpAll K H xs ds → Rp K H (.ref a) (.tuple ds)
  | dic {a : Addr} {kvs : List (Key × V)} {ds : List D} : H a = some (.dK kvs) → RpAll K H (kvs.map (·.2)) ds → Rp K H (.ref a) (.dict ((kvs.map fun kv => kD kv.1).zip ds))
inductive RpAll (K : PySem.W.Frag) (H : Hp) : List V → List D → Prop
  | nil : RpAll K H [] []
  | cons {v : V} {vs : List V} {d : D} {ds : List D} : Rp K H v d → RpAll K H vs ds → RpAll K H (v :: vs) (d :: ds)
end
section
variable {K : PySem.W.Frag} {H H' : Hp}
mutual
theorem Rp.mono (e : Ex H H') : ∀ {v : V} {d : D}, Rp K H v d → Rp K H' v d
  | _, _, .non => .non
  | _, _, .bl b => .bl b
  | _, _, .int i => .int i
  | _, _, .str x => .str x
  | _, _, .lst h r => .lst (e _ _ h) (RpAll.mono e r)
  | _, _, .tup h r => .tup (e.t h) (RpAll.mono e r)
  | _, _, .dic h r => .dic (e _ _ h) (RpAll.mono e r)
theorem RpAll.mono (e : Ex H H') : ∀ {vs : List V} {ds : List D}, RpAll K H vs ds → RpAll K H' vs ds
  | _, _, .nil => .nil
  | _, _, .cons h r => .cons (Rp.mono e h) (RpAll.mono e r)
end
theorem RpAll.length : ∀ {vs : List V} {ds : List D}, RpAll K H vs ds → vs.length = ds.length
  | _, _, .nil => rfl
  | _, _, .cons _ r => congrArg (· + 1) r.length
theorem RpAll.get : ∀ {vs : List V} {ds : List D} {i : Nat} {d : D}, RpAll K H vs ds → ds[i]? = some d → ∃ v, vs[i]? = some v ∧ Rp K H v d
  | _, _, _, _, .nil, e => by simp at e
  | _, _, 0, _, .cons r _, e => by simp at e; subst e; exact ⟨_, rfl, r⟩
  | _, _, i + 1, d, .cons _ t, e => by
    obtain ⟨v, h1, h2⟩ := RpAll.get (i := i) (d := d) t (by simpa using e)
    exact ⟨v, by simpa using h1, h2⟩
theorem RpAll.getV : ∀ {vs : List V} {ds : List D} {i : Nat} {v : V}, RpAll K H vs ds → vs[i]? = some v → ∃ d, ds[i]? = some d ∧ Rp K H v d
  | _, _, _, _, .nil, e => by simp at e
  | _, _, 0, _, .cons r _, e => by simp at e; subst e; exact ⟨_, rfl, r⟩
  | _, _, i + 1, v, .cons _ t, e => by
    obtain ⟨d, h1, h2⟩ := RpAll.getV (i := i) (v := v) t (by simpa using e)
    exact ⟨d, by simpa using h1, h2⟩
theorem RpAll.append : ∀ {vs ws : List V} {ds es : List D}, RpAll K H vs ds → RpAll K H ws es → RpAll K H (vs ++ ws) (ds ++ es)
  | _, _, _, _, .nil, s => s
  | _, _, _, _, .cons r t, s => .cons r (t.append s)
theorem RpAll.take : ∀ {vs : List V} {ds : List D} (n : Nat), RpAll K H vs ds → RpAll K H (vs.take n) (ds.take n)
  | _, _, 0, _ => .nil
  | _, _, _ + 1, .nil => .nil
  | _, _, n + 1, .cons r t => .cons r (t.take n)
theorem RpAll.drop : ∀ {vs : List V} {ds : List D} (n : Nat), RpAll K H vs ds → RpAll K H (vs.drop n) (ds.drop n)
  | _, _, 0, r => r
  | _, _, _ + 1, .nil => .nil
  | _, _, n + 1, .cons _ t => t.drop n
theorem RpAll.set {v : V} {d : D} (r : Rp K H v d) : ∀ {vs : List V} {ds : List D} (i : Nat), RpAll K H vs ds → RpAll K H (vs.set i v) (ds.set i d)
  | _, _, _, .nil => .nil
  | _, _, 0, .cons _ t => .cons r t
  | _, _, i + 1, .cons q t => .cons q (t.set r i)
theorem RpAll.replicate {v : V} {d : D} (r : Rp K H v d) : ∀ n : Nat, RpAll K H (List.replicate n v) (List.replicate n d)
  | 0 => .nil
  | n + 1 => .cons r (RpAll.replicate r n)
end

/-! ### the state -/
def LodeAt (L : Option Addr) (l : Ld) (H : Hp) : Prop := ∀ a, L = some a → H a = some l.ho
structure Rep (K : PySem.W.Frag) (L : Option Addr) (σ : St) (H P M : Hp) (en : En) (l : Ld) : Prop where
  pin : Ex P H
  min : Ex M H
  dis : ∀ a o, M a = some o → P a = none
  lod : LodeAt L l H
  lop : ∀ a, L = some a → P a = none ∧ M a = none
  dat : ∀ (i : Nat) (d : D), en[i]? = some (some (.dat d)) → ∃ v, σ[i]? = some (some v) ∧ Rp K P v d
  own : ∀ (i : Nat) (xs : List D), en[i]? = some (some (.own xs)) → ∃ p vs, σ[i]? = some (some (.ref p)) ∧ M p = some (.lst vs) ∧ RpAll K P vs xs
  inj : ∀ (i j : Nat) (xs ys : List D) (p : Addr), i ≠ j → en[i]? = some (some (.own xs)) → en[j]? = some (some (.own ys)) → σ[i]? = some (some (.ref p)) → σ[j]? ≠ some (some (.ref p))
  lo : ∀ (i : Nat), en[i]? = some (some .lode) → ∃ a, L = some a ∧ σ[i]? = some (some (.ref a))
  len : σ.length = en.length
/-- the heap has grown: the store may have turned, all else stands -/
structure Grow (L : Option Addr) (l' : Ld) (H P H' P' : Hp) : Prop where
  keep : ∀ a o, L ≠ some a → H a = some o → H' a = some o
  lod : LodeAt L l' H'
  pp : Ex P P'
  ph : Ex P' H'
  new : ∀ a o, P' a = some o → P a = none → H a = none
section
variable {K : PySem.W.Frag} {L : Option Addr} {σ : St} {H P M H' P' H1 P1 H2 P2 : Hp} {en : En} {l l' l1 l2 : Ld}
theorem Grow.refl (pin : Ex P H) (lod : LodeAt L l H) : Grow L l H P H P := ⟨fun _ _ _ h => h, lod, Ex.refl _, pin, fun a o h n => by rw [n] at h; cases h⟩
theorem Rep.refl (R : Rep K L σ H P M en l) : Grow L l H P H P := Grow.refl R.pin R.lod
theorem Grow.trans (a : Grow L l1 H P H1 P1) (b : Grow L l2 H1 P1 H2 P2) : Grow L l2 H P H2 P2 where
  keep := fun x o n h => b.keep x o n (a.keep x o n h)
  lod := b.lod
  pp := a.pp.trans b.pp
  ph := b.ph
  new := fun x o h n => by
    cases h1 : P1 x with
    | some u => exact a.new x u h1 n
    | none =>
      have z := b.new x o h h1
      cases h0 : H x with
      | none => rfl
      | some u =>
        by_cases hl : L = some x
        · have q := a.lod x hl
          rw [z] at q
          cases q
        · have q := a.keep x u hl h0
          rw [z] at q
          cases q
theorem Rep.grow (R : Rep K L σ H P M en l) (G : Grow L l' H P H' P') : Rep K L σ H' P' M en l' where
  pin := G.ph
  min := fun a o h => G.keep a o (fun e => by rw [(R.lop a e).2] at h; cases h) (R.min a o h)
  dis := fun a o h => by
    cases e : P' a with
    | none => rfl
    | some u =>
      have z := G.new a u e (R.dis a o h)
      rw [R.min a o h] at z
      cases z
  lod := G.lod
  lop := fun a e => ⟨by
    cases h : P' a with
    | none => rfl
    | some u =>
      have z := G.new a u h (R.lop a e).1
      rw [R.lod a e] at z
      exact (by cases z), (R.lop a e).2⟩
  dat := fun i d h => by
    obtain ⟨v, h1, h2⟩ := R.dat i d h
    exact ⟨v, h1, h2.mono G.pp⟩
  own := fun i xs h => by
    obtain ⟨p, vs, h1, h2, h3⟩ := R.own i xs h
    exact ⟨p, vs, h1, h2, h3.mono G.pp⟩
  inj := R.inj
  lo := R.lo
  len := R.len
/-- a new object -/
theorem Grow.laid {p : Addr} {o : HO} (pin : Ex P H) (lod : LodeAt L l H) (hp : H p = none) : Grow L l H P (upd H p o) (upd P p o) where
  keep := fun a u _ h => by rw [upd_ne (ne_of_none h hp)]; exact h
  lod := fun a e => by rw [upd_ne (ne_of_none (lod a e) hp)]; exact lod a e
  pp := fun a u h => by rw [upd_ne (ne_of_none (pin a u h) hp)]; exact h
  ph := fun a u h => by
    by_cases e : a = p
    · subst e
      rw [upd_same] at h ⊢
      exact h
    · rw [upd_ne e] at h ⊢
      exact pin a u h
  new := fun a u h n => by
    by_cases e : a = p
    · subst e
      exact hp
    · rw [upd_ne e, n] at h
      cases h
end

/-! ### the judgements -/
abbrev DE := En → Ld → Res D
abbrev DT := En → Ld → Res Bool
abbrev DA := En → Ld → Res (List D)
def Snd (K : PySem.W.Frag) (te : TE) (de : DE) : Prop := ∀ (L : Option Addr) (σ : St) (H P M : Hp) (en : En) (l : Ld), Rep K L σ H P M en l → ∀ d l', de en l = .ok d l' → ∀ Q : VK, (∀ v H' P', Grow L l' H P H' P' → Rp K P' v d → Q v H') → te σ H Q
def SndT (K : PySem.W.Frag) (tt : TT) (dt : DT) : Prop := ∀ (L : Option Addr) (σ : St) (H P M : Hp) (en : En) (l : Ld), Rep K L σ H P M en l → ∀ b l', dt en l = .ok b l' → ∀ Q : Bool → Hp → Prop, (∀ H' P', Grow L l' H P H' P' → Q b H') → tt σ H Q
def SndA (K : PySem.W.Frag) (ta : TA) (da : DA) : Prop := ∀ (L : Option Addr) (σ : St) (H P M : Hp) (en : En) (l : Ld), Rep K L σ H P M en l → ∀ ds l', da en l = .ok ds l' → ∀ Q : List V → Hp → Prop, (∀ vs H' P', Grow L l' H P H' P' → RpAll K P' vs ds → Q vs H') → ta σ H Q
def PD (X : Cx) (e : Expr) (de : DE) : Prop := ∃ te, PE X e te ∧ Snd X.K te de
def PDT (X : Cx) (e : Expr) (dt : DT) : Prop := ∃ tt, PT X e tt ∧ SndT X.K tt dt
def PDW (X : Cx) (e : Expr) (dt : DT) : Prop := ∃ tt, PW X e tt ∧ SndT X.K tt dt
def PDA (X : Cx) (es : List Expr) (da : DA) : Prop := ∃ ta, PA X es ta ∧ SndA X.K ta da

/-! ### values -/
def dVar (i : Nat) : DE := fun en l => match en[i]? with
  | some (some (.dat d)) => .ok d l
  | _ => .no
def dC (d : D) : DE := fun _ l => .ok d l
def dOp (g : D → D → Option D) (a b : DE) : DE := fun en l => (a en l).bind fun x l1 => (b en l1).bind fun y l2 => match g x y with
  | some z => .ok z l2
  | none => .no
def dUn (g : D → Option D) (a : DE) : DE := fun en l => (a en l).bind fun x l1 => match g x with
  | some z => .ok z l1
  | none => .no
def dNil : DA := fun _ l => .ok [] l
def dCons (a : DE) (b : DA) : DA := fun en l => (a en l).bind fun x l1 => (b en l1).bind fun xs l2 => .ok (x :: xs) l2
def dTup (a : DA) : DE := fun en l => (a en l).bind fun xs l1 => if xs.length ≤ 10000 then .ok (.tuple xs) l1 else .no
def dLst (a : DA) : DE := fun en l => (a en l).bind fun xs l1 => if xs.length ≤ 10000 then .ok (.list xs) l1 else .no
def dIf (t : DT) (a b : DE) : DE := fun en l => (t en l).bind fun c l1 => match c with
  | true => a en l1
  | false => b en l1
def dTest (a : DE) : DT := fun en l => (a en l).bind fun x l1 => match x with
  | .bool b => .ok b l1
  | _ => .no
def dVal (a : DT) : DE := fun en l => (a en l).bind fun x l1 => .ok (.bool x) l1
def dAnd (a b : DT) : DT := fun en l => (a en l).bind fun c l1 => match c with
  | true => b en l1
  | false => .ok false l1
def dOr (a b : DT) : DT := fun en l => (a en l).bind fun c l1 => match c with
  | true => .ok true l1
  | false => b en l1
def dNot (a : DT) : DT := fun en l => (a en l).bind fun c l1 => .ok (!c) l1
/-- an operation on values that Python's values follow -/
def OpS (K : PySem.W.Frag) (r : R2) (g : D → D → Option D) : Prop := ∀ (L : Option Addr) (l : Ld) (H P : Hp) (x y : V) (dx dy d : D), Ex P H → LodeAt L l H → Rp K P x dx → Rp K P y dy → g dx dy = some d →
  ∀ Q : VK, (∀ v H' P', Grow L l H P H' P' → Rp K P' v d → Q v H') → r x y H Q
def UnS (K : PySem.W.Frag) (r : V → Hp → VK → Prop) (g : D → Option D) : Prop := ∀ (L : Option Addr) (l : Ld) (H P : Hp) (x : V) (dx d : D), Ex P H → LodeAt L l H → Rp K P x dx → g dx = some d →
  ∀ Q : VK, (∀ v H' P', Grow L l H P H' P' → Rp K P' v d → Q v H') → r x H Q
def CallS (K : PySem.W.Frag) (r : List V → Hp → VK → Prop) (g : List D → Option D) : Prop := ∀ (L : Option Addr) (l : Ld) (H P : Hp) (xs : List V) (ds : List D) (d : D), Ex P H → LodeAt L l H → RpAll K P xs ds → g ds = some d →
  ∀ Q : VK, (∀ v H' P', Grow L l H P H' P' → Rp K P' v d → Q v H') → r xs H Q
section
variable {X : Cx} {K : PySem.W.Frag} {e a b c : Expr} {es : List Expr} {de da db : DE} {dt du : DT} {ds : DA} {pos : Pos}
theorem pd_var (i : Nat) {x : Str} {pos : Pos} (hN : X.N[i]? = some x := by rfl) (hv : Vis X.env.scope x := by first | exact Or.inl rfl | exact Or.inr (Or.inl rfl) | exact Or.inr (Or.inr rfl)) (hd : (x == ("__debug__" : Str)) = false := by decide)
    (hcd : (x == ("__classdict__" : Str)) = false := by decide) : PD X (.Name x pos) (dVar i) := ⟨tVar i, pe_var hN hv hd hcd, fun L σ H P M en l R d l' h Q q => by
  unfold dVar at h
  split at h
  · rename_i d0 he
    cases h
    obtain ⟨v, h1, h2⟩ := R.dat i _ he
    exact ⟨v, h1, q v H P R.refl h2⟩
  · cases h⟩
theorem pd_int {i : Int} {j pos} : PD X (.Constant (.int i) j pos) (dC (.int i)) := ⟨_, pe_int, fun L σ H P M en l R d l' h Q q => by cases h; exact q _ _ _ R.refl (.int i)⟩
theorem pd_bl {b : Bool} {j pos} : PD X (.Constant (.bool b) j pos) (dC (.bool b)) := ⟨_, pe_bl, fun L σ H P M en l R d l' h Q q => by cases h; exact q _ _ _ R.refl (.bl b)⟩
theorem pd_non {j pos} : PD X (.Constant .none j pos) (dC .none) := ⟨_, pe_non, fun L σ H P M en l R d l' h Q q => by cases h; exact q _ _ _ R.refl .non⟩
theorem pd_str {x : Str} {j pos} : PD X (.Constant (.str x) j pos) (dC (.str x)) := ⟨_, pe_str, fun L σ H P M en l R d l' h Q q => by cases h; exact q _ _ _ R.refl (.str x)⟩
theorem snd_op {r : R2} {g : D → D → Option D} {ta tb : TE} (hr : OpS K r g) (ha : Snd K ta da) (hb : Snd K tb db) : Snd K (tOp r ta tb) (dOp g da db) := fun L σ H P M en l R d l' h Q q => by
  obtain ⟨x, l1, h1, h⟩ := Res.bind_ok h
  obtain ⟨y, l2, h2, h⟩ := Res.bind_ok h
  split at h
  · rename_i z hz
    cases h
    refine ha L σ H P M en l R x l1 h1 _ fun v H1 P1 G1 r1 => ?_
    have R1 := R.grow G1
    refine hb L σ H1 P1 M en l1 R1 y _ h2 _ fun u H2 P2 G2 r2 => ?_
    have R2 := R1.grow G2
    exact hr L _ H2 P2 v u x y d R2.pin R2.lod (r1.mono G2.pp) r2 hz Q fun w H3 P3 G3 r3 => q w H3 P3 ((G1.trans G2).trans G3) r3
  · cases h
theorem pd_op {op : Operator} {r : R2} {g : D → D → Option D} (ho : OpR X (binaryOp op) r) (hr : OpS X.K r g) (ha : PD X a da) (hb : PD X b db) : PD X (.BinOp a op b pos) (dOp g da db) := by
  obtain ⟨ta, a1, a2⟩ := ha
  obtain ⟨tb, b1, b2⟩ := hb
  exact ⟨_, pe_op ho a1 b1, snd_op hr a2 b2⟩
theorem pd_cmp {op : CmpOp} {r : R2} {g : D → D → Option D} (ho : OpR X (compareOp op) r) (hr : OpS X.K r g) (ha : PD X a da) (hb : PD X b db) (hm : behindInMarks op b = false) : PD X (.Compare a [op] [b] pos) (dOp g da db) := by
  obtain ⟨ta, a1, a2⟩ := ha
  obtain ⟨tb, b1, b2⟩ := hb
  exact ⟨_, pe_cmpR ho a1 b1 hm, snd_op hr a2 b2⟩
theorem pd_ix {r : R2} {g : D → D → Option D} (ho : IxR X r) (hr : OpS X.K r g) (ha : PD X a da) (hb : PD X b db) (hs : PlainIx b) : PD X (.Subscript a b pos) (dOp g da db) := by
  obtain ⟨ta, a1, a2⟩ := ha
  obtain ⟨tb, b1, b2⟩ := hb
  exact ⟨_, pe_ix ho a1 b1 hs, snd_op hr a2 b2⟩
theorem pd_un {op : UnaryOp} {r : V → Hp → VK → Prop} {g : D → Option D} (ho : UnR X (unaryOp op) r) (hr : UnS X.K r g) (ha : PD X a da) : PD X (.UnaryOp op a pos) (dUn g da) := by
  obtain ⟨ta, a1, a2⟩ := ha
  refine ⟨_, pe_un ho a1, fun L σ H P M en l R d l' h Q q => ?_⟩
  obtain ⟨x, l1, h1, h⟩ := Res.bind_ok h
  split at h
  · rename_i z hz
    cases h
    refine a2 L σ H P M en l R x _ h1 _ fun v H1 P1 G1 r1 => ?_
    have R1 := R.grow G1
    exact hr L _ H1 P1 v x d R1.pin R1.lod r1 hz Q fun w H3 P3 G3 r3 => q w H3 P3 (G1.trans G3) r3
  · cases h
theorem pda_nil : PDA X [] dNil := ⟨_, pa_nil, fun L σ H P M en l R d l' h Q q => by cases h; exact q _ _ _ R.refl .nil⟩
theorem pda_cons (ha : PD X e de) (hs : PDA X es ds) (he : starEach (e :: es) X.env = (false, eval e X.env) :: starEach es X.env := by rfl) : PDA X (e :: es) (dCons de ds) := by
  obtain ⟨ta, a1, a2⟩ := ha
  obtain ⟨tb, b1, b2⟩ := hs
  refine ⟨_, pa_cons a1 b1 he, fun L σ H P M en l R d l' h Q q => ?_⟩
  obtain ⟨x, l1, h1, h⟩ := Res.bind_ok h
  obtain ⟨xs, l2, h2, h⟩ := Res.bind_ok h
  cases h
  refine a2 L σ H P M en l R x l1 h1 _ fun v H1 P1 G1 r1 => ?_
  have R1 := R.grow G1
  refine b2 L σ H1 P1 M en l1 R1 xs _ h2 _ fun us H2 P2 G2 r2 => ?_
  exact q _ H2 P2 (G1.trans G2) (.cons (r1.mono G2.pp) r2)
theorem sz_of {n : Nat} (h : n ≤ 10000) : n ≤ sizeLine := Nat.le_trans h (by decide)
theorem pd_tup {x1} (h : PDA X es ds) : PD X (.Tuple es x1 pos) (dTup ds) := by
  obtain ⟨ta, a1, a2⟩ := h
  refine ⟨_, pe_tup a1, fun L σ H P M en l R d l' h Q q => ?_⟩
  obtain ⟨xs, l1, h1, h⟩ := Res.bind_ok h
  split at h
  · rename_i hz
    cases h
    refine a2 L σ H P M en l R xs _ h1 _ fun vs H1 P1 G1 r1 => ⟨by rw [r1.length]; exact sz_of hz, fun p hp => ?_⟩
    have R1 := R.grow G1
    have G2 := Grow.laid (o := .tup vs) R1.pin R1.lod hp
    exact q _ _ _ (G1.trans G2) (.tup (.inl (.inl upd_same)) (r1.mono G2.pp))
  · cases h
theorem pd_lst (h : PDA X es ds) : PD X (.List es pos) (dLst ds) := by
  obtain ⟨ta, a1, a2⟩ := h
  refine ⟨_, pe_lst a1, fun L σ H P M en l R d l' h Q q => ?_⟩
  obtain ⟨xs, l1, h1, h⟩ := Res.bind_ok h
  split at h
  · rename_i hz
    cases h
    refine a2 L σ H P M en l R xs _ h1 _ fun vs H1 P1 G1 r1 => ⟨by rw [r1.length]; exact sz_of hz, fun p hp => ?_⟩
    have R1 := R.grow G1
    have G2 := Grow.laid (o := .lst vs) R1.pin R1.lod hp
    exact q _ _ _ (G1.trans G2) (.lst upd_same (r1.mono G2.pp))
  · cases h
/-! tests -/
theorem pdt_cmp {op : CmpOp} {r : R2} {g : D → D → Option D} (ho : OpR X (compareOp op) r) (hr : OpS X.K r g) (ha : PD X a da) (hb : PD X b db) (hm : behindInMarks op b = false) : PDT X (.Compare a [op] [b] pos) (dTest (dOp g da db)) := by
  obtain ⟨ta, a1, a2⟩ := ha
  obtain ⟨tb, b1, b2⟩ := hb
  refine ⟨_, pt_cmpR ho a1 b1 hm, fun L σ H P M en l R d l' h Q q => ?_⟩
  obtain ⟨x, l1, h1, h⟩ := Res.bind_ok h
  refine snd_op hr a2 b2 L σ H P M en l R x l1 h1 _ fun v H1 P1 G1 r1 => ?_
  cases r1 with
  | bl bb => cases h; exact ⟨_, rfl, q _ _ G1⟩
  | _ => cases h
theorem pdt_ofVal (h : PD X e de) (hp : ∀ te, PE X e te → PT X e (tB te)) : PDT X e (dTest de) := by
  obtain ⟨ta, a1, a2⟩ := h
  refine ⟨_, hp _ a1, fun L σ H P M en l R d l' h Q q => ?_⟩
  obtain ⟨x, l1, h1, h⟩ := Res.bind_ok h
  refine a2 L σ H P M en l R x l1 h1 _ fun v H1 P1 G1 r1 => ?_
  cases r1 with
  | bl bb => cases h; exact ⟨_, rfl, q _ _ G1⟩
  | _ => cases h
theorem pdt_not (h : PDT X e dt) : PDT X (.UnaryOp .Not e pos) (dNot dt) := by
  obtain ⟨ta, a1, a2⟩ := h
  refine ⟨_, pt_not a1, fun L σ H P M en l R d l' h Q q => ?_⟩
  obtain ⟨x, l1, h1, h⟩ := Res.bind_ok h
  cases h
  exact a2 L σ H P M en l R x _ h1 _ fun H1 P1 G1 => q _ _ G1
end
end Dx
end
section
set_option Elab.async false
set_option linter.all false
set_option maxRecDepth 100000
/-! Dx2: defs called while no repr is under way (so that repr of a list is known); the law's call from the claim's caller. -/
namespace Dx
open PySem PySem.Spec PyProof.Rows L2

/-- a def's promise, where no guard stands -/
structure FnG (P : Program) (w : World) (K : PySem.W.Frag) (mg : Str → Option Value) (base : Heap) (CX : CXT) (k : Nat) (f : Addr) (fd : FuncData) (ps : List Str) (sp : Sp) : Prop where
  size : ∀ (vs : List V) (H : Hp) (Q : VK) (E : XK), sp vs H Q E → vs.length = ps.length
  does : ∀ (A : Around), A.guards = some [] → Room k A → ∀ (outer : List Env) (s : Shared) (H : Hp), Env0 P w K mg base A outer s H →
    ∀ (args : Args) (us : List Value) (vs : List V), BindsTo s fd args (ps.zip us) → Vals vs us → ∀ (Q : VK) (E : XK), sp vs H Q E →
      codeAny (model P w) A (.call (.ref f) args) (CR CX outer P w H s Q E) s
theorem FnG.up {P : Program} {w : World} {K : PySem.W.Frag} {mg : Str → Option Value} {base : Heap} {CX : CXT} {j k : Nat} {f : Addr} {fd : FuncData} {ps : List Str} {sp : Sp} (G : FnG P w K mg base CX j f fd ps sp) (h : j ≤ k) : FnG P w K mg base CX k f fd ps sp :=
  ⟨G.size, fun A hg hr => G.does A hg (hr.mono h)⟩

/-- a def of the text, by its body, where no guard stands -/
theorem fnG_body {CX : CXT} {P : Program} {w : World} {K : PySem.W.Frag} {mg : Str → Option Value} {base : Heap} {x qual : Str} {st : Stmt} {f : Addr} {fd : FuncData} {N ps : List Str} {k : Nat} {sp : Sp}
    (F : Fun K x qual st f fd) (S : FnScope N ps (defScope st)) (len : ∀ (vs : List V) (H : Hp) (Q : VK) (E : XK), sp vs H Q E → vs.length = ps.length)
    (body : ∀ (cdv : Value) (A : Around) (outer : List Env) (s : Shared) (H : Hp) (vs : List V) (Q : VK) (E : XK), A.guards = some [] → Room k (A.deeper (envOfC qual (defScope st) s.heap.objs.size f cdv)) → sp vs H Q E →
      ∃ t, PSs (cxOf CX P w K mg base N qual (defScope st) f cdv A outer s H E) (defBody st) t ∧ t { nx := fun _ H' => Q .non H', rt := Q } (start N vs) H) : FnG P w K mg base CX (k + 1) f fd ps sp := by
  obtain ⟨oc, od, kV, doc, pm, an, cdv, ct, osl, rfl, lk, hcd⟩ := F.ex
  refine ⟨len, fun A hg hr outer s H e0 args us vs hb rv Q E hq => ?_⟩
  have kin : K.In s.heap := e0.mod.kin.keeps fun b o e => (e0.bs b o e).1
  have kinds : ∀ y ∈ ps.zip us, (defScope st).names.lookup y.1 = some .local ∨ ((defScope st).names.lookup y.1 = some .cell ∧ ((cellsFrom (s.heap.objs.size + 1) (defScope st).names []).lookup y.1).isSome = true) := by
    rintro ⟨n, v⟩ hy
    cases S.par n (List.of_mem_zip hy).1 with
    | inl q => exact Or.inl q
    | inr q => exact Or.inr ⟨q, PySem.W.cellsFrom_some _ _ _ (Or.inl q)⟩
  apply codeAny_call_function hr.depth (kin _ _ lk) rfl S.co S.gen rfl (PySem.W.codeRec_of kin hcd)
  apply hb
  apply wpAny_newFunctionEnv_cells S.kind kinds
  intro env he s1 inc
  subst he
  obtain ⟨t, ht, hd⟩ := body cdv A outer s H vs Q E hg (hr.deeper _) hq
  have I := inv_start (CX := CX) (E := E) S hr.hd e0 (len _ _ _ _ hq) rv inc
  refine ⟨(e0.mod.nolimit.keeps fun b o e => (e0.bs b o e).1).keeps inc.toInCall.keep, codeAny_func ?_⟩
  refine wpAny_mono (ht.run [] s1 (start N vs) H _ I hd) (fun fl s' hs => ?_) fun _ _ z => z
  match fl, hs with
  | .ret u, ⟨v, σ', H', J, r, q⟩ => exact ⟨v, H', J.os, J.bare, J.base, J.hok, r, q⟩
  | .next, ⟨σ', H', J, q⟩ => exact ⟨.non, H', J.os, J.bare, J.base, J.hok, rfl, q⟩
  | .brk, ⟨_, _, _, q⟩ => exact q.elim
  | .cont, ⟨_, _, _, q⟩ => exact q.elim

section
variable {X : Cx} {CX : CXT} {k : Nat} {f : Addr} {fd : FuncData} {ps : List Str} {sp : Sp} {E : XK}
/-- the callee's run, in a body -/
theorem runG {pins : List (Addr × Obj)} {σ : L2.St} {H : Hp} {s : Shared} {Q : VK} {us : List Value} {kw : List (Str × Value)} {ws : List Value} {zs : List V} (G : FnG X.prog X.w X.K X.mg X.base CX k f fd ps sp) (hg : X.A.guards = some []) (hr : Room k X.A) (hx : Passes CX X E)
    (I : Inv X pins σ H s) (hb : BindsTo s fd ⟨us, kw⟩ (ps.zip ws)) (rz : Vals zs ws) (h : sp zs H Q E) : wpAny (model X.prog X.w) X.A (call (.ref f) us kw) (EP X pins σ Q) X.xe s := by
  apply wpAny_call
  refine codeAny_mono (G.does X.A hg hr X.stack s H I.env0 ⟨us, kw⟩ ws zs hb rz Q E h) fun r s' hq => ?_
  match r, hq with
  | .ok (.ret u), hq => exact I.after hq
  | .ok .next, hq => exact hq.elim
  | .ok .brk, hq => exact hq.elim
  | .ok .cont, hq => exact hq.elim
  | .error e, hq => exact hx pins σ H s e s' I hq
/-- f(e, ..) -/
theorem pe_callG {x : Str} {p pos : Pos} {e : Expr} {es : List Expr} {t : TA} (G : FnG X.prog X.w X.K X.mg X.base CX k f fd ps sp) (hg : X.A.guards = some []) (hr : Room k X.A) (hl : Gl X x) (hm : X.mg x = some (.ref f)) (hk : PySem.W.keepIn X.K (.ref f) = true)
    (hb : Binds X.K fd ps []) (hx : Passes CX X E) (ha : PA X (e :: es) t) (h1 : (x == ("__debug__" : Str)) = false := by decide) (h2 : starEach (e :: es) X.env = (false, eval e X.env) :: starEach es X.env := by rfl)
    (h3 : (backTo pos (starEach es X.env)).any (·.1) = false := by rfl) : PE X (.Call (.Name x p) (e :: es) [] pos) (tCall sp [] E t) := by
  constructor
  intro pins s σ H Q I h
  refine wpAny_Call_Name_kw (ld_glob I hl hm ?_ h1)
  apply PySem.W.callWith_K (h₀ := X.base) I.ok.mod.kin hk _ h2 h3
  refine thn (ha.run pos pins s σ H _ I h) ?_
  rintro us s1 ⟨vs, H1, I1, r, q⟩
  have q' : sp vs H1 Q E := by simpa using q
  refine ⟨I1.kIn, runG G hg hr hx I1 (ws := us) ?_ r q'⟩
  have z := hb s1 us I1.kIn (by rw [List.append_nil, ← r.length]; exact G.size _ _ _ _ q')
  rw [List.append_nil] at z
  exact z
theorem pe_callG0 {x : Str} {p pos : Pos} (G : FnG X.prog X.w X.K X.mg X.base CX k f fd ps sp) (hg : X.A.guards = some []) (hr : Room k X.A) (hl : Gl X x) (hm : X.mg x = some (.ref f)) (hk : PySem.W.keepIn X.K (.ref f) = true)
    (hb : Binds X.K fd ps []) (hx : Passes CX X E) (h1 : (x == ("__debug__" : Str)) = false := by decide) : PE X (.Call (.Name x p) [] [] pos) (tCall sp [] E tNil) := by
  constructor
  intro pins s σ H Q I h
  refine wpAny_Call_Name_kw (ld_glob I hl hm ?_ h1)
  have q' : sp [] H Q E := h
  refine PySem.W.callWith_K0 I.kIn hk (runG G hg hr hx I (ws := []) ?_ .nil q')
  have z := hb s [] I.kIn (by rw [List.append_nil]; exact G.size _ _ _ _ q')
  exact z
/-- f(e, .., k = v, ..) -/
theorem pe_callGK {x : Str} {p pos : Pos} {e : Expr} {es : List Expr} {kws : List Keyword} {ks : List Str} {g : List Value → List Value → List Value} {gV : List V → List V → List V} {t tk : TA} (G : FnG X.prog X.w X.K X.mg X.base CX k f fd ps sp) (hg : X.A.guards = some []) (hr : Room k X.A)
    (hl : Gl X x) (hm : X.mg x = some (.ref f)) (hk : PySem.W.keepIn X.K (.ref f) = true) (hb : KBinds X.K fd ps ks g gV) (hx : Passes CX X E) (ha : PA X (e :: es) t) (hw : PK X kws tk)
    (h4 : (backToKw pos (keywordEach kws X.env)).all (·.1.isSome) = true := by rfl) (h5 : (backToKw pos (keywordEach kws X.env)).filterMap (·.1) = ks := by rfl)
    (h1 : (x == ("__debug__" : Str)) = false := by decide) (h2 : starEach (e :: es) X.env = (false, eval e X.env) :: starEach es X.env := by rfl)
    (h3 : ((backTo pos (starEach (e :: es) X.env)).any (·.1) || (backToKw pos (keywordEach kws X.env)).any (·.1.isNone)) = false := by rfl) : PE X (.Call (.Name x p) (e :: es) kws pos) (tCallK sp gV E t tk) := by
  constructor
  intro pins s σ H Q I h
  refine wpAny_Call_Name_kw (ld_glob I hl hm ?_ h1)
  apply PySem.W.callWith_KW (h₀ := X.base) I.ok.mod.kin hk h4 _ h3 h2
  refine thn (ha.run pos pins s σ H _ I h) ?_
  rintro us s1 ⟨vs, H1, I1, r, q⟩
  refine thn (hw.run pos pins s1 σ H1 _ I1 q) ?_
  rintro ws s2 ⟨zs, H2, I2, rz, q2⟩
  rw [h5]
  have r2 := hb.rel r rz
  exact ⟨I2.kIn, runG G hg hr hx I2 (hb.to s2 us ws I2.kIn (by rw [← r2.length]; exact G.size _ _ _ _ q2)) r2 q2⟩
end
end Dx
end
section
set_option Elab.async false
set_option linter.all false
set_option maxRecDepth 100000
/-! Dx3: the law's own call. -/
namespace Dx
open PySem PySem.Spec PyProof.Rows L2

/-- what is tracked at the law's call: the script alone, unless the text's top holds it -/
def Hs (K : PySem.W.Frag) (a : Addr) (ob : Obj) (xs : List V) : Hp := fun b => if b = a then (match K.lookup a with
  | some _ => none
  | none => some (.frz ob (.lst xs))) else none
theorem lawG {l : PySem.W.OpenLaw} {n k : Nat} {q : Program} {loose : List Str} {XP : (Str → Option Value) → Heap → Prop} {YP : World → Heap → Prop} {d : DefRec} {K : Params → PySem.W.Frag} {CX : CXT} {sp : PySem.W.Frag → Sp} {x : Str}
    (hn : l.most = some n) (n2 : n ≤ sizeLine) (df : d.params.defaults = []) (room : Room k callerA) (hY : ∀ (w : World) (h : Heap), YP w h → (K w.params).In h)
    (F : ∀ (w : World) (mg : Str → Option Value) (fa : Addr) (h : Heap), (K w.params).In h → h.Ns mainGlobals mg → mg d.name = some (.ref fa) →
      ∃ fd : FuncData, (∀ (s : Shared) (u : Value), BindsTo s fd ⟨[u], []⟩ [(x, u)]) ∧
        ∀ base : Heap, (K w.params).In base → base.Ns mainGlobals mg → FnG l.prog w (K w.params) mg base CX k fa fd [x] (sp (K w.params)))
    (law : ∀ (K : PySem.W.Frag) (H : Hp) (a : Addr) (ns : List Int), ns.length ≤ n → (∀ b, b ≠ a → H b = none) → SqL K H a (ns.map V.int) → sp K [.ref a] H (fun v _ => v = .bl true) fun _ _ _ => False)
    (noX : ∀ (H : Hp) (s : Shared) (e : Value) (s' : Shared), CX [] H s (fun _ _ _ => False) e s' → False) : PySem.W.WalkO q loose XP YP l.row.toRowW d [] (fun f vs => PySem.call f vs) := by
  refine Att.attach_call hn df ?_
  intro w s₀ s₁ mg mb fa o pm cd doc a vs ns G Y ho hd hcd hmg hobj hints hlen hgen
  have kin := hY w _ Y
  obtain ⟨fd, bind, hF⟩ := F w mg fa _ kin G.T.g hmg
  generalize hK : K w.params = K' at kin hF
  generalize hH : Hs K' a { cls := .type "list", data := .seq vs.toArray } (ns.map V.int) = H
  have rv : Vals (ns.map V.int) vs := vals_ints hints
  have off : ∀ b, b ≠ a → H b = none := fun b hb => by rw [← hH]; exact if_neg hb
  have atA : H a ≠ none → K'.lookup a = none := fun z => by
    cases e : K'.lookup a with
    | none => rfl
    | some u =>
      refine absurd ?_ z
      rw [← hH]
      unfold Hs
      rw [if_pos rfl, e]
  have hsq : SqL K' H a (ns.map V.int) := by
    cases e : K'.lookup a with
    | none =>
      refine Or.inl (Or.inr ⟨{ cls := .type "list", data := .seq vs.toArray }, ?_⟩)
      rw [← hH]
      unfold Hs
      rw [if_pos rfl, e]
    | some u =>
      have e2 := kin a u e
      rw [hobj] at e2
      cases e2
      exact Or.inr ⟨_, vs.toArray, _, e, rfl, rfl, rfl, by rw [List.size_toArray, hints.length]; exact Nat.le_trans hlen n2, rv⟩
  have hok : HOk l.prog w H s₁.heap := fun b u z => by
    by_cases hb : b = a
    · subst hb
      have e := atA (by rw [z]; exact fun q => nomatch q)
      rw [← hH] at z
      unfold Hs at z
      rw [if_pos rfl, e] at z
      cases z
      exact ⟨hobj, by rw [List.length_map]; exact Nat.le_trans hlen n2, vs, _, rv, hobj⟩
    · rw [off b hb] at z
      cases z
  have noD : ∀ {b : Addr} {ob : Obj} {es : Array DictEntry} {ep : Nat}, s₁.heap.get? b = some ob → ob.data = .dict es ep → b ≠ a := by
    rintro b ob es ep e dd rfl
    rw [hobj] at e
    cases e
    cases dd
  have ns' : ∀ {b : Addr} {m : Str → Option Value}, s₁.heap.Ns b m → (hidT s₁.heap H).Ns b m := by
    rintro b m ⟨ob, es, ep, e, dd, r⟩
    exact ⟨ob, es, ep, hidT_get e (off b (noD e dd)), dd, r⟩
  have kin' : K'.In (hidT s₁.heap H) := fun b ob e => hidT_get (kin b ob e) (by
    by_cases hb : b = a
    · subst hb
      cases z : H b with
      | none => rfl
      | some u =>
        have e2 := atA (by rw [z]; exact fun q => nomatch q)
        rw [e2] at e
        cases e
    · exact off b hb)
  have e0 : Env0 l.prog w K' mg (hidT s₁.heap H) callerA [] s₁ H := by
    constructor
    · rfl
    · obtain ⟨hb1, hb2⟩ := (⟨G.T.b, G.T.builtins⟩ : _ ∧ _)
      obtain ⟨mc, c1, c2⟩ := G.T.nolimit
      exact ⟨kin', ns' G.T.g, ⟨mb, ns' hb1, hb2⟩, ⟨mc, ns' c1, c2⟩⟩
    · exact fun b ob e => of_hidT e
    · exact Nat.le_of_eq (hidT_size _ _)
    · trivial
    · exact fun b hb => absurd hb (by show b ∉ ([] : List Addr); simp)
    · exact hok
    · exact .of_eq hgen
  refine codeAny_mono ((hF _ kin' (ns' G.T.g)).does callerA rfl room [] s₁ H e0 ⟨[.ref a], []⟩ [.ref a] [.ref a] (bind s₁ (.ref a)) (.cons rfl .nil) _ _ (law K' H a ns hlen off hsq)) ?_
  intro r s' h
  match r, h with
  | .error e, h => exact (noX H s₁ e s' h).elim
  | .ok .next, h => exact h.elim
  | .ok .brk, h => exact h.elim
  | .ok .cont, h => exact h.elim
  | .ok (.ret u), ⟨v, H', os, bare, un, hok', r', q⟩ =>
    have q' : v = .bl true := q
    subst q'
    have r2 : u = Value.bool true := r'
    subst r2
    refine ⟨rfl, OldK.of_keep fun b ob e => ?_, os, bare⟩
    by_cases hb : b = a
    · subst hb
      cases z : H b with
      | none => exact un.keep b ob e z (fun w => nomatch w) (fun w => nomatch w)
      | some u =>
        have e3 := atA (by rw [z]; exact fun q => nomatch q)
        have z1 := z
        rw [← hH] at z1
        unfold Hs at z1
        rw [if_pos rfl, e3] at z1
        cases z1
        have z2 := un.frzs b _ _ z
        have e4 := (hok' b _ z2).1
        rw [e] at hobj
        cases hobj
        exact e4
    · exact un.keep b ob e (off b hb) (fun w => nomatch w) (fun w => nomatch w)
end Dx
end
section
set_option Elab.async false
set_option linter.all false
set_option maxRecDepth 100000
/-! Dx4: operations and built-in functions over data. -/
namespace Dx
open PySem PySem.Spec PyProof.Rows L2

section
variable {K : PySem.W.Frag} {H P : Hp}
mutual
theorem Rp.dp : ∀ {d : D} {v : V}, d.canLay0 = true → Rp K H v d → Dp K H v d
  | _, _, _, .non => .non
  | _, _, _, .bl b => .bl b
  | _, _, _, .int i => .int i
  | _, _, _, .str x => .str x
  | _, _, h, .lst s r => .lst (SqL.of s) (RpAll.dp (by simpa [PyData.canLay0] using h) r)
  | _, _, h, .tup s r => .tup s (RpAll.dp (by simpa [PyData.canLay0] using h) r)
  | _, _, h, .dic _ _ => by simp [PyData.canLay0] at h
theorem RpAll.dp : ∀ {ds : List D} {vs : List V}, PyData.canLayAll0 ds = true → RpAll K H vs ds → DpAll K H vs ds
  | _, _, _, .nil => .nil
  | _, _, h, .cons a b => by
    simp only [PyData.canLayAll0, Bool.and_eq_true] at h
    exact .cons (Rp.dp h.1 a) (RpAll.dp h.2 b)
end
theorem Rp.isInt {v : V} {i : Int} (h : Rp K H v (.int i)) : v = .int i := by cases h; rfl
theorem Rp.isBl {v : V} {i : Bool} (h : Rp K H v (.bool i)) : v = .bl i := by cases h; rfl
theorem Rp.isStr {v : V} {i : Str} (h : Rp K H v (.str i)) : v = .str i := by cases h; rfl
theorem Rp.isLst {v : V} {ds : List D} (h : Rp K H v (.list ds)) : ∃ a xs, v = .ref a ∧ H a = some (.lst xs) ∧ RpAll K H xs ds := by cases h with | lst s r => exact ⟨_, _, rfl, s, r⟩
theorem Rp.isTup {v : V} {ds : List D} (h : Rp K H v (.tuple ds)) : ∃ a xs, v = .ref a ∧ SqT K H a xs ∧ RpAll K H xs ds := by cases h with | tup s r => exact ⟨_, _, rfl, s, r⟩
theorem ints_of : ∀ {ns : List Int} {vs : List V}, RpAll K H vs (ns.map PyData.int) → vs = ns.map V.int
  | [], _, h => by cases h; rfl
  | n :: ns, _, h => by
    cases h with
    | cons a b => rw [a.isInt, ints_of b]; rfl
theorem bls_of : ∀ {ns : List Bool} {vs : List V}, RpAll K H vs (ns.map PyData.bool) → vs = ns.map V.bl
  | [], _, h => by cases h; rfl
  | n :: ns, _, h => by
    cases h with
    | cons a b => rw [a.isBl, bls_of b]; rfl

theorem OpS.or {r r' : R2} {g g' : D → D → Option D} (h : OpS K r g) (h' : OpS K r' g') : OpS K (fun x y H Q => r x y H Q ∨ r' x y H Q) (fun a b => match g a b with
    | some d => some d
    | none => g' a b) := fun L l H P x y dx dy d e hl rx ry hg Q q => by
  dsimp only at hg
  split at hg
  · rename_i z hz
    cases hg
    exact Or.inl (h L l H P x y dx dy _ e hl rx ry hz Q q)
  · exact Or.inr (h' L l H P x y dx dy d e hl rx ry hg Q q)
theorem OpS.out {r : R2} {g g' : D → D → Option D} (h : OpS K r g) (hg : ∀ a b d, g' a b = some d → g a b = some d) : OpS K r g' := fun L l H P x y dx dy d e hl rx ry q => h L l H P x y dx dy d e hl rx ry (hg _ _ _ q)

/-! ### arithmetic -/
def g2I (g : Int → Int → Int) : D → D → Option D
  | .int i, .int j => some (.int (g i j))
  | _, _ => none
def g2IC (c : Int → Int → Bool) (g : Int → Int → Int) : D → D → Option D
  | .int i, .int j => if c i j = true then some (.int (g i j)) else none
  | _, _ => none
def g2B (g : Int → Int → Bool) : D → D → Option D
  | .int i, .int j => some (.bool (g i j))
  | _, _ => none
theorem os_I {g : Int → Int → Int} : OpS K (rI0 fun i j => .int (g i j)) (g2I g) := fun L l H P x y dx dy d e hl rx ry hg Q q => by
  unfold g2I at hg
  split at hg
  · cases hg
    exact ⟨_, _, rx.isInt, ry.isInt, q _ _ _ (.refl e hl) (.int _)⟩
  · cases hg
theorem os_IC {C : Int → Int → Prop} {c : Int → Int → Bool} {g : Int → Int → Int} (hc : ∀ i j, c i j = true → C i j) : OpS K (rI C fun i j => .int (g i j)) (g2IC c g) := fun L l H P x y dx dy d e hl rx ry hg Q q => by
  unfold g2IC at hg
  split at hg
  · split at hg
    · rename_i z
      cases hg
      exact ⟨_, _, rx.isInt, ry.isInt, hc _ _ z, q _ _ _ (.refl e hl) (.int _)⟩
    · cases hg
  · cases hg
theorem os_B {g : Int → Int → Bool} : OpS K (rI0 fun i j => .bl (g i j)) (g2B g) := fun L l H P x y dx dy d e hl rx ry hg Q q => by
  unfold g2B at hg
  split at hg
  · cases hg
    exact ⟨_, _, rx.isInt, ry.isInt, q _ _ _ (.refl e hl) (.bl _)⟩
  · cases hg
def cMul (i j : Int) : Bool := decide (i.natAbs.log2 + j.natAbs.log2 < 1000000)
def cDiv (i j : Int) : Bool := decide (j ≠ 0 ∧ j.natAbs.log2 < 9000)
def cMod (i j : Int) : Bool := decide (j ≠ 0)
def CDivA (_ j : Int) : Prop := j ≠ 0 ∧ j.natAbs.log2 < 9000
end
section
variable {X : Cx}
theorem op_fdivA : OpR X (binaryOp .FloorDiv) (rI CDivA fun i j => .int (i.fdiv j)) := opI fun i j _ _ _ _ _ hc q => floordiv_int hc.1 q (.inl (PyProof.noPylong_of_log2 hc.2))
end
section
variable {K : PySem.W.Frag}
def gSub : D → D → Option D := g2I fun i j => i - j
def gMulI : D → D → Option D := g2IC cMul fun i j => i * j
def gDiv : D → D → Option D := g2IC cDiv fun i j => i.fdiv j
def gMod : D → D → Option D := g2IC cMod fun i j => i.fmod j
theorem os_sub : OpS K (rI0 fun i j => .int (i - j)) gSub := os_I
theorem os_mulI : OpS K (rI CMulW fun i j => .int (i * j)) gMulI := os_IC fun i j h => by unfold CMulW; exact of_decide_eq_true h
theorem os_div : OpS K (rI CDivA fun i j => .int (i.fdiv j)) gDiv := os_IC fun i j h => by unfold CDivA; exact of_decide_eq_true h
theorem os_mod : OpS K (rI (fun _ j => j ≠ 0) fun i j => .int (i.fmod j)) gMod := os_IC fun i j h => by exact of_decide_eq_true h
/-! + -/
def gCatT : D → D → Option D
  | .tuple a, .tuple b => if a.length + b.length ≤ 10000 then some (.tuple (a ++ b)) else none
  | _, _ => none
def gCatL : D → D → Option D
  | .list a, .list b => if a.length + b.length ≤ 10000 then some (.list (a ++ b)) else none
  | _, _ => none
def gCatS : D → D → Option D
  | .str a, .str b => if a.length + b.length ≤ 10000 then some (.str (a ++ b)) else none
  | _, _ => none
theorem os_catT : OpS K (rCatA K) gCatT := fun L l H P x y dx dy d e hl rx ry hg Q q => by
  unfold gCatT at hg
  split at hg
  · split at hg
    · rename_i a b z
      cases hg
      obtain ⟨p1, xs, rfl, s1, r1⟩ := rx.isTup
      obtain ⟨p2, ys, rfl, s2, r2⟩ := ry.isTup
      refine ⟨p1, p2, xs, ys, rfl, rfl, e.t s1, e.t s2, by rw [r1.length, r2.length]; exact sz_of z, fun h0 => ?_, fun h0 h1 => ?_, fun h0 h1 p hp => ?_⟩
      · subst h0
        cases r1
        exact q _ _ _ (.refl e hl) (.tup s2 r2)
      · subst h1
        cases r2
        rw [List.append_nil] at q
        exact q _ _ _ (.refl e hl) (.tup s1 r1)
      · have G := Grow.laid (o := .tup (xs ++ ys)) e hl hp
        exact q _ _ _ G (.tup (.inl (.inl upd_same)) ((r1.append r2).mono G.pp))
    · cases hg
  · cases hg
end
section
variable {K : PySem.W.Frag}
theorem os_catL : OpS K rCat gCatL := fun L l H P x y dx dy d e hl rx ry hg Q q => by
  unfold gCatL at hg
  split at hg
  · split at hg
    · rename_i a b z
      cases hg
      obtain ⟨p1, xs, rfl, s1, r1⟩ := rx.isLst
      obtain ⟨p2, ys, rfl, s2, r2⟩ := ry.isLst
      refine ⟨p1, p2, xs, ys, rfl, rfl, e _ _ s1, e _ _ s2, by rw [r1.length, r2.length]; exact sz_of z, fun p hp => ?_⟩
      have G := Grow.laid (o := .lst (xs ++ ys)) e hl hp
      exact q _ _ _ G (.lst upd_same ((r1.append r2).mono G.pp))
    · cases hg
  · cases hg
theorem os_catS : OpS K (fun x y H Q => ∃ i j, x = .str i ∧ y = .str j ∧ i.length + j.length ≤ sizeLine ∧ Q (.str (i ++ j)) H) gCatS := fun L l H P x y dx dy d e hl rx ry hg Q q => by
  unfold gCatS at hg
  split at hg
  · split at hg
    · rename_i a b z
      cases hg
      exact ⟨_, _, rx.isStr, ry.isStr, sz_of z, q _ _ _ (.refl e hl) (.str _)⟩
    · cases hg
  · cases hg
/-- + -/
def gAdd : D → D → Option D
  | .int i, .int j => some (.int (i + j))
  | .tuple a, .tuple b => if a.length + b.length ≤ 10000 then some (.tuple (a ++ b)) else none
  | .list a, .list b => if a.length + b.length ≤ 10000 then some (.list (a ++ b)) else none
  | .str a, .str b => if a.length + b.length ≤ 10000 then some (.str (a ++ b)) else none
  | _, _ => none
abbrev rAddA (K : PySem.W.Frag) : R2 := fun x y H Q => rI0 (fun i j => .int (i + j)) x y H Q ∨ rCatA K x y H Q ∨ rCat x y H Q ∨ (fun x y H Q => ∃ i j, x = V.str i ∧ y = V.str j ∧ i.length + j.length ≤ sizeLine ∧ Q (.str (i ++ j)) H) x y H Q
theorem os_add : OpS K (rAddA K) gAdd := (os_I.or (os_catT.or (os_catL.or os_catS))).out fun a b d h => by
  unfold gAdd at h
  split at h
  · exact h
  · split at h
    · rename_i z
      cases h
      simp [g2I, gCatT, z]
    · cases h
  · split at h
    · rename_i z
      cases h
      simp [g2I, gCatT, gCatL, z]
    · cases h
  · exact h
  · cases h
end
section
variable {X : Cx}
theorem op_addA : OpR X (binaryOp .Add) (rAddA X.K) := op_add.or (op_catA.or (op_cat.or op_add_str))
end
section
variable {K : PySem.W.Frag}
/-! * -/
def gRepL : D → D → Option D
  | .list a, .int k => if 0 ≤ k ∧ k ≤ 1000 ∧ a.length ≤ 1000 then some (.list (List.replicate k.toNat a).flatten) else none
  | _, _ => none
def gRepT : D → D → Option D
  | .tuple a, .int k => if 2 ≤ k ∧ k ≤ 1000 ∧ a.length ≤ 1000 ∧ a ≠ [] then some (.tuple (List.replicate k.toNat a).flatten) else none
  | _, _ => none
theorem RpAll.flat {vs : List V} {ds : List D} {H : Hp} (r : RpAll K H vs ds) : ∀ n : Nat, RpAll K H (List.replicate n vs).flatten (List.replicate n ds).flatten
  | 0 => .nil
  | n + 1 => by
    rw [List.replicate_succ, List.replicate_succ, List.flatten_cons, List.flatten_cons]
    exact r.append (r.flat n)
theorem os_repL : OpS K rRep gRepL := fun L l H P x y dx dy d e hl rx ry hg Q q => by
  unfold gRepL at hg
  split at hg
  · split at hg
    · rename_i a k z
      cases hg
      obtain ⟨p1, xs, rfl, s1, r1⟩ := rx.isLst
      have h1 : xs.length * k.toNat ≤ 1000 * 1000 := Nat.mul_le_mul (by rw [r1.length]; exact z.2.2) (by omega)
      refine ⟨p1, k, xs, rfl, ry.isInt, e _ _ s1, by omega, by omega, Nat.le_trans h1 (by decide), fun p hp => ?_⟩
      have G := Grow.laid (o := .lst (List.replicate k.toNat xs).flatten) e hl hp
      exact q _ _ _ G (.lst upd_same ((r1.flat _).mono G.pp))
    · cases hg
  · cases hg
theorem os_repT : OpS K (rRepT K) gRepT := fun L l H P x y dx dy d e hl rx ry hg Q q => by
  unfold gRepT at hg
  split at hg
  · split at hg
    · rename_i a k z
      cases hg
      obtain ⟨p1, xs, rfl, s1, r1⟩ := rx.isTup
      refine ⟨p1, k, xs, rfl, ry.isInt, e.t s1, fun h0 => ?_, z.1, z.2.1, by rw [r1.length]; exact z.2.2.1, fun p hp => ?_⟩
      · subst h0
        cases r1
        exact z.2.2.2 rfl
      · have G := Grow.laid (o := .tup (List.replicate k.toNat xs).flatten) e hl hp
        exact q _ _ _ G (.tup (.inl (.inl upd_same)) ((r1.flat _).mono G.pp))
    · cases hg
  · cases hg
def gMul : D → D → Option D
  | .int i, .int j => if cMul i j = true then some (.int (i * j)) else none
  | .list a, .int k => if 0 ≤ k ∧ k ≤ 1000 ∧ a.length ≤ 1000 then some (.list (List.replicate k.toNat a).flatten) else none
  | .tuple a, .int k => if 2 ≤ k ∧ k ≤ 1000 ∧ a.length ≤ 1000 ∧ a ≠ [] then some (.tuple (List.replicate k.toNat a).flatten) else none
  | _, _ => none
abbrev rMulA (K : PySem.W.Frag) : R2 := fun x y H Q => rI CMulW (fun i j => .int (i * j)) x y H Q ∨ rRep x y H Q ∨ rRepT K x y H Q
theorem os_mul : OpS K (rMulA K) gMul := (os_mulI.or (os_repL.or os_repT)).out fun a b d h => by
  unfold gMul at h
  split at h
  · split at h
    · rename_i z
      cases h
      simp [gMulI, g2IC, z]
    · cases h
  · split at h
    · rename_i z
      cases h
      simp [gMulI, g2IC, gRepL, z]
    · cases h
  · exact h
  · cases h
end
section
variable {X : Cx}
theorem op_mulA : OpR X (binaryOp .Mult) (rMulA X.K) := op_mulW.or (op_rep.or op_repT)
end
end Dx
end
section
set_option Elab.async false
set_option linter.all false
set_option maxRecDepth 100000
/-! Dx5: comparisons, places, slices, built-in functions. -/
namespace Dx
open PySem PySem.Spec PyProof.Rows L2
section
variable {K : PySem.W.Frag}
/-! == and its kin -/
def gEq : D → D → Option D := fun a b => if SeqAt.shaped a = true ∧ SeqAt.shaped b = true then some (.bool (PyData.eqv a b)) else none
def gNe : D → D → Option D := fun a b => if SeqAt.shaped a = true ∧ SeqAt.shaped b = true then some (.bool (!PyData.eqv a b)) else none
theorem os_eq : OpS K (rEqD K) gEq := fun L l H P x y dx dy d e hl rx ry hg Q q => by
  unfold gEq at hg
  split at hg
  · rename_i z
    cases hg
    exact ⟨_, _, (rx.mono e).dp (SeqAt.canLay_of_shaped z.1), (ry.mono e).dp (SeqAt.canLay_of_shaped z.2), z.1, z.2, q _ _ _ (.refl e hl) (.bl _)⟩
  · cases hg
theorem os_ne : OpS K (rNeD K) gNe := fun L l H P x y dx dy d e hl rx ry hg Q q => by
  unfold gNe at hg
  split at hg
  · rename_i z
    cases hg
    exact ⟨_, _, (rx.mono e).dp (SeqAt.canLay_of_shaped z.1), (ry.mono e).dp (SeqAt.canLay_of_shaped z.2), z.1, z.2, q _ _ _ (.refl e hl) (.bl _)⟩
  · cases hg
/-! texts are told apart whatever they hold -/
def gEqS : D → D → Option D
  | .str a, .str b => some (.bool (decide (a = b)))
  | _, _ => none
def gNeS : D → D → Option D
  | .str a, .str b => some (.bool (!decide (a = b)))
  | _, _ => none
theorem dec_strV {a b : Str} : decide (V.str a = V.str b) = decide (a = b) := by
  by_cases e : a = b
  · subst e
    rw [decide_eq_true rfl, decide_eq_true rfl]
  · rw [decide_eq_false e, decide_eq_false (fun z => e (V.str.inj z))]
theorem os_eqS : OpS K rEq gEqS := fun L l H P x y dx dy d e hl rx ry hg Q q => by
  unfold gEqS at hg
  split at hg
  · cases hg
    rw [rx.isStr, ry.isStr]
    refine ⟨rfl, ?_⟩
    rw [dec_strV]
    exact q _ _ _ (.refl e hl) (.bl _)
  · cases hg
theorem os_neS : OpS K rNe gNeS := fun L l H P x y dx dy d e hl rx ry hg Q q => by
  unfold gNeS at hg
  split at hg
  · cases hg
    rw [rx.isStr, ry.isStr]
    refine ⟨rfl, ?_⟩
    rw [dec_strV]
    exact q _ _ _ (.refl e hl) (.bl _)
  · cases hg
def gEqA : D → D → Option D := fun a b => match gEqS a b with
  | some d => some d
  | none => gEq a b
def gNeA : D → D → Option D := fun a b => match gNeS a b with
  | some d => some d
  | none => gNe a b
abbrev rEqA (K : PySem.W.Frag) : R2 := fun x y H Q => rEq x y H Q ∨ rEqD K x y H Q
abbrev rNeA (K : PySem.W.Frag) : R2 := fun x y H Q => rNe x y H Q ∨ rNeD K x y H Q
theorem or_ok {r r' : R2} {g g' : D → D → Option D} (h : OpS K r g) (h' : OpS K r' g') : OpS K (fun x y H Q => r x y H Q ∨ r' x y H Q) (fun a b => match g a b with
    | some d => some d
    | none => g' a b) := h.or h'
theorem os_eqA : OpS K (rEqA K) gEqA := or_ok os_eqS os_eq
theorem os_neA : OpS K (rNeA K) gNeA := or_ok os_neS os_ne
def gLt : D → D → Option D := g2B fun i j => decide (i < j)
def gLe : D → D → Option D := g2B fun i j => decide (i ≤ j)
def gGt : D → D → Option D := g2B fun i j => decide (j < i)
def gGe : D → D → Option D := g2B fun i j => decide (j ≤ i)
theorem os_lt : OpS K (rI0 fun i j => .bl (decide (i < j))) gLt := os_B
theorem os_le : OpS K (rI0 fun i j => .bl (decide (i ≤ j))) gLe := os_B
theorem os_gt : OpS K (rI0 fun i j => .bl (decide (j < i))) gGt := os_B
theorem os_ge : OpS K (rI0 fun i j => .bl (decide (j ≤ i))) gGe := os_B
/-! x is None -/
def isNon : D → Bool
  | .none => true
  | _ => false
def gIsN : D → D → Option D
  | a, .none => some (.bool (isNon a))
  | _, _ => none
def gNotN : D → D → Option D
  | a, .none => some (.bool (!isNon a))
  | _, _ => none
theorem isNon_V {H : Hp} {x : V} {d : D} (r : Rp K H x d) : decide (x = V.non) = isNon d := by cases r <;> rfl
theorem os_isN : OpS K (fun x y H Q => y = V.non ∧ Q (.bl (decide (x = .non))) H) gIsN := fun L l H P x y dx dy d e hl rx ry hg Q q => by
  unfold gIsN at hg
  split at hg
  · cases hg
    cases ry
    refine ⟨rfl, ?_⟩
    rw [isNon_V rx]
    exact q _ _ _ (.refl e hl) (.bl _)
  · cases hg
theorem os_notN : OpS K (fun x y H Q => y = V.non ∧ Q (.bl (!decide (x = .non))) H) gNotN := fun L l H P x y dx dy d e hl rx ry hg Q q => by
  unfold gNotN at hg
  split at hg
  · cases hg
    cases ry
    refine ⟨rfl, ?_⟩
    rw [isNon_V rx]
    exact q _ _ _ (.refl e hl) (.bl _)
  · cases hg
/-! x in xs, of a list; of a tuple of flat things -/
def gInL : D → D → Option D
  | a, .list ds => if SeqAt.shaped a = true ∧ SeqAt.shaped (.list ds) = true then some (.bool (ds.any fun z => PyData.eqv z a)) else none
  | _, _ => none
def gNotInL : D → D → Option D
  | a, .list ds => if SeqAt.shaped a = true ∧ SeqAt.shaped (.list ds) = true then some (.bool (!ds.any fun z => PyData.eqv z a)) else none
  | _, _ => none
theorem os_inL : OpS K (rInD K) gInL := fun L l H P x y dx dy d e hl rx ry hg Q q => by
  unfold gInL at hg
  split at hg
  · split at hg
    · rename_i z
      cases hg
      exact ⟨_, _, (rx.mono e).dp (SeqAt.canLay_of_shaped z.1), (ry.mono e).dp (SeqAt.canLay_of_shaped z.2), z.1, z.2, q _ _ _ (.refl e hl) (.bl _)⟩
    · cases hg
  · cases hg
theorem os_notInL : OpS K (rNotInD K) gNotInL := fun L l H P x y dx dy d e hl rx ry hg Q q => by
  unfold gNotInL at hg
  split at hg
  · split at hg
    · rename_i z
      cases hg
      exact ⟨_, _, (rx.mono e).dp (SeqAt.canLay_of_shaped z.1), (ry.mono e).dp (SeqAt.canLay_of_shaped z.2), z.1, z.2, q _ _ _ (.refl e hl) (.bl _)⟩
    · cases hg
  · cases hg
def flatD : D → Option V
  | .none => some .non
  | .bool b => some (.bl b)
  | .int i => some (.int i)
  | .str x => if x.length ≤ 1000 then some (.str x) else none
  | _ => none
theorem flatD_V {H : Hp} {x v : V} {d : D} (r : Rp K H x d) (h : flatD d = some v) : x = v := by
  cases r <;> simp only [flatD] at h <;> first | (cases h; rfl) | (split at h <;> cases h; rfl) | cases h
def flatAll : List D → Option (List V)
  | [] => some []
  | d :: ds => match flatD d, flatAll ds with
    | some v, some vs => some (v :: vs)
    | _, _ => none
theorem flatAll_V {H : Hp} : ∀ {ds : List D} {xs vs : List V}, RpAll K H xs ds → flatAll ds = some vs → xs = vs
  | [], _, _, r, h => by cases r; cases h; rfl
  | d :: ds, _, vs, .cons r t, h => by
    unfold flatAll at h
    split at h
    · rename_i v ws h1 h2
      cases h
      rw [flatD_V r h1, flatAll_V t h2]
    · cases h
def gInT (neg : Bool) : D → D → Option D
  | a, .tuple ds => match flatD a, flatAll ds with
    | some x, some xs => if flatV x = true ∧ xs.all flatV = true then some (.bool (if neg then !inV x xs else inV x xs)) else none
    | _, _ => none
  | _, _ => none
theorem os_inT {neg : Bool} : OpS K (rIn K neg) (gInT neg) := fun L l H P x y dx dy d e hl rx ry hg Q q => by
  unfold gInT at hg
  split at hg
  · split at hg
    · split at hg
      · rename_i ds _ _ v vs h1 h2 z
        cases hg
        obtain ⟨a, xs, rfl, s1, r1⟩ := ry.isTup
        have e1 := flatD_V rx h1
        have e2 := flatAll_V r1 h2
        subst e1 e2
        exact ⟨a, xs, rfl, .inr (e.t s1), z.1, z.2, q _ _ _ (.refl e hl) (.bl _)⟩
      · cases hg
    · cases hg
  · cases hg
def gIn : D → D → Option D := fun a b => match gInL a b with
  | some d => some d
  | none => gInT false a b
def gNotIn : D → D → Option D := fun a b => match gNotInL a b with
  | some d => some d
  | none => gInT true a b
abbrev rInA (K : PySem.W.Frag) : R2 := fun x y H Q => rInD K x y H Q ∨ rIn K false x y H Q
abbrev rNotInA (K : PySem.W.Frag) : R2 := fun x y H Q => rNotInD K x y H Q ∨ rIn K true x y H Q
theorem os_in : OpS K (rInA K) gIn := os_inL.or os_inT
theorem os_notIn : OpS K (rNotInA K) gNotIn := os_notInL.or os_inT
/-! places -/
def gIx : D → D → Option D
  | .tuple xs, .int i => atI xs i
  | .list xs, .int i => atI xs i
  | _, _ => none
theorem atI_rp {H : Hp} {xs : List V} {ds : List D} {i : Int} {d : D} (r : RpAll K H xs ds) (h : atI ds i = some d) : ∃ v, atI xs i = some v ∧ Rp K H v d := by
  unfold atI at h ⊢
  rw [r.length]
  cases e : ixN ds.length i with
  | none => rw [e] at h; cases h
  | some j =>
    rw [e] at h
    exact r.get (show ds[j]? = some d from h)
theorem os_ix : OpS K (rIx K) gIx := fun L l H P x y dx dy d e hl rx ry hg Q q => by
  unfold gIx at hg
  split at hg
  · obtain ⟨p, xs, rfl, s1, r1⟩ := rx.isTup
    obtain ⟨v, h1, h2⟩ := atI_rp r1 hg
    exact Or.inr (Or.inl ⟨p, xs, _, v, rfl, ry.isInt, e.t s1, h1, q _ _ _ (.refl e hl) h2⟩)
  · obtain ⟨p, xs, rfl, s1, r1⟩ := rx.isLst
    obtain ⟨v, h1, h2⟩ := atI_rp r1 hg
    exact Or.inl ⟨p, xs, _, v, rfl, ry.isInt, SqL.of (e _ _ s1), h1, q _ _ _ (.refl e hl) h2⟩
  · cases hg
/-! slices -/
abbrev DO := En → Ld → Res (Option Int)
def SndO (K : PySem.W.Frag) (to : TO) (dO : DO) : Prop := ∀ (L : Option Addr) (σ : L2.St) (H P M : Hp) (en : En) (l : Ld), Rep K L σ H P M en l → ∀ o l', dO en l = .ok o l' → ∀ Q : Option Int → Hp → Prop, (∀ H' P', Grow L l' H P H' P' → Q o H') → to σ H Q
def dONone : DO := fun _ l => .ok none l
def dOSome (a : DE) : DO := fun en l => (a en l).bind fun x l1 => match x with
  | .int i => .ok (some i) l1
  | _ => .no
def cutD (xs : List D) (lo hi : Option Int) : List D := (xs.drop (HT.sIx xs.length 0 lo)).take (HT.sIx xs.length xs.length hi - HT.sIx xs.length 0 lo)
def gSl : D → Option Int → Option Int → Option D
  | .tuple xs, lo, hi => some (.tuple (cutD xs lo hi))
  | .list xs, lo, hi => some (.list (cutD xs lo hi))
  | _, _, _ => none
def dSl (a : DE) (lo hi : DO) : DE := fun en l => (a en l).bind fun x l1 => (lo en l1).bind fun u l2 => (hi en l2).bind fun v l3 => match gSl x u v with
  | some z => .ok z l3
  | none => .no
theorem cut_rp {H : Hp} {xs : List V} {ds : List D} {lo hi : Option Int} (r : RpAll K H xs ds) : RpAll K H (cutV xs lo hi) (cutD ds lo hi) := by
  unfold cutV cutD
  rw [r.length]
  exact (r.drop _).take _
abbrev rSlA2 (K : PySem.W.Frag) : V → Option Int → Option Int → Hp → VK → Prop := fun x lo hi H Q => rSlA K x lo hi H Q ∨ rSlL K x lo hi H Q
theorem ss_sl (L : Option Addr) (l : Ld) (H P : Hp) (x : V) (lo hi : Option Int) (dx d : D) (e : Ex P H) (hl : LodeAt L l H) (rx : Rp K P x dx) (hg : gSl dx lo hi = some d) (Q : VK) (q : ∀ v H' P', Grow L l H P H' P' → Rp K P' v d → Q v H') : rSlA2 K x lo hi H Q := by
  unfold gSl at hg
  split at hg
  · cases hg
    obtain ⟨p, xs, rfl, s1, r1⟩ := rx.isTup
    refine Or.inl ⟨p, xs, rfl, e.t s1, fun z => ?_, fun _ p' hp => ?_⟩
    · have c : cutV xs lo hi = xs := by
        unfold cutV
        rw [z.1, z.2]
        simp
      have h2 := cut_rp (lo := lo) (hi := hi) r1
      rw [c] at h2
      exact q _ _ _ (.refl e hl) (.tup s1 h2)
    · have G := Grow.laid (o := .tup (cutV xs lo hi)) e hl hp
      exact q _ _ _ G (.tup (.inl (.inl upd_same)) ((cut_rp r1).mono G.pp))
  · cases hg
    obtain ⟨p, xs, rfl, s1, r1⟩ := rx.isLst
    refine Or.inr ⟨p, xs, rfl, SqL.of (e _ _ s1), fun p' hp => ?_⟩
    have G := Grow.laid (o := .lst (cutV xs lo hi)) e hl hp
    exact q _ _ _ G (.lst upd_same ((cut_rp r1).mono G.pp))
  · cases hg
end
def PDO (X : Cx) (e : Option Expr) (dO : DO) : Prop := ∃ to, PO X e to ∧ SndO X.K to dO
section
variable {X : Cx} {e a b c : Expr} {es : List Expr} {de da db : DE} {dt du : DT} {ds : DA} {pos p p2 : Pos} {x : Str} {id T : String}
theorem op_eqA (hu : X.A.units + 64 < cLine) : OpR X (compareOp .Eq) (rEqA X.K) := op_eq.or (op_eqD hu)
theorem op_neA (hu : X.A.units + 64 < cLine) : OpR X (compareOp .NotEq) (rNeA X.K) := op_ne.or (op_neD hu)
theorem op_inA (hu : X.A.units + 65 < cLine) : OpR X (compareOp .In) (rInA X.K) := (op_inD hu).or op_in_seq
theorem op_notInA (hu : X.A.units + 65 < cLine) : OpR X (compareOp .NotIn) (rNotInA X.K) := (op_notInD hu).or op_notIn_seq
theorem pdo_none : PDO X none dONone := ⟨_, po_none, fun L σ H P M en l R o l' h Q q => by cases h; exact q _ _ R.refl⟩
theorem pdo_some (h : PD X e de) : PDO X (some e) (dOSome de) := by
  obtain ⟨te, a1, a2⟩ := h
  refine ⟨_, po_some a1, fun L σ H P M en l R o l' h Q q => ?_⟩
  obtain ⟨y, l1, h1, h⟩ := Res.bind_ok h
  refine a2 L σ H P M en l R y l1 h1 _ fun v H1 P1 G1 r1 => ?_
  cases r1 with
  | int i => cases h; exact ⟨i, rfl, q _ _ G1⟩
  | _ => cases h
theorem pd_sl {lo hi : Option Expr} {d1 d2 : DO} (he : PD X e de) (hl : PDO X lo d1) (hh : PDO X hi d2) : PD X (.Subscript e (.Slice lo hi none p2) pos) (dSl de d1 d2) := by
  obtain ⟨te, a1, a2⟩ := he
  obtain ⟨tl, b1, b2⟩ := hl
  obtain ⟨th, c1, c2⟩ := hh
  refine ⟨_, pe_slice (sl_tupA.or sl_list) a1 b1 c1, fun L σ H P M en l R d l' h Q q => ?_⟩
  obtain ⟨y, l1, h1, h⟩ := Res.bind_ok h
  obtain ⟨u, l2, h2, h⟩ := Res.bind_ok h
  obtain ⟨w, l3, h3, h⟩ := Res.bind_ok h
  split at h
  · rename_i z hz
    cases h
    refine a2 L σ H P M en l R y l1 h1 _ fun v H1 P1 G1 r1 => ?_
    have R1 := R.grow G1
    refine b2 L σ H1 P1 M en l1 R1 u l2 h2 _ fun H2 P2 G2 => ?_
    have R2 := R1.grow G2
    refine c2 L σ H2 P2 M en l2 R2 w _ h3 _ fun H3 P3 G3 => ?_
    have R3 := R2.grow G3
    exact ss_sl L _ H3 P3 v u w y d R3.pin R3.lod ((r1.mono G2.pp).mono G3.pp) hz Q fun v' H4 P4 G4 r4 => q v' H4 P4 (((G1.trans G2).trans G3).trans G4) r4
  · cases h
/-! built-in functions by values -/
def dCB (g : List D → Option D) (a : DA) : DE := fun en l => (a en l).bind fun xs l1 => match g xs with
  | some z => .ok z l1
  | none => .no
theorem snd_cb {K : PySem.W.Frag} {r : List V → Hp → VK → Prop} {g : List D → Option D} {ta : TA} (hr : CallS K r g) (ha : SndA K ta ds) : Snd K (tCB r ta) (dCB g ds) := fun L σ H P M en l R d l' h Q q => by
  obtain ⟨xs, l1, h1, h⟩ := Res.bind_ok h
  split at h
  · rename_i z hz
    cases h
    refine ha L σ H P M en l R xs _ h1 _ fun vs H1 P1 G1 r1 => ?_
    have R1 := R.grow G1
    exact hr L _ H1 P1 vs xs d R1.pin R1.lod r1 hz Q fun w H3 P3 G3 r3 => q w H3 P3 (G1.trans G3) r3
  · cases h
theorem pd_callB {r : List V → Hp → VK → Prop} {g : List D → Option D} (hc : CallR X (.builtin id) r) (hs : CallS X.K r g) (hg : Gl X x) (hm : X.mg x = none) (hv : bootBuiltins x = some (.builtin id)) (ha : PDA X (e :: es) ds) (h1 : x ≠ "__name__" := by decide) (h2 : (x == ("__debug__" : Str)) = false := by decide)
    (h3 : starEach (e :: es) X.env = (false, eval e X.env) :: starEach es X.env := by rfl) (h4 : (backTo pos (starEach es X.env)).any (·.1) = false := by rfl) : PD X (.Call (.Name x p) (e :: es) [] pos) (dCB g ds) := by
  obtain ⟨ta, a1, a2⟩ := ha
  exact ⟨_, pe_callB hc hg hm hv a1 h1 h2 h3 h4, snd_cb hs a2⟩
theorem pd_callTy {r : List V → Hp → VK → Prop} {g : List D → Option D} (hc : CallR X (.type T) r) (hs : CallS X.K r g) (hg : Gl X x) (hm : X.mg x = none) (hv : bootBuiltins x = some (.type T)) (ha : PDA X (e :: es) ds) (h1 : x ≠ "__name__" := by decide) (h2 : (x == ("__debug__" : Str)) = false := by decide)
    (h3 : starEach (e :: es) X.env = (false, eval e X.env) :: starEach es X.env := by rfl) (h4 : (backTo pos (starEach es X.env)).any (·.1) = false := by rfl) : PD X (.Call (.Name x p) (e :: es) [] pos) (dCB g ds) := by
  obtain ⟨ta, a1, a2⟩ := ha
  exact ⟨_, pe_callTy hc hg hm hv a1 h1 h2 h3 h4, snd_cb hs a2⟩
theorem pd_callM {r : List V → Hp → VK → Prop} {g : List D → Option D} (hc : CallR X (.builtin id) r) (hs : CallS X.K r g) (hg : Gl X x) (hm : X.mg x = some (.builtin id)) (ha : PDA X (e :: es) ds) (h2 : (x == ("__debug__" : Str)) = false := by decide)
    (h3 : starEach (e :: es) X.env = (false, eval e X.env) :: starEach es X.env := by rfl) (h4 : (backTo pos (starEach es X.env)).any (·.1) = false := by rfl) : PD X (.Call (.Name x p) (e :: es) [] pos) (dCB g ds) := by
  obtain ⟨ta, a1, a2⟩ := ha
  exact ⟨_, pe_callBfun hc hg hm a1 h2 h3 h4, snd_cb hs a2⟩
end
section
variable {K : PySem.W.Frag}
def gLen : List D → Option D
  | [.tuple xs] => some (.int xs.length)
  | [.list xs] => some (.int xs.length)
  | _ => none
theorem cs_len : CallS K (fun xs H Q => ∃ x n, xs = [x] ∧ LenV K x H n ∧ Q (.int n) H) gLen := fun L l H P xs ds d e hl r hg Q q => by
  unfold gLen at hg
  split at hg
  · cases hg
    cases r with
    | cons r1 rr =>
      cases rr
      obtain ⟨p, xs, rfl, s1, r1⟩ := r1.isTup
      exact ⟨_, _, rfl, .inr ⟨xs, e.t s1, r1.length.symm⟩, q _ _ _ (.refl e hl) (.int _)⟩
  · cases hg
    cases r with
    | cons r1 rr =>
      cases rr
      obtain ⟨p, xs, rfl, s1, r1⟩ := r1.isLst
      exact ⟨_, _, rfl, .inl ⟨xs, SqL.of (e _ _ s1), r1.length.symm⟩, q _ _ _ (.refl e hl) (.int _)⟩
  · cases hg
def g1I (g : Int → Int) : List D → Option D
  | [.int i] => some (.int (g i))
  | _ => none
def g2L (g : Int → Int → Int) : List D → Option D
  | [.int i, .int j] => some (.int (g i j))
  | _ => none
theorem cs_1I {g : Int → Int} : CallS K (fun xs H Q => ∃ i, xs = [.int i] ∧ Q (.int (g i)) H) (g1I g) := fun L l H P xs ds d e hl r hg Q q => by
  unfold g1I at hg
  split at hg
  · cases hg
    cases r with
    | cons r1 rr => cases rr; rw [r1.isInt]; exact ⟨_, rfl, q _ _ _ (.refl e hl) (.int _)⟩
  · cases hg
theorem cs_2L {g : Int → Int → Int} : CallS K (fun xs H Q => ∃ i j, xs = [.int i, .int j] ∧ Q (.int (g i j)) H) (g2L g) := fun L l H P xs ds d e hl r hg Q q => by
  unfold g2L at hg
  split at hg
  · cases hg
    cases r with
    | cons r1 rr =>
      cases rr with
      | cons r2 rr => cases rr; rw [r1.isInt, r2.isInt]; exact ⟨_, _, rfl, q _ _ _ (.refl e hl) (.int _)⟩
  · cases hg
def gAbs : List D → Option D := g1I fun i => if i < 0 then -i else i
theorem cs_abs : CallS K (fun xs H Q => ∃ i, xs = [.int i] ∧ Q (.int (if i < 0 then -i else i)) H) gAbs := cs_1I
def gMin : List D → Option D := g2L fun i j => if j < i then j else i
def gMax : List D → Option D := g2L fun i j => if j > i then j else i
theorem cs_min : CallS K (fun xs H Q => ∃ i j, xs = [.int i, .int j] ∧ Q (.int (if j < i then j else i)) H) gMin := cs_2L
theorem cs_max : CallS K (fun xs H Q => ∃ i j, xs = [.int i, .int j] ∧ Q (.int (if j > i then j else i)) H) gMax := cs_2L
def gGcd : List D → Option D := g2L fun i j => ((Nat.gcd i.natAbs j.natAbs : Nat) : Int)
theorem cs_gcd : CallS K rGcd gGcd := cs_2L
def gInt : List D → Option D
  | [.int i] => some (.int i)
  | [.bool b] => some (.int (if b then 1 else 0))
  | _ => none
theorem cs_int : CallS K (fun xs H Q => (∃ i, xs = [.int i] ∧ Q (.int i) H) ∨ ∃ k, xs = [.bl k] ∧ Q (.int (if k then 1 else 0)) H) gInt := fun L l H P xs ds d e hl r hg Q q => by
  unfold gInt at hg
  split at hg
  · cases hg
    cases r with
    | cons r1 rr => cases rr; rw [r1.isInt]; exact Or.inl ⟨_, rfl, q _ _ _ (.refl e hl) (.int _)⟩
  · cases hg
    cases r with
    | cons r1 rr => cases rr; rw [r1.isBl]; exact Or.inr ⟨_, rfl, q _ _ _ (.refl e hl) (.int _)⟩
  · cases hg
def intsD : List D → Option (List Int)
  | [] => some []
  | .int i :: ds => (intsD ds).map (i :: ·)
  | _ => none
theorem intsD_map : ∀ {ds : List D} {ns : List Int}, intsD ds = some ns → ds = ns.map PyData.int
  | [], _, h => by cases h; rfl
  | .int i :: ds, ns, h => by
    unfold intsD at h
    cases e : intsD ds with
    | none => rw [e] at h; cases h
    | some ms => rw [e] at h; cases h; rw [intsD_map e]; rfl
  | .none :: _, _, h => by cases h
  | .bool _ :: _, _, h => by cases h
  | .str _ :: _, _, h => by cases h
  | .list _ :: _, _, h => by cases h
  | .tuple _ :: _, _, h => by cases h
  | .dict _ :: _, _, h => by cases h
def blsD : List D → Option (List Bool)
  | [] => some []
  | .bool i :: ds => (blsD ds).map (i :: ·)
  | _ => none
theorem blsD_map : ∀ {ds : List D} {ns : List Bool}, blsD ds = some ns → ds = ns.map PyData.bool
  | [], _, h => by cases h; rfl
  | .bool i :: ds, ns, h => by
    unfold blsD at h
    cases e : blsD ds with
    | none => rw [e] at h; cases h
    | some ms => rw [e] at h; cases h; rw [blsD_map e]; rfl
  | .none :: _, _, h => by cases h
  | .int _ :: _, _, h => by cases h
  | .str _ :: _, _, h => by cases h
  | .list _ :: _, _, h => by cases h
  | .tuple _ :: _, _, h => by cases h
  | .dict _ :: _, _, h => by cases h
def gAll : List D → Option D
  | [.list xs] => (blsD xs).map fun bs => .bool (bs.all id)
  | _ => none
def gAny : List D → Option D
  | [.list xs] => (blsD xs).map fun bs => .bool (bs.any id)
  | _ => none
theorem cs_all : CallS K (rAll K) gAll := fun L l H P xs ds d e hl r hg Q q => by
  unfold gAll at hg
  split at hg
  · rename_i ys
    cases h : blsD ys with
    | none => rw [h] at hg; cases hg
    | some bs =>
      rw [h] at hg
      cases hg
      cases r with
      | cons r1 rr =>
        cases rr
        obtain ⟨p, zs, rfl, s1, r2⟩ := r1.isLst
        rw [blsD_map h] at r2
        rw [bls_of r2] at s1
        exact ⟨p, bs, rfl, SqL.of (e _ _ s1), q _ _ _ (.refl e hl) (.bl _)⟩
  · cases hg
theorem cs_any : CallS K (rAny K) gAny := fun L l H P xs ds d e hl r hg Q q => by
  unfold gAny at hg
  split at hg
  · rename_i ys
    cases h : blsD ys with
    | none => rw [h] at hg; cases hg
    | some bs =>
      rw [h] at hg
      cases hg
      cases r with
      | cons r1 rr =>
        cases rr
        obtain ⟨p, zs, rfl, s1, r2⟩ := r1.isLst
        rw [blsD_map h] at r2
        rw [bls_of r2] at s1
        exact ⟨p, bs, rfl, SqL.of (e _ _ s1), q _ _ _ (.refl e hl) (.bl _)⟩
  · cases hg
/-! tuple(x), list(x) -/
def gTuple : List D → Option D
  | [.list xs] => some (.tuple xs)
  | [.tuple xs] => some (.tuple xs)
  | _ => none
def gList : List D → Option D
  | [.list xs] => some (.list xs)
  | [.tuple xs] => some (.list xs)
  | _ => none
def rTupC (K : PySem.W.Frag) : List V → Hp → VK → Prop := fun vs H Q => ∃ x, vs = [x] ∧ kTup K x H Q
theorem cs_tuple : CallS K (rTupC K) gTuple := fun L l H P xs ds d e hl r hg Q q => by
  unfold gTuple at hg
  split at hg
  · cases hg
    cases r with
    | cons r1 rr =>
      cases rr
      obtain ⟨p, zs, rfl, s1, r2⟩ := r1.isLst
      refine ⟨_, rfl, .inl ⟨p, zs, rfl, SqL.of (e _ _ s1), fun a ha => ?_⟩⟩
      have G := Grow.laid (o := .tup zs) e hl ha
      exact q _ _ _ G (.tup (.inl (.inl upd_same)) (r2.mono G.pp))
  · cases hg
    cases r with
    | cons r1 rr =>
      cases rr
      obtain ⟨p, zs, rfl, s1, r2⟩ := r1.isTup
      exact ⟨_, rfl, .inr ⟨p, zs, rfl, e.t s1, q _ _ _ (.refl e hl) (.tup s1 r2)⟩⟩
  · cases hg
theorem cs_list : CallS K (fun xs H Q => ∃ p ys, xs = [.ref p] ∧ (SqL K H p ys ∨ SqT K H p ys) ∧ ∀ l, H l = none → Q (.ref l) (upd H l (.lst ys))) gList := fun L l H P xs ds d e hl r hg Q q => by
  unfold gList at hg
  split at hg
  · cases hg
    cases r with
    | cons r1 rr =>
      cases rr
      obtain ⟨p, zs, rfl, s1, r2⟩ := r1.isLst
      refine ⟨p, zs, rfl, .inl (SqL.of (e _ _ s1)), fun a ha => ?_⟩
      have G := Grow.laid (o := .lst zs) e hl ha
      exact q _ _ _ G (.lst upd_same (r2.mono G.pp))
  · cases hg
    cases r with
    | cons r1 rr =>
      cases rr
      obtain ⟨p, zs, rfl, s1, r2⟩ := r1.isTup
      refine ⟨p, zs, rfl, .inr (e.t s1), fun a ha => ?_⟩
      have G := Grow.laid (o := .lst zs) e hl ha
      exact q _ _ _ G (.lst upd_same (r2.mono G.pp))
  · cases hg
/-! isqrt -/
def gIsqrt : List D → Option D
  | [.int i] => if 0 ≤ i ∧ i.toNat.log2 < 13000 then some (.int ((Float64.isqrt i.toNat : Nat) : Int)) else none
  | _ => none
def rIsqrt : List V → Hp → VK → Prop := fun vs H Q => ∃ i, vs = [.int i] ∧ 0 ≤ i ∧ i.toNat.log2 < 13000 ∧ Q (.int ((Float64.isqrt i.toNat : Nat) : Int)) H
theorem cs_isqrt : CallS K rIsqrt gIsqrt := fun L l H P xs ds d e hl r hg Q q => by
  unfold gIsqrt at hg
  split at hg
  · split at hg
    · rename_i z
      cases hg
      cases r with
      | cons r1 rr => cases rr; rw [r1.isInt]; exact ⟨_, rfl, z.1, z.2, q _ _ _ (.refl e hl) (.int _)⟩
    · cases hg
  · cases hg
/-! repr -/
def gRepr : List D → Option D
  | [d] => if d.canLay0 = true ∧ d.showable = true ∧ d.depth ≤ 60 ∧ d.shown.length ≤ 1000000 then some (.str d.shown) else none
  | _ => none
def rReprD (K : PySem.W.Frag) : List V → Hp → VK → Prop := fun vs H Q => ∃ x d, vs = [x] ∧ Dp K H x d ∧ d.canLay0 = true ∧ d.showable = true ∧ d.depth ≤ 60 ∧ d.shown.length ≤ 1000000 ∧ Q (.str d.shown) H
theorem cs_repr : CallS K (rReprD K) gRepr := fun L l H P xs ds d e hl r hg Q q => by
  unfold gRepr at hg
  split at hg
  · split at hg
    · rename_i z
      cases hg
      cases r with
      | cons r1 rr => cases rr; exact ⟨_, _, rfl, (r1.mono e).dp z.1, z.1, z.2.1, z.2.2.1, z.2.2.2, q _ _ _ (.refl e hl) (.str _)⟩
    · cases hg
  · cases hg
end
section
variable {X : Cx}
theorem cr_isqrt : CallR X (.builtin "math.isqrt") rIsqrt := by
  intro pins s σ H vs us Q I r h
  obtain ⟨i, rfl, h0, h1, q⟩ := h
  cases r with
  | cons r1 rr =>
    cases rr
    obtain ⟨t, rfl⟩ := r1
    exact call_function_meets PySem.W.MGF.kind_isqrt PySem.W.MGF.plain_isqrt PySem.W.MGF.entry_isqrt (PySem.W.MGF.args_isqrt _) (PySem.W.mg_run_isqrt i t (by omega) (by omega) (by omega)).meets ⟨.int _, H, I.tok _, ⟨_, rfl⟩, q⟩
theorem cr_tupC : CallR X (.type "tuple") (rTupC X.K) := by
  intro pins s σ H vs us Q I r h
  obtain ⟨x, rfl, h⟩ := h
  cases r with
  | cons r1 rr =>
    cases rr
    exact rl_tuple pins s σ H x _ Q I r1 h
theorem cr_repr (hg : X.A.guards = some []) (hu : X.A.units + 70 < cLine) : CallR X (.builtin "repr") (rReprD X.K) := by
  intro pins s σ H vs us Q I r h
  obtain ⟨x, d, rfl, hd, hc, hs, hdep, hz, q⟩ := h
  cases r with
  | cons r1 rr =>
    cases rr
    obtain ⟨as, rd⟩ := Dp.reads I d x _ hd r1
    have hz' : d.shown.length ≤ sizeLine := Nat.le_trans hz (by decide)
    have ok : ∀ h' u tk, (∀ b o, s.heap.get? b = some o → h'.get? b = some o) → EP X pins σ Q (.str d.shown u) { s with heap := h', toks := tk } := fun h' u tk k => ⟨.str d.shown, H, I.kept k, ⟨u, rfl⟩, q⟩
    cases rd with
    | none => exact PySem.P.repr_of_none (ok s.heap _ _ fun _ _ e => e)
    | bool b => exact PySem.P.repr_of_bool (by have z := ok s.heap s.toks (s.toks + 1) fun _ _ e => e; simp only [PyData.shown] at z; exact z)
    | int i t => exact PySem.P.repr_of_int (by simpa [PyData.showable] using hs) (by have z := ok s.heap s.toks (s.toks + 1) fun _ _ e => e; simp only [PyData.shown] at z; exact z)
    | str y t => exact PySem.P.repr_of_str (by have z := ok s.heap s.toks (s.toks + 1) fun _ _ e => e; simp only [PyData.shown] at z; exact z) (by simpa [PyData.shown] using hz')
    | list h1 h2 h3 h4 => exact repr_of_reads' (.list h1 h2 h3 h4) hs (PyData.noDict_hsm (PyData.hasDict_of_canLay _ hc)) hg (by omega) (fun _ _ e => e) ok hz'
    | tuple h1 h2 h3 h4 => exact repr_of_reads' (.tuple h1 h2 h3 h4) hs (PyData.noDict_hsm (PyData.hasDict_of_canLay _ hc)) hg (by omega) (fun _ _ e => e) ok hz'
    | dict h1 h2 h3 h4 h5 => exact nomatch hc
end
end Dx
end
section
set_option Elab.async false
set_option linter.all false
set_option maxRecDepth 100000
/-! Dx6: tests, truth values, isinstance, calls of the text's own defs. -/
namespace Dx
open PySem PySem.Spec PyProof.Rows L2
section
variable {X : Cx} {e a b c : Expr} {es rest : List Expr} {de da db : DE} {dt du : DT} {ds dk : DA} {pos p p2 : Pos} {x : Str}
theorem pdt_v (h : PD X e de) (he : ∀ whole, isTrue e X.env whole = (do let v ← whole; standAt e.pos; holding [v] (truthy v)) := by intro _; rfl) : PDT X e (dTest de) := pdt_ofVal h fun te z => pt_val z he
theorem snd_and {K : PySem.W.Frag} {t u : TT} (h1 : SndT K t dt) (h2 : SndT K u du) : SndT K (tAnd t u) (dAnd dt du) := fun L σ H P M en l R d l' h Q q => by
  obtain ⟨x, l1, e1, h⟩ := Res.bind_ok h
  refine h1 L σ H P M en l R x l1 e1 _ fun H1 P1 G1 => ?_
  cases x with
  | true => exact iteT (h2 L σ H1 P1 M en l1 (R.grow G1) d l' h Q fun H2 P2 G2 => q H2 P2 (G1.trans G2))
  | false => cases h; exact iteF (q H1 P1 G1)
theorem snd_or {K : PySem.W.Frag} {t u : TT} (h1 : SndT K t dt) (h2 : SndT K u du) : SndT K (tOr t u) (dOr dt du) := fun L σ H P M en l R d l' h Q q => by
  obtain ⟨x, l1, e1, h⟩ := Res.bind_ok h
  refine h1 L σ H P M en l R x l1 e1 _ fun H1 P1 G1 => ?_
  cases x with
  | true => cases h; exact iteT (q H1 P1 G1)
  | false => exact iteF (h2 L σ H1 P1 M en l1 (R.grow G1) d l' h Q fun H2 P2 G2 => q H2 P2 (G1.trans G2))
theorem pdw_and1 (h : PDT X a dt) : PDW X (.BoolOp .And [a] pos) dt := by
  obtain ⟨t, h1, h2⟩ := h
  exact ⟨t, pw_and1 h1, h2⟩
theorem pdw_or1 (h : PDT X a dt) : PDW X (.BoolOp .Or [a] pos) dt := by
  obtain ⟨t, h1, h2⟩ := h
  exact ⟨t, pw_or1 h1, h2⟩
theorem pdw_and (h : PDT X a dt) (k : PDW X (.BoolOp .And (b :: rest) pos) du) : PDW X (.BoolOp .And (a :: b :: rest) pos) (dAnd dt du) := by
  obtain ⟨t, h1, h2⟩ := h
  obtain ⟨u, k1, k2⟩ := k
  exact ⟨_, pw_and h1 k1, snd_and h2 k2⟩
theorem pdw_or (h : PDT X a dt) (k : PDW X (.BoolOp .Or (b :: rest) pos) du) : PDW X (.BoolOp .Or (a :: b :: rest) pos) (dOr dt du) := by
  obtain ⟨t, h1, h2⟩ := h
  obtain ⟨u, k1, k2⟩ := k
  exact ⟨_, pw_or h1 k1, snd_or h2 k2⟩
theorem pdt_w (h : PDW X e dt) : PDT X e dt := by
  obtain ⟨t, h1, h2⟩ := h
  exact ⟨t, h1.pt, h2⟩
/-! the same as values -/
def dAndV (a b : DE) : DE := fun en l => (dTest a en l).bind fun c l1 => match c with
  | true => b en l1
  | false => .ok (.bool false) l1
def dOrV (a b : DE) : DE := fun en l => (dTest a en l).bind fun c l1 => match c with
  | true => .ok (.bool true) l1
  | false => b en l1
def dNotV (a : DE) : DE := fun en l => (dTest a en l).bind fun c l1 => .ok (.bool (!c)) l1
theorem test_ok {en : En} {l l1 : Ld} {c : Bool} (h : dTest da en l = .ok c l1) : da en l = .ok (.bool c) l1 := by
  obtain ⟨x, l2, e1, h⟩ := Res.bind_ok h
  split at h
  · cases h
    exact e1
  · cases h
theorem pd_bone {op : BoolOp} (h : PD X a da) : PD X (.BoolOp op [a] pos) da := by
  obtain ⟨t, h1, h2⟩ := h
  exact ⟨t, pe_one h1, h2⟩
theorem pd_and (h : PD X a da) (k : PD X (.BoolOp .And (b :: rest) pos) db) : PD X (.BoolOp .And (a :: b :: rest) pos) (dAndV da db) := by
  obtain ⟨t, h1, h2⟩ := h
  obtain ⟨u, k1, k2⟩ := k
  refine ⟨_, pe_and h1 k1, fun L σ H P M en l R d l' h Q q => ?_⟩
  obtain ⟨c, l1, e1, h⟩ := Res.bind_ok h
  refine h2 L σ H P M en l R _ l1 (test_ok e1) _ fun v H1 P1 G1 r1 => ⟨c, r1.isBl, ?_⟩
  cases c with
  | true => exact iteT (k2 L σ H1 P1 M en l1 (R.grow G1) d l' h Q fun w H2 P2 G2 r2 => q w H2 P2 (G1.trans G2) r2)
  | false => cases h; exact iteF (q _ H1 P1 G1 (.bl false))
theorem pd_or (h : PD X a da) (k : PD X (.BoolOp .Or (b :: rest) pos) db) : PD X (.BoolOp .Or (a :: b :: rest) pos) (dOrV da db) := by
  obtain ⟨t, h1, h2⟩ := h
  obtain ⟨u, k1, k2⟩ := k
  refine ⟨_, pe_or h1 k1, fun L σ H P M en l R d l' h Q q => ?_⟩
  obtain ⟨c, l1, e1, h⟩ := Res.bind_ok h
  refine h2 L σ H P M en l R _ l1 (test_ok e1) _ fun v H1 P1 G1 r1 => ⟨c, r1.isBl, ?_⟩
  cases c with
  | true => cases h; exact iteT (q _ H1 P1 G1 (.bl true))
  | false => exact iteF (k2 L σ H1 P1 M en l1 (R.grow G1) d l' h Q fun w H2 P2 G2 r2 => q w H2 P2 (G1.trans G2) r2)
theorem pd_not (h : PD X a da) : PD X (.UnaryOp .Not a pos) (dNotV da) := by
  obtain ⟨t, h1, h2⟩ := h
  refine ⟨_, pe_not h1, fun L σ H P M en l R d l' h Q q => ?_⟩
  obtain ⟨c, l1, e1, h⟩ := Res.bind_ok h
  cases h
  exact h2 L σ H P M en l R _ _ (test_ok e1) _ fun v H1 P1 G1 r1 => ⟨c, r1.isBl, q _ H1 P1 G1 (.bl _)⟩
theorem pd_ite (hc : PDT X c dt) (h : PD X a da) (k : PD X b db) : PD X (.IfExp c a b pos) (dIf dt da db) := by
  obtain ⟨t, h1, h2⟩ := hc
  obtain ⟨ta, a1, a2⟩ := h
  obtain ⟨tb, b1, b2⟩ := k
  refine ⟨_, pe_ifExp h1 a1 b1, fun L σ H P M en l R d l' h Q q => ?_⟩
  obtain ⟨c, l1, e1, h⟩ := Res.bind_ok h
  refine h2 L σ H P M en l R c l1 e1 _ fun H1 P1 G1 => ?_
  cases c with
  | true => exact iteT (a2 L σ H1 P1 M en l1 (R.grow G1) d l' h Q fun w H2 P2 G2 r2 => q w H2 P2 (G1.trans G2) r2)
  | false => exact iteF (b2 L σ H1 P1 M en l1 (R.grow G1) d l' h Q fun w H2 P2 G2 r2 => q w H2 P2 (G1.trans G2) r2)
/-! isinstance -/
def tyN : D → String
  | .none => "NoneType"
  | .bool _ => "bool"
  | .int _ => "int"
  | .str _ => "str"
  | .list _ => "list"
  | .tuple _ => "tuple"
  | .dict _ => "dict"
theorem tyX_of {K : PySem.W.Frag} {H : Hp} {v : V} {d : D} (r : Rp K H v d) : TyX K H v (.type (tyN d)) := by
  cases r with
  | non => exact .base .non
  | bl b => exact .base (.bl b)
  | int i => exact .base (.int i)
  | str y => exact .base (.str y)
  | lst h _ => exact .base (.lst h)
  | dic h _ => exact .base (.dK h)
  | tup h _ =>
    rcases h with (h | ⟨o, h⟩) | ⟨o, its, n, h1, h2, _⟩
    · exact .base (.tup h)
    · exact .fTuple h
    · exact .kTuple h1 h2
def dIsi (T : String) (a : DE) : DE := fun en l => (a en l).bind fun x l1 => match kitB (tyN x) T with
  | some b => .ok (.bool b) l1
  | none => .no
theorem pd_isi {T : Str} {TT : String} {px : Pos} (hg : Gl X "isinstance") (hm : X.mg "isinstance" = none) (hT : Gl X T) (hmT : X.mg T = none) (hv : bootBuiltins T = some (.type TT)) (h : PD X e de) (nT : T ≠ "__name__" := by decide) (dT : (T == ("__debug__" : Str)) = false := by decide)
    (hb : bootBuiltins "isinstance" = some (.builtin "isinstance") := by decide +kernel)
    (s1 : starEach [e, .Name T px] X.env = (false, eval e X.env) :: starEach [.Name T px] X.env := by rfl) (s2 : (backTo pos (starEach [.Name T px] X.env)).any (·.1) = false := by rfl) (s3 : starEach [.Name T px] X.env = (false, eval (.Name T px) X.env) :: starEach [] X.env := by rfl) :
    PD X (.Call (.Name "isinstance" p) [e, .Name T px] [] pos) (dIsi TT de) := by
  obtain ⟨te, h1, h2⟩ := h
  refine ⟨_, pe_callB call_isi hg hm hb (pa_cons h1 (pa_cons (pe_bltn (v := .ty TT) hT hmT hv rfl nT dT) pa_nil s3) s1) (by decide) (by decide) s1 s2, fun L σ H P M en l R d l' h Q q => ?_⟩
  obtain ⟨x, l1, e1, h⟩ := Res.bind_ok h
  split at h
  · rename_i bb hb
    cases h
    refine h2 L σ H P M en l R x _ e1 _ fun v H1 P1 G1 r1 => ?_
    exact ⟨v, .ty TT, .type (tyN x), .type TT, bb, rfl, .ty TT, tyX_of (r1.mono (R.grow G1).pin), kit_ty hb, q _ _ _ G1 (.bl bb)⟩
  · cases h
/-! ### calls -/
theorem Grow.weak {L : Option Addr} {l l0 : Ld} {H P H' P' : Hp} (G : Grow none l0 H P H' P') (h : LodeAt L l H) : Grow L l H P H' P' := ⟨fun a o _ => G.keep a o (fun z => nomatch z), fun a z => G.keep a _ (fun z => nomatch z) (h a z), G.pp, G.ph, G.new⟩
/-- a def without draws: F its value -/
def spD (K : PySem.W.Frag) (n : Nat) (F : List D → Option D) : Sp := fun vs H Q _ => ∃ (P : Hp) (ds : List D) (d : D), vs.length = n ∧ Ex P H ∧ RpAll K P vs ds ∧ F ds = some d ∧ ∀ v H' P', Grow none ⟨0, 0, 0⟩ H P H' P' → Rp K P' v d → Q v H'
/-- a def whose first argument is the store -/
def spL (K : PySem.W.Frag) (n : Nat) (F : List D → Ld → Res D) : Sp := fun vs H Q _ => ∃ (P : Hp) (vs' : List V) (ds : List D) (d : D) (a : Addr) (l l' : Ld), vs = .ref a :: vs' ∧ vs'.length = n ∧ Ex P H ∧ P a = none ∧ H a = some l.ho ∧ RpAll K P vs' ds ∧ F ds l = .ok d l' ∧ ∀ v H' P', Grow (some a) l' H P H' P' → Rp K P' v d → Q v H'
def dCall (n : Nat) (F : List D → Option D) (a : DA) : DE := fun en l => (a en l).bind fun xs l1 => if xs.length = n then (match F xs with
  | some z => .ok z l1
  | none => .no) else .no
theorem snd_call {K : PySem.W.Frag} {n : Nat} {F : List D → Option D} {ta : TA} {E : XK} (ha : SndA K ta ds) : Snd K (tCall (spD K n F) [] E ta) (dCall n F ds) := fun L σ H P M en l R d l' h Q q => by
  obtain ⟨xs, l1, h1, h⟩ := Res.bind_ok h
  split at h
  · split at h
    · rename_i hn _ z hz
      cases h
      refine ha L σ H P M en l R xs _ h1 _ fun vs H1 P1 G1 r1 => ?_
      have R1 := R.grow G1
      have e : vs ++ [] = vs := List.append_nil vs
      rw [e]
      exact ⟨P1, xs, d, r1.length.trans hn, R1.pin, r1, hz, fun v H2 P2 G2 r2 => q v H2 P2 (G1.trans (G2.weak R1.lod)) r2⟩
    · cases h
  · cases h
variable {k n : Nat} {f : Addr} {fd : FuncData} {ps ks : List Str} {F : List D → Option D} {FL : List D → Ld → Res D}
theorem pd_call (G : FnG X.prog X.w X.K X.mg X.base CX0 k f fd ps (spD X.K n F)) (hg : X.A.guards = some []) (hr : Room k X.A) (hl : Gl X x) (hm : X.mg x = some (.ref f)) (hk : PySem.W.keepIn X.K (.ref f) = true) (hb : Binds X.K fd ps []) (ha : PDA X (e :: es) ds)
    (h1 : (x == ("__debug__" : Str)) = false := by decide) (h2 : starEach (e :: es) X.env = (false, eval e X.env) :: starEach es X.env := by rfl) (h3 : (backTo pos (starEach es X.env)).any (·.1) = false := by rfl) : PD X (.Call (.Name x p) (e :: es) [] pos) (dCall n F ds) := by
  obtain ⟨ta, a1, a2⟩ := ha
  exact ⟨_, pe_callG G hg hr hl hm hk hb pass0 a1 h1 h2 h3, snd_call a2⟩
theorem pd_call0 (G : FnG X.prog X.w X.K X.mg X.base CX0 k f fd ps (spD X.K n F)) (hg : X.A.guards = some []) (hr : Room k X.A) (hl : Gl X x) (hm : X.mg x = some (.ref f)) (hk : PySem.W.keepIn X.K (.ref f) = true) (hb : Binds X.K fd ps [])
    (h1 : (x == ("__debug__" : Str)) = false := by decide) : PD X (.Call (.Name x p) [] [] pos) (dCall n F dNil) := by
  obtain ⟨ta, a1, a2⟩ := (pda_nil : PDA X [] dNil)
  exact ⟨_, pe_callG0 G hg hr hl hm hk hb pass0 h1, snd_call (fun L σ H P M en l R d l' h Q q => by cases h; exact q _ _ _ R.refl .nil)⟩
/-- the store's name, then the rest -/
def dCallL (i n : Nat) (F : List D → Ld → Res D) (a : DA) : DE := fun en l => match en[i]? with
  | some (some .lode) => (a en l).bind fun xs l1 => if xs.length = n then F xs l1 else .no
  | _ => .no
theorem pd_callL {i : Nat} {y : Str} {px : Pos} (G : FnG X.prog X.w X.K X.mg X.base CX0 k f fd ps (spL X.K n FL)) (hg : X.A.guards = some []) (hr : Room k X.A) (hl : Gl X x) (hm : X.mg x = some (.ref f)) (hk : PySem.W.keepIn X.K (.ref f) = true) (hb : Binds X.K fd ps [])
    (hy : PE X (.Name y px) (tVar i)) (ha : PDA X es ds)
    (h1 : (x == ("__debug__" : Str)) = false := by decide) (h2 : starEach (.Name y px :: es) X.env = (false, eval (.Name y px) X.env) :: starEach es X.env := by rfl) (h3 : (backTo pos (starEach es X.env)).any (·.1) = false := by rfl) : PD X (.Call (.Name x p) (.Name y px :: es) [] pos) (dCallL i n FL ds) := by
  obtain ⟨ta, a1, a2⟩ := ha
  refine ⟨_, pe_callG G hg hr hl hm hk hb pass0 (pa_cons hy a1 h2) h1 h2 h3, fun L σ H P M en l R d l' h Q q => ?_⟩
  unfold dCallL at h
  split at h
  · rename_i hi
    obtain ⟨xs, l1, e1, h⟩ := Res.bind_ok h
    split at h
    · rename_i hn
      obtain ⟨a, rfl, hs⟩ := R.lo i hi
      refine ⟨.ref a, hs, a2 (some a) σ H P M en l R xs l1 e1 _ fun vs H1 P1 G1 r1 => ?_⟩
      have R1 := R.grow G1
      refine ⟨P1, vs, xs, d, a, l1, l', by simp, r1.length.trans hn, R1.pin, (R1.lop a rfl).1, R1.lod a rfl, r1, h, fun v H2 P2 G2 r2 => q v H2 P2 (G1.trans G2) r2⟩
    · cases h
  · cases h
/-! keywords -/
def PDK (X : Cx) (kws : List Keyword) (da : DA) : Prop := ∃ ta, PK X kws ta ∧ SndA X.K ta da
theorem pdk_nil : PDK X [] dNil := ⟨_, pk_nil, fun L σ H P M en l R d l' h Q q => by cases h; exact q _ _ _ R.refl .nil⟩
theorem pdk_cons {nm : Option Str} {kpos : Pos} {kws : List Keyword} (h : PD X e de) (k : PDK X kws ds) : PDK X (⟨nm, e, kpos⟩ :: kws) (dCons de ds) := by
  obtain ⟨ta, a1, a2⟩ := h
  obtain ⟨tb, b1, b2⟩ := k
  refine ⟨_, pk_cons a1 b1, fun L σ H P M en l R d l' h Q q => ?_⟩
  obtain ⟨x, l1, h1, h⟩ := Res.bind_ok h
  obtain ⟨xs, l2, h2, h⟩ := Res.bind_ok h
  cases h
  refine a2 L σ H P M en l R x l1 h1 _ fun v H1 P1 G1 r1 => ?_
  exact b2 L σ H1 P1 M en l1 (R.grow G1) xs _ h2 _ fun us H2 P2 G2 r2 => q _ H2 P2 (G1.trans G2) (.cons (r1.mono G2.pp) r2)
end
end Dx
end
section
set_option Elab.async false
set_option linter.all false
set_option maxRecDepth 100000
/-! Dx7: keyword calls; statements. -/
namespace Dx
open PySem PySem.Spec PyProof.Rows L2
section
variable {X : Cx} {CX : CXT} {e : Expr} {es : List Expr} {kws : List Keyword} {ds dk : DA} {pos p : Pos} {x : Str} {k n : Nat} {f : Addr} {fd : FuncData} {ps ks : List Str} {sp : Sp} {E : XK} {g : List Value → List Value → List Value} {gV : List V → List V → List V} {tk : TA}
/-- all by name: f(k = v, ..) -/
theorem pe_callG0K (G : FnG X.prog X.w X.K X.mg X.base CX k f fd ps sp) (hg : X.A.guards = some []) (hr : Room k X.A)
    (hl : Gl X x) (hm : X.mg x = some (.ref f)) (hk : PySem.W.keepIn X.K (.ref f) = true) (hb : KBinds X.K fd ps ks g gV) (hx : Passes CX X E) (hw : PK X kws tk)
    (h4 : (backToKw pos (keywordEach kws X.env)).all (·.1.isSome) = true := by rfl) (h5 : (backToKw pos (keywordEach kws X.env)).filterMap (·.1) = ks := by rfl)
    (h1 : (x == ("__debug__" : Str)) = false := by decide) (h3 : ((backTo pos (starEach [] X.env)).any (·.1) || (backToKw pos (keywordEach kws X.env)).any (·.1.isNone)) = false := by rfl) : PE X (.Call (.Name x p) [] kws pos) (tCallK sp gV E tNil tk) := by
  constructor
  intro pins s σ H Q I h
  refine wpAny_Call_Name_kw (ld_glob I hl hm ?_ h1)
  apply PySem.W.callWith_KW0 (h₀ := X.base) I.ok.mod.kin hk h4 _ h3
  refine thn (hw.run pos pins s σ H _ I h) ?_
  rintro ws s2 ⟨zs, H2, I2, rz, q2⟩
  rw [h5]
  have r2 := hb.rel .nil rz
  exact ⟨I2.kIn, runG G hg hr hx I2 (hb.to s2 [] ws I2.kIn (by rw [← r2.length]; exact G.size _ _ _ _ q2)) r2 q2⟩
/-- the keywords' values in the parameters' order: which place each parameter takes -/
def perm {α : Type} (js : List Nat) (xs : List α) : List α := js.filterMap fun j => xs[j]?
theorem perm_vals {vs : List V} {us : List Value} (r : Vals vs us) : ∀ js : List Nat, Vals (perm js vs) (perm js us)
  | [] => .nil
  | j :: js => by
    unfold perm
    rw [List.filterMap_cons, List.filterMap_cons]
    cases h : vs[j]? with
    | none =>
      rw [Vals.none_of r h]
      exact perm_vals r js
    | some v =>
      obtain ⟨u, h1, h2⟩ := Vals.get r h
      rw [h1]
      exact .cons h2 (perm_vals r js)
theorem perm_rp {K : PySem.W.Frag} {H : Hp} {vs : List V} {ds : List D} (r : RpAll K H vs ds) : ∀ js : List Nat, RpAll K H (perm js vs) (perm js ds)
  | [] => .nil
  | j :: js => by
    unfold perm
    rw [List.filterMap_cons, List.filterMap_cons]
    cases h : vs[j]? with
    | none =>
      have h2 : ds[j]? = none := by
        rw [List.getElem?_eq_none_iff] at h ⊢
        rw [← r.length]
        exact h
      rw [h2]
      exact perm_rp r js
    | some v =>
      obtain ⟨u, h1, h2⟩ := r.getV h
      rw [h1]
      exact .cons h2 (perm_rp r js)
/-- how keywords bind: js tells for each parameter the place of its keyword -/
def KwB (K : PySem.W.Frag) (fd : FuncData) (ps ks : List Str) (js : List Nat) : Prop := ∀ (s : Shared) (ws : List Value), K.In s.heap → ws.length = ks.length → BindsTo s fd ⟨[], ks.zip ws⟩ (ps.zip (perm js ws))
theorem perm_map {α β : Type} (f : α → β) (js : List Nat) (xs : List α) : perm js (xs.map f) = (perm js xs).map f := by
  unfold perm
  rw [List.map_filterMap]
  congr 1
  funext j
  rw [List.getElem?_map]
def dCallK (n m : Nat) (js : List Nat) (F : List D → Option D) (a : DA) : DE := fun en l => (a en l).bind fun xs l1 => if xs.length = m ∧ (perm js xs).length = n then (match F (perm js xs) with
  | some z => .ok z l1
  | none => .no) else .no
end
section
variable {X : Cx} {kws : List Keyword} {ds : DA} {pos p : Pos} {x : Str} {k n : Nat} {f : Addr} {fd : FuncData} {ps ks : List Str} {F : List D → Option D} {js : List Nat}
theorem pd_callK {m : Nat} (G : FnG X.prog X.w X.K X.mg X.base CX0 k f fd ps (spD X.K n F)) (hg : X.A.guards = some []) (hr : Room k X.A) (hl : Gl X x) (hm : X.mg x = some (.ref f)) (hk : PySem.W.keepIn X.K (.ref f) = true) (hb : KwB X.K fd ps ks js) (ha : PDK X kws ds)
    (h4 : (backToKw pos (keywordEach kws X.env)).all (·.1.isSome) = true := by rfl) (h5 : (backToKw pos (keywordEach kws X.env)).filterMap (·.1) = ks := by rfl)
    (h1 : (x == ("__debug__" : Str)) = false := by decide) (h3 : ((backTo pos (starEach [] X.env)).any (·.1) || (backToKw pos (keywordEach kws X.env)).any (·.1.isNone)) = false := by rfl) (hml : ks.length = m := by rfl) : PD X (.Call (.Name x p) [] kws pos) (dCallK n m js F ds) := by
  subst hml
  obtain ⟨tk, a1, a2⟩ := ha
  refine ⟨fun σ H Q => tk σ H fun zs H2 => zs.length = ks.length ∧ spD X.K n F (perm js zs) H2 Q E0, ⟨fun pins s σ H Q I h => ?_⟩, fun L σ H P M en l R d l' h Q q => ?_⟩
  · refine wpAny_Call_Name_kw (ld_glob I hl hm ?_ h1)
    apply PySem.W.callWith_KW0 (h₀ := X.base) I.ok.mod.kin hk h4 _ h3
    refine thn (a1.run pos pins s σ H _ I h) ?_
    rintro ws s2 ⟨zs, H2, I2, rz, hz, q2⟩
    rw [h5]
    exact ⟨I2.kIn, runG G hg hr pass0 I2 (hb s2 ws I2.kIn (by rw [← rz.length]; exact hz)) (perm_vals rz js) q2⟩
  · obtain ⟨xs, l1, e1, h⟩ := Res.bind_ok h
    split at h
    · split at h
      · rename_i hn _ z hz
        cases h
        refine a2 L σ H P M en l R xs _ e1 _ fun vs H1 P1 G1 r1 => ⟨r1.length.trans hn.1, ?_⟩
        have R1 := R.grow G1
        have r2 := perm_rp r1 js
        exact ⟨P1, perm js xs, d, r2.length.trans hn.2, R1.pin, r2, hz, fun v H2 P2 G2 r2 => q v H2 P2 (G1.trans (G2.weak R1.lod)) r2⟩
      · cases h
    · cases h
end

/-! ### statements -/
inductive SRes where
  | nx (en : En) (l : Ld)
  | rt (d : D) (l : Ld)
  | bk (en : En) (l : Ld)
  | ct (en : En) (l : Ld)
  | no
abbrev DS := En → Ld → SRes
structure Step (L : Option Addr) (l' : Ld) (H P M H' P' M' : Hp) : Prop where
  keep : ∀ a o, L ≠ some a → M a = none → H a = some o → H' a = some o
  lod : LodeAt L l' H'
  pp : Ex P P'
  ph : Ex P' H'
  new : ∀ a o, P' a = some o → P a = none → H a = none ∨ ∃ u, M a = some u
  newM : ∀ a o, M' a = some o → M a = none → H a = none
section
variable {K : PySem.W.Frag} {L : Option Addr} {σ : L2.St} {H P M H' P' M' H1 P1 M1 H2 P2 M2 : Hp} {en : En} {l l' l1 l2 : Ld}
theorem Grow.step (G : Grow L l' H P H' P') : Step L l' H P M H' P' M where
  keep := fun a o n _ h => G.keep a o n h
  lod := G.lod
  pp := G.pp
  ph := G.ph
  new := fun a o h n => .inl (G.new a o h n)
  newM := fun a o h n => by rw [n] at h; cases h
theorem Step.trans (a : Step L l1 H P M H1 P1 M1) (b : Step L l2 H1 P1 M1 H2 P2 M2) : Step L l2 H P M H2 P2 M2 := by
  have back : ∀ x, H1 x = none → H x = none ∨ ∃ u, M x = some u := fun x h1 => by
    cases h0 : H x with
    | none => exact .inl rfl
    | some u =>
      cases m0 : M x with
      | some w => exact .inr ⟨w, rfl⟩
      | none =>
        by_cases hl : L = some x
        · have q := a.lod x hl
          rw [h1] at q
          cases q
        · have q := a.keep x u hl m0 h0
          rw [h1] at q
          cases q
  have up : ∀ x u, M1 x = some u → H x = none ∨ ∃ u, M x = some u := fun x u h1 => by
    cases m0 : M x with
    | some w => exact .inr ⟨w, rfl⟩
    | none => exact .inl (a.newM x u h1 m0)
  refine ⟨fun x o n m h => ?_, b.lod, a.pp.trans b.pp, b.ph, fun x o h n => ?_, fun x o h m => ?_⟩
  · have h1 := a.keep x o n m h
    cases m1 : M1 x with
    | none => exact b.keep x o n m1 h1
    | some u =>
      have z := a.newM x u m1 m
      rw [h] at z
      cases z
  · cases p1 : P1 x with
    | some u => exact a.new x u p1 n
    | none =>
      rcases b.new x o h p1 with z | ⟨u, z⟩
      · exact back x z
      · exact up x u z
  · cases m1 : M1 x with
    | some u => exact a.newM x u m1 m
    | none =>
      have z := b.newM x o h m1
      rcases back x z with q | ⟨u, q⟩
      · exact q
      · rw [m] at q
        cases q
/-- what is wanted behind a statement, told by what it gives -/
def Then (K : PySem.W.Frag) (L : Option Addr) (H P M : Hp) (D : Ends) : SRes → Prop
  | .nx en' l' => ∀ σ' H' P' M', Step L l' H P M H' P' M' → Rep K L σ' H' P' M' en' l' → D.nx σ' H'
  | .rt d l' => ∀ v H' P' M', Step L l' H P M H' P' M' → Rp K P' v d → D.rt v H'
  | .bk en' l' => ∀ σ' H' P' M', Step L l' H P M H' P' M' → Rep K L σ' H' P' M' en' l' → D.bk σ' H'
  | .ct en' l' => ∀ σ' H' P' M', Step L l' H P M H' P' M' → Rep K L σ' H' P' M' en' l' → D.ct σ' H'
  | .no => False
theorem Then.step {D : Ends} (a : Step L l1 H P M H1 P1 M1) : ∀ {r : SRes}, Then K L H P M D r → Then K L H1 P1 M1 D r
  | .nx _ _, h => fun σ' H' P' M' b => h σ' H' P' M' (a.trans b)
  | .rt _ _, h => fun v H' P' M' b => h v H' P' M' (a.trans b)
  | .bk _ _, h => fun σ' H' P' M' b => h σ' H' P' M' (a.trans b)
  | .ct _ _, h => fun σ' H' P' M' b => h σ' H' P' M' (a.trans b)
  | .no, h => h
def SndS (K : PySem.W.Frag) (ts : TS) (ds : DS) : Prop := ∀ (L : Option Addr) (σ : L2.St) (H P M : Hp) (en : En) (l : Ld), Rep K L σ H P M en l → ∀ D : Ends, Then K L H P M D (ds en l) → ts D σ H
end
def PDS (X : Cx) (st : Stmt) (ds : DS) : Prop := ∃ ts, PS X st ts ∧ SndS X.K ts ds
def PDSs (X : Cx) (st : List Stmt) (ds : DS) : Prop := ∃ ts, PSs X st ts ∧ SndS X.K ts ds
def dNext : DS := fun en l => .nx en l
def dSeq (a b : DS) : DS := fun en l => match a en l with
  | .nx en' l' => b en' l'
  | r => r
def dSet (i : Nat) (a : DE) : DS := fun en l => match a en l with
  | .ok d l' => .nx (en.set i (some (.dat d))) l'
  | .no => .no
def dRet (a : DE) : DS := fun en l => match a en l with
  | .ok d l' => .rt d l'
  | .no => .no
def dDrop (a : DE) : DS := fun en l => match a en l with
  | .ok _ l' => .nx en l'
  | .no => .no
def dIfS (t : DT) (a b : DS) : DS := fun en l => match t en l with
  | .ok true l1 => a en l1
  | .ok false l1 => b en l1
  | .no => .no
def dBreak : DS := fun en l => .bk en l
def dCont : DS := fun en l => .ct en l
def dNever : DS := fun _ _ => .no
section
variable {K : PySem.W.Frag} {L : Option Addr} {σ : L2.St} {H P M H' P' M' : Hp} {en : En} {l l' : Ld}
theorem Rep.self (R : Rep K L σ H P M en l) : Step L l H P M H P M := R.refl.step
/-- a name gets a value -/
theorem Rep.put {i : Nat} {v : V} {d : D} (R : Rep K L σ H P M en l) (r : Rp K P v d) : Rep K L (σ.set i (some v)) H P M (en.set i (some (.dat d))) l where
  pin := R.pin
  min := R.min
  dis := R.dis
  lod := R.lod
  lop := R.lop
  dat := fun j d' h => by
    rw [List.getElem?_set] at h ⊢
    by_cases e : i = j
    · subst e
      rw [if_pos rfl] at h ⊢
      by_cases hl : i < en.length
      · rw [if_pos hl] at h
        rw [if_pos (by rw [R.len]; exact hl)]
        cases h
        exact ⟨v, rfl, r⟩
      · rw [if_neg hl] at h
        cases h
    · rw [if_neg e] at h ⊢
      exact R.dat j d' h
  own := fun j xs h => by
    rw [List.getElem?_set] at h
    by_cases e : i = j
    · subst e
      rw [if_pos rfl] at h
      split at h <;> cases h
    · rw [if_neg e] at h
      obtain ⟨p, vs, h1, h2, h3⟩ := R.own j xs h
      exact ⟨p, vs, by rw [List.getElem?_set, if_neg e]; exact h1, h2, h3⟩
  inj := fun j k xs ys p n h1 h2 h3 => by
    rw [List.getElem?_set] at h1 h2
    have ej : i ≠ j := fun e => by
      subst e
      rw [if_pos rfl] at h1
      split at h1 <;> cases h1
    have ek : i ≠ k := fun e => by
      subst e
      rw [if_pos rfl] at h2
      split at h2 <;> cases h2
    rw [if_neg ej] at h1
    rw [if_neg ek] at h2
    rw [List.getElem?_set, if_neg ej] at h3
    rw [List.getElem?_set, if_neg ek]
    exact R.inj j k xs ys p n h1 h2 h3
  lo := fun j h => by
    rw [List.getElem?_set] at h
    by_cases e : i = j
    · subst e
      rw [if_pos rfl] at h
      split at h <;> cases h
    · rw [if_neg e] at h
      obtain ⟨a, h1, h2⟩ := R.lo j h
      exact ⟨a, h1, by rw [List.getElem?_set, if_neg e]; exact h2⟩
  len := by rw [List.length_set, List.length_set]; exact R.len
end
section
variable {X : Cx} {st : Stmt} {rest a b : List Stmt} {du dw : DS} {c e : Expr} {de : DE} {dt : DT} {pos : Pos}
theorem pds_nil : PDSs X [] dNext := ⟨_, pss_nil, fun L σ H P M en l R D h => h σ H P M R.self R⟩
theorem pds_cons (h : PDS X st du) (k : PDSs X rest dw) : PDSs X (st :: rest) (dSeq du dw) := by
  obtain ⟨t, h1, h2⟩ := h
  obtain ⟨u, k1, k2⟩ := k
  refine ⟨_, pss_cons h1 k1, fun L σ H P M en l R D h => h2 L σ H P M en l R _ ?_⟩
  unfold dSeq at h
  split at h
  · rename_i en' l' e1
    rw [e1]
    intro σ' H' P' M' S R'
    exact k2 L σ' H' P' M' en' l' R' D (h.step S)
  · rename_i r hr
    cases e1 : du en l with
    | nx en' l' => exact (hr en' l' e1).elim
    | rt d l' => rw [e1] at h; exact h
    | bk en' l' => rw [e1] at h; exact h
    | ct en' l' => rw [e1] at h; exact h
    | no => rw [e1] at h; exact h
theorem pds_one (h : PDS X st du) : PDSs X [st] du := by
  obtain ⟨t, h1, h2⟩ := h
  exact ⟨t, pss_one h1, h2⟩
theorem pds_set {i : Nat} {x : Str} {p2 : Pos} (hN : X.N.Nodup) (h : PD X e de) (hi : X.N[i]? = some x := by rfl) (hx : Loc X.env.scope x := by first | exact Or.inl rfl | exact Or.inr rfl) (hs : swapsWith e (some (.Name x p2)) pos.line X.env = pure false := by rfl)
    (hf : X.fn x = true ∨ X.env.scope.names.lookup x = some .local := by first | exact Or.inl rfl | exact Or.inr rfl) : PDS X (.Assign [.Name x p2] e pos) (dSet i de) := by
  obtain ⟨t, h1, h2⟩ := h
  refine ⟨_, ps_set hN hi hx h1 hs hf, fun L σ H P M en l R D h => ?_⟩
  unfold dSet at h
  split at h
  · rename_i d l' e1
    exact h2 L σ H P M en l R d l' e1 _ fun v H1 P1 G1 r1 => h _ _ _ _ G1.step ((R.grow G1).put r1)
  · exact h.elim
theorem pds_ret (h : PD X e de) : PDS X (.Return (some e) pos) (dRet de) := by
  obtain ⟨t, h1, h2⟩ := h
  refine ⟨_, ps_ret h1, fun L σ H P M en l R D h => ?_⟩
  unfold dRet at h
  split at h
  · rename_i d l' e1
    exact h2 L σ H P M en l R d l' e1 _ fun v H1 P1 G1 r1 => h v H1 P1 M G1.step r1
  · exact h.elim
theorem pds_if (hc : PDT X c dt) (h : PDSs X a du) (k : PDSs X b dw) : PDS X (.If c a b pos) (dIfS dt du dw) := by
  obtain ⟨t, h1, h2⟩ := hc
  obtain ⟨u, u1, u2⟩ := h
  obtain ⟨w, w1, w2⟩ := k
  refine ⟨_, ps_if h1 u1 w1, fun L σ H P M en l R D h => ?_⟩
  unfold dIfS at h
  split at h
  · rename_i l1 e1
    exact h2 L σ H P M en l R true l1 e1 _ fun H1 P1 G1 => iteT (u2 L σ H1 P1 M en l1 (R.grow G1) D (h.step G1.step))
  · rename_i l1 e1
    exact h2 L σ H P M en l R false l1 e1 _ fun H1 P1 G1 => iteF (w2 L σ H1 P1 M en l1 (R.grow G1) D (h.step G1.step))
  · exact h.elim
theorem pds_never : PDS X st dNever := ⟨_, ps_never, fun L σ H P M en l R D h => h.elim⟩
theorem pds_pass : PDS X (.Pass pos) dNext := ⟨_, ps_pass, fun L σ H P M en l R D h => h σ H P M R.self R⟩
theorem pds_break : PDS X (.Break pos) dBreak := ⟨_, ps_break, fun L σ H P M en l R D h => h σ H P M R.self R⟩
theorem pds_cont : PDS X (.Continue pos) dCont := ⟨_, ps_continue, fun L σ H P M en l R D h => h σ H P M R.self R⟩
theorem pds_drop (h : PD X e de) (hs : swapsWith e none pos.line X.env = pure false := by rfl) : PDS X (.Expr e pos) (dDrop de) := by
  obtain ⟨t, h1, h2⟩ := h
  refine ⟨_, ps_expr h1 hs, fun L σ H P M en l R D h => ?_⟩
  unfold dDrop at h
  split at h
  · rename_i d l' e1
    exact h2 L σ H P M en l R d l' e1 _ fun v H1 P1 G1 r1 => h _ _ _ _ G1.step (R.grow G1)
  · exact h.elim
end
end Dx
end
section
set_option Elab.async false
set_option linter.all false
set_option maxRecDepth 100000
/-! Dx8: targets, walks, loops, comprehensions. -/
namespace Dx
open PySem PySem.Spec PyProof.Rows L2

/-! ### targets: dg tells the names' content behind, is the places that are stored -/
abbrev DG := D → En → Option En
abbrev DGs := List D → En → Option En
def SndG (K : PySem.W.Frag) (g : TG) (dg : DG) (is : List Nat) : Prop := ∀ (L : Option Addr) (σ : L2.St) (H P M : Hp) (en : En) (l : Ld), Rep K L σ H P M en l → ∀ v d en', Rp K P v d → dg d en = some en' → ∀ Q : L2.St → Hp → Prop,
  (∀ σ', Rep K L σ' H P M en' l → (∀ vs, (∀ i ∈ is, i ∈ vs) → wipe σ' vs = wipe σ vs) → Q σ' H) → g v σ H Q
def SndGs (K : PySem.W.Frag) (g : TGs) (dg : DGs) (is : List Nat) : Prop := ∀ (L : Option Addr) (σ : L2.St) (H P M : Hp) (en : En) (l : Ld), Rep K L σ H P M en l → ∀ ws ds en', RpAll K P ws ds → dg ds en = some en' → ∀ Q : L2.St → Hp → Prop,
  (∀ σ', Rep K L σ' H P M en' l → (∀ vs, (∀ i ∈ is, i ∈ vs) → wipe σ' vs = wipe σ vs) → Q σ' H) → g ws σ H Q
def PDG (X : Cx) (tg : Expr) (dg : DG) (is : List Nat) : Prop := ∃ g, PG X tg g ∧ SndG X.K g dg is
def PDGs (X : Cx) (tgs : List Expr) (dg : DGs) (is : List Nat) : Prop := ∃ g, PGs X tgs g ∧ SndGs X.K g dg is
def dName (i : Nat) : DG := fun d en => some (en.set i (some (.dat d)))
def dGNil : DGs := fun ds en => match ds with
  | [] => some en
  | _ => none
def dGCons (g : DG) (gs : DGs) : DGs := fun ds en => match ds with
  | d :: r => match g d en with
    | some en1 => gs r en1
    | none => none
  | [] => none
def dGTup (n : Nat) (gs : DGs) : DG := fun d en => match d with
  | .tuple ds => if ds.length = n then gs ds en else none
  | _ => none
theorem wipe_set {σ : L2.St} {i : Nat} {o : Option V} : ∀ {vs : List Nat}, i ∈ vs → wipe (σ.set i o) vs = wipe σ vs
  | v :: vs, h => by
    unfold wipe
    by_cases e : i = v
    · subst e
      by_cases m : i ∈ vs
      · rw [wipe_set m]
      · have z : ∀ (ws : List Nat), i ∉ ws → wipe (σ.set i o) ws = (wipe σ ws).set i o := by
          intro ws
          induction ws with
          | nil => intro _; rfl
          | cons w ws ih =>
            intro hw
            simp only [List.mem_cons, not_or] at hw
            unfold wipe
            rw [ih hw.2, List.set_comm _ _ hw.1]
        rw [z vs m, List.set_set]
    · rw [wipe_set (by simpa [e] using h)]
section
variable {X : Cx} {e : Expr} {es : List Expr} {pos : Pos} {dg : DG} {dgs : DGs} {is js : List Nat}
theorem pdg_name {i : Nat} {x : Str} (hN : X.N.Nodup) (hi : X.N[i]? = some x := by rfl) (hx : Loc X.env.scope x := by first | exact Or.inl rfl | exact Or.inr rfl) (hf : X.fn x = true ∨ X.env.scope.names.lookup x = some .local := by first | exact Or.inl rfl | exact Or.inr rfl) :
    PDG X (.Name x pos) (dName i) [i] := ⟨_, pg_name hN hi hx hf, fun L σ H P M en l R v d en' r h Q q => by
  cases h
  exact q _ (R.put r) fun vs h => wipe_set (h i (List.mem_cons_self ..))⟩
theorem pdg_nil : PDGs X [] dGNil [] := ⟨_, pgs_nil, fun L σ H P M en l R ws ds en' r h Q q => by
  unfold dGNil at h
  split at h
  · cases h
    cases r
    exact ⟨rfl, q σ R fun _ _ => rfl⟩
  · cases h⟩
theorem pdg_cons (h : PDG X e dg is) (k : PDGs X es dgs js) (hs : (assignEach (e :: es) X.env).map (·.2) = assign e X.env :: (assignEach es X.env).map (·.2) := by rfl) : PDGs X (e :: es) (dGCons dg dgs) (is ++ js) := by
  obtain ⟨g, g1, g2⟩ := h
  obtain ⟨u, u1, u2⟩ := k
  refine ⟨_, pgs_cons g1 u1 hs, fun L σ H P M en l R ws ds en' r h Q q => ?_⟩
  unfold dGCons at h
  cases r with
  | nil => cases h
  | cons ra rb =>
    dsimp only at h
    split at h
    · rename_i en1 e1
      refine ⟨_, _, rfl, g2 L σ H P M en l R _ _ en1 ra e1 _ fun σ1 R1 w1 => ?_⟩
      exact u2 L σ1 H P M en1 l R1 _ _ en' rb h _ fun σ2 R2 w2 => q σ2 R2 fun vs hv => (w2 vs fun i hi => hv i (List.mem_append_right _ hi)).trans (w1 vs fun i hi => hv i (List.mem_append_left _ hi))
    · cases h
theorem pdg_tup {k n : Nat} (hc : X.calm = true) (h : PDGs X es dgs is) (hn : (assignEach es X.env).length = n := by rfl) (hst : (assignEach es X.env).findIdx? (·.1) = none := by rfl) : PDG X (.Tuple es k pos) (dGTup n dgs) is := by
  obtain ⟨g, g1, g2⟩ := h
  refine ⟨_, pg_tup hc g1 hn hst, fun L σ H P M en l R v d en' r h Q q => ?_⟩
  unfold dGTup at h
  split at h
  · split at h
    · rename_i ds hl
      obtain ⟨a, xs, rfl, s1, r1⟩ := r.isTup
      exact ⟨a, xs, rfl, R.pin.t s1, r1.length.trans hl, g2 L σ H P M en l R _ _ en' r1 h Q q⟩
    · cases h
  · cases h
/-- targets = e -/
def dAsg (g : DG) (a : DE) : DS := fun en l => match a en l with
  | .ok d l' => match g d en with
    | some en' => .nx en' l'
    | none => .no
  | .no => .no
theorem pds_asg {tg : Expr} {de : DE} (h : PD X e de) (k : PDG X tg dg is) (hs : swapsWithSole [tg] e pos.line X.env = pure false := by rfl) (hw : swappedStores [tg] e X.env = pure none := by rfl)
    (h1 : (assignEach [tg] X.env).map (·.2) = [assign tg X.env] := by rfl) : PDS X (.Assign [tg] e pos) (dAsg dg de) := by
  obtain ⟨t, a1, a2⟩ := h
  obtain ⟨g, g1, g2⟩ := k
  refine ⟨_, ps_asg a1 g1 hs hw h1, fun L σ H P M en l R D h => ?_⟩
  unfold dAsg at h
  split at h
  · rename_i d l' e1
    split at h
    · rename_i en' e2
      exact a2 L σ H P M en l R d l' e1 _ fun v H1 P1 G1 r1 => g2 L σ H1 P1 M en l' (R.grow G1) v d en' r1 e2 _ fun σ2 R2 _ => h _ _ _ _ G1.step R2
    · exact h.elim
  · exact h.elim
/-- a, b = x, y | a, b, c = x, y, z -/
def dPar (is : List Nat) (a : DA) : DS := fun en l => match a en l with
  | .ok ds l' => if ds.length = is.length then .nx ((is.zip ds).foldl (fun en p => en.set p.1 (some (.dat p.2))) en) l' else .no
  | .no => .no
theorem pds_par {i j : Nat} {x y : Str} {a b : Expr} {px py pt : Pos} {kt k2 pt2} {ds : DA} (hc : X.calm = true) (hN : X.N.Nodup) (h : PDA X [a, b] ds) (hi : X.N[i]? = some x := by rfl) (hj : X.N[j]? = some y := by rfl) (hij : i ≠ j := by decide)
    (hx : X.env.scope.names.lookup x = some .local := by rfl) (hy : X.env.scope.names.lookup y = some .local := by rfl) (hw : swappedStores [.Tuple [.Name x px, .Name y py] kt pt] (.Tuple [a, b] k2 pt2) X.env = pure (some [x, y]) := by rfl)
    (hs : swapsWithSole [.Tuple [.Name x px, .Name y py] kt pt] (.Tuple [a, b] k2 pt2) pos.line X.env = pure false := by rfl) : PDS X (.Assign [.Tuple [.Name x px, .Name y py] kt pt] (.Tuple [a, b] k2 pt2) pos) (dPar [i, j] ds) := by
  obtain ⟨t, a1, a2⟩ := h
  refine ⟨_, ps_par hc hN hi hj hij hx hy a1 hw hs, fun L σ H P M en l R D h => ?_⟩
  unfold dPar at h
  split at h
  · rename_i xs l' e1
    split at h
    · rename_i hl
      refine a2 L σ H P M en l R xs l' e1 _ fun vs H1 P1 G1 r1 => ?_
      match xs, vs, r1, hl with
      | [_, _], [v, w], .cons ra (.cons rb .nil), _ => exact ⟨v, w, rfl, h _ _ _ _ G1.step (((R.grow G1).put ra).put rb)⟩
    · exact h.elim
  · exact h.elim
theorem pds_par3 {i j k : Nat} {x y z : Str} {a b c : Expr} {px py pz pt : Pos} {kt k2 pt2} {ds : DA} (hc : X.calm = true) (hN : X.N.Nodup) (h : PDA X [a, b, c] ds) (hi : X.N[i]? = some x := by rfl) (hj : X.N[j]? = some y := by rfl) (hk : X.N[k]? = some z := by rfl) (hij : i ≠ j := by decide) (hik : i ≠ k := by decide) (hjk : j ≠ k := by decide)
    (hx : X.env.scope.names.lookup x = some .local := by rfl) (hy : X.env.scope.names.lookup y = some .local := by rfl) (hz : X.env.scope.names.lookup z = some .local := by rfl)
    (hw : swappedStores [.Tuple [.Name x px, .Name y py, .Name z pz] kt pt] (.Tuple [a, b, c] k2 pt2) X.env = pure (some [x, y, z]) := by rfl)
    (hs : swapsWithSole [.Tuple [.Name x px, .Name y py, .Name z pz] kt pt] (.Tuple [a, b, c] k2 pt2) pos.line X.env = pure false := by rfl) : PDS X (.Assign [.Tuple [.Name x px, .Name y py, .Name z pz] kt pt] (.Tuple [a, b, c] k2 pt2) pos) (dPar [i, j, k] ds) := by
  obtain ⟨t, a1, a2⟩ := h
  refine ⟨_, ps_par3 hc hN hi hj hk hij hik hjk hx hy hz a1 hw hs, fun L σ H P M en l R D h => ?_⟩
  unfold dPar at h
  split at h
  · rename_i xs l' e1
    split at h
    · rename_i hl
      refine a2 L σ H P M en l R xs l' e1 _ fun vs H1 P1 G1 r1 => ?_
      match xs, vs, r1, hl with
      | [_, _, _], [v, w, u], .cons ra (.cons rb (.cons rc .nil)), _ => exact ⟨v, w, u, rfl, h _ _ _ _ G1.step ((((R.grow G1).put ra).put rb).put rc)⟩
    · exact h.elim
  · exact h.elim
end

/-! ### what is walked -/
structure Walks (K : PySem.W.Frag) (J : It) (L : Option Addr) (items : List D) (P0 : Hp) : Prop where
  go : ∀ (i : Nat) (H P : Hp) (l : Ld), Ex P0 P → Ex P H → LodeAt L l H → i < items.length → J.go i H
  yld : ∀ (i : Nat) (x : V) (d : D) (H P H' : Hp) (l : Ld), Ex P0 P → Ex P H → LodeAt L l H → J.yld i H x H' → items[i]? = some d → ∃ P', Grow L l H P H' P' ∧ Rp K P' x d
  stop : ∀ (i : Nat) (H P : Hp), Ex P0 P → Ex P H → items.length ≤ i → J.stop i H
abbrev DI := En → Ld → Res (List D)
def SndI (K : PySem.W.Frag) (wi : TI) (di : DI) : Prop := ∀ (L : Option Addr) (σ : L2.St) (H P M : Hp) (en : En) (l : Ld), Rep K L σ H P M en l → ∀ xs l', di en l = .ok xs l' → ∀ R : It → Hp → Prop, (∀ J H' P', Grow L l' H P H' P' → Walks K J L xs P' → R J H') → wi σ H R
def PDI (X : Cx) (tg it : Expr) (di : DI) : Prop := ∃ wi, PI X tg it wi ∧ SndI X.K wi di
theorem pi_or {X : Cx} {tg it : Expr} {w1 w2 : TI} (h1 : PI X tg it w1) (h2 : PI X tg it w2) : PI X tg it (fun σ H R => w1 σ H R ∨ w2 σ H R) := ⟨fun pins s σ H R I h => by
  rcases h with h | h
  · exact h1.run pins s σ H R I h
  · exact h2.run pins s σ H R I h⟩
theorem walks_l {K : PySem.W.Frag} {L : Option Addr} {a : Addr} {vs : List V} {ds : List D} {P : Hp} (h : P a = some (.lst vs)) (r : RpAll K P vs ds) : Walks K (Itl K a) L ds P where
  go := fun i H P1 l e1 e2 _ hi => by
    obtain ⟨v, h1, _⟩ := r.get (i := i) (d := ds[i]) (by simp [hi])
    exact ⟨vs, v, SqL.of (e2 _ _ (e1 _ _ h)), h1⟩
  yld := fun i x d H P1 H' l e1 e2 hl y hd => by
    obtain ⟨rfl, y⟩ := y
    obtain ⟨v, h1, h2⟩ := r.get hd
    have z := y vs (SqL.of (e2 _ _ (e1 _ _ h)))
    rw [h1] at z
    cases z
    exact ⟨P1, .refl e2 hl, h2.mono e1⟩
  stop := fun i H P1 e1 e2 hi => ⟨vs, SqL.of (e2 _ _ (e1 _ _ h)), by rw [r.length]; exact hi⟩
theorem walks_t {K : PySem.W.Frag} {L : Option Addr} {a : Addr} {vs : List V} {ds : List D} {P : Hp} (h : SqT K P a vs) (r : RpAll K P vs ds) : Walks K (Itt K a) L ds P where
  go := fun i H P1 l e1 e2 _ hi => by
    obtain ⟨v, h1, _⟩ := r.get (i := i) (d := ds[i]) (by simp [hi])
    exact ⟨vs, v, e2.t (e1.t h), h1⟩
  yld := fun i x d H P1 H' l e1 e2 hl y hd => by
    obtain ⟨rfl, y⟩ := y
    obtain ⟨v, h1, h2⟩ := r.get hd
    have z := y vs (e2.t (e1.t h))
    rw [h1] at z
    cases z
    exact ⟨P1, .refl e2 hl, h2.mono e1⟩
  stop := fun i H P1 e1 e2 hi => ⟨vs, e2.t (e1.t h), by rw [r.length]; exact hi⟩
def rngD (lo : Int) (n : Nat) : List D := (List.range n).map fun i => .int (lo + (i : Nat))
theorem walks_r {K : PySem.W.Frag} {L : Option Addr} {lo : Int} {n : Nat} {P : Hp} : Walks K (Itr lo n) L (rngD lo n) P where
  go := fun i H P1 l e1 e2 _ hi => by
    simp only [rngD, List.length_map, List.length_range] at hi
    exact hi
  yld := fun i x d H P1 H' l e1 e2 hl y hd => by
    obtain ⟨rfl, rfl⟩ := y
    refine ⟨P1, .refl e2 hl, ?_⟩
    unfold rngD at hd
    rw [List.getElem?_map] at hd
    cases h : (List.range n)[i]? with
    | none => rw [h] at hd; cases hd
    | some j =>
      rw [h] at hd
      cases hd
      have z := List.getElem?_eq_some_iff.mp h
      obtain ⟨z1, z2⟩ := z
      rw [List.getElem_range] at z2
      subst z2
      exact .int _
  stop := fun i H P1 e1 e2 hi => by
    simp only [rngD, List.length_map, List.length_range] at hi
    exact hi
def zipD (xs ys : List D) : List D := (xs.zip ys).map fun p => .tuple [p.1, p.2]
theorem zipD_get {xs ys : List D} {i : Nat} {d : D} (h : (zipD xs ys)[i]? = some d) : ∃ x y, xs[i]? = some x ∧ ys[i]? = some y ∧ d = .tuple [x, y] := by
  unfold zipD at h
  rw [List.getElem?_map] at h
  cases e : (xs.zip ys)[i]? with
  | none => rw [e] at h; cases h
  | some p =>
    rw [e] at h
    cases h
    obtain ⟨a, b⟩ := p
    rw [List.getElem?_zip_eq_some] at e
    exact ⟨a, b, e.1, e.2, rfl⟩
theorem zipD_len (xs ys : List D) : (zipD xs ys).length = min xs.length ys.length := by simp [zipD]
theorem pair_new {K : PySem.W.Frag} {L : Option Addr} {l : Ld} {H P : Hp} {T : Addr} {x y : V} {dx dy : D} (e2 : Ex P H) (hl : LodeAt L l H) (hT : H T = none) (r1 : Rp K P x dx) (r2 : Rp K P y dy) :
    ∃ P', Grow L l H P (upd H T (.tup [x, y])) P' ∧ Rp K P' (.ref T) (.tuple [dx, dy]) := by
  have G := Grow.laid (o := .tup [x, y]) e2 hl hT
  exact ⟨_, G, .tup (.inl (.inl upd_same)) (.cons (r1.mono G.pp) (.cons (r2.mono G.pp) .nil))⟩
theorem walks_zl {K : PySem.W.Frag} {L : Option Addr} {a b : Addr} {vs ws : List V} {ds es : List D} {P : Hp} (h : P a = some (.lst vs)) (k : P b = some (.lst ws)) (r : RpAll K P vs ds) (s : RpAll K P ws es) : Walks K (Itz K a b) L (zipD ds es) P where
  go := fun i H P1 l e1 e2 _ hi => by
    rw [zipD_len] at hi
    obtain ⟨v, h1, _⟩ := r.get (i := i) (d := ds[i]'(by omega)) (by simp)
    obtain ⟨w, h2, _⟩ := s.get (i := i) (d := es[i]'(by omega)) (by simp)
    exact ⟨vs, ws, v, w, SqL.of (e2 _ _ (e1 _ _ h)), SqL.of (e2 _ _ (e1 _ _ k)), h1, h2⟩
  yld := fun i x d H P1 H' l e1 e2 hl y hd => by
    obtain ⟨T, v, w, rfl, hT, rfl, y1, y2⟩ := y
    obtain ⟨dx, dy, h1, h2, rfl⟩ := zipD_get hd
    obtain ⟨v', g1, g2⟩ := r.get h1
    obtain ⟨w', g3, g4⟩ := s.get h2
    have z1 := y1 vs (SqL.of (e2 _ _ (e1 _ _ h)))
    have z2 := y2 ws (SqL.of (e2 _ _ (e1 _ _ k)))
    rw [g1] at z1
    rw [g3] at z2
    cases z1
    cases z2
    exact pair_new e2 hl hT (g2.mono e1) (g4.mono e1)
  stop := fun i H P1 e1 e2 hi => by
    rw [zipD_len] at hi
    refine ⟨vs, ws, SqL.of (e2 _ _ (e1 _ _ h)), SqL.of (e2 _ _ (e1 _ _ k)), ?_⟩
    rw [r.length, s.length]
    omega
theorem walks_zt {K : PySem.W.Frag} {L : Option Addr} {a b : Addr} {vs ws : List V} {ds es : List D} {P : Hp} (h : SqT K P a vs) (k : SqT K P b ws) (r : RpAll K P vs ds) (s : RpAll K P ws es) : Walks K (RZ.ItzT K a b) L (zipD ds es) P where
  go := fun i H P1 l e1 e2 _ hi => by
    rw [zipD_len] at hi
    obtain ⟨v, h1, _⟩ := r.get (i := i) (d := ds[i]'(by omega)) (by simp)
    obtain ⟨w, h2, _⟩ := s.get (i := i) (d := es[i]'(by omega)) (by simp)
    exact ⟨vs, ws, v, w, e2.t (e1.t h), e2.t (e1.t k), h1, h2⟩
  yld := fun i x d H P1 H' l e1 e2 hl y hd => by
    obtain ⟨T, v, w, rfl, hT, rfl, y1, y2⟩ := y
    obtain ⟨dx, dy, h1, h2, rfl⟩ := zipD_get hd
    obtain ⟨v', g1, g2⟩ := r.get h1
    obtain ⟨w', g3, g4⟩ := s.get h2
    have z1 := y1 vs (e2.t (e1.t h))
    have z2 := y2 ws (e2.t (e1.t k))
    rw [g1] at z1
    rw [g3] at z2
    cases z1
    cases z2
    exact pair_new e2 hl hT (g2.mono e1) (g4.mono e1)
  stop := fun i H P1 e1 e2 hi => by
    rw [zipD_len] at hi
    refine ⟨vs, ws, e2.t (e1.t h), e2.t (e1.t k), ?_⟩
    rw [r.length, s.length]
    omega
def dIt (a : DE) : DI := fun en l => (a en l).bind fun d l1 => match d with
  | .tuple xs => .ok xs l1
  | .list xs => .ok xs l1
  | _ => .no
def dRng1 (a : DA) : DI := fun en l => (a en l).bind fun ds l1 => match ds with
  | [.int n] => if n ≤ 1000000 ∧ -1000000 ≤ n then .ok (rngD 0 n.toNat) l1 else .no
  | _ => .no
def dRng2 (a : DA) : DI := fun en l => (a en l).bind fun ds l1 => match ds with
  | [.int i, .int j] => if j ≤ 1000000 ∧ -1000000 ≤ j ∧ i ≤ 1000000 ∧ -1000000 ≤ i then .ok (rngD i (j - i).toNat) l1 else .no
  | _ => .no
def dZip (a : DA) : DI := fun en l => (a en l).bind fun ds l1 => match ds with
  | [.tuple xs, .tuple ys] => .ok (zipD xs ys) l1
  | [.list xs, .list ys] => .ok (zipD xs ys) l1
  | _ => .no
section
variable {X : Cx} {tg e e2 : Expr} {de : DE} {ds : DA} {p pos : Pos}
theorem pdi_seq (h : PD X e de) : PDI X tg e (dIt de) := by
  obtain ⟨t, h1, h2⟩ := h
  refine ⟨_, pi_or (pi_list h1) (pi_tup h1), fun L σ H P M en l R xs l' h Rr q => ?_⟩
  obtain ⟨d, l1, e1, h⟩ := Res.bind_ok h
  split at h
  · cases h
    refine Or.inr (h2 L σ H P M en l R _ _ e1 _ fun v H1 P1 G1 r1 => ?_)
    obtain ⟨a, vs, rfl, s1, r2⟩ := r1.isTup
    exact ⟨a, rfl, ⟨vs, G1.ph.t s1⟩, q _ _ _ G1 (walks_t s1 r2)⟩
  · cases h
    refine Or.inl (h2 L σ H P M en l R _ _ e1 _ fun v H1 P1 G1 r1 => ?_)
    obtain ⟨a, vs, rfl, s1, r2⟩ := r1.isLst
    exact ⟨a, rfl, ⟨vs, SqL.of (G1.ph _ _ s1)⟩, q _ _ _ G1 (walks_l s1 r2)⟩
  · cases h
theorem pdi_range1 {a : Expr} (hg : Gl X "range") (hm : X.mg "range" = none) (h : PDA X [a] ds) (hs : starEach [a] X.env = [(false, eval a X.env)] := by rfl) : PDI X tg (.Call (.Name "range" p) [a] [] pos) (dRng1 ds) := by
  obtain ⟨t, h1, h2⟩ := h
  refine ⟨_, pi_range1 hg hm h1 hs, fun L σ H P M en l R xs l' h Rr q => ?_⟩
  obtain ⟨d, l1, e1, h⟩ := Res.bind_ok h
  split at h
  · split at h
    · rename_i n hn
      cases h
      refine h2 L σ H P M en l R _ _ e1 _ fun vs H1 P1 G1 r1 => ?_
      cases r1 with
      | cons ra rb =>
        cases rb
        rw [ra.isInt]
        exact ⟨n, rfl, by omega, by omega, q _ _ _ G1 walks_r⟩
    · cases h
  · cases h
theorem pdi_range2 {a b : Expr} (hg : Gl X "range") (hm : X.mg "range" = none) (h : PDA X [a, b] ds) (hs : starEach [a, b] X.env = [(false, eval a X.env), (false, eval b X.env)] := by rfl) (hs2 : starEach [b] X.env = [(false, eval b X.env)] := by rfl) : PDI X tg (.Call (.Name "range" p) [a, b] [] pos) (dRng2 ds) := by
  obtain ⟨t, h1, h2⟩ := h
  refine ⟨_, pi_range2 hg hm h1 hs hs2, fun L σ H P M en l R xs l' h Rr q => ?_⟩
  obtain ⟨d, l1, e1, h⟩ := Res.bind_ok h
  split at h
  · split at h
    · rename_i i j hn
      cases h
      refine h2 L σ H P M en l R _ _ e1 _ fun vs H1 P1 G1 r1 => ?_
      cases r1 with
      | cons ra rb =>
        cases rb with
        | cons rb rc =>
          cases rc
          rw [ra.isInt, rb.isInt]
          exact ⟨i, j, rfl, ⟨by omega, by omega, by omega, by omega⟩, q _ _ _ G1 walks_r⟩
    · cases h
  · cases h
theorem pdi_zip {elts : List Expr} {kk : Nat} {tpos : Pos} (hg : Gl X "zip") (hm : X.mg "zip" = none) (h : PDA X [e, e2] ds) (hs : starEach [e, e2] X.env = (false, eval e X.env) :: starEach [e2] X.env := by rfl) (hpl : (backTo pos (starEach [e2] X.env)).any (·.1) = false := by rfl) :
    PDI X (.Tuple elts kk tpos) (.Call (.Name "zip" p) [e, e2] [] pos) (dZip ds) := by
  obtain ⟨t, h1, h2⟩ := h
  refine ⟨_, RZ.pi_zipA hg hm h1 hs hpl, fun L σ H P M en l R xs l' h Rr q => ?_⟩
  obtain ⟨d, l1, e1, h⟩ := Res.bind_ok h
  split at h
  · cases h
    refine h2 L σ H P M en l R _ _ e1 _ fun vs H1 P1 G1 r1 => ?_
    cases r1 with
    | cons ra rb =>
      cases rb with
      | cons rb rc =>
        cases rc
        obtain ⟨a, vs, rfl, s1, r2⟩ := ra.isTup
        obtain ⟨b, ws, rfl, s2, r3⟩ := rb.isTup
        exact ⟨a, b, vs, ws, rfl, .inr ⟨G1.ph.t s1, G1.ph.t s2, q _ _ _ G1 (walks_zt s1 s2 r2 r3)⟩⟩
  · cases h
    refine h2 L σ H P M en l R _ _ e1 _ fun vs H1 P1 G1 r1 => ?_
    cases r1 with
    | cons ra rb =>
      cases rb with
      | cons rb rc =>
        cases rc
        obtain ⟨a, vs, rfl, s1, r2⟩ := ra.isLst
        obtain ⟨b, ws, rfl, s2, r3⟩ := rb.isLst
        exact ⟨a, b, vs, ws, rfl, .inl ⟨SqL.of (G1.ph _ _ s1), SqL.of (G1.ph _ _ s2), q _ _ _ G1 (walks_zl s1 s2 r2 r3)⟩⟩
  · cases h
end

/-! ### for, while -/
def forL (g : DG) (b : DS) : List D → En → Ld → SRes
  | [], en, l => .nx en l
  | d :: ds, en, l => match g d en with
    | none => .no
    | some en1 => match b en1 l with
      | .nx en' l' => forL g b ds en' l'
      | .ct en' l' => forL g b ds en' l'
      | .bk en' l' => .nx en' l'
      | .rt d l' => .rt d l'
      | .no => .no
def dFor (di : DI) (g : DG) (b : DS) : DS := fun en l => match di en l with
  | .ok xs l' => forL g b xs en l'
  | .no => .no
def loopW (c : DT) (b : DS) : Nat → En → Ld → SRes
  | 0, _, _ => .no
  | n + 1, en, l => match c en l with
    | .no => .no
    | .ok false l1 => .nx en l1
    | .ok true l1 => match b en l1 with
      | .nx en' l' => loopW c b n en' l'
      | .ct en' l' => loopW c b n en' l'
      | .bk en' l' => .nx en' l'
      | .rt d l' => .rt d l'
      | .no => .no
open Classical in
noncomputable def dWhile (c : DT) (b : DS) : DS := fun en l => if h : ∃ n, loopW c b n en l ≠ .no then loopW c b h.choose en l else .no
theorem loopW_up {c : DT} {b : DS} : ∀ {n : Nat} {en : En} {l : Ld} (k : Nat), loopW c b n en l ≠ .no → loopW c b (n + k) en l = loopW c b n en l
  | 0, _, _, _, h => absurd rfl h
  | n + 1, en, l, k, h => by
    have e : n + 1 + k = (n + k) + 1 := by omega
    rw [e]
    unfold loopW at h ⊢
    cases hc : c en l with
    | no => rfl
    | ok t l1 =>
      cases t with
      | false => rfl
      | true =>
        rw [hc] at h
        dsimp only at h ⊢
        cases hb : b en l1 with
        | nx en' l' =>
          rw [hb] at h
          dsimp only at h ⊢
          exact loopW_up k h
        | ct en' l' =>
          rw [hb] at h
          dsimp only at h ⊢
          exact loopW_up k h
        | bk _ _ => rfl
        | rt _ _ => rfl
        | no => rfl
theorem dWhile_eq {c : DT} {b : DS} {n : Nat} {en : En} {l : Ld} {r : SRes} (h : loopW c b n en l = r) (hr : r ≠ .no) : dWhile c b en l = r := by
  have hx : ∃ n, loopW c b n en l ≠ .no := ⟨n, by rw [h]; exact hr⟩
  unfold dWhile
  rw [dif_pos hx]
  have h2 := hx.choose_spec
  generalize hx.choose = m at h2
  have a1 := loopW_up n h2
  have a2 := loopW_up (n := n) m (by rw [h]; exact hr)
  rw [Nat.add_comm] at a2
  rw [← a1, a2, h]
section
variable {X : Cx} {tg it c : Expr} {body : List Stmt} {di : DI} {dg : DG} {is : List Nat} {db : DS} {dt : DT} {pos : Pos}
theorem pds_for (hc : X.calm = true) (hi : PDI X tg it di) (hg : PDG X tg dg is) (hb : PDSs X body db) (hp : PassesOwn (model X.prog X.w) X.A X.env X.xe) (hs : ∀ x, foldedSetIterable it X.env x = pure x := by intro _; rfl) : PDS X (.For tg it body [] pos) (dFor di dg db) := by
  obtain ⟨wi, i1, i2⟩ := hi
  obtain ⟨g, g1, g2⟩ := hg
  obtain ⟨tb, b1, b2⟩ := hb
  refine ⟨_, ps_for hp hc i1 g1 b1 hs, fun L σ H P M en l R D h => ?_⟩
  unfold dFor at h
  split at h
  · rename_i xs l' e1
    refine i2 L σ H P M en l R xs l' e1 _ fun J H1 P1 G1 W1 => ?_
    refine ⟨fun i m σ' H' => ∃ P' M' en' l'', m = xs.length - i ∧ i ≤ xs.length ∧ Rep X.K L σ' H' P' M' en' l'' ∧ Ex P1 P' ∧ Then X.K L H' P' M' D (forL dg db (xs.drop i) en' l''), ⟨_, P1, M, en, l', rfl, Nat.zero_le _, R.grow G1, .refl _, by rw [List.drop_zero]; exact h.step G1.step⟩, ?_⟩
    rintro i m σ2 H2 ⟨P2, M2, en2, l2, rfl, hi, R2, e2, h2⟩
    by_cases hlt : i < xs.length
    · refine Or.inr ⟨W1.go i H2 P2 l2 e2 R2.pin R2.lod hlt, fun σ' H' => ∃ P' M' en' l'', Rep X.K L σ' H' P' M' en' l'' ∧ Ex P1 P' ∧ Then X.K L H' P' M' D (forL dg db (xs.drop (i + 1)) en' l''), ?_, ?_⟩
      · rintro σ' H' ⟨P', M', en', l'', R', e', h'⟩
        exact ⟨xs.length - (i + 1), by omega, P', M', en', l'', rfl, by omega, R', e', h'⟩
      · intro x H3 y
        have hd : xs[i]? = some xs[i] := by simp
        obtain ⟨P3, G3, r3⟩ := W1.yld i x xs[i] H2 P2 H3 l2 e2 R2.pin R2.lod y hd
        have R3 := R2.grow G3
        have h3 : Then X.K L H3 P3 M2 D (forL dg db (xs.drop i) en2 l2) := h2.step G3.step
        rw [List.drop_eq_getElem_cons hlt] at h3
        unfold forL at h3
        cases e4 : dg xs[i] en2 with
        | none => rw [e4] at h3; exact h3.elim
        | some en4 =>
          rw [e4] at h3
          dsimp only at h3
          refine g2 L σ2 H3 P3 M2 en2 l2 R3 x xs[i] en4 r3 e4 _ fun σ4 R4 _ => ?_
          refine b2 L σ4 H3 P3 M2 en4 l2 R4 _ ?_
          cases e5 : db en4 l2 with
          | nx en' l' =>
            rw [e5] at h3
            exact fun σ' H' P' M' S R' => ⟨P', M', en', l', R', (e2.trans G3.pp).trans S.pp, h3.step S⟩
          | ct en' l' =>
            rw [e5] at h3
            exact fun σ' H' P' M' S R' => ⟨P', M', en', l', R', (e2.trans G3.pp).trans S.pp, h3.step S⟩
          | bk en' l' =>
            rw [e5] at h3
            exact h3
          | rt d l' =>
            rw [e5] at h3
            exact h3
          | no =>
            rw [e5] at h3
            exact h3.elim
    · have e : i = xs.length := by omega
      subst e
      rw [List.drop_length] at h2
      exact Or.inl ⟨W1.stop _ H2 P2 e2 R2.pin (Nat.le_refl _), h2 σ2 H2 P2 M2 R2.self R2⟩
  · exact h.elim
theorem snd_while {K : PySem.W.Frag} {tc : TT} {tb : TS} (h1 : SndT K tc dt) (h2 : SndS K tb db) (n : Nat) : SndS K (tWhile tc tb) (loopW dt db n) := fun L σ H P M en l R D h => by
  refine ⟨fun m σ' H' => ∃ P' M' en' l', Rep K L σ' H' P' M' en' l' ∧ Then K L H' P' M' D (loopW dt db m en' l'), ⟨n, P, M, en, l, R, h⟩, ?_⟩
  rintro m σ2 H2 ⟨P2, M2, en2, l2, R2, h2'⟩
  cases m with
  | zero => exact h2'.elim
  | succ m =>
    unfold loopW at h2'
    cases e1 : dt en2 l2 with
    | no => rw [e1] at h2'; exact h2'.elim
    | ok t l3 =>
      rw [e1] at h2'
      refine h1 L σ2 H2 P2 M2 en2 l2 R2 t l3 e1 _ fun H3 P3 G3 => ?_
      cases t with
      | false => exact iteF (h2' σ2 H3 P3 M2 G3.step (R2.grow G3))
      | true =>
        refine iteT ⟨fun σ' H' => ∃ P' M' en' l', Rep K L σ' H' P' M' en' l' ∧ Then K L H' P' M' D (loopW dt db m en' l'), fun σ' H' ⟨P', M', en', l', R', h'⟩ => ⟨m, Nat.lt_succ_self m, P', M', en', l', R', h'⟩, ?_⟩
        have h3 := h2'.step G3.step
        refine h2 L σ2 H3 P3 M2 en2 l3 (R2.grow G3) _ ?_
        dsimp only at h3
        cases e5 : db en2 l3 with
        | nx en' l' =>
          rw [e5] at h3
          exact fun σ' H' P' M' S R' => ⟨P', M', en', l', R', h3.step S⟩
        | ct en' l' =>
          rw [e5] at h3
          exact fun σ' H' P' M' S R' => ⟨P', M', en', l', R', h3.step S⟩
        | bk en' l' =>
          rw [e5] at h3
          exact h3
        | rt d l' =>
          rw [e5] at h3
          exact h3
        | no =>
          rw [e5] at h3
          exact h3.elim
theorem pds_while (hc : PDT X c dt) (hb : PDSs X body db) (hp : PassesOwn (model X.prog X.w) X.A X.env X.xe) : PDS X (.While c body [] pos) (dWhile dt db) := by
  obtain ⟨tc, c1, c2⟩ := hc
  obtain ⟨tb, b1, b2⟩ := hb
  refine ⟨_, ps_while hp c1 b1, fun L σ H P M en l R D h => ?_⟩
  unfold dWhile at h
  split at h
  · exact snd_while c2 b2 _ L σ H P M en l R D h
  · exact h.elim
end
end Dx
end
section
set_option Elab.async false
set_option linter.all false
set_option maxRecDepth 100000
/-! Dx9: comprehensions, lists that grow, defs. -/
namespace Dx
open PySem PySem.Spec PyProof.Rows L2

section
variable {K : PySem.W.Frag} {L : Option Addr} {σ : L2.St} {H P M H' P' M' : Hp} {en : En} {l l' : Ld}
/-- a place that nothing leans on may change -/
theorem Rep.off {p : Addr} {o : HO} (R : Rep K L σ H P M en l) (hp : P p = none) (hm : M p = none) (hl : L ≠ some p) : Rep K L σ (upd H p o) P M en l where
  pin := fun a u h => by rw [upd_ne (ne_of_none h hp)]; exact R.pin a u h
  min := fun a u h => by rw [upd_ne (ne_of_none h hm)]; exact R.min a u h
  dis := R.dis
  lod := fun a e => by rw [upd_ne (fun z => hl (by rw [e, z]))]; exact R.lod a e
  lop := R.lop
  dat := R.dat
  own := R.own
  inj := R.inj
  lo := R.lo
  len := R.len
def wipeE (en : En) : List Nat → En
  | [] => en
  | v :: vs => (wipeE en vs).set v none
theorem wipeE_length (en : En) : ∀ vs : List Nat, (wipeE en vs).length = en.length
  | [] => rfl
  | v :: vs => by unfold wipeE; rw [List.length_set, wipeE_length en vs]
theorem wipe_get (σ : L2.St) (i : Nat) : ∀ vs : List Nat, i ∉ vs → (wipe σ vs)[i]? = σ[i]?
  | [], _ => rfl
  | v :: vs, h => by
    simp only [List.mem_cons, not_or] at h
    unfold wipe
    rw [List.getElem?_set_ne (fun e => h.1 e.symm), wipe_get σ i vs h.2]
theorem wipeE_get {en : En} {i : Nat} {o : Sl} : ∀ {vs : List Nat}, (wipeE en vs)[i]? = some (some o) → en[i]? = some (some o) ∧ i ∉ vs
  | [], h => ⟨h, by simp⟩
  | v :: vs, h => by
    unfold wipeE at h
    by_cases e : v = i
    · subst e
      rw [List.getElem?_set] at h
      rw [if_pos rfl] at h
      split at h <;> cases h
    · rw [List.getElem?_set_ne e] at h
      obtain ⟨h1, h2⟩ := wipeE_get h
      exact ⟨h1, by simp only [List.mem_cons, not_or]; exact ⟨fun z => e z.symm, h2⟩⟩
theorem Rep.wiped (R : Rep K L σ H P M en l) (vs : List Nat) : Rep K L (wipe σ vs) H P M (wipeE en vs) l where
  pin := R.pin
  min := R.min
  dis := R.dis
  lod := R.lod
  lop := R.lop
  dat := fun i d h => by
    obtain ⟨h1, h2⟩ := wipeE_get h
    rw [wipe_get σ i vs h2]
    exact R.dat i d h1
  own := fun i xs h => by
    obtain ⟨h1, h2⟩ := wipeE_get h
    rw [wipe_get σ i vs h2]
    exact R.own i xs h1
  inj := fun i j xs ys p n h k => by
    obtain ⟨h1, h2⟩ := wipeE_get h
    obtain ⟨k1, k2⟩ := wipeE_get k
    rw [wipe_get σ i vs h2, wipe_get σ j vs k2]
    exact R.inj i j xs ys p n h1 k1
  lo := fun i h => by
    obtain ⟨h1, h2⟩ := wipeE_get h
    rw [wipe_get σ i vs h2]
    exact R.lo i h1
  len := by rw [wipe_length, wipeE_length]; exact R.len
end
/-! ### comprehensions -/
def lcL (g : DG) (t : DT) (e : DE) (en0 : En) : List D → Ld → Res (List D)
  | [], l => .ok [] l
  | d :: ds, l => match g d en0 with
    | none => .no
    | some en1 => (t en1 l).bind fun c l1 => match c with
      | true => (e en1 l1).bind fun y l2 => (lcL g t e en0 ds l2).bind fun ys l3 => .ok (y :: ys) l3
      | false => lcL g t e en0 ds l1
def dYes : DT := fun _ l => .ok true l
def dLc (own : List Nat) (di : DI) (g : DG) (t : DT) (e : DE) : DE := fun en l => (di en l).bind fun xs l1 => if xs.length ≤ 10000 then (lcL g t e (wipeE en own) xs l1).bind fun ys l2 => .ok (.list ys) l2 else .no
section
variable {X : Cx}
theorem wipe_twice {σ : L2.St} {vs : List Nat} : ∀ {us : List Nat}, (∀ u ∈ us, u ∈ vs) → wipe (wipe σ us) vs = wipe σ vs
  | [], _ => rfl
  | u :: us, h => by
    show wipe ((wipe σ us).set u none) vs = _
    rw [wipe_set (h u (List.mem_cons_self ..))]
    exact wipe_twice fun w hw => h w (List.mem_cons_of_mem _ hw)
theorem snd_lc {K : PySem.W.Frag} {wi : TI} {g : TG} {tt : TT} {te : TE} {di : DI} {dg : DG} {dt : DT} {de : DE} {own is : List Nat} (hi : SndI K wi di) (hg : SndG K g dg is) (his : ∀ i ∈ is, i ∈ own) (ht : SndT K tt dt) (he : Snd K te de) : Snd K (tLc wi g tt te own) (dLc own di dg dt de) := fun L σ H P M en l R d l' h Q q => by
  obtain ⟨xs, l1, e1, h⟩ := Res.bind_ok h
  split at h
  · rename_i hz
    obtain ⟨ys, l2, e2, h⟩ := Res.bind_ok h
    cases h
    refine hi L σ H P M en l R xs l1 e1 _ fun J H1 P1 G1 W1 => ?_
    intro DL hD
    have R1 := R.grow G1
    have pD : P1 DL = none := by
      cases z : P1 DL with
      | none => rfl
      | some u =>
        have z2 := G1.ph _ _ z
        rw [hD] at z2
        cases z2
    have mD : M DL = none := by
      cases z : M DL with
      | none => rfl
      | some u =>
        have z2 := R1.min _ _ z
        rw [hD] at z2
        cases z2
    have lD : L ≠ some DL := fun z => by
      have z2 := R1.lod DL z
      rw [hD] at z2
      cases z2
    refine ⟨fun i m H' => ∃ (P' : Hp) (l3 : Ld) (acc : List V) (done rest : List D), m = xs.length - i ∧ i ≤ xs.length ∧ Rep K L (wipe σ own) H' P' M (wipeE en own) l3 ∧ H' DL = some (.lst acc) ∧ P' DL = none ∧ Ex P1 P' ∧
      (∀ a o, L ≠ some a → H1 a = some o → H' a = some o) ∧ (∀ a o, P' a = some o → P1 a = none → H1 a = none) ∧ RpAll K P' acc done ∧ acc.length ≤ i ∧ lcL dg dt de (wipeE en own) (xs.drop i) l3 = .ok rest l' ∧ done ++ rest = ys, ?_, ?_⟩
    · exact ⟨_, P1, l1, [], [], ys, rfl, Nat.zero_le _, (R1.wiped own).off pD mD lD, upd_same, pD, .refl _, fun a o _ h => by rw [upd_ne (ne_of_none h hD)]; exact h, fun a o h n => (by rw [n] at h; cases h), .nil, Nat.zero_le _, by rw [List.drop_zero]; exact e2, rfl⟩
    rintro i m H2 ⟨P2, l3, acc, done, rest, rfl, hi2, R2, d2, p2, x2, k2, n2, r2, c2, f2, y2⟩
    by_cases hlt : i < xs.length
    · refine Or.inr ⟨W1.go i H2 P2 l3 x2 R2.pin R2.lod hlt, fun H' => ∃ (P' : Hp) (l3 : Ld) (acc : List V) (done rest : List D), Rep K L (wipe σ own) H' P' M (wipeE en own) l3 ∧ H' DL = some (.lst acc) ∧ P' DL = none ∧ Ex P1 P' ∧
        (∀ a o, L ≠ some a → H1 a = some o → H' a = some o) ∧ (∀ a o, P' a = some o → P1 a = none → H1 a = none) ∧ RpAll K P' acc done ∧ acc.length ≤ i + 1 ∧ lcL dg dt de (wipeE en own) (xs.drop (i + 1)) l3 = .ok rest l' ∧ done ++ rest = ys, ?_, ?_⟩
      · rintro H' ⟨P', l4, acc', done', rest', z⟩
        exact ⟨xs.length - (i + 1), by omega, P', l4, acc', done', rest', rfl, by omega, z⟩
      intro x H3 y
      obtain ⟨P3, G3, r3⟩ := W1.yld i x xs[i] H2 P2 H3 l3 x2 R2.pin R2.lod y (by simp)
      have R3 := R2.grow G3
      rw [List.drop_eq_getElem_cons hlt] at f2
      unfold lcL at f2
      cases e4 : dg xs[i] (wipeE en own) with
      | none => rw [e4] at f2; cases f2
      | some en4 =>
        rw [e4] at f2
        dsimp only at f2
        obtain ⟨c, l5, e5, f2⟩ := Res.bind_ok f2
        refine hg L (wipe σ own) H3 P3 M (wipeE en own) l3 R3 x xs[i] en4 r3 e4 _ fun σ4 R4 w4 => ⟨(w4 own his).trans (wipe_twice fun i h => h), ?_⟩
        refine ht L σ4 H3 P3 M en4 l3 R4 c l5 e5 _ fun H5 P5 G5 => ?_
        -- what holds behind any growth from H2
        have grow : ∀ {H6 P6 : Hp} {l6 : Ld}, Grow L l6 H2 P2 H6 P6 → Rep K L (wipe σ own) H6 P6 M (wipeE en own) l6 ∧ H6 DL = some (.lst acc) ∧ P6 DL = none ∧ Ex P1 P6 ∧ (∀ a o, L ≠ some a → H1 a = some o → H6 a = some o) ∧ (∀ a o, P6 a = some o → P1 a = none → H1 a = none) ∧ RpAll K P6 acc done := fun {H6 P6 l6} G => by
          have d6 := G.keep DL _ lD d2
          refine ⟨R2.grow G, d6, ?_, x2.trans G.pp, fun a o n h => G.keep a o n (k2 a o n h), fun a o h n => ?_, r2.mono G.pp⟩
          · cases z : P6 DL with
            | none => rfl
            | some u =>
              have z2 := G.new DL u z p2
              rw [d2] at z2
              cases z2
          · cases z : P2 a with
            | some u => exact n2 a u z n
            | none =>
              have z2 := G.new a o h z
              cases z3 : H1 a with
              | none => rfl
              | some u =>
                by_cases la : L = some a
                · have z4 := R2.lod a la
                  rw [z2] at z4
                  cases z4
                · have z4 := k2 a u la z3
                  rw [z2] at z4
                  cases z4
        cases c with
        | false =>
          obtain ⟨a1, a2, a3, a4, a5, a6, a7⟩ := grow (G3.trans G5)
          exact iteF ⟨P5, l5, acc, done, rest, a1, a2, a3, a4, a5, a6, a7, Nat.le_succ_of_le c2, f2, y2⟩
        | true =>
          obtain ⟨yd, l6, e6, f2⟩ := Res.bind_ok f2
          obtain ⟨ys', l7, e7, f2⟩ := Res.bind_ok f2
          cases f2
          refine iteT (he L σ4 H5 P5 M en4 l5 (R4.grow G5) yd l6 e6 _ fun v H6 P6 G6 r6 => ?_)
          obtain ⟨a1, a2, a3, a4, a5, a6, a7⟩ := grow ((G3.trans G5).trans G6)
          refine ⟨acc, a2, Nat.lt_of_le_of_lt (Nat.le_trans c2 (Nat.le_trans hi2 hz)) (by decide), P6, l6, acc ++ [v], done ++ [yd], ys', a1.off a3 mD lD, upd_same, a3, a4, fun a o n h => ?_, a6, a7.append (.cons r6 .nil), ?_, e7, by rw [List.append_assoc]; exact y2⟩
          · rw [upd_ne (ne_of_none h hD)]
            exact a5 a o n h
          · rw [List.length_append]
            exact Nat.succ_le_succ c2
    · have e : i = xs.length := by omega
      subst e
      rw [List.drop_length] at f2
      cases f2
      rw [List.append_nil] at y2
      subst y2
      have G2 : Grow L l' H1 P1 H2 (upd P2 DL (.lst acc)) := ⟨k2, R2.lod, fun a o h => by rw [upd_ne (fun z => by rw [z, pD] at h; cases h)]; exact x2 a o h, fun a o h => by
        by_cases z : a = DL
        · subst z
          rw [upd_same] at h
          cases h
          exact d2
        · rw [upd_ne z] at h
          exact R2.pin a o h, fun a o h n => by
        by_cases z : a = DL
        · rw [z]
          exact hD
        · rw [upd_ne z] at h
          exact n2 a o h n⟩
      refine Or.inl ⟨W1.stop _ H2 P2 x2 R2.pin (Nat.le_refl _), q _ H2 _ (G1.trans G2) (.lst upd_same (r2.mono fun a o h => ?_))⟩
      rw [upd_ne (fun z => by rw [z, p2] at h; cases h)]
      exact h
  · cases h
/-- one reading for all blocks -/
theorem uni {α : Type} {K : PySem.W.Frag} {Pr : α → TE → Prop} {de : DE} (h : ∀ a, ∃ te, Pr a te ∧ Snd K te de) (hp : ∀ a (t u : TE), (∀ σ H Q, u σ H Q → t σ H Q) → Pr a t → Pr a u) : ∃ te, (∀ a, Pr a te) ∧ Snd K te de := by
  refine ⟨fun σ H Q => ∀ a, (h a).choose σ H Q, fun a => hp a _ _ (fun σ H Q z => z a) (h a).choose_spec.1, fun L σ H P M en l R d l' e Q q a => (h a).choose_spec.2 L σ H P M en l R d l' e Q q⟩
theorem uniT {α : Type} {K : PySem.W.Frag} {Pr : α → TT → Prop} {de : DT} (h : ∀ a, ∃ te, Pr a te ∧ SndT K te de) (hp : ∀ a (t u : TT), (∀ σ H Q, u σ H Q → t σ H Q) → Pr a t → Pr a u) : ∃ te, (∀ a, Pr a te) ∧ SndT K te de := by
  refine ⟨fun σ H Q => ∀ a, (h a).choose σ H Q, fun a => hp a _ _ (fun σ H Q z => z a) (h a).choose_spec.1, fun L σ H P M en l R d l' e Q q a => (h a).choose_spec.2 L σ H P M en l R d l' e Q q⟩
theorem uniG {α : Type} {K : PySem.W.Frag} {Pr : α → TG → Prop} {dg : DG} {is : List Nat} (h : ∀ a, ∃ te, Pr a te ∧ SndG K te dg is) (hp : ∀ a (t u : TG), (∀ v σ H Q, u v σ H Q → t v σ H Q) → Pr a t → Pr a u) : ∃ te, (∀ a, Pr a te) ∧ SndG K te dg is := by
  refine ⟨fun v σ H Q => ∀ a, (h a).choose v σ H Q, fun a => hp a _ _ (fun v σ H Q z => z a) (h a).choose_spec.1, fun L σ H P M en l R v d en' r e Q q a => (h a).choose_spec.2 L σ H P M en l R v d en' r e Q q⟩
/-- the block's data -/
structure Bk where
  s : Shared
  H : Hp
  C : Addr
  cl : List (Str × Addr)
  fp : List Addr
abbrev Bk.cx (b : Bk) (X : Cx) (scope : Scope) : Cx := X.blk b.s b.H scope (compEnvC scope b.cl b.C X.env) b.fp
def PDTs (X : Cx) (ifs : List Expr) (dt : DT) : Prop := ∃ t, PTs X ifs t ∧ SndT X.K t dt
theorem pdts_nil : PDTs X [] dYes := ⟨_, pts_nil, fun L σ H P M en l R d l' h Q q => by cases h; exact q _ _ R.refl⟩
theorem pdts_one {c : Expr} {dt : DT} (h : PDT X c dt) : PDTs X [c] dt := by
  obtain ⟨t, h1, h2⟩ := h
  exact ⟨t, pts_one h1, h2⟩
variable {elt tg iter : Expr} {ifs : List Expr} {scope : Scope} {own : List (Str × Nat)} {pos : Pos} {di : DI} {dg : DG} {dt : DT} {de : DE} {is : List Nat}
theorem lc_parts (hg : ∀ b : Bk, PDG (b.cx X scope) tg dg is) (ht : ∀ b : Bk, PDTs (b.cx X scope) ifs dt) (he : ∀ b : Bk, PD (b.cx X scope) elt de) :
    (∃ g, (∀ b : Bk, PG (b.cx X scope) tg g) ∧ SndG X.K g dg is) ∧ (∃ t, (∀ b : Bk, PTs (b.cx X scope) ifs t) ∧ SndT X.K t dt) ∧ ∃ t, (∀ b : Bk, PE (b.cx X scope) elt t) ∧ Snd X.K t de :=
  ⟨uniG (Pr := fun b g => PG (Bk.cx b X scope) tg g) hg fun b t u z h => ⟨fun pins s σ H v w Q I r q => h.run pins s σ H v w Q I r (z _ _ _ _ q)⟩,
   uniT (Pr := fun b g => PTs (Bk.cx b X scope) ifs g) ht fun b t u z h => ⟨fun pins s σ H Q I q => h.run pins s σ H Q I (z _ _ _ q)⟩,
   uni (Pr := fun b g => PE (Bk.cx b X scope) elt g) he fun b t u z h => ⟨fun pins s σ H Q I q => h.run pins s σ H Q I (z _ _ _ q)⟩⟩
theorem pd_lc (hc : X.calm = true) (hN : X.N.Nodup) (hi : PDI X tg iter di) (ok : BlkOk X.N X.env.scope scope own) (hg : ∀ b : Bk, PDG (b.cx X scope) tg dg is) (ht : ∀ b : Bk, PDTs (b.cx X scope) ifs dt) (he : ∀ b : Bk, PD (b.cx X scope) elt de)
    (his : ∀ i ∈ is, i ∈ own.map (·.2) := by decide) (hs : ∀ x, foldedSetIterable iter X.env x = pure x := by intro _; rfl) : PD X (.ListComp elt [⟨tg, iter, ifs, 0⟩] scope pos) (dLc (own.map (·.2)) di dg dt de) := by
  obtain ⟨wi, i1, i2⟩ := hi
  obtain ⟨⟨g, g1, g2⟩, ⟨t, t1, t2⟩, ⟨e, e1, e2⟩⟩ := lc_parts hg ht he
  exact ⟨_, pe_lc hc hN i1 ok (fun s H C cl fp => g1 ⟨s, H, C, cl, fp⟩) (fun s H C cl fp => t1 ⟨s, H, C, cl, fp⟩) (fun s H C cl fp => e1 ⟨s, H, C, cl, fp⟩) hs, snd_lc i2 g2 his t2 e2⟩
/-- y = [..] -/
theorem pds_setLc {i : Nat} {y : Str} {py spos : Pos} (hc : X.calm = true) (hN : X.N.Nodup) (hi : PDI X tg iter di) (ok : BlkOk X.N X.env.scope scope own) (hg : ∀ b : Bk, PDG (b.cx X scope) tg dg is) (ht : ∀ b : Bk, PDTs (b.cx X scope) ifs dt) (he : ∀ b : Bk, PD (b.cx X scope) elt de)
    (hsw : swapsWith (.ListComp elt [⟨tg, iter, ifs, 0⟩] scope pos) (some (.Name y py)) spos.line X.env = pure true) (hy : X.N[i]? = some y := by rfl) (hyl : X.env.scope.names.lookup y = some .local := by rfl)
    (his : ∀ i ∈ is, i ∈ own.map (·.2) := by decide) (hs : ∀ x, foldedSetIterable iter X.env x = pure x := by intro _; rfl) : PDS X (.Assign [.Name y py] (.ListComp elt [⟨tg, iter, ifs, 0⟩] scope pos) spos) (dSet i (dLc (own.map (·.2)) di dg dt de)) := by
  obtain ⟨wi, i1, i2⟩ := hi
  obtain ⟨⟨g, g1, g2⟩, ⟨t, t1, t2⟩, ⟨e, e1, e2⟩⟩ := lc_parts hg ht he
  refine ⟨_, ps_setLc hc hN hy hyl hsw i1 ok (fun s H C cl fp => g1 ⟨s, H, C, cl, fp⟩) (fun s H C cl fp => t1 ⟨s, H, C, cl, fp⟩) (fun s H C cl fp => e1 ⟨s, H, C, cl, fp⟩) hs, fun L σ H P M en l R D h => ?_⟩
  unfold dSet at h
  split at h
  · rename_i d l' z1
    exact snd_lc i2 g2 his t2 e2 L σ H P M en l R d l' z1 _ fun v H1 P1 G1 r1 => h _ _ _ _ G1.step ((R.grow G1).put r1)
  · exact h.elim
end

/-! ### defs -/
def enOf (n : Nat) (ds : List D) : En := ds.map (fun d => some (.dat d)) ++ List.replicate (n - ds.length) none
def runD (n : Nat) (b : DS) : List D → Option D := fun ds => match b (enOf n ds) ⟨0, 0, 0⟩ with
  | .rt d _ => some d
  | .nx _ _ => some .none
  | _ => none
def runL (n : Nat) (b : DS) : List D → Ld → Res D := fun ds l => match b (some .lode :: enOf (n - 1) ds) l with
  | .rt d l' => .ok d l'
  | .nx _ l' => .ok .none l'
  | _ => .no
theorem enOf_get {n : Nat} {ds : List D} {i : Nat} {o : Sl} (h : (enOf n ds)[i]? = some (some o)) : ∃ d, ds[i]? = some d ∧ o = .dat d := by
  unfold enOf at h
  by_cases hi : i < ds.length
  · rw [List.getElem?_append_left (by simpa using hi), List.getElem?_map] at h
    cases e : ds[i]? with
    | none => rw [e] at h; cases h
    | some d => rw [e] at h; cases h; exact ⟨d, rfl, rfl⟩
  · rw [List.getElem?_append_right (by simpa using hi), List.getElem?_replicate] at h
    split at h <;> cases h
theorem start_get {N : List Str} {vs : List V} {i : Nat} {v : V} (h : vs[i]? = some v) : (start N vs)[i]? = some (some v) := by
  have hi : i < vs.length := (List.getElem?_eq_some_iff.mp h).1
  unfold L2.start
  rw [List.getElem?_append_left (by simpa using hi), List.getElem?_map, h]
  rfl
theorem rep_start {K : PySem.W.Frag} {N : List Str} {vs : List V} {ds : List D} {H P : Hp} {l : Ld} (e : Ex P H) (r : RpAll K P vs ds) : Rep K none (start N vs) H P (fun _ => none) (enOf N.length ds) l where
  pin := e
  min := fun a o h => nomatch h
  dis := fun a o h => nomatch h
  lod := fun a h => nomatch h
  lop := fun a h => nomatch h
  dat := fun i d h => by
    obtain ⟨d', h1, h2⟩ := enOf_get h
    cases h2
    obtain ⟨v, h3, h4⟩ := r.get h1
    exact ⟨v, start_get h3, h4⟩
  own := fun i xs h => by
    obtain ⟨d', h1, h2⟩ := enOf_get h
    cases h2
  inj := fun i j xs ys p n h => by
    obtain ⟨d', h1, h2⟩ := enOf_get h
    cases h2
  lo := fun i h => by
    obtain ⟨d', h1, h2⟩ := enOf_get h
    cases h2
  len := by
    unfold L2.start enOf
    rw [List.length_append, List.length_map, List.length_replicate, List.length_append, List.length_map, List.length_replicate, r.length]
section
variable {P : Program} {w : World} {K : PySem.W.Frag} {mg : Str → Option Value} {base : Heap} {x qual : Str} {st : Stmt} {f : Addr} {fd : FuncData} {N ps : List Str} {k : Nat}
theorem fnD (F : Fun K x qual st f fd) (S : FnScope N ps (defScope st)) {ds : DS}
    (body : ∀ (cdv : Value) (A : Around) (outer : List Env) (s : Shared) (H : Hp) (E : XK), A.guards = some [] → Room k (A.deeper (envOfC qual (defScope st) s.heap.objs.size f cdv)) → PDSs (cxOf CX0 P w K mg base N qual (defScope st) f cdv A outer s H E).nox (defBody st) ds) :
    FnG P w K mg base CX0 (k + 1) f fd ps (spD K ps.length (runD N.length ds)) := by
  refine fnG_body F S (fun vs H Q E h => ?_) fun cdv A outer s H vs Q E hg hr h => ?_
  · obtain ⟨_, _, _, h, _⟩ := h
    exact h
  · obtain ⟨P0, xs, d, hl, e, r, hF, q⟩ := h
    obtain ⟨ts, t1, t2⟩ := body cdv A outer s H E hg hr
    refine ⟨ts, t1.nox, t2 none (start N vs) H P0 (fun _ => none) (enOf N.length xs) ⟨0, 0, 0⟩ (rep_start e r) _ ?_⟩
    unfold runD at hF
    have gr : ∀ {H' P' M' : Hp} {l' : Ld}, Step none l' H P0 (fun _ => none) H' P' M' → Grow none ⟨0, 0, 0⟩ H P0 H' P' := fun {H' P' M' l'} S => ⟨fun a o n h => S.keep a o n rfl h, (fun a z => nomatch z), S.pp, S.ph, fun a o h n => by
      rcases S.new a o h n with z | ⟨u, z⟩
      · exact z
      · cases z⟩
    split at hF
    · rename_i d' l' e1
      cases hF
      rw [e1]
      exact fun v H' P' M' S r' => q v H' P' (gr S) r'
    · rename_i en' l' e1
      cases hF
      rw [e1]
      exact fun σ' H' P' M' S R' => q .non H' P' (gr S) .non
    · cases hF
theorem fnL (F : Fun K x qual st f fd) (S : FnScope N ps (defScope st)) {ds : DS} (hp : 0 < ps.length) (hN : 0 < N.length)
    (body : ∀ (cdv : Value) (A : Around) (outer : List Env) (s : Shared) (H : Hp) (E : XK), A.guards = some [] → Room k (A.deeper (envOfC qual (defScope st) s.heap.objs.size f cdv)) → PDSs (cxOf CX0 P w K mg base N qual (defScope st) f cdv A outer s H E).nox (defBody st) ds) :
    FnG P w K mg base CX0 (k + 1) f fd ps (spL K (ps.length - 1) (runL N.length ds)) := by
  refine fnG_body F S (fun vs H Q E h => ?_) fun cdv A outer s H vs Q E hg hr h => ?_
  · obtain ⟨_, vs', _, _, _, _, _, rfl, h, _⟩ := h
    rw [List.length_cons, h]
    omega
  · obtain ⟨P0, vs', xs, d, a, l, l', rfl, hl, e, pa, ha, r, hF, q⟩ := h
    obtain ⟨ts, t1, t2⟩ := body cdv A outer s H E hg hr
    obtain ⟨n0, N0, hN0⟩ : ∃ n0 N0, N = n0 :: N0 := by
      cases N with
      | nil => cases hN
      | cons n0 N0 => exact ⟨n0, N0, rfl⟩
    have R0 : Rep K none (start N0 vs') H P0 (fun _ => none) (enOf N0.length xs) l := rep_start e r
    have hs : start N (.ref a :: vs') = some (.ref a) :: start N0 vs' := by
      rw [hN0]
      unfold L2.start
      simp
    have R1 : Rep K (some a) (start N (.ref a :: vs')) H P0 (fun _ => none) (some .lode :: enOf N0.length xs) l := by
      rw [hs]
      refine ⟨e, (fun b o h => nomatch h), (fun b o h => nomatch h), fun b z => ?_, fun b z => ?_, fun i d h => ?_, fun i xs h => ?_, fun i j xs ys p n h => ?_, fun i h => ?_, ?_⟩
      · cases z
        exact ha
      · cases z
        exact ⟨pa, rfl⟩
      · cases i with
        | zero => cases h
        | succ i => exact R0.dat i d h
      · cases i with
        | zero => cases h
        | succ i => exact absurd (R0.own i xs h) (by rintro ⟨p, vs, _, z, _⟩; cases z)
      · cases i with
        | zero => cases h
        | succ i => exact absurd (R0.own i xs h) (by rintro ⟨p, vs, _, z, _⟩; cases z)
      · cases i with
        | zero => exact ⟨a, rfl, rfl⟩
        | succ i =>
          obtain ⟨b, z, _⟩ := R0.lo i h
          cases z
      · rw [List.length_cons, List.length_cons, R0.len]
    have hn : N.length - 1 = N0.length := by rw [hN0]; rfl
    refine ⟨ts, t1.nox, t2 (some a) _ H P0 (fun _ => none) _ l R1 _ ?_⟩
    unfold runL at hF
    rw [hn] at hF
    have gr : ∀ {H' P' M' : Hp} {l' : Ld}, Step (some a) l' H P0 (fun _ => none) H' P' M' → Grow (some a) l' H P0 H' P' := fun {H' P' M' l'} S => ⟨fun b o n h => S.keep b o n rfl h, S.lod, S.pp, S.ph, fun b o h n => by
      rcases S.new b o h n with z | ⟨u, z⟩
      · exact z
      · cases z⟩
    split at hF
    · rename_i d' l2 e1
      cases hF
      rw [e1]
      exact fun v H' P' M' S r' => q v H' P' (gr S) r'
    · rename_i en' l2 e1
      cases hF
      rw [e1]
      exact fun σ' H' P' M' S R' => q .non H' P' (gr S) .non
    · cases hF
end
end Dx
end
section
set_option Elab.async false
set_option linter.all false
set_option maxRecDepth 100000
/-! Dx10: the draws' store read and stored; lists that grow; constants of the text. -/
namespace Dx
open PySem PySem.Spec PyProof.Rows L2

/-! ### the store -/
def Ld.at (l : Ld) : Nat → Int
  | 0 => l.c
  | 1 => l.s
  | _ => l.k
def Ld.set (l : Ld) (j : Nat) (v : Int) : Ld := match j with
  | 0 => ⟨v, l.s, l.k⟩
  | 1 => ⟨l.c, v, l.k⟩
  | _ => ⟨l.c, l.s, v⟩
def dLo (i j : Nat) : DE := fun en l => match en[i]? with
  | some (some .lode) => if j < 3 then .ok (.int (l.at j)) l else .no
  | _ => .no
theorem ld_at (l : Ld) {j : Nat} (h : j < 3) : atI [V.int l.c, .int l.s, .int l.k] ((j : Nat) : Int) = some (.int (l.at j)) := by
  refine atI_nat ?_
  match j, h with
  | 0, _ => rfl
  | 1, _ => rfl
  | 2, _ => rfl
theorem ld_set (l : Ld) {j : Nat} (v : Int) (h : j < 3) : ([V.int l.c, .int l.s, .int l.k].set j (.int v)) = [V.int (l.set j v).c, .int (l.set j v).s, .int (l.set j v).k] := by
  match j, h with
  | 0, _ => rfl
  | 1, _ => rfl
  | 2, _ => rfl
theorem ix_nat {n j : Nat} (h : j < n) : ixN n ((j : Nat) : Int) = some j := by
  unfold ixN
  rw [if_pos (by omega), if_pos (by omega)]
  simp
section
variable {K : PySem.W.Frag} {σ : L2.St} {H P M : Hp} {en : En} {l : Ld} {a : Addr}
theorem Rep.lodeSet (R : Rep K (some a) σ H P M en l) (l' : Ld) : Rep K (some a) σ (upd H a l'.ho) P M en l' := by
  have h0 := R.lop a rfl
  exact ⟨fun b u h => by rw [upd_ne (ne_of_none h h0.1)]; exact R.pin b u h, fun b u h => by rw [upd_ne (ne_of_none h h0.2)]; exact R.min b u h, R.dis, fun b e => by cases e; exact upd_same, R.lop, R.dat, R.own, R.inj, R.lo, R.len⟩
theorem Rep.lodeStep (R : Rep K (some a) σ H P M en l) (l' : Ld) : Step (some a) l' H P M (upd H a l'.ho) P M := by
  have h0 := R.lop a rfl
  refine ⟨fun b o n m h => ?_, fun b e => by cases e; exact upd_same, Ex.refl _, (R.lodeSet l').pin, fun b o h n => (by rw [n] at h; cases h), fun b o h n => (by rw [n] at h; cases h)⟩
  rw [upd_ne (fun z => n (by rw [z]))]
  exact h
end
section
variable {X : Cx} {e : Expr} {de : DE} {pos p2 p3 : Pos} {j0 : Nat}
theorem pd_lo (i j : Nat) {y : Str} (hy : PE X (.Name y p2) (tVar i)) (hs : PlainIx (.Constant (.int ((j : Nat) : Int)) j0 p3) := by intro _ _; rfl) : PD X (.Subscript (.Name y p2) (.Constant (.int ((j : Nat) : Int)) j0 p3) pos) (dLo i j) := by
  refine ⟨_, pe_ix ix_list hy pe_int hs, fun L σ H P M en l R d l' h Q q => ?_⟩
  unfold dLo at h
  split at h
  · rename_i hi
    split at h
    · rename_i hj
      cases h
      obtain ⟨a, rfl, h1⟩ := R.lo i hi
      exact ⟨.ref a, h1, a, _, ((j : Nat) : Int), _, rfl, rfl, SqL.of (R.lod a rfl), ld_at l hj, q _ _ _ R.refl (.int _)⟩
    · cases h
  · cases h
def dSetLo (i j : Nat) (a : DE) : DS := fun en l => match a en l with
  | .ok (.int v) l' => (match en[i]? with
    | some (some .lode) => if j < 3 then .nx en (l'.set j v) else .no
    | _ => .no)
  | _ => .no
theorem pds_setLo (i j : Nat) {y : Str} (hy : PE X (.Name y p2) (tVar i)) (he : PD X e de) (hs : swapsWithSole [.Subscript (.Name y p2) (.Constant (.int ((j : Nat) : Int)) j0 p3) pos] e pos.line X.env = pure false := by rfl) (hw : swappedStores [.Subscript (.Name y p2) (.Constant (.int ((j : Nat) : Int)) j0 p3) pos] e X.env = pure none := by rfl)
    (h1 : (assignEach [.Subscript (.Name y p2) (.Constant (.int ((j : Nat) : Int)) j0 p3) pos] X.env).map (·.2) = [assign (.Subscript (.Name y p2) (.Constant (.int ((j : Nat) : Int)) j0 p3) pos) X.env] := by rfl) {spos : Pos}
    (hs' : swapsWithSole [.Subscript (.Name y p2) (.Constant (.int ((j : Nat) : Int)) j0 p3) pos] e spos.line X.env = pure false := by rfl) : PDS X (.Assign [.Subscript (.Name y p2) (.Constant (.int ((j : Nat) : Int)) j0 p3) pos] e spos) (dSetLo i j de) := by
  obtain ⟨t, a1, a2⟩ := he
  refine ⟨_, ps_asg a1 (pg_sub hy pe_int set_list) hs' hw h1, fun L σ H P M en l R D h => ?_⟩
  unfold dSetLo at h
  split at h
  · rename_i v l' e1
    split at h
    · rename_i hi
      split at h
      · rename_i hj
        refine a2 L σ H P M en l R _ l' e1 _ fun x H1 P1 G1 r1 => ?_
        obtain ⟨a, rfl, h2⟩ := R.lo i hi
        have R1 := R.grow G1
        refine ⟨.ref a, h2, a, _, ((j : Nat) : Int), j, rfl, rfl, R1.lod a rfl, ix_nat hj, ?_⟩
        rw [r1.isInt, ld_set l' v hj]
        exact h _ _ _ _ (G1.step.trans (R1.lodeStep (l'.set j v))) (R1.lodeSet (l'.set j v))
      · exact h.elim
    · exact h.elim
  · exact h.elim
/-- store[0], x = divmod(store[0], y) -/
def dDivLo (i x : Nat) (y : Nat) : DS := fun en l => match en[i]?, en[y]? with
  | some (some .lode), some (some (.dat (.int m))) => if 0 < m ∧ m < 1073741824 then .nx (en.set x (some (.dat (.int (l.c % m))))) (l.set 0 (l.c / m)) else .no
  | _, _ => .no
theorem pds_divLo {i x y k0 : Nat} {nl nx ny : Str} {p1 p4 p5 p6 p7 p8 spos tpos dpos : Pos} {j1 j2 : Nat} (hN : X.N.Nodup) (hc : X.calm = true) (hl : PE X (.Name nl p1) (tVar i)) (hl2 : PE X (.Name nl p4) (tVar i)) (hy : PE X (.Name ny p5) (tVar y)) (hg : Gl X "divmod") (hm : X.mg "divmod" = none)
    (hx : X.N[x]? = some nx := by rfl) (hlx : Loc X.env.scope nx := by first | exact Or.inl rfl | exact Or.inr rfl) (hf : X.fn nx = true ∨ X.env.scope.names.lookup nx = some .local := by first | exact Or.inl rfl | exact Or.inr rfl)
    (hb : bootBuiltins "divmod" = some (.builtin "divmod") := by decide +kernel)
    (s0 : PlainIx (.Constant (.int 0) j2 p6) := by intro _ _; rfl)
    (s1 : starEach [.Subscript (.Name nl p4) (.Constant (.int 0) j2 p6) p7, .Name ny p5] X.env = (false, eval (.Subscript (.Name nl p4) (.Constant (.int 0) j2 p6) p7) X.env) :: starEach [.Name ny p5] X.env := by rfl) (s2 : starEach [.Name ny p5] X.env = (false, eval (.Name ny p5) X.env) :: starEach [] X.env := by rfl)
    (s3 : (backTo dpos (starEach [.Name ny p5] X.env)).any (·.1) = false := by rfl)
    (h1 : (assignEach [.Subscript (.Name nl p1) (.Constant (.int 0) j1 p2) p3, .Name nx p8] X.env).map (·.2) = assign (.Subscript (.Name nl p1) (.Constant (.int 0) j1 p2) p3) X.env :: (assignEach [.Name nx p8] X.env).map (·.2) := by rfl)
    (h2 : (assignEach [.Name nx p8] X.env).map (·.2) = assign (.Name nx p8) X.env :: (assignEach [] X.env).map (·.2) := by rfl)
    (h3 : (assignEach [.Subscript (.Name nl p1) (.Constant (.int 0) j1 p2) p3, .Name nx p8] X.env).length = 2 := by rfl) (h4 : (assignEach [.Subscript (.Name nl p1) (.Constant (.int 0) j1 p2) p3, .Name nx p8] X.env).findIdx? (·.1) = none := by rfl) {pq : Pos}
    (h5 : swapsWithSole [.Tuple [.Subscript (.Name nl p1) (.Constant (.int 0) j1 p2) p3, .Name nx p8] k0 tpos] (.Call (.Name "divmod" pq) [.Subscript (.Name nl p4) (.Constant (.int 0) j2 p6) p7, .Name ny p5] [] dpos) spos.line X.env = pure false := by rfl)
    (h6 : swappedStores [.Tuple [.Subscript (.Name nl p1) (.Constant (.int 0) j1 p2) p3, .Name nx p8] k0 tpos] (.Call (.Name "divmod" pq) [.Subscript (.Name nl p4) (.Constant (.int 0) j2 p6) p7, .Name ny p5] [] dpos) X.env = pure none := by rfl)
    (h7 : (assignEach [.Tuple [.Subscript (.Name nl p1) (.Constant (.int 0) j1 p2) p3, .Name nx p8] k0 tpos] X.env).map (·.2) = [assign (.Tuple [.Subscript (.Name nl p1) (.Constant (.int 0) j1 p2) p3, .Name nx p8] k0 tpos) X.env] := by rfl) :
    PDS X (.Assign [.Tuple [.Subscript (.Name nl p1) (.Constant (.int 0) j1 p2) p3, .Name nx p8] k0 tpos] (.Call (.Name "divmod" pq) [.Subscript (.Name nl p4) (.Constant (.int 0) j2 p6) p7, .Name ny p5] [] dpos) spos) (dDivLo i x y) := by
  refine ⟨_, ps_asg (pe_callB call_divmodW hg hm hb (pa_cons (pe_ix ix_list hl2 pe_int s0) (pa_cons hy pa_nil s2) s1) (by decide) (by decide) s1 s3) (pg_tup hc (pgs_cons (pg_sub hl pe_int set_list) (pgs_cons (pg_name hN hx hlx hf) pgs_nil h2) h1) h3 h4) h5 h6 h7, fun L σ H P M en l R D h => ?_⟩
  unfold dDivLo at h
  split at h
  · rename_i m hi hy2
    split at h
    · rename_i hm2
      obtain ⟨a, rfl, z1⟩ := R.lo i hi
      obtain ⟨v, z2, z3⟩ := R.dat y _ hy2
      have z4 := z3.isInt
      subst z4
      refine ⟨.ref a, z1, a, _, 0, _, rfl, rfl, SqL.of (R.lod a rfl), ld_at l (j := 0) (by omega), .int m, z2, l.c, m, rfl, ⟨hm2.1, PyProof.noPylong_small (by omega)⟩, fun p hp => ?_⟩
      have G1 : Grow (some a) l H P (upd H p (.tup [.int (l.c / m), .int (l.c % m)])) P := ⟨fun b o n h => by rw [upd_ne (ne_of_none h hp)]; exact h, fun b e => by rw [upd_ne (ne_of_none (R.lod b e) hp)]; exact R.lod b e, Ex.refl _, fun b o h => by rw [upd_ne (ne_of_none (R.pin b o h) hp)]; exact R.pin b o h, fun b o h n => by rw [n] at h; cases h⟩
      have R1 := R.grow G1
      refine ⟨p, _, rfl, SqT.of upd_same, rfl, _, _, rfl, .ref a, z1, a, _, 0, 0, rfl, rfl, R1.lod a rfl, ix_nat (j := 0) (by show 0 < 3; omega), _, _, rfl, ?_⟩
      refine ⟨rfl, ?_⟩
      have e9 := ld_set l (j := 0) (l.c / m) (by omega)
      rw [e9]
      exact h _ _ _ _ (G1.step.trans (R1.lodeStep (l.set 0 (l.c / m)))) ((R1.lodeSet (l.set 0 (l.c / m))).put (.int _))
    · exact h.elim
  · exact h.elim
end

/-! ### more operations -/
section
variable {K : PySem.W.Frag}
def cPow (i j : Int) : Bool := decide (0 ≤ j ∧ j ≤ 1000000 ∧ i.natAbs < 2 ^ 64)
def gPow : D → D → Option D := g2IC cPow fun i j => i ^ j.toNat
theorem os_pow : OpS K (rI CPow fun i j => .int (i ^ j.toNat)) gPow := os_IC fun i j h => by unfold CPow; exact of_decide_eq_true h
def gNeg : D → Option D
  | .int i => some (.int (-i))
  | _ => none
theorem us_neg : UnS K (rU fun i => .int (-i)) gNeg := fun L l H P x dx d e hl rx hg Q q => by
  unfold gNeg at hg
  split at hg
  · cases hg
    exact ⟨_, rx.isInt, q _ _ _ (.refl e hl) (.int _)⟩
  · cases hg
def gSum : List D → Option D
  | [.list xs] => (intsD xs).map fun ns => .int ns.sum
  | _ => none
theorem cs_sum : CallS K (rSum K) gSum := fun L l H P xs ds d e hl r hg Q q => by
  unfold gSum at hg
  split at hg
  · rename_i ys
    cases h : intsD ys with
    | none => rw [h] at hg; cases hg
    | some ns =>
      rw [h] at hg
      cases hg
      cases r with
      | cons r1 rr =>
        cases rr
        obtain ⟨p, zs, rfl, s1, r2⟩ := r1.isLst
        rw [intsD_map h] at r2
        rw [ints_of r2] at s1
        exact ⟨p, ns, rfl, SqL.of (e _ _ s1), q _ _ _ (.refl e hl) (.int _)⟩
  · cases hg
end
/-! ### constants of the text -/
/-- a value of the written part is told by data, whatever the heap -/
def KRp (K : PySem.W.Frag) (u : Value) (d : D) : Prop := ∃ v, RelV v u ∧ ∀ H, Rp K H v d
theorem krp_int {K : PySem.W.Frag} {i : Int} {t : Tok} : KRp K (.int i t) (.int i) := ⟨.int i, ⟨t, rfl⟩, fun _ => .int i⟩
theorem krp_str {K : PySem.W.Frag} {i : Str} {t : Tok} : KRp K (.str i t) (.str i) := ⟨.str i, ⟨t, rfl⟩, fun _ => .str i⟩
theorem krp_non {K : PySem.W.Frag} : KRp K .none .none := ⟨.non, rfl, fun _ => .non⟩
def KRpAll (K : PySem.W.Frag) : List Value → List D → Prop
  | [], [] => True
  | u :: us, d :: ds => KRp K u d ∧ KRpAll K us ds
  | _, _ => False
theorem krpAll {K : PySem.W.Frag} : ∀ {us : List Value} {ds : List D}, KRpAll K us ds → ∃ vs, Vals vs us ∧ ∀ H, RpAll K H vs ds
  | [], [], _ => ⟨[], .nil, fun _ => .nil⟩
  | u :: us, d :: ds, h => by
    obtain ⟨⟨v, r, q⟩, h2⟩ := h
    obtain ⟨vs, rs, qs⟩ := krpAll h2
    exact ⟨v :: vs, .cons r rs, fun H => .cons (q H) (qs H)⟩
  | [], _ :: _, h => h.elim
  | _ :: _, [], h => h.elim
theorem krp_tup {K : PySem.W.Frag} {a : Addr} {dd : Option Addr} {us : List Value} {n : Nat} {sl : Array (Option Value)} {ds : List D} (l : K.lookup a = some ⟨.type "tuple", dd, .seq us.toArray n, sl⟩) (h : KRpAll K us ds) (hz : us.length ≤ 10000) : KRp K (.ref a) (.tuple ds) := by
  obtain ⟨vs, rs, qs⟩ := krpAll h
  exact ⟨.ref a, rfl, fun H => .tup (.inr ⟨_, us.toArray, n, l, rfl, rfl, by rw [List.size_toArray]; exact sz_of hz, by simpa using rs⟩) (qs H)⟩
section
variable {X : Cx}
theorem pd_konst {x : Str} {u : Value} {d : D} {pos : Pos} (hg : Gl X x) (hm : X.mg x = some u) (h : KRp X.K u d) (h2 : (x == ("__debug__" : Str)) = false := by decide) : PD X (.Name x pos) (dC d) := by
  obtain ⟨v, r, q0⟩ := h
  exact ⟨_, pe_glob hg hm r h2, fun L σ H P M en l R d l' h Q q => by cases h; exact q _ _ _ R.refl (q0 P)⟩
end

/-! ### lists that grow -/
/-- an expression that makes a new list -/
def SndN (K : PySem.W.Frag) (te : TE) (da : DA) : Prop := ∀ (L : Option Addr) (σ : L2.St) (H P M : Hp) (en : En) (l : Ld), Rep K L σ H P M en l → ∀ xs l', da en l = .ok xs l' → ∀ Q : VK, (∀ p vs H' P', Grow L l' H P H' P' → H p = none → P' p = none → H' p = some (.lst vs) → RpAll K P' vs xs → Q (.ref p) H') → te σ H Q
def PDN (X : Cx) (e : Expr) (da : DA) : Prop := ∃ te, PE X e te ∧ SndN X.K te da
def dNew (a : DA) : DA := fun en l => (a en l).bind fun xs l1 => if xs.length ≤ 10000 then .ok xs l1 else .no
def dSetOwn (i : Nat) (a : DA) : DS := fun en l => match a en l with
  | .ok xs l' => .nx (en.set i (some (.own xs))) l'
  | .no => .no
def dApp (i : Nat) (a : DE) : DS := fun en l => match en[i]? with
  | some (some (.own xs)) => (match a en l with
    | .ok d l' => if xs.length ≤ 10000 then .nx (en.set i (some (.own (xs ++ [d])))) l' else .no
    | .no => .no)
  | _ => .no
/-- the list at the i-th name is given out: it is data from here on -/
def dFrz (i : Nat) (b : DS) : DS := fun en l => match en[i]? with
  | some (some (.own xs)) => b (en.set i (some (.dat (.list xs)))) l
  | _ => b en l
section
variable {K : PySem.W.Frag} {L : Option Addr} {σ : L2.St} {H P M : Hp} {en : En} {l : Ld}
theorem set_get {en : En} {i j : Nat} {o : Sl} {u : Sl} (h : (en.set i (some o))[j]? = some (some u)) : (i = j ∧ u = o) ∨ (i ≠ j ∧ en[j]? = some (some u)) := by
  rw [List.getElem?_set] at h
  by_cases e : i = j
  · rw [if_pos e] at h
    split at h
    · cases h
      exact .inl ⟨e, rfl⟩
    · cases h
  · rw [if_neg e] at h
    exact .inr ⟨e, h⟩
theorem set_in {en : En} {i : Nat} {o u : Sl} (h : (en.set i (some o))[i]? = some (some u)) : i < en.length := by
  have z := (List.getElem?_eq_some_iff.mp h).1
  rw [List.length_set] at z
  exact z
/-- a new list gets a name -/
theorem Rep.putOwn {i : Nat} {p : Addr} {vs : List V} {xs : List D} (R : Rep K L σ H P M en l) (hp : H p = some (.lst vs)) (pp : P p = none) (pm : M p = none) (pl : L ≠ some p) (r : RpAll K P vs xs) : Rep K L (σ.set i (some (.ref p))) H P (upd M p (.lst vs)) (en.set i (some (.own xs))) l where
  pin := R.pin
  min := fun a u h => by
    by_cases e : a = p
    · subst e
      rw [upd_same] at h
      cases h
      exact hp
    · rw [upd_ne e] at h
      exact R.min a u h
  dis := fun a u h => by
    by_cases e : a = p
    · subst e
      exact pp
    · rw [upd_ne e] at h
      exact R.dis a u h
  lod := R.lod
  lop := fun a e => ⟨(R.lop a e).1, by rw [upd_ne (fun z => pl (by rw [e, z]))]; exact (R.lop a e).2⟩
  dat := fun j d h => by
    rcases set_get h with ⟨_, z⟩ | ⟨n, z⟩
    · cases z
    · rw [List.getElem?_set_ne n]
      exact R.dat j d z
  own := fun j ys h => by
    rcases set_get h with ⟨e, z⟩ | ⟨n, z⟩
    · subst e
      cases z
      have hi := set_in h
      refine ⟨p, vs, ?_, upd_same, r⟩
      rw [List.getElem?_set_self (by rw [R.len]; exact hi)]
    · obtain ⟨q, ws, h1, h2, h3⟩ := R.own j ys z
      exact ⟨q, ws, by rw [List.getElem?_set_ne n]; exact h1, by rw [upd_ne (fun e => by rw [e, pm] at h2; cases h2)]; exact h2, h3⟩
  inj := fun j k ys zs q n h1 h2 h3 h4 => by
    rcases set_get h1 with ⟨e1, z1⟩ | ⟨n1, z1⟩
    · rcases set_get h2 with ⟨e2, z2⟩ | ⟨n2, z2⟩
      · exact n (e1.symm.trans e2)
      · subst e1
        have hi := set_in h1
        rw [List.getElem?_set_self (by rw [R.len]; exact hi)] at h3
        cases h3
        rw [List.getElem?_set_ne n2] at h4
        obtain ⟨q, ws, k1, k2, _⟩ := R.own k zs z2
        rw [h4] at k1
        cases k1
        rw [pm] at k2
        cases k2
    · rw [List.getElem?_set_ne n1] at h3
      rcases set_get h2 with ⟨e2, z2⟩ | ⟨n2, z2⟩
      · subst e2
        have hi := set_in h2
        rw [List.getElem?_set_self (by rw [R.len]; exact hi)] at h4
        cases h4
        obtain ⟨q, ws, k1, k2, _⟩ := R.own j ys z1
        rw [h3] at k1
        cases k1
        rw [pm] at k2
        cases k2
      · rw [List.getElem?_set_ne n2] at h4
        exact R.inj j k ys zs q n z1 z2 h3 h4
  lo := fun j h => by
    rcases set_get h with ⟨_, z⟩ | ⟨n, z⟩
    · cases z
    · obtain ⟨a, h1, h2⟩ := R.lo j z
      exact ⟨a, h1, by rw [List.getElem?_set_ne n]; exact h2⟩
  len := by rw [List.length_set, List.length_set]; exact R.len
/-- the list of a name has another content -/
theorem Rep.turnOwn {i : Nat} {p : Addr} {vs vs' : List V} {xs xs' : List D} (R : Rep K L σ H P M en l) (hi : en[i]? = some (some (.own xs))) (hs : σ[i]? = some (some (.ref p))) (hm : M p = some (.lst vs)) (r : RpAll K P vs' xs') : Rep K L σ (upd H p (.lst vs')) P (upd M p (.lst vs')) (en.set i (some (.own xs'))) l where
  pin := fun a u h => by
    rw [upd_ne (fun z => by rw [z, R.dis p _ hm] at h; cases h)]
    exact R.pin a u h
  min := fun a u h => by
    by_cases e : a = p
    · subst e
      rw [upd_same] at h ⊢
      exact h
    · rw [upd_ne e] at h ⊢
      exact R.min a u h
  dis := fun a u h => by
    by_cases e : a = p
    · subst e
      exact R.dis _ _ hm
    · rw [upd_ne e] at h
      exact R.dis a u h
  lod := fun a e => by
    rw [upd_ne (fun z => by rw [← z, (R.lop a e).2] at hm; cases hm)]
    exact R.lod a e
  lop := fun a e => ⟨(R.lop a e).1, by
    rw [upd_ne (fun z => by rw [← z, (R.lop a e).2] at hm; cases hm)]
    exact (R.lop a e).2⟩
  dat := fun j d h => by
    rcases set_get h with ⟨_, z⟩ | ⟨n, z⟩
    · cases z
    · exact R.dat j d z
  own := fun j ys h => by
    rcases set_get h with ⟨e, z⟩ | ⟨n, z⟩
    · subst e
      cases z
      exact ⟨p, vs', hs, upd_same, r⟩
    · obtain ⟨q, ws, h1, h2, h3⟩ := R.own j ys z
      refine ⟨q, ws, h1, ?_, h3⟩
      rw [upd_ne (fun e => ?_)]
      · exact h2
      · subst e
        exact R.inj i j xs ys q n hi z hs h1
  inj := fun j k ys zs q n h1 h2 h3 h4 => by
    have f : ∀ {j : Nat} {ys : List D}, (en.set i (some (.own xs')))[j]? = some (some (.own ys)) → ∃ ws : List D, en[j]? = some (some (.own ws)) := fun {j ys} h => by
      rcases set_get h with ⟨e, z⟩ | ⟨n, z⟩
      · subst e
        exact ⟨xs, hi⟩
      · exact ⟨ys, z⟩
    obtain ⟨w1, z1⟩ := f h1
    obtain ⟨w2, z2⟩ := f h2
    exact R.inj j k w1 w2 q n z1 z2 h3 h4
  lo := fun j h => by
    rcases set_get h with ⟨_, z⟩ | ⟨n, z⟩
    · cases z
    · exact R.lo j z
  len := by rw [List.length_set]; exact R.len
theorem Rep.turnStep {i : Nat} {p : Addr} {vs vs' : List V} {xs xs' : List D} (R : Rep K L σ H P M en l) (hm : M p = some (.lst vs)) : Step L l H P M (upd H p (.lst vs')) P (upd M p (.lst vs')) where
  keep := fun a o n m h => by rw [upd_ne (fun z => by rw [z, hm] at m; cases m)]; exact h
  lod := fun a e => by
    rw [upd_ne (fun z => by rw [← z, (R.lop a e).2] at hm; cases hm)]
    exact R.lod a e
  pp := Ex.refl _
  ph := fun a u h => by
    rw [upd_ne (fun z => by rw [z, R.dis p _ hm] at h; cases h)]
    exact R.pin a u h
  new := fun a o h n => by rw [n] at h; cases h
  newM := fun a o h n => by
    by_cases e : a = p
    · rw [e, hm] at n
      cases n
    · rw [upd_ne e, n] at h
      cases h
/-- .. and it is data from here on -/
theorem Rep.frz {i : Nat} {xs : List D} (R : Rep K L σ H P M en l) (hi : en[i]? = some (some (.own xs))) : ∃ p vs, M p = some (.lst vs) ∧ Rep K L σ H (upd P p (.lst vs)) (fun b => if b = p then none else M b) (en.set i (some (.dat (.list xs)))) l ∧ Step L l H P M H (upd P p (.lst vs)) (fun b => if b = p then none else M b) := by
  obtain ⟨p, vs, hs, hm, r⟩ := R.own i xs hi
  have pp := R.dis p _ hm
  have px : Ex P (upd P p (.lst vs)) := fun a u h => by rw [upd_ne (fun z => by rw [z, pp] at h; cases h)]; exact h
  have ph : Ex (upd P p (.lst vs)) H := fun a u h => by
    by_cases e : a = p
    · subst e
      rw [upd_same] at h
      cases h
      exact R.min _ _ hm
    · rw [upd_ne e] at h
      exact R.pin a u h
  have lp : ∀ a, L = some a → a ≠ p := fun a e z => by
    rw [← z, (R.lop a e).2] at hm
    cases hm
  refine ⟨p, vs, hm, ⟨ph, fun a u h => ?_, fun a u h => ?_, R.lod, fun a e => ⟨?_, ?_⟩, fun j d h => ?_, fun j ys h => ?_, fun j k ys zs q n h1 h2 h3 => ?_, fun j h => ?_, by rw [List.length_set]; exact R.len⟩, ⟨fun a o n m h => h, R.lod, px, ph, fun a o h n => ?_, fun a o h n => ?_⟩⟩
  · split at h
    · cases h
    · exact R.min a u h
  · split at h
    · cases h
    · rename_i e
      rw [upd_ne e]
      exact R.dis a u h
  · rw [upd_ne (lp a e)]
    exact (R.lop a e).1
  · show (if a = p then none else M a) = none
    rw [if_neg (lp a e)]
    exact (R.lop a e).2
  · rcases set_get h with ⟨e, z⟩ | ⟨n, z⟩
    · subst e
      cases z
      exact ⟨.ref p, hs, .lst upd_same (r.mono px)⟩
    · obtain ⟨v, h1, h2⟩ := R.dat j d z
      exact ⟨v, h1, h2.mono px⟩
  · rcases set_get h with ⟨_, z⟩ | ⟨n, z⟩
    · cases z
    · obtain ⟨q, ws, h1, h2, h3⟩ := R.own j ys z
      refine ⟨q, ws, h1, ?_, h3.mono px⟩
      show (if q = p then none else M q) = _
      rw [if_neg (fun e => ?_)]
      · exact h2
      · subst e
        exact R.inj i j xs ys q n hi z hs h1
  · rcases set_get h1 with ⟨_, z⟩ | ⟨n1, z1⟩
    · cases z
    · rcases set_get h2 with ⟨_, z⟩ | ⟨n2, z2⟩
      · cases z
      · exact R.inj j k ys zs q n z1 z2 h3
  · rcases set_get h with ⟨_, z⟩ | ⟨n, z⟩
    · cases z
    · exact R.lo j z
  · by_cases e : a = p
    · exact .inr ⟨_, by rw [e]; exact hm⟩
    · rw [upd_ne e, n] at h
      cases h
  · split at h
    · cases h
    · rw [n] at h
      cases h
theorem snd_frz {K : PySem.W.Frag} {ts : TS} {b : DS} (i : Nat) (h : SndS K ts b) : SndS K ts (dFrz i b) := fun L σ H P M en l R D q => by
  unfold dFrz at q
  split at q
  · rename_i xs hi
    obtain ⟨p, vs, hm, R1, S1⟩ := R.frz hi
    exact h L σ H _ _ _ l R1 D (q.step S1)
  · exact h L σ H P M en l R D q
end
section
variable {X : Cx} {e : Expr} {es : List Expr} {de : DE} {ds : DA} {b : DS} {st : Stmt} {pos p2 p3 p4 : Pos}
theorem pds_frz (i : Nat) (h : PDS X st b) : PDS X st (dFrz i b) := by
  obtain ⟨t, h1, h2⟩ := h
  exact ⟨t, h1, snd_frz i h2⟩
theorem pdss_frz (i : Nat) {sts : List Stmt} (h : PDSs X sts b) : PDSs X sts (dFrz i b) := by
  obtain ⟨t, h1, h2⟩ := h
  exact ⟨t, h1, snd_frz i h2⟩
theorem pdn_lst (h : PDA X es ds) : PDN X (.List es pos) (dNew ds) := by
  obtain ⟨ta, a1, a2⟩ := h
  refine ⟨_, pe_lst a1, fun L σ H P M en l R xs l' h Q q => ?_⟩
  obtain ⟨ys, l1, h1, h⟩ := Res.bind_ok h
  split at h
  · rename_i hz
    cases h
    refine a2 L σ H P M en l R _ _ h1 _ fun vs H1 P1 G1 r1 => ⟨by rw [r1.length]; exact sz_of hz, fun p hp => ?_⟩
    have R1 := R.grow G1
    have pn : P1 p = none := by
      cases z : P1 p with
      | none => rfl
      | some u =>
        have z2 := G1.ph _ _ z
        rw [hp] at z2
        cases z2
    have hn : H p = none := by
      cases z : H p with
      | none => rfl
      | some u =>
        by_cases lp : L = some p
        · have z2 := R1.lod p lp
          rw [hp] at z2
          cases z2
        · have z2 := G1.keep p u lp z
          rw [hp] at z2
          cases z2
    refine q p vs _ P1 ⟨fun a o n h => ?_, fun a e => ?_, G1.pp, fun a o h => ?_, G1.new⟩ hn pn upd_same r1
    · have z := G1.keep a o n h
      rw [upd_ne (ne_of_none z hp)]
      exact z
    · have z := R1.lod a e
      rw [upd_ne (ne_of_none z hp)]
      exact z
    · rw [upd_ne (ne_of_none h pn)]
      exact G1.ph a o h
  · cases h
theorem pds_setOwn {i : Nat} {x : Str} (hN : X.N.Nodup) (h : PDN X e ds) (hi : X.N[i]? = some x := by rfl) (hx : Loc X.env.scope x := by first | exact Or.inl rfl | exact Or.inr rfl) (hs : swapsWith e (some (.Name x p2)) pos.line X.env = pure false := by rfl)
    (hf : X.fn x = true ∨ X.env.scope.names.lookup x = some .local := by first | exact Or.inl rfl | exact Or.inr rfl) : PDS X (.Assign [.Name x p2] e pos) (dSetOwn i ds) := by
  obtain ⟨t, h1, h2⟩ := h
  refine ⟨_, ps_set hN hi hx h1 hs hf, fun L σ H P M en l R D h => ?_⟩
  unfold dSetOwn at h
  split at h
  · rename_i xs l' e1
    refine h2 L σ H P M en l R xs l' e1 _ fun p vs H1 P1 G1 hp pp h1p r1 => ?_
    have R1 := R.grow G1
    have pm : M p = none := by
      cases z : M p with
      | none => rfl
      | some u =>
        have z2 := R.min _ _ z
        rw [hp] at z2
        cases z2
    have pl : L ≠ some p := fun z => by
      have z2 := R.lod p z
      rw [hp] at z2
      cases z2
    refine h _ _ _ _ ⟨fun a o n _ k => G1.keep a o n k, G1.lod, G1.pp, G1.ph, fun a o k n => .inl (G1.new a o k n), fun a o k n => ?_⟩ (R1.putOwn h1p pp pm pl r1)
    by_cases e : a = p
    · rw [e]
      exact hp
    · rw [upd_ne e, n] at k
      cases k
  · exact h.elim
/-- x.append(e) -/
theorem pds_app (i : Nat) {x : Str} {apos cpos : Pos} (hy : PE X (.Name x p2) (tVar i)) (h : PD X e de) (hs : swapsWith (.Call (.Attribute (.Name x p2) "append" apos) [e] [] cpos) none pos.line X.env = pure false := by rfl)
    (k1 : attributeBase (.Name x p2) "append" X.env (eval (.Name x p2) X.env) = eval (.Name x p2) X.env := by rfl)
    (k2 : ((backTo cpos (starEach [e] X.env)).all (fun x => !x.1) && (backToKw cpos (keywordEach [] X.env)).all (fun x => x.1.isSome) && decide ([e].length + ([] : List Keyword).length + (if ([] : List Keyword).isEmpty then 0 else 1) < 30)) = true := by rfl)
    (k3 : (apos.endLine == cpos.line) = true := by rfl) (k4 : starEach [e] X.env = (false, eval e X.env) :: starEach [] X.env := by rfl) (k5 : (backTo cpos (starEach [] X.env)).any (·.1) = false := by rfl) : PDS X (.Expr (.Call (.Attribute (.Name x p2) "append" apos) [e] [] cpos) pos) (dApp i de) := by
  obtain ⟨te, h1, h2⟩ := h
  refine ⟨_, ps_expr (pe_bm PySem.F.plainAttrs_list PySem.F.slot_list_append PySem.F.type_list_append mt_append hy (pa_cons h1 pa_nil k4) k1 k2 k3 k4 k5) hs, fun L σ H P M en l R D q => ?_⟩
  unfold dApp at q
  split at q
  · rename_i xs hi
    split at q
    · rename_i d l' e1
      split at q
      · rename_i hz
        obtain ⟨p, vs, k1, k2, k3⟩ := R.own i xs hi
        refine ⟨.ref p, k1, .inl ⟨rfl, vs, SqL.of (R.min _ _ k2)⟩, h2 L σ H P M en l R d l' e1 _ fun v H1 P1 G1 r1 => ?_⟩
        have R1 := R.grow G1
        refine ⟨p, vs, v, rfl, rfl, R1.min _ _ k2, by rw [k3.length]; exact Nat.lt_of_le_of_lt hz (by decide), ?_⟩
        exact q _ _ _ _ (G1.step.trans (R1.turnStep (i := i) (xs := xs) (xs' := xs) k2)) (R1.turnOwn hi k1 k2 ((k3.mono G1.pp).append (.cons r1 .nil)))
      · exact q.elim
    · exact q.elim
  · exact q.elim
end
end Dx
namespace Dx
open PySem PySem.Spec PyProof.Rows L2
def dDict0 : DE := fun _ l => .ok (.dict []) l
theorem pd_dict0 {X : Cx} {pos : Pos} : PD X (.Dict [] [] pos) dDict0 := ⟨_, pe_dnewK, fun L σ H P M en l R d l' h Q q => by
  cases h
  intro p hp
  have G := Grow.laid (o := .dK []) R.pin R.lod hp
  exact q _ _ _ G (.dic (kvs := []) (ds := []) upd_same .nil)⟩
end Dx
end
section
set_option Elab.async false
set_option linter.all false
set_option maxRecDepth 100000
/-! Dx11: an own list made in a tuple target: x, y = e, [] and x, y, z = e, [], []. -/
namespace Dx
open PySem PySem.Spec PyProof.Rows L2
section
variable {X : Cx} {p2 p3 pos : Pos}
def dParO (i j : Nat) (a : DE) (b : DA) : DS := fun en l => match a en l with
  | .ok d l1 => (match b en l1 with
    | .ok xs l2 => .nx ((en.set i (some (.dat d))).set j (some (.own xs))) l2
    | .no => .no)
  | .no => .no
theorem pds_parO {i j : Nat} {x y : Str} {a b : Expr} {px py pt : Pos} {kt k2 pt2} {de : DE} {db : DA} (hc : X.calm = true) (hN : X.N.Nodup) (ha : PD X a de) (hb : PDN X b db) (hi : X.N[i]? = some x := by rfl) (hj : X.N[j]? = some y := by rfl) (hij : i ≠ j := by decide)
    (s2 : starEach [a, b] X.env = (false, eval a X.env) :: starEach [b] X.env := by rfl) (s1 : starEach [b] X.env = (false, eval b X.env) :: starEach [] X.env := by rfl)
    (hx : X.env.scope.names.lookup x = some .local := by rfl) (hy : X.env.scope.names.lookup y = some .local := by rfl) (hw : swappedStores [.Tuple [.Name x px, .Name y py] kt pt] (.Tuple [a, b] k2 pt2) X.env = pure (some [x, y]) := by rfl)
    (hs : swapsWithSole [.Tuple [.Name x px, .Name y py] kt pt] (.Tuple [a, b] k2 pt2) pos.line X.env = pure false := by rfl) : PDS X (.Assign [.Tuple [.Name x px, .Name y py] kt pt] (.Tuple [a, b] k2 pt2) pos) (dParO i j de db) := by
  obtain ⟨ta, a1, a2⟩ := ha
  obtain ⟨tb, b1, b2⟩ := hb
  refine ⟨_, ps_par hc hN hi hj hij hx hy (pa_cons a1 (pa_cons b1 pa_nil s1) s2) hw hs, fun L σ H P M en l R D h => ?_⟩
  unfold dParO at h
  split at h
  · rename_i d l1 e1
    split at h
    · rename_i xs l2 e2
      refine a2 L σ H P M en l R d l1 e1 _ fun v H1 P1 G1 r1 => ?_
      have R1 := R.grow G1
      refine b2 L σ H1 P1 M en l1 R1 xs l2 e2 _ fun p vs H2 P2 G2 hp pp h2p r2 => ?_
      have R2 := R1.grow G2
      have pm : M p = none := by
        cases z : M p with
        | none => rfl
        | some u =>
          have z2 := R1.min _ _ z
          rw [hp] at z2
          cases z2
      have pl : L ≠ some p := fun z => by
        have z2 := R1.lod p z
        rw [hp] at z2
        cases z2
      have h0 : H p = none := by
        cases z : H p with
        | none => rfl
        | some u =>
          have z2 := G1.keep p u pl z
          rw [hp] at z2
          cases z2
      have G := G1.trans G2
      refine ⟨v, .ref p, rfl, h _ _ _ _ ⟨fun a o n _ k => G.keep a o n k, G.lod, G.pp, G.ph, fun a o k n => .inl (G.new a o k n), fun a o k n => ?_⟩ ((R2.put (r1.mono G2.pp)).putOwn h2p pp pm pl r2)⟩
      by_cases e : a = p
      · rw [e]
        exact h0
      · rw [upd_ne e, n] at k
        cases k
    · exact h.elim
  · exact h.elim
def dParOO (i j k : Nat) (a : DE) (b c : DA) : DS := fun en l => match a en l with
  | .ok d l1 => (match b en l1 with
    | .ok xs l2 => (match c en l2 with
      | .ok ys l3 => .nx (((en.set i (some (.dat d))).set j (some (.own xs))).set k (some (.own ys))) l3
      | .no => .no)
    | .no => .no)
  | .no => .no
theorem pds_parOO {i j k : Nat} {x y z : Str} {a b c : Expr} {px py pz pt : Pos} {kt k2 pt2} {de : DE} {db dc : DA} (hc : X.calm = true) (hN : X.N.Nodup) (ha : PD X a de) (hb : PDN X b db) (hc' : PDN X c dc) (hi : X.N[i]? = some x := by rfl) (hj : X.N[j]? = some y := by rfl) (hk : X.N[k]? = some z := by rfl) (hij : i ≠ j := by decide) (hik : i ≠ k := by decide) (hjk : j ≠ k := by decide)
    (s3 : starEach [a, b, c] X.env = (false, eval a X.env) :: starEach [b, c] X.env := by rfl) (s2 : starEach [b, c] X.env = (false, eval b X.env) :: starEach [c] X.env := by rfl) (s1 : starEach [c] X.env = (false, eval c X.env) :: starEach [] X.env := by rfl)
    (hx : X.env.scope.names.lookup x = some .local := by rfl) (hy : X.env.scope.names.lookup y = some .local := by rfl) (hz : X.env.scope.names.lookup z = some .local := by rfl)
    (hw : swappedStores [.Tuple [.Name x px, .Name y py, .Name z pz] kt pt] (.Tuple [a, b, c] k2 pt2) X.env = pure (some [x, y, z]) := by rfl)
    (hs : swapsWithSole [.Tuple [.Name x px, .Name y py, .Name z pz] kt pt] (.Tuple [a, b, c] k2 pt2) pos.line X.env = pure false := by rfl) : PDS X (.Assign [.Tuple [.Name x px, .Name y py, .Name z pz] kt pt] (.Tuple [a, b, c] k2 pt2) pos) (dParOO i j k de db dc) := by
  obtain ⟨ta, a1, a2⟩ := ha
  obtain ⟨tb, b1, b2⟩ := hb
  obtain ⟨tc, c1, c2⟩ := hc'
  refine ⟨_, ps_par3 hc hN hi hj hk hij hik hjk hx hy hz (pa_cons a1 (pa_cons b1 (pa_cons c1 pa_nil s1) s2) s3) hw hs, fun L σ H P M en l R D h => ?_⟩
  unfold dParOO at h
  split at h
  · rename_i d l1 e1
    split at h
    · rename_i xs l2 e2
      split at h
      · rename_i ys l3 e3
        refine a2 L σ H P M en l R d l1 e1 _ fun v H1 P1 G1 r1 => ?_
        have R1 := R.grow G1
        refine b2 L σ H1 P1 M en l1 R1 xs l2 e2 _ fun p vs H2 P2 G2 hp pp h2p r2 => ?_
        have R2 := R1.grow G2
        have nM : ∀ {H : Hp} {P : Hp} {l : Ld} {p : Addr}, Rep X.K L σ H P M en l → H p = none → M p = none ∧ L ≠ some p := fun {H} {P} {l} {p} R hp => by
          refine ⟨?_, fun z => ?_⟩
          · cases z : M p with
            | none => rfl
            | some u =>
              have z2 := R.min _ _ z
              rw [hp] at z2
              cases z2
          · have z2 := R.lod p z
            rw [hp] at z2
            cases z2
        refine c2 L σ H2 P2 M en l2 R2 ys l3 e3 _ fun p' ws H3 P3 G3 hp' pp' h3p r3 => ?_
        have R3 := R2.grow G3
        have m1 := nM R1 hp
        have m2 := nM R2 hp'
        have down : ∀ {H H' : Hp} {P P' : Hp} {l : Ld} {p : Addr}, Grow L l H P H' P' → L ≠ some p → H' p = none → H p = none := fun {H} {H'} {P} {P'} {l} {p} G pl hp => by
          cases z : H p with
          | none => rfl
          | some u =>
            have z2 := G.keep p u pl z
            rw [hp] at z2
            cases z2
        have ne : p' ≠ p := fun z => by
          rw [z, h2p] at hp'
          cases hp'
        have h3 : H3 p = some (.lst vs) := G3.keep p _ m1.2 h2p
        have pp3 : P3 p = none := by
          cases z : P3 p with
          | none => rfl
          | some u =>
            have z2 := G3.new p u z pp
            rw [h2p] at z2
            cases z2
        have G12 := G1.trans G2
        have G := G12.trans G3
        have r1' := (r1.mono G2.pp).mono G3.pp
        have q1 := ((R3.put (i := i) r1').putOwn (i := j) h3 pp3 m1.1 m1.2 (r2.mono G3.pp))
        have q2 := q1.putOwn (i := k) h3p pp' (by rw [upd_ne ne]; exact m2.1) m2.2 r3
        refine ⟨v, .ref p, .ref p', rfl, h _ _ _ _ ⟨fun a o n _ k => G.keep a o n k, G.lod, G.pp, G.ph, fun a o k n => .inl (G.new a o k n), fun a o k n => ?_⟩ q2⟩
        by_cases e : a = p'
        · rw [e]
          exact down G12 m2.2 hp'
        · rw [upd_ne e] at k
          by_cases e' : a = p
          · rw [e']
            exact down G1 m1.2 hp
          · rw [upd_ne e', n] at k
            cases k
      · exact h.elim
    · exact h.elim
  · exact h.elim
end
end Dx
end
section
set_option Elab.async false
set_option linter.all false
set_option maxRecDepth 100000
/-! Dx12: x, y = [], e; is True, is False. -/
namespace Dx
open PySem PySem.Spec PyProof.Rows L2
section
variable {X : Cx} {pos : Pos}
def dOPar (i j : Nat) (b : DA) (a : DE) : DS := fun en l => match b en l with
  | .ok xs l1 => (match a en l1 with
    | .ok d l2 => .nx ((en.set i (some (.own xs))).set j (some (.dat d))) l2
    | .no => .no)
  | .no => .no
theorem set_swap {en : List α} {i j : Nat} {x y : α} (h : i ≠ j) : (en.set i x).set j y = (en.set j y).set i x := List.set_comm _ _ h
theorem pds_Opar {i j : Nat} {x y : Str} {a b : Expr} {px py pt : Pos} {kt k2 pt2} {de : DE} {db : DA} (hc : X.calm = true) (hN : X.N.Nodup) (hb : PDN X b db) (ha : PD X a de) (hi : X.N[i]? = some x := by rfl) (hj : X.N[j]? = some y := by rfl) (hij : i ≠ j := by decide)
    (s2 : starEach [b, a] X.env = (false, eval b X.env) :: starEach [a] X.env := by rfl) (s1 : starEach [a] X.env = (false, eval a X.env) :: starEach [] X.env := by rfl)
    (hx : X.env.scope.names.lookup x = some .local := by rfl) (hy : X.env.scope.names.lookup y = some .local := by rfl) (hw : swappedStores [.Tuple [.Name x px, .Name y py] kt pt] (.Tuple [b, a] k2 pt2) X.env = pure (some [x, y]) := by rfl)
    (hs : swapsWithSole [.Tuple [.Name x px, .Name y py] kt pt] (.Tuple [b, a] k2 pt2) pos.line X.env = pure false := by rfl) : PDS X (.Assign [.Tuple [.Name x px, .Name y py] kt pt] (.Tuple [b, a] k2 pt2) pos) (dOPar i j db de) := by
  obtain ⟨ta, a1, a2⟩ := ha
  obtain ⟨tb, b1, b2⟩ := hb
  refine ⟨_, ps_par hc hN hi hj hij hx hy (pa_cons b1 (pa_cons a1 pa_nil s1) s2) hw hs, fun L σ H P M en l R D h => ?_⟩
  unfold dOPar at h
  split at h
  · rename_i xs l1 e1
    split at h
    · rename_i d l2 e2
      refine b2 L σ H P M en l R xs l1 e1 _ fun p vs H1 P1 G1 hp pp h1p r1 => ?_
      have R1 := R.grow G1
      have pm : M p = none := by
        cases z : M p with
        | none => rfl
        | some u =>
          have z2 := R.min _ _ z
          rw [hp] at z2
          cases z2
      have pl : L ≠ some p := fun z => by
        have z2 := R.lod p z
        rw [hp] at z2
        cases z2
      refine a2 L σ H1 P1 M en l1 R1 d l2 e2 _ fun v H2 P2 G2 r2 => ?_
      have R2 := R1.grow G2
      have h2p : H2 p = some (.lst vs) := G2.keep p _ pl h1p
      have pp2 : P2 p = none := by
        cases z : P2 p with
        | none => rfl
        | some u =>
          have z2 := G2.new p u z pp
          rw [h1p] at z2
          cases z2
      have G := G1.trans G2
      refine ⟨.ref p, v, rfl, ?_⟩
      refine h _ _ _ _ ⟨fun a o n _ k => G.keep a o n k, G.lod, G.pp, G.ph, fun a o k n => .inl (G.new a o k n), fun a o k n => ?_⟩ ((R2.putOwn (i := i) h2p pp2 pm pl (r1.mono G2.pp)).put (i := j) r2)
      by_cases e : a = p
      · rw [e]
        exact hp
      · rw [upd_ne e, n] at k
        cases k
    · exact h.elim
  · exact h.elim
end
section
variable {K : PySem.W.Frag}
def gIsB : D → D → Option D
  | .bool a, .bool b => some (.bool (decide (a = b)))
  | _, _ => none
def gNotB : D → D → Option D
  | .bool a, .bool b => some (.bool (!decide (a = b)))
  | _, _ => none
theorem os_isB : OpS K (fun x y H Q => ∃ a b, x = V.bl a ∧ y = V.bl b ∧ Q (.bl (decide (a = b))) H) gIsB := fun L l H P x y dx dy d e hl rx ry hg Q q => by
  unfold gIsB at hg
  split at hg
  · cases hg
    exact ⟨_, _, rx.isBl, ry.isBl, q _ _ _ (.refl e hl) (.bl _)⟩
  · cases hg
theorem os_notB : OpS K (fun x y H Q => ∃ a b, x = V.bl a ∧ y = V.bl b ∧ Q (.bl (!decide (a = b))) H) gNotB := fun L l H P x y dx dy d e hl rx ry hg Q q => by
  unfold gNotB at hg
  split at hg
  · cases hg
    exact ⟨_, _, rx.isBl, ry.isBl, q _ _ _ (.refl e hl) (.bl _)⟩
  · cases hg
end
end Dx
namespace Dx
open PySem PySem.Spec PyProof.Rows L2
section
variable {X : Cx} {pos : Pos}
/-! a list taken apart -/
def dGLst (n : Nat) (gs : DGs) : DG := fun d en => match d with
  | .list ds => if ds.length = n then gs ds en else none
  | _ => none
theorem pdg_lst {k n : Nat} {es : List Expr} {dgs : DGs} {is : List Nat} (hc : X.calm = true) (h : PDGs X es dgs is) (hn : (assignEach es X.env).length = n := by rfl) (hst : (assignEach es X.env).findIdx? (·.1) = none := by rfl) : PDG X (.Tuple es k pos) (dGLst n dgs) is := by
  obtain ⟨g, g1, g2⟩ := h
  refine ⟨_, pg_lst hc g1 hn hst, fun L σ H P M en l R v d en' r h Q q => ?_⟩
  unfold dGLst at h
  split at h
  · split at h
    · rename_i ds hl
      obtain ⟨a, xs, rfl, s1, r1⟩ := r.isLst
      exact ⟨a, xs, rfl, SqL.of (R.pin a _ s1), r1.length.trans hl, g2 L σ H P M en l R _ _ en' r1 h Q q⟩
    · cases h
  · cases h
end
end Dx
namespace Dx
open PySem PySem.Spec PyProof.Rows L2
section
variable {X : Cx} {pos p2 : Pos}
/-! an own list's element -/
def dIxO (i : Nat) (c : DE) : DE := fun en l => match en[i]? with
  | some (some (.own xs)) => (match c en l with
    | .ok (.int k) l1 => (match atI xs k with
      | some d => .ok d l1
      | none => .no)
    | _ => .no)
  | some (some (.dat _)) => dOp gIx (dVar i) c en l
  | _ => .no
theorem pd_ixO (i : Nat) {y : Str} {c : Expr} {dc : DE} (hy : PE X (.Name y p2) (tVar i)) (hc : PD X c dc) (hs : PlainIx c) : PD X (.Subscript (.Name y p2) c pos) (dIxO i dc) := by
  obtain ⟨tc, c1, c2⟩ := hc
  refine ⟨_, pe_ix ix_seq hy c1 hs, fun L σ H P M en l R d l' h Q q => ?_⟩
  unfold dIxO at h
  split at h
  · rename_i xs hi
    split at h
    · rename_i k l1 e1
      split at h
      · rename_i d' hd
        cases h
        obtain ⟨p, vs, h1, h2, r2⟩ := R.own i xs hi
        refine ⟨.ref p, h1, ?_⟩
        refine c2 L σ H P M en l R _ _ e1 _ fun v H1 P1 G1 r1 => ?_
        have R1 := R.grow G1
        obtain ⟨w, a1, a2⟩ := atI_rp r2 hd
        exact Or.inl ⟨p, vs, k, w, rfl, r1.isInt, SqL.of (R1.min _ _ h2), a1, q _ _ _ G1 (a2.mono G1.pp)⟩
      · cases h
    · cases h
  · have sv : Snd X.K (tVar i) (dVar i) := fun L σ H P M en l R d l' h Q q => by
      unfold dVar at h
      split at h
      · rename_i d0 he
        cases h
        obtain ⟨v, h1, h2⟩ := R.dat i _ he
        exact ⟨v, h1, q _ _ _ R.refl h2⟩
      · cases h
    exact snd_op os_ix sv c2 L σ H P M en l R d l' h Q q
  · cases h
end
end Dx
end
section
set_option Elab.async false
set_option linter.all false
set_option maxRecDepth 100000
/-! Frac: what the defs over fractions are worth. -/
namespace Fc
open PySem Dx
abbrev D := PyData
def fr (a : Int × Int) : D := .tuple [.int a.1, .int a.2]
/-- reduced -/
def sg (b : Int) (g : Int) : Int := if b < 0 then -g else g
def red (t b : Int) : Int × Int := (t.fdiv (sg b (Int.gcd t b)), b.fdiv (sg b (Int.gcd t b)))
def m_reduced : DS := (dSeq (dSet 2 (dCB gGcd (dCons (dVar 0) (dCons (dVar 1) dNil))))
    (dSeq (dIfS (dTest (dOp gLt (dVar 1) (dC (.int 0))))
    (dSet 2 (dUn gNeg (dVar 2))) dNext)
    (dRet (dTup (dCons (dOp gDiv (dVar 0) (dVar 2)) (dCons (dOp gDiv (dVar 1) (dVar 2)) dNil))))))
def F_reduced : List D → Option D := runD 3 m_reduced
def m_plus : DS := (dRet (dCall 2 F_reduced (dCons (dOp gAdd (dOp gMul (dOp gIx (dVar 0) (dC (.int 0))) (dOp gIx (dVar 1) (dC (.int 1)))) (dOp gMul (dOp gIx (dVar 1) (dC (.int 0))) (dOp gIx (dVar 0) (dC (.int 1))))) (dCons (dOp gMul (dOp gIx (dVar 0) (dC (.int 1))) (dOp gIx (dVar 1) (dC (.int 1)))) dNil))))
def F_plus : List D → Option D := runD 2 m_plus
/-- small enough -/
def Bd (n : Nat) (x : Int) : Prop := x.natAbs < 2 ^ n
theorem log2_lt {n : Nat} {x : Nat} (h : x < 2 ^ n) (hn : 0 < n) : x.log2 < n := PySem.Flt.log2_lt_of hn h
theorem gIx0 (a : Int × Int) : gIx (fr a) (.int 0) = some (.int a.1) := rfl
theorem gIx1 (a : Int × Int) : gIx (fr a) (.int 1) = some (.int a.2) := rfl
theorem gcd_pos {t b : Int} (hb : b ≠ 0) : 0 < Int.gcd t b := Int.gcd_pos_of_ne_zero_right _ hb
theorem sg_ne {b g : Int} (h : 0 < g) : sg b g ≠ 0 := by unfold sg; split <;> omega
theorem F_reduced_eq {t b : Int} (hb : b ≠ 0) (h : Bd 9000 b) : F_reduced [.int t, .int b] = some (fr (red t b)) := by
  have hg := gcd_pos (t := t) hb
  have hd : cDiv t (sg b (Int.gcd t b)) = true ∧ cDiv b (sg b (Int.gcd t b)) = true := by
    have h1 : (sg b (Int.gcd t b)).natAbs ≤ b.natAbs := by
      have : Int.gcd t b ≤ b.natAbs := Nat.le_of_dvd (by omega) (Int.gcd_dvd_natAbs_right t b)
      unfold sg
      split <;> omega
    have h2 : (sg b (Int.gcd t b)).natAbs.log2 < 9000 := log2_lt (Nat.lt_of_le_of_lt h1 h) (by decide)
    have h3 : sg b (Int.gcd t b) ≠ 0 := sg_ne (by omega)
    unfold cDiv
    exact ⟨decide_eq_true ⟨h3, h2⟩, decide_eq_true ⟨h3, h2⟩⟩
  have hgg : ((Nat.gcd t.natAbs b.natAbs : Nat) : Int) = (Int.gcd t b : Int) := rfl
  by_cases c : b < 0
  · have e : sg b (Int.gcd t b) = -(Int.gcd t b : Int) := if_pos c
    rw [e] at hd
    simp [F_reduced, runD, m_reduced, dSeq, dSet, dCB, dCons, dVar, dNil, Res.bind, enOf, gGcd, g2L, dIfS, dTest, dOp, gLt, g2B, dC, dUn, gNeg, dNext, dRet, dTup, gDiv, g2IC, c, hgg, hd.1, hd.2, fr, red, e]
  · have e : sg b (Int.gcd t b) = (Int.gcd t b : Int) := if_neg c
    rw [e] at hd
    simp [F_reduced, runD, m_reduced, dSeq, dSet, dCB, dCons, dVar, dNil, Res.bind, enOf, gGcd, g2L, dIfS, dTest, dOp, gLt, g2B, dC, dUn, gNeg, dNext, dRet, dTup, gDiv, g2IC, c, hgg, hd.1, hd.2, fr, red, e]
theorem cMul_ok {n m : Nat} {i j : Int} (h : Bd n i) (k : Bd m j) (hn : n + m ≤ 1000000) (h0 : 0 < n) (h1 : 0 < m) : cMul i j = true := by
  have a := log2_lt h h0
  have b := log2_lt k h1
  exact decide_eq_true (by omega)
/-- a fraction of this size -/
structure Fd (n : Nat) (a : Int × Int) : Prop where
  t : Bd n a.1
  b : Bd n a.2
  p : 0 < a.2
def add (a b : Int × Int) : Int × Int := red (a.1 * b.2 + b.1 * a.2) (a.2 * b.2)
def mul (a b : Int × Int) : Int × Int := red (a.1 * b.1) (a.2 * b.2)
theorem Bd.mul {n m : Nat} {i j : Int} (h : Bd n i) (k : Bd m j) : Bd (n + m) (i * j) := by
  unfold Bd at *
  rw [Int.natAbs_mul, Nat.pow_add]
  exact Nat.mul_lt_mul'' h k
theorem Bd.up {n m : Nat} {i : Int} (h : Bd n i) (k : n ≤ m) : Bd m i := Nat.lt_of_lt_of_le h (Nat.pow_le_pow_right (by decide) k)
theorem F_plus_eq {a b : Int × Int} (ha : Fd 4000 a) (hb : Fd 4000 b) : F_plus [fr a, fr b] = some (fr (add a b)) := by
  have c1 := cMul_ok ha.t hb.b (by decide) (by decide) (by decide)
  have c2 := cMul_ok hb.t ha.b (by decide) (by decide) (by decide)
  have c3 := cMul_ok ha.b hb.b (by decide) (by decide) (by decide)
  have hne : a.2 * b.2 ≠ 0 := Int.ne_of_gt (Int.mul_pos ha.p hb.p)
  have h := F_reduced_eq (t := a.1 * b.2 + b.1 * a.2) hne ((ha.b.mul hb.b).up (by decide))
  simp [F_plus, runD, m_plus, dRet, dCall, dCons, dOp, dVar, dC, dNil, Res.bind, enOf, gIx0, gIx1, gMul, gAdd, c1, c2, c3, h, add]
end Fc
end
section
set_option Elab.async false
set_option linter.all false
set_option maxRecDepth 100000
set_option maxHeartbeats 4000000
namespace K02
open PySem PySem.Spec PyProof.Rows L2 Dx
def top (i : Nat) : Stmt := PySem.Challenge.pw_ironships_k02_whole_fractions_and_surds.main.body.getD i (.Pass ⟨0, 0, 0, 0⟩)
abbrev s_is_whole : Stmt := top 6
abbrev N_is_whole : List Str := ["value"]
abbrev p_is_whole : List Str := ["value"]
abbrev s_reduced : Stmt := top 7
abbrev N_reduced : List Str := ["top", "bottom", "common"]
abbrev p_reduced : List Str := ["top", "bottom"]
abbrev s_plus : Stmt := top 8
abbrev N_plus : List Str := ["fraction", "other"]
abbrev p_plus : List Str := ["fraction", "other"]
abbrev s_times : Stmt := top 9
abbrev N_times : List Str := ["fraction", "other"]
abbrev p_times : List Str := ["fraction", "other"]
abbrev s_sign_of : Stmt := top 10
abbrev N_sign_of : List Str := ["fraction"]
abbrev p_sign_of : List Str := ["fraction"]
abbrev s_whole_sign : Stmt := top 11
abbrev N_whole_sign : List Str := ["number"]
abbrev p_whole_sign : List Str := ["number"]
abbrev s_is_fraction : Stmt := top 13
abbrev N_is_fraction : List Str := ["value", "top", "bottom"]
abbrev p_is_fraction : List Str := ["value"]
abbrev s_is_surd : Stmt := top 14
abbrev N_is_surd : List Str := ["value", "part", "sign", "square"]
abbrev p_is_surd : List Str := ["value"]
abbrev s_surd_of : Stmt := top 15
abbrev N_surd_of : List Str := ["part", "factor", "fraction", "sign", "square", "root"]
abbrev p_surd_of : List Str := ["part", "factor", "fraction"]
abbrev s_check_fraction : Stmt := top 16
abbrev N_check_fraction : List Str := ["given"]
abbrev p_check_fraction : List Str := ["given"]
abbrev s_root_of : Stmt := top 17
abbrev N_root_of : List Str := ["square", "top", "bottom"]
abbrev p_root_of : List Str := ["square"]
abbrev s_law_lode : Stmt := top 19
abbrev N_law_lode : List Str := ["_law_script", "_law_lap", "_law_cell", "_law_stirred", "_law_each"]
abbrev p_law_lode : List Str := ["_law_script", "_law_lap"]
abbrev s_law_deal : Stmt := top 20
abbrev N_law_deal : List Str := ["_law_lode_here", "_law_many", "_law_digit", "_law_factor"]
abbrev p_law_deal : List Str := ["_law_lode_here", "_law_many"]
abbrev s_law_some : Stmt := top 21
abbrev N_law_some : List Str := ["_law_lode_here", "_law_some_here"]
abbrev p_law_some : List Str := ["_law_lode_here", "_law_some_here"]
abbrev s_law_about : Stmt := top 22
abbrev N_law_about : List Str := ["_law_lode_here", "_law_wide_here", "_law_high"]
abbrev p_law_about : List Str := ["_law_lode_here", "_law_wide_here"]
abbrev s_law_gcd : Stmt := top 23
abbrev N_law_gcd : List Str := ["_law_one", "_law_two"]
abbrev p_law_gcd : List Str := ["_law_one", "_law_two"]
abbrev s_law_low : Stmt := top 24
abbrev N_law_low : List Str := ["_law_numbers", "_law_common", "_law_each"]
abbrev p_law_low : List Str := ["_law_numbers"]
abbrev s_law_part : Stmt := top 25
abbrev N_law_part : List Str := ["_law_top", "_law_deep"]
abbrev p_law_part : List Str := ["_law_top", "_law_deep"]
abbrev s_law_add : Stmt := top 26
abbrev N_law_add : List Str := ["_law_one", "_law_two"]
abbrev p_law_add : List Str := ["_law_one", "_law_two"]
abbrev s_law_mul : Stmt := top 27
abbrev N_law_mul : List Str := ["_law_one", "_law_two"]
abbrev p_law_mul : List Str := ["_law_one", "_law_two"]
abbrev s_law_div : Stmt := top 28
abbrev N_law_div : List Str := ["_law_one", "_law_two"]
abbrev p_law_div : List Str := ["_law_one", "_law_two"]
abbrev s_law_back : Stmt := top 29
abbrev N_law_back : List Str := ["_law_one"]
abbrev p_law_back : List Str := ["_law_one"]
abbrev s_law_sign : Stmt := top 30
abbrev N_law_sign : List Str := ["_law_number"]
abbrev p_law_sign : List Str := ["_law_number"]
abbrev s_law_any_part : Stmt := top 31
abbrev N_law_any_part : List Str := ["_law_lode_here", "_law_wide_here"]
abbrev p_law_any_part : List Str := ["_law_lode_here", "_law_wide_here"]
abbrev s_law_over : Stmt := top 32
abbrev N_law_over : List Str := ["_law_lode_here", "_law_wide_here"]
abbrev p_law_over : List Str := ["_law_lode_here", "_law_wide_here"]
abbrev s_law_root : Stmt := top 33
abbrev N_law_root : List Str := ["_law_number", "_law_low_here", "_law_high", "_law_middle"]
abbrev p_law_root : List Str := ["_law_number"]
abbrev s_law_square_of : Stmt := top 34
abbrev N_law_square_of : List Str := ["_law_part_here", "_law_top", "_law_deep"]
abbrev p_law_square_of : List Str := ["_law_part_here"]
abbrev s_law_surd : Stmt := top 35
abbrev N_law_surd : List Str := ["_law_part_here", "_law_factor", "_law_square", "_law_inner", "_law_root_here"]
abbrev p_law_surd : List Str := ["_law_part_here", "_law_factor", "_law_square"]
abbrev s_law_some_square : Stmt := top 36
abbrev N_law_some_square : List Str := ["_law_lode_here", "_law_way", "_law_one"]
abbrev p_law_some_square : List Str := ["_law_lode_here"]
abbrev s_law_wide : Stmt := top 37
abbrev N_law_wide : List Str := ["_law_lode_here"]
abbrev p_law_wide : List Str := ["_law_lode_here"]
abbrev s_law_odd_parts : Stmt := top 38
abbrev N_law_odd_parts : List Str := ["_law_some_here"]
abbrev p_law_odd_parts : List Str := []
abbrev s_law_odd_surds : Stmt := top 39
abbrev N_law_odd_surds : List Str := ["_law_half", "_law_two", "_law_nil", "_law_some_here"]
abbrev p_law_odd_surds : List Str := []
abbrev s_law_is_part : Stmt := top 40
abbrev N_law_is_part : List Str := ["_law_value"]
abbrev p_law_is_part : List Str := ["_law_value"]
abbrev s_law_is_surd : Stmt := top 41
abbrev N_law_is_surd : List Str := ["_law_part_here", "_law_mark", "_law_square"]
abbrev p_law_is_surd : List Str := ["_law_part_here", "_law_mark", "_law_square"]
abbrev s_law_right : Stmt := top 42
abbrev N_law_right : List Str := ["_law_lode_here", "_law_wide_here", "_law_part_here", "_law_factor", "_law_square", "_law_due", "_law_inner", "_law_times", "_law_pair", "_law_mark", "_law_told", "_law_also", "_law_odd", "_law_bad"]
abbrev p_law_right : List Str := ["_law_lode_here"]
abbrev s_law : Stmt := top 43
abbrev N_law : List Str := ["_law_script", "_law_lap"]
abbrev p_law : List Str := ["_law_script"]
def k_NOUGHT : Dx.D := .tuple [.int 0, .int 1]
/-- what the text's top has written: A where each def stands, Fd its function -/
structure Txt (K : PySem.W.Frag) (mg : Str → Option Value) (A : Nat → Addr) (Fd : Nat → FuncData) : Prop where
  f_is_whole : Fun K "is_whole" "is_whole" s_is_whole (A 0) (Fd 0)
  g_is_whole : mg "is_whole" = some (.ref (A 0))
  kp_is_whole : PySem.W.keepIn K (.ref (A 0)) = true
  t_is_whole : Binds K (Fd 0) p_is_whole []
  f_reduced : Fun K "reduced" "reduced" s_reduced (A 1) (Fd 1)
  g_reduced : mg "reduced" = some (.ref (A 1))
  kp_reduced : PySem.W.keepIn K (.ref (A 1)) = true
  t_reduced : Binds K (Fd 1) p_reduced []
  f_plus : Fun K "plus" "plus" s_plus (A 2) (Fd 2)
  g_plus : mg "plus" = some (.ref (A 2))
  kp_plus : PySem.W.keepIn K (.ref (A 2)) = true
  t_plus : Binds K (Fd 2) p_plus []
  f_times : Fun K "times" "times" s_times (A 3) (Fd 3)
  g_times : mg "times" = some (.ref (A 3))
  kp_times : PySem.W.keepIn K (.ref (A 3)) = true
  t_times : Binds K (Fd 3) p_times []
  f_sign_of : Fun K "sign_of" "sign_of" s_sign_of (A 4) (Fd 4)
  g_sign_of : mg "sign_of" = some (.ref (A 4))
  kp_sign_of : PySem.W.keepIn K (.ref (A 4)) = true
  t_sign_of : Binds K (Fd 4) p_sign_of []
  f_whole_sign : Fun K "whole_sign" "whole_sign" s_whole_sign (A 5) (Fd 5)
  g_whole_sign : mg "whole_sign" = some (.ref (A 5))
  kp_whole_sign : PySem.W.keepIn K (.ref (A 5)) = true
  t_whole_sign : Binds K (Fd 5) p_whole_sign []
  f_is_fraction : Fun K "is_fraction" "is_fraction" s_is_fraction (A 6) (Fd 6)
  g_is_fraction : mg "is_fraction" = some (.ref (A 6))
  kp_is_fraction : PySem.W.keepIn K (.ref (A 6)) = true
  t_is_fraction : Binds K (Fd 6) p_is_fraction []
  f_is_surd : Fun K "is_surd" "is_surd" s_is_surd (A 7) (Fd 7)
  g_is_surd : mg "is_surd" = some (.ref (A 7))
  kp_is_surd : PySem.W.keepIn K (.ref (A 7)) = true
  t_is_surd : Binds K (Fd 7) p_is_surd []
  f_surd_of : Fun K "surd_of" "surd_of" s_surd_of (A 8) (Fd 8)
  g_surd_of : mg "surd_of" = some (.ref (A 8))
  kp_surd_of : PySem.W.keepIn K (.ref (A 8)) = true
  t_surd_of : Binds K (Fd 8) p_surd_of []
  f_check_fraction : Fun K "check_fraction" "check_fraction" s_check_fraction (A 9) (Fd 9)
  g_check_fraction : mg "check_fraction" = some (.ref (A 9))
  kp_check_fraction : PySem.W.keepIn K (.ref (A 9)) = true
  t_check_fraction : Binds K (Fd 9) p_check_fraction []
  f_root_of : Fun K "_root_of" "_root_of" s_root_of (A 10) (Fd 10)
  g_root_of : mg "_root_of" = some (.ref (A 10))
  kp_root_of : PySem.W.keepIn K (.ref (A 10)) = true
  t_root_of : Binds K (Fd 10) p_root_of []
  f_law_lode : Fun K "_law_lode" "_law_lode" s_law_lode (A 11) (Fd 11)
  g_law_lode : mg "_law_lode" = some (.ref (A 11))
  kp_law_lode : PySem.W.keepIn K (.ref (A 11)) = true
  t_law_lode : Binds K (Fd 11) p_law_lode []
  f_law_deal : Fun K "_law_deal" "_law_deal" s_law_deal (A 12) (Fd 12)
  g_law_deal : mg "_law_deal" = some (.ref (A 12))
  kp_law_deal : PySem.W.keepIn K (.ref (A 12)) = true
  t_law_deal : Binds K (Fd 12) p_law_deal []
  f_law_some : Fun K "_law_some" "_law_some" s_law_some (A 13) (Fd 13)
  g_law_some : mg "_law_some" = some (.ref (A 13))
  kp_law_some : PySem.W.keepIn K (.ref (A 13)) = true
  t_law_some : Binds K (Fd 13) p_law_some []
  f_law_about : Fun K "_law_about" "_law_about" s_law_about (A 14) (Fd 14)
  g_law_about : mg "_law_about" = some (.ref (A 14))
  kp_law_about : PySem.W.keepIn K (.ref (A 14)) = true
  t_law_about : Binds K (Fd 14) p_law_about []
  f_law_gcd : Fun K "_law_gcd" "_law_gcd" s_law_gcd (A 15) (Fd 15)
  g_law_gcd : mg "_law_gcd" = some (.ref (A 15))
  kp_law_gcd : PySem.W.keepIn K (.ref (A 15)) = true
  t_law_gcd : Binds K (Fd 15) p_law_gcd []
  f_law_low : Fun K "_law_low" "_law_low" s_law_low (A 16) (Fd 16)
  g_law_low : mg "_law_low" = some (.ref (A 16))
  kp_law_low : PySem.W.keepIn K (.ref (A 16)) = true
  t_law_low : Binds K (Fd 16) p_law_low []
  f_law_part : Fun K "_law_part" "_law_part" s_law_part (A 17) (Fd 17)
  g_law_part : mg "_law_part" = some (.ref (A 17))
  kp_law_part : PySem.W.keepIn K (.ref (A 17)) = true
  t_law_part : Binds K (Fd 17) p_law_part []
  f_law_add : Fun K "_law_add" "_law_add" s_law_add (A 18) (Fd 18)
  g_law_add : mg "_law_add" = some (.ref (A 18))
  kp_law_add : PySem.W.keepIn K (.ref (A 18)) = true
  t_law_add : Binds K (Fd 18) p_law_add []
  f_law_mul : Fun K "_law_mul" "_law_mul" s_law_mul (A 19) (Fd 19)
  g_law_mul : mg "_law_mul" = some (.ref (A 19))
  kp_law_mul : PySem.W.keepIn K (.ref (A 19)) = true
  t_law_mul : Binds K (Fd 19) p_law_mul []
  f_law_div : Fun K "_law_div" "_law_div" s_law_div (A 20) (Fd 20)
  g_law_div : mg "_law_div" = some (.ref (A 20))
  kp_law_div : PySem.W.keepIn K (.ref (A 20)) = true
  t_law_div : Binds K (Fd 20) p_law_div []
  f_law_back : Fun K "_law_back" "_law_back" s_law_back (A 21) (Fd 21)
  g_law_back : mg "_law_back" = some (.ref (A 21))
  kp_law_back : PySem.W.keepIn K (.ref (A 21)) = true
  t_law_back : Binds K (Fd 21) p_law_back []
  f_law_sign : Fun K "_law_sign" "_law_sign" s_law_sign (A 22) (Fd 22)
  g_law_sign : mg "_law_sign" = some (.ref (A 22))
  kp_law_sign : PySem.W.keepIn K (.ref (A 22)) = true
  t_law_sign : Binds K (Fd 22) p_law_sign []
  f_law_any_part : Fun K "_law_any_part" "_law_any_part" s_law_any_part (A 23) (Fd 23)
  g_law_any_part : mg "_law_any_part" = some (.ref (A 23))
  kp_law_any_part : PySem.W.keepIn K (.ref (A 23)) = true
  t_law_any_part : Binds K (Fd 23) p_law_any_part []
  f_law_over : Fun K "_law_over" "_law_over" s_law_over (A 24) (Fd 24)
  g_law_over : mg "_law_over" = some (.ref (A 24))
  kp_law_over : PySem.W.keepIn K (.ref (A 24)) = true
  t_law_over : Binds K (Fd 24) p_law_over []
  f_law_root : Fun K "_law_root" "_law_root" s_law_root (A 25) (Fd 25)
  g_law_root : mg "_law_root" = some (.ref (A 25))
  kp_law_root : PySem.W.keepIn K (.ref (A 25)) = true
  t_law_root : Binds K (Fd 25) p_law_root []
  f_law_square_of : Fun K "_law_square_of" "_law_square_of" s_law_square_of (A 26) (Fd 26)
  g_law_square_of : mg "_law_square_of" = some (.ref (A 26))
  kp_law_square_of : PySem.W.keepIn K (.ref (A 26)) = true
  t_law_square_of : Binds K (Fd 26) p_law_square_of []
  f_law_surd : Fun K "_law_surd" "_law_surd" s_law_surd (A 27) (Fd 27)
  g_law_surd : mg "_law_surd" = some (.ref (A 27))
  kp_law_surd : PySem.W.keepIn K (.ref (A 27)) = true
  t_law_surd : Binds K (Fd 27) p_law_surd []
  f_law_some_square : Fun K "_law_some_square" "_law_some_square" s_law_some_square (A 28) (Fd 28)
  g_law_some_square : mg "_law_some_square" = some (.ref (A 28))
  kp_law_some_square : PySem.W.keepIn K (.ref (A 28)) = true
  t_law_some_square : Binds K (Fd 28) p_law_some_square []
  f_law_wide : Fun K "_law_wide" "_law_wide" s_law_wide (A 29) (Fd 29)
  g_law_wide : mg "_law_wide" = some (.ref (A 29))
  kp_law_wide : PySem.W.keepIn K (.ref (A 29)) = true
  t_law_wide : Binds K (Fd 29) p_law_wide []
  f_law_odd_parts : Fun K "_law_odd_parts" "_law_odd_parts" s_law_odd_parts (A 30) (Fd 30)
  g_law_odd_parts : mg "_law_odd_parts" = some (.ref (A 30))
  kp_law_odd_parts : PySem.W.keepIn K (.ref (A 30)) = true
  t_law_odd_parts : Binds K (Fd 30) p_law_odd_parts []
  f_law_odd_surds : Fun K "_law_odd_surds" "_law_odd_surds" s_law_odd_surds (A 31) (Fd 31)
  g_law_odd_surds : mg "_law_odd_surds" = some (.ref (A 31))
  kp_law_odd_surds : PySem.W.keepIn K (.ref (A 31)) = true
  t_law_odd_surds : Binds K (Fd 31) p_law_odd_surds []
  f_law_is_part : Fun K "_law_is_part" "_law_is_part" s_law_is_part (A 32) (Fd 32)
  g_law_is_part : mg "_law_is_part" = some (.ref (A 32))
  kp_law_is_part : PySem.W.keepIn K (.ref (A 32)) = true
  t_law_is_part : Binds K (Fd 32) p_law_is_part []
  f_law_is_surd : Fun K "_law_is_surd" "_law_is_surd" s_law_is_surd (A 33) (Fd 33)
  g_law_is_surd : mg "_law_is_surd" = some (.ref (A 33))
  kp_law_is_surd : PySem.W.keepIn K (.ref (A 33)) = true
  t_law_is_surd : Binds K (Fd 33) p_law_is_surd []
  f_law_right : Fun K "_law_right" "_law_right" s_law_right (A 34) (Fd 34)
  g_law_right : mg "_law_right" = some (.ref (A 34))
  kp_law_right : PySem.W.keepIn K (.ref (A 34)) = true
  t_law_right : Binds K (Fd 34) p_law_right []
  f_law : Fun K "law" "law" s_law (A 35) (Fd 35)
  g_law : mg "law" = some (.ref (A 35))
  kp_law : PySem.W.keepIn K (.ref (A 35)) = true
  t_law : Binds K (Fd 35) p_law []
  w_surd_of_2_1_0 : KwB K (Fd 8) p_surd_of ["fraction", "factor", "part"] [2, 1, 0]
  w_is_fraction_0 : KwB K (Fd 6) p_is_fraction ["value"] [0]
  w_is_surd_0 : KwB K (Fd 7) p_is_surd ["value"] [0]
  b_isinstance : mg "isinstance" = none
  b_int : mg "int" = none
  b_bool : mg "bool" = none
  b_tuple : mg "tuple" = none
  b_len : mg "len" = none
  b_sum : mg "sum" = none
  b_abs : mg "abs" = none
  b_divmod : mg "divmod" = none
  b_min : mg "min" = none
  b_repr : mg "repr" = none
  b_all : mg "all" = none
  b_range : mg "range" = none
  b_max : mg "max" = none
  m_gcd : mg "gcd" = some (.builtin "math.gcd")
  m_isqrt : mg "isqrt" = some (.builtin "math.isqrt")
  u_NOUGHT : ∃ u, mg "NOUGHT" = some u ∧ KRp K u k_NOUGHT
theorem boot_isinstance : bootBuiltins "isinstance" = some (.builtin "isinstance") := by decide +kernel
theorem boot_int : bootBuiltins "int" = some (.type "int") := by decide +kernel
theorem boot_bool : bootBuiltins "bool" = some (.type "bool") := by decide +kernel
theorem boot_tuple : bootBuiltins "tuple" = some (.type "tuple") := by decide +kernel
theorem boot_len : bootBuiltins "len" = some (.builtin "len") := by decide +kernel
theorem boot_sum : bootBuiltins "sum" = some (.builtin "sum") := by decide +kernel
theorem boot_abs : bootBuiltins "abs" = some (.builtin "abs") := by decide +kernel
theorem boot_divmod : bootBuiltins "divmod" = some (.builtin "divmod") := by decide +kernel
theorem boot_min : bootBuiltins "min" = some (.builtin "min") := by decide +kernel
theorem boot_repr : bootBuiltins "repr" = some (.builtin "repr") := by decide +kernel
theorem boot_all : bootBuiltins "all" = some (.builtin "all") := by decide +kernel
theorem boot_range : bootBuiltins "range" = some (.type "range") := by decide +kernel
theorem boot_max : bootBuiltins "max" = some (.builtin "max") := by decide +kernel
theorem room70 {k : Nat} {A : Around} (r : Room k A) : A.units + 70 < cLine := by
  have := r.un
  omega
theorem room65 {k : Nat} {A : Around} (r : Room k A) : A.units + 65 < cLine := by
  have := r.un
  omega
theorem sc_is_whole : FnScope N_is_whole p_is_whole (defScope s_is_whole) := ⟨rfl, rfl, rfl, by decide +kernel, rfl, by decide +kernel, by decide +kernel⟩
theorem sc_reduced : FnScope N_reduced p_reduced (defScope s_reduced) := ⟨rfl, rfl, rfl, by decide +kernel, rfl, by decide +kernel, by decide +kernel⟩
theorem sc_plus : FnScope N_plus p_plus (defScope s_plus) := ⟨rfl, rfl, rfl, by decide +kernel, rfl, by decide +kernel, by decide +kernel⟩
theorem sc_times : FnScope N_times p_times (defScope s_times) := ⟨rfl, rfl, rfl, by decide +kernel, rfl, by decide +kernel, by decide +kernel⟩
theorem sc_sign_of : FnScope N_sign_of p_sign_of (defScope s_sign_of) := ⟨rfl, rfl, rfl, by decide +kernel, rfl, by decide +kernel, by decide +kernel⟩
theorem sc_whole_sign : FnScope N_whole_sign p_whole_sign (defScope s_whole_sign) := ⟨rfl, rfl, rfl, by decide +kernel, rfl, by decide +kernel, by decide +kernel⟩
theorem sc_is_fraction : FnScope N_is_fraction p_is_fraction (defScope s_is_fraction) := ⟨rfl, rfl, rfl, by decide +kernel, rfl, by decide +kernel, by decide +kernel⟩
theorem sc_is_surd : FnScope N_is_surd p_is_surd (defScope s_is_surd) := ⟨rfl, rfl, rfl, by decide +kernel, rfl, by decide +kernel, by decide +kernel⟩
theorem sc_surd_of : FnScope N_surd_of p_surd_of (defScope s_surd_of) := ⟨rfl, rfl, rfl, by decide +kernel, rfl, by decide +kernel, by decide +kernel⟩
theorem sc_check_fraction : FnScope N_check_fraction p_check_fraction (defScope s_check_fraction) := ⟨rfl, rfl, rfl, by decide +kernel, rfl, by decide +kernel, by decide +kernel⟩
theorem sc_root_of : FnScope N_root_of p_root_of (defScope s_root_of) := ⟨rfl, rfl, rfl, by decide +kernel, rfl, by decide +kernel, by decide +kernel⟩
theorem sc_law_lode : FnScope N_law_lode p_law_lode (defScope s_law_lode) := ⟨rfl, rfl, rfl, by decide +kernel, rfl, by decide +kernel, by decide +kernel⟩
theorem sc_law_deal : FnScope N_law_deal p_law_deal (defScope s_law_deal) := ⟨rfl, rfl, rfl, by decide +kernel, rfl, by decide +kernel, by decide +kernel⟩
theorem sc_law_some : FnScope N_law_some p_law_some (defScope s_law_some) := ⟨rfl, rfl, rfl, by decide +kernel, rfl, by decide +kernel, by decide +kernel⟩
theorem sc_law_about : FnScope N_law_about p_law_about (defScope s_law_about) := ⟨rfl, rfl, rfl, by decide +kernel, rfl, by decide +kernel, by decide +kernel⟩
theorem sc_law_gcd : FnScope N_law_gcd p_law_gcd (defScope s_law_gcd) := ⟨rfl, rfl, rfl, by decide +kernel, rfl, by decide +kernel, by decide +kernel⟩
theorem sc_law_low : FnScope N_law_low p_law_low (defScope s_law_low) := ⟨rfl, rfl, rfl, by decide +kernel, rfl, by decide +kernel, by decide +kernel⟩
theorem sc_law_part : FnScope N_law_part p_law_part (defScope s_law_part) := ⟨rfl, rfl, rfl, by decide +kernel, rfl, by decide +kernel, by decide +kernel⟩
theorem sc_law_add : FnScope N_law_add p_law_add (defScope s_law_add) := ⟨rfl, rfl, rfl, by decide +kernel, rfl, by decide +kernel, by decide +kernel⟩
theorem sc_law_mul : FnScope N_law_mul p_law_mul (defScope s_law_mul) := ⟨rfl, rfl, rfl, by decide +kernel, rfl, by decide +kernel, by decide +kernel⟩
theorem sc_law_div : FnScope N_law_div p_law_div (defScope s_law_div) := ⟨rfl, rfl, rfl, by decide +kernel, rfl, by decide +kernel, by decide +kernel⟩
theorem sc_law_back : FnScope N_law_back p_law_back (defScope s_law_back) := ⟨rfl, rfl, rfl, by decide +kernel, rfl, by decide +kernel, by decide +kernel⟩
theorem sc_law_sign : FnScope N_law_sign p_law_sign (defScope s_law_sign) := ⟨rfl, rfl, rfl, by decide +kernel, rfl, by decide +kernel, by decide +kernel⟩
theorem sc_law_any_part : FnScope N_law_any_part p_law_any_part (defScope s_law_any_part) := ⟨rfl, rfl, rfl, by decide +kernel, rfl, by decide +kernel, by decide +kernel⟩
theorem sc_law_over : FnScope N_law_over p_law_over (defScope s_law_over) := ⟨rfl, rfl, rfl, by decide +kernel, rfl, by decide +kernel, by decide +kernel⟩
theorem sc_law_root : FnScope N_law_root p_law_root (defScope s_law_root) := ⟨rfl, rfl, rfl, by decide +kernel, rfl, by decide +kernel, by decide +kernel⟩
theorem sc_law_square_of : FnScope N_law_square_of p_law_square_of (defScope s_law_square_of) := ⟨rfl, rfl, rfl, by decide +kernel, rfl, by decide +kernel, by decide +kernel⟩
theorem sc_law_surd : FnScope N_law_surd p_law_surd (defScope s_law_surd) := ⟨rfl, rfl, rfl, by decide +kernel, rfl, by decide +kernel, by decide +kernel⟩
theorem sc_law_some_square : FnScope N_law_some_square p_law_some_square (defScope s_law_some_square) := ⟨rfl, rfl, rfl, by decide +kernel, rfl, by decide +kernel, by decide +kernel⟩
theorem sc_law_wide : FnScope N_law_wide p_law_wide (defScope s_law_wide) := ⟨rfl, rfl, rfl, by decide +kernel, rfl, by decide +kernel, by decide +kernel⟩
theorem sc_law_odd_parts : FnScope N_law_odd_parts p_law_odd_parts (defScope s_law_odd_parts) := ⟨rfl, rfl, rfl, by decide +kernel, rfl, by decide +kernel, by decide +kernel⟩
theorem sc_law_odd_surds : FnScope N_law_odd_surds p_law_odd_surds (defScope s_law_odd_surds) := ⟨rfl, rfl, rfl, by decide +kernel, rfl, by decide +kernel, by decide +kernel⟩
theorem sc_law_is_part : FnScope N_law_is_part p_law_is_part (defScope s_law_is_part) := ⟨rfl, rfl, rfl, by decide +kernel, rfl, by decide +kernel, by decide +kernel⟩
theorem sc_law_is_surd : FnScope N_law_is_surd p_law_is_surd (defScope s_law_is_surd) := ⟨rfl, rfl, rfl, by decide +kernel, rfl, by decide +kernel, by decide +kernel⟩
theorem sc_law_right : FnScope N_law_right p_law_right (defScope s_law_right) := ⟨rfl, rfl, rfl, by decide +kernel, rfl, by decide +kernel, by decide +kernel⟩
theorem sc_law : FnScope N_law p_law (defScope s_law) := ⟨rfl, rfl, rfl, by decide +kernel, rfl, by decide +kernel, by decide +kernel⟩
section
variable {P : Program} {w : World} {K : PySem.W.Frag} {mg : Str → Option Value} {base : Heap} {A : Nat → Addr} {Fd : Nat → FuncData}
noncomputable def m_is_whole : DS := (dRet (dAndV (dIsi "int" (dVar 0)) (dNotV (dIsi "bool" (dVar 0)))))
noncomputable def F_is_whole : List Dx.D → Option Dx.D := runD 1 m_is_whole
theorem ok_is_whole (T : Txt K mg A Fd) : FnG P w K mg base CX0 1 (A 0) (Fd 0) p_is_whole (spD K 1 F_is_whole) := fnD (ds := m_is_whole) (k := 0) T.f_is_whole sc_is_whole fun cdv A0 outer s H E hg hr => by
  unfold m_is_whole
  exact (pds_one (pds_ret (pd_and (pd_isi (by rfl) T.b_isinstance (by rfl) T.b_int boot_int (pd_var 0)) (pd_bone (pd_not (pd_isi (by rfl) T.b_isinstance (by rfl) T.b_bool boot_bool (pd_var 0)))))))
noncomputable def m_reduced : DS := (dSeq (dSet 2 (dCB gGcd (dCons (dVar 0) (dCons (dVar 1) dNil))))
    (dSeq (dIfS (dTest (dOp gLt (dVar 1) (dC (.int 0))))
    (dSet 2 (dUn gNeg (dVar 2))) dNext)
    (dRet (dTup (dCons (dOp gDiv (dVar 0) (dVar 2)) (dCons (dOp gDiv (dVar 1) (dVar 2)) dNil))))))
noncomputable def F_reduced : List Dx.D → Option Dx.D := runD 3 m_reduced
theorem ok_reduced (T : Txt K mg A Fd) : FnG P w K mg base CX0 1 (A 1) (Fd 1) p_reduced (spD K 2 F_reduced) := fnD (ds := m_reduced) (k := 0) T.f_reduced sc_reduced fun cdv A0 outer s H E hg hr => by
  unfold m_reduced
  exact (pds_cons (pds_set (i := 2) sc_reduced.nd (pd_callM cr_gcd cs_gcd (by rfl) T.m_gcd (pda_cons (pd_var 0) (pda_cons (pd_var 1) pda_nil))))
    (pds_cons (pds_if (pdt_cmp op_lt os_lt (pd_var 1) pd_int (nomark _))
    (pds_one (pds_set (i := 2) sc_reduced.nd (pd_un un_neg us_neg (pd_var 2)))) pds_nil)
    (pds_one (pds_ret (pd_tup (pda_cons (pd_op op_fdivA os_div (pd_var 0) (pd_var 2)) (pda_cons (pd_op op_fdivA os_div (pd_var 1) (pd_var 2)) pda_nil)))))))
noncomputable def m_plus : DS := (dRet (dCall 2 F_reduced (dCons (dOp gAdd (dOp gMul (dOp gIx (dVar 0) (dC (.int 0))) (dOp gIx (dVar 1) (dC (.int 1)))) (dOp gMul (dOp gIx (dVar 1) (dC (.int 0))) (dOp gIx (dVar 0) (dC (.int 1))))) (dCons (dOp gMul (dOp gIx (dVar 0) (dC (.int 1))) (dOp gIx (dVar 1) (dC (.int 1)))) dNil))))
noncomputable def F_plus : List Dx.D → Option Dx.D := runD 2 m_plus
theorem ok_plus (T : Txt K mg A Fd) : FnG P w K mg base CX0 2 (A 2) (Fd 2) p_plus (spD K 2 F_plus) := fnD (ds := m_plus) (k := 1) T.f_plus sc_plus fun cdv A0 outer s H E hg hr => by
  unfold m_plus
  exact (pds_one (pds_ret (pd_call (ok_reduced T) hg (hr.mono (by decide)) (by rfl) T.g_reduced T.kp_reduced T.t_reduced (pda_cons (pd_op op_addA os_add (pd_op op_mulA os_mul (pd_ix ix_seq os_ix (pd_var 0) pd_int (fun _ _ => rfl)) (pd_ix ix_seq os_ix (pd_var 1) pd_int (fun _ _ => rfl))) (pd_op op_mulA os_mul (pd_ix ix_seq os_ix (pd_var 1) pd_int (fun _ _ => rfl)) (pd_ix ix_seq os_ix (pd_var 0) pd_int (fun _ _ => rfl)))) (pda_cons (pd_op op_mulA os_mul (pd_ix ix_seq os_ix (pd_var 0) pd_int (fun _ _ => rfl)) (pd_ix ix_seq os_ix (pd_var 1) pd_int (fun _ _ => rfl))) pda_nil)))))
noncomputable def m_times : DS := (dRet (dCall 2 F_reduced (dCons (dOp gMul (dOp gIx (dVar 0) (dC (.int 0))) (dOp gIx (dVar 1) (dC (.int 0)))) (dCons (dOp gMul (dOp gIx (dVar 0) (dC (.int 1))) (dOp gIx (dVar 1) (dC (.int 1)))) dNil))))
noncomputable def F_times : List Dx.D → Option Dx.D := runD 2 m_times
theorem ok_times (T : Txt K mg A Fd) : FnG P w K mg base CX0 2 (A 3) (Fd 3) p_times (spD K 2 F_times) := fnD (ds := m_times) (k := 1) T.f_times sc_times fun cdv A0 outer s H E hg hr => by
  unfold m_times
  exact (pds_one (pds_ret (pd_call (ok_reduced T) hg (hr.mono (by decide)) (by rfl) T.g_reduced T.kp_reduced T.t_reduced (pda_cons (pd_op op_mulA os_mul (pd_ix ix_seq os_ix (pd_var 0) pd_int (fun _ _ => rfl)) (pd_ix ix_seq os_ix (pd_var 1) pd_int (fun _ _ => rfl))) (pda_cons (pd_op op_mulA os_mul (pd_ix ix_seq os_ix (pd_var 0) pd_int (fun _ _ => rfl)) (pd_ix ix_seq os_ix (pd_var 1) pd_int (fun _ _ => rfl))) pda_nil)))))
noncomputable def m_whole_sign : DS := (dSeq (dIfS (dTest (dOp gEqA (dVar 0) (dC (.int 0))))
    (dRet (dC (.int 0))) dNext)
    (dRet (dIf (dTest (dOp gGt (dVar 0) (dC (.int 0)))) (dC (.int 1)) (dUn gNeg (dC (.int 1))))))
noncomputable def F_whole_sign : List Dx.D → Option Dx.D := runD 1 m_whole_sign
theorem ok_whole_sign (T : Txt K mg A Fd) : FnG P w K mg base CX0 1 (A 5) (Fd 5) p_whole_sign (spD K 1 F_whole_sign) := fnD (ds := m_whole_sign) (k := 0) T.f_whole_sign sc_whole_sign fun cdv A0 outer s H E hg hr => by
  unfold m_whole_sign
  exact (pds_cons (pds_if (pdt_cmp (op_eqA hr.units) os_eqA (pd_var 0) pd_int (nomark _))
    (pds_one (pds_ret pd_int)) pds_nil)
    (pds_one (pds_ret (pd_ite (pdt_cmp op_gt os_gt (pd_var 0) pd_int (nomark _)) pd_int (pd_un un_neg us_neg pd_int)))))
noncomputable def m_sign_of : DS := (dRet (dCall 1 F_whole_sign (dCons (dOp gIx (dVar 0) (dC (.int 0))) dNil)))
noncomputable def F_sign_of : List Dx.D → Option Dx.D := runD 1 m_sign_of
theorem ok_sign_of (T : Txt K mg A Fd) : FnG P w K mg base CX0 2 (A 4) (Fd 4) p_sign_of (spD K 1 F_sign_of) := fnD (ds := m_sign_of) (k := 1) T.f_sign_of sc_sign_of fun cdv A0 outer s H E hg hr => by
  unfold m_sign_of
  exact (pds_one (pds_ret (pd_call (ok_whole_sign T) hg (hr.mono (by decide)) (by rfl) T.g_whole_sign T.kp_whole_sign T.t_whole_sign (pda_cons (pd_ix ix_seq os_ix (pd_var 0) pd_int (fun _ _ => rfl)) pda_nil))))
noncomputable def m_is_fraction : DS := (dSeq (dIfS (dOr (dNot (dTest (dIsi "tuple" (dVar 0)))) (dTest (dOp gNeA (dCB gLen (dCons (dVar 0) dNil)) (dC (.int 2)))))
    (dRet (dC (.bool false))) dNext)
    (dSeq (dAsg (dGTup 2 (dGCons (dName 1) (dGCons (dName 2) dGNil))) (dVar 0))
    (dRet (dAndV (dCall 1 F_is_whole (dCons (dVar 1) dNil)) (dAndV (dCall 1 F_is_whole (dCons (dVar 2) dNil)) (dAndV (dOp gGt (dVar 2) (dC (.int 0))) (dOp gEqA (dCB gGcd (dCons (dVar 1) (dCons (dVar 2) dNil))) (dC (.int 1)))))))))
noncomputable def F_is_fraction : List Dx.D → Option Dx.D := runD 3 m_is_fraction
theorem ok_is_fraction (T : Txt K mg A Fd) : FnG P w K mg base CX0 2 (A 6) (Fd 6) p_is_fraction (spD K 1 F_is_fraction) := fnD (ds := m_is_fraction) (k := 1) T.f_is_fraction sc_is_fraction fun cdv A0 outer s H E hg hr => by
  unfold m_is_fraction
  exact (pds_cons (pds_if (pdt_w (pdw_or (pdt_not (pdt_v (pd_isi (by rfl) T.b_isinstance (by rfl) T.b_tuple boot_tuple (pd_var 0)))) (pdw_or1 (pdt_cmp (op_neA hr.units) os_neA (pd_callB call_len cs_len (by rfl) T.b_len boot_len (pda_cons (pd_var 0) pda_nil)) pd_int (nomark _)))))
    (pds_one (pds_ret pd_bl)) pds_nil)
    (pds_cons (pds_asg (pd_var 0) (pdg_tup rfl (pdg_cons (pdg_name sc_is_fraction.nd) (pdg_cons (pdg_name sc_is_fraction.nd) pdg_nil))))
    (pds_one (pds_ret (pd_and (pd_call (ok_is_whole T) hg (hr.mono (by decide)) (by rfl) T.g_is_whole T.kp_is_whole T.t_is_whole (pda_cons (pd_var 1) pda_nil)) (pd_and (pd_call (ok_is_whole T) hg (hr.mono (by decide)) (by rfl) T.g_is_whole T.kp_is_whole T.t_is_whole (pda_cons (pd_var 2) pda_nil)) (pd_and (pd_cmp op_gt os_gt (pd_var 2) pd_int (nomark _)) (pd_bone (pd_cmp (op_eqA hr.units) os_eqA (pd_callM cr_gcd cs_gcd (by rfl) T.m_gcd (pda_cons (pd_var 1) (pda_cons (pd_var 2) pda_nil))) pd_int (nomark _))))))))))
noncomputable def m_root_of : DS := (dSeq (dPar [1, 2] (dCons (dCB gIsqrt (dCons (dOp gIx (dVar 0) (dC (.int 0))) dNil)) (dCons (dCB gIsqrt (dCons (dOp gIx (dVar 0) (dC (.int 1))) dNil)) dNil)))
    (dSeq (dIfS (dOr (dTest (dOp gNeA (dOp gMul (dVar 1) (dVar 1)) (dOp gIx (dVar 0) (dC (.int 0))))) (dTest (dOp gNeA (dOp gMul (dVar 2) (dVar 2)) (dOp gIx (dVar 0) (dC (.int 1))))))
    (dRet (dC .none)) dNext)
    (dRet (dTup (dCons (dVar 1) (dCons (dVar 2) dNil))))))
noncomputable def F_root_of : List Dx.D → Option Dx.D := runD 3 m_root_of
theorem ok_root_of (T : Txt K mg A Fd) : FnG P w K mg base CX0 1 (A 10) (Fd 10) p_root_of (spD K 1 F_root_of) := fnD (ds := m_root_of) (k := 0) T.f_root_of sc_root_of fun cdv A0 outer s H E hg hr => by
  unfold m_root_of
  exact (pds_cons (pds_par (i := 1) (j := 2) rfl sc_root_of.nd (pda_cons (pd_callM cr_isqrt cs_isqrt (by rfl) T.m_isqrt (pda_cons (pd_ix ix_seq os_ix (pd_var 0) pd_int (fun _ _ => rfl)) pda_nil)) (pda_cons (pd_callM cr_isqrt cs_isqrt (by rfl) T.m_isqrt (pda_cons (pd_ix ix_seq os_ix (pd_var 0) pd_int (fun _ _ => rfl)) pda_nil)) pda_nil)))
    (pds_cons (pds_if (pdt_w (pdw_or (pdt_cmp (op_neA hr.units) os_neA (pd_op op_mulA os_mul (pd_var 1) (pd_var 1)) (pd_ix ix_seq os_ix (pd_var 0) pd_int (fun _ _ => rfl)) (nomark _)) (pdw_or1 (pdt_cmp (op_neA hr.units) os_neA (pd_op op_mulA os_mul (pd_var 2) (pd_var 2)) (pd_ix ix_seq os_ix (pd_var 0) pd_int (fun _ _ => rfl)) (nomark _)))))
    (pds_one (pds_ret pd_non)) pds_nil)
    (pds_one (pds_ret (pd_tup (pda_cons (pd_var 1) (pda_cons (pd_var 2) pda_nil)))))))
noncomputable def m_is_surd : DS := (dSeq (dIfS (dOr (dNot (dTest (dIsi "tuple" (dVar 0)))) (dTest (dOp gNeA (dCB gLen (dCons (dVar 0) dNil)) (dC (.int 3)))))
    (dRet (dC (.bool false))) dNext)
    (dSeq (dAsg (dGTup 3 (dGCons (dName 1) (dGCons (dName 2) (dGCons (dName 3) dGNil)))) (dVar 0))
    (dSeq (dIfS (dOr (dNot (dTest (dCall 1 F_is_fraction (dCons (dVar 1) dNil)))) (dOr (dNot (dTest (dCall 1 F_is_whole (dCons (dVar 2) dNil)))) (dNot (dTest (dCall 1 F_is_fraction (dCons (dVar 3) dNil))))))
    (dRet (dC (.bool false))) dNext)
    (dSeq (dIfS (dTest (dOp gEqA (dVar 2) (dC (.int 0))))
    (dRet (dOp gEqA (dVar 3) (dC k_NOUGHT))) dNext)
    (dRet (dAndV (dOp gIn (dVar 2) (dTup (dCons (dUn gNeg (dC (.int 1))) (dCons (dC (.int 1)) dNil)))) (dAndV (dOp gGt (dCall 1 F_sign_of (dCons (dVar 3) dNil)) (dC (.int 0))) (dOp gIsN (dCall 1 F_root_of (dCons (dVar 3) dNil)) (dC .none)))))))))
noncomputable def F_is_surd : List Dx.D → Option Dx.D := runD 4 m_is_surd
theorem ok_is_surd (T : Txt K mg A Fd) : FnG P w K mg base CX0 3 (A 7) (Fd 7) p_is_surd (spD K 1 F_is_surd) := fnD (ds := m_is_surd) (k := 2) T.f_is_surd sc_is_surd fun cdv A0 outer s H E hg hr => by
  unfold m_is_surd
  exact (pds_cons (pds_if (pdt_w (pdw_or (pdt_not (pdt_v (pd_isi (by rfl) T.b_isinstance (by rfl) T.b_tuple boot_tuple (pd_var 0)))) (pdw_or1 (pdt_cmp (op_neA hr.units) os_neA (pd_callB call_len cs_len (by rfl) T.b_len boot_len (pda_cons (pd_var 0) pda_nil)) pd_int (nomark _)))))
    (pds_one (pds_ret pd_bl)) pds_nil)
    (pds_cons (pds_asg (pd_var 0) (pdg_tup rfl (pdg_cons (pdg_name sc_is_surd.nd) (pdg_cons (pdg_name sc_is_surd.nd) (pdg_cons (pdg_name sc_is_surd.nd) pdg_nil)))))
    (pds_cons (pds_if (pdt_w (pdw_or (pdt_not (pdt_v (pd_call (ok_is_fraction T) hg (hr.mono (by decide)) (by rfl) T.g_is_fraction T.kp_is_fraction T.t_is_fraction (pda_cons (pd_var 1) pda_nil)))) (pdw_or (pdt_not (pdt_v (pd_call (ok_is_whole T) hg (hr.mono (by decide)) (by rfl) T.g_is_whole T.kp_is_whole T.t_is_whole (pda_cons (pd_var 2) pda_nil)))) (pdw_or1 (pdt_not (pdt_v (pd_call (ok_is_fraction T) hg (hr.mono (by decide)) (by rfl) T.g_is_fraction T.kp_is_fraction T.t_is_fraction (pda_cons (pd_var 3) pda_nil))))))))
    (pds_one (pds_ret pd_bl)) pds_nil)
    (pds_cons (pds_if (pdt_cmp (op_eqA hr.units) os_eqA (pd_var 2) pd_int (nomark _))
    (pds_one (pds_ret (pd_cmp (op_eqA hr.units) os_eqA (pd_var 3) (pd_konst (by rfl) T.u_NOUGHT.choose_spec.1 T.u_NOUGHT.choose_spec.2) (nomark _)))) pds_nil)
    (pds_one (pds_ret (pd_and (pd_cmp (op_inA (room65 hr)) os_in (pd_var 2) (pd_tup (pda_cons (pd_un un_neg us_neg pd_int) (pda_cons pd_int pda_nil))) rfl) (pd_and (pd_cmp op_gt os_gt (pd_call (ok_sign_of T) hg (hr.mono (by decide)) (by rfl) T.g_sign_of T.kp_sign_of T.t_sign_of (pda_cons (pd_var 3) pda_nil)) pd_int (nomark _)) (pd_bone (pd_cmp op_isN os_isN (pd_call (ok_root_of T) hg (hr.mono (by decide)) (by rfl) T.g_root_of T.kp_root_of T.t_root_of (pda_cons (pd_var 3) pda_nil)) pd_non (nomark _)))))))))))
noncomputable def m_check_fraction : DS := (dIfS (dNot (dTest (dCall 1 F_is_fraction (dCons (dVar 0) dNil))))
    dNever dNext)
noncomputable def F_check_fraction : List Dx.D → Option Dx.D := runD 1 m_check_fraction
theorem ok_check_fraction (T : Txt K mg A Fd) : FnG P w K mg base CX0 3 (A 9) (Fd 9) p_check_fraction (spD K 1 F_check_fraction) := fnD (ds := m_check_fraction) (k := 2) T.f_check_fraction sc_check_fraction fun cdv A0 outer s H E hg hr => by
  unfold m_check_fraction
  exact (pds_one (pds_if (pdt_not (pdt_v (pd_call (ok_is_fraction T) hg (hr.mono (by decide)) (by rfl) T.g_is_fraction T.kp_is_fraction T.t_is_fraction (pda_cons (pd_var 0) pda_nil))))
    (pds_one pds_never) pds_nil))
noncomputable def m_surd_of : DS := (dSeq (dDrop (dCall 1 F_check_fraction (dCons (dVar 0) dNil)))
    (dSeq (dDrop (dCall 1 F_check_fraction (dCons (dVar 1) dNil)))
    (dSeq (dDrop (dCall 1 F_check_fraction (dCons (dVar 2) dNil)))
    (dSeq (dIfS (dTest (dOp gLt (dCall 1 F_sign_of (dCons (dVar 2) dNil)) (dC (.int 0))))
    dNever dNext)
    (dSeq (dSet 3 (dCall 1 F_sign_of (dCons (dVar 1) dNil)))
    (dSeq (dSet 4 (dCall 2 F_times (dCons (dCall 2 F_times (dCons (dVar 1) (dCons (dVar 1) dNil))) (dCons (dVar 2) dNil))))
    (dSeq (dSet 5 (dCall 1 F_root_of (dCons (dVar 4) dNil)))
    (dSeq (dIfS (dTest (dOp gIsN (dVar 5) (dC .none)))
    (dRet (dTup (dCons (dVar 0) (dCons (dVar 3) (dCons (dVar 4) dNil))))) dNext)
    (dRet (dTup (dCons (dCall 2 F_plus (dCons (dVar 0) (dCons (dTup (dCons (dOp gMul (dVar 3) (dOp gIx (dVar 5) (dC (.int 0)))) (dCons (dOp gIx (dVar 5) (dC (.int 1))) dNil))) dNil))) (dCons (dC (.int 0)) (dCons (dC k_NOUGHT) dNil)))))))))))))
noncomputable def F_surd_of : List Dx.D → Option Dx.D := runD 6 m_surd_of
theorem ok_surd_of (T : Txt K mg A Fd) : FnG P w K mg base CX0 4 (A 8) (Fd 8) p_surd_of (spD K 3 F_surd_of) := fnD (ds := m_surd_of) (k := 3) T.f_surd_of sc_surd_of fun cdv A0 outer s H E hg hr => by
  unfold m_surd_of
  exact (pds_cons (pds_drop (pd_call (ok_check_fraction T) hg (hr.mono (by decide)) (by rfl) T.g_check_fraction T.kp_check_fraction T.t_check_fraction (pda_cons (pd_var 0) pda_nil)))
    (pds_cons (pds_drop (pd_call (ok_check_fraction T) hg (hr.mono (by decide)) (by rfl) T.g_check_fraction T.kp_check_fraction T.t_check_fraction (pda_cons (pd_var 1) pda_nil)))
    (pds_cons (pds_drop (pd_call (ok_check_fraction T) hg (hr.mono (by decide)) (by rfl) T.g_check_fraction T.kp_check_fraction T.t_check_fraction (pda_cons (pd_var 2) pda_nil)))
    (pds_cons (pds_if (pdt_cmp op_lt os_lt (pd_call (ok_sign_of T) hg (hr.mono (by decide)) (by rfl) T.g_sign_of T.kp_sign_of T.t_sign_of (pda_cons (pd_var 2) pda_nil)) pd_int (nomark _))
    (pds_one pds_never) pds_nil)
    (pds_cons (pds_set (i := 3) sc_surd_of.nd (pd_call (ok_sign_of T) hg (hr.mono (by decide)) (by rfl) T.g_sign_of T.kp_sign_of T.t_sign_of (pda_cons (pd_var 1) pda_nil)))
    (pds_cons (pds_set (i := 4) sc_surd_of.nd (pd_call (ok_times T) hg (hr.mono (by decide)) (by rfl) T.g_times T.kp_times T.t_times (pda_cons (pd_call (ok_times T) hg (hr.mono (by decide)) (by rfl) T.g_times T.kp_times T.t_times (pda_cons (pd_var 1) (pda_cons (pd_var 1) pda_nil))) (pda_cons (pd_var 2) pda_nil))))
    (pds_cons (pds_set (i := 5) sc_surd_of.nd (pd_call (ok_root_of T) hg (hr.mono (by decide)) (by rfl) T.g_root_of T.kp_root_of T.t_root_of (pda_cons (pd_var 4) pda_nil)))
    (pds_cons (pds_if (pdt_cmp op_isN os_isN (pd_var 5) pd_non (nomark _))
    (pds_one (pds_ret (pd_tup (pda_cons (pd_var 0) (pda_cons (pd_var 3) (pda_cons (pd_var 4) pda_nil)))))) pds_nil)
    (pds_one (pds_ret (pd_tup (pda_cons (pd_call (ok_plus T) hg (hr.mono (by decide)) (by rfl) T.g_plus T.kp_plus T.t_plus (pda_cons (pd_var 0) (pda_cons (pd_tup (pda_cons (pd_op op_mulA os_mul (pd_var 3) (pd_ix ix_seq os_ix (pd_var 5) pd_int (fun _ _ => rfl))) (pda_cons (pd_ix ix_seq os_ix (pd_var 5) pd_int (fun _ _ => rfl)) pda_nil))) pda_nil))) (pda_cons pd_int (pda_cons (pd_konst (by rfl) T.u_NOUGHT.choose_spec.1 T.u_NOUGHT.choose_spec.2) pda_nil))))))))))))))
noncomputable def m_law_lode : DS := (dSeq (dSet 2 (dIf (dTest (dOp gLt (dVar 1) (dCB gLen (dCons (dVar 0) dNil)))) (dCB gInt (dCons (dOp gIx (dVar 0) (dVar 1)) dNil)) (dOp gAdd (dOp gAdd (dOp gMul (dC (.int 6113)) (dVar 1)) (dC (.int 41))) (dOp gMod (dCB gInt (dCons (dCB gSum (dCons (dSl (dVar 0) dONone (dOSome (dC (.int 5)))) dNil)) dNil)) (dC (.int 1000133))))))
    (dSeq (dSet 3 (dOp gAdd (dC (.int 27191)) (dOp gMul (dC (.int 1409)) (dVar 1))))
    (dSeq (dFor (dIt (dOp gAdd (dSl (dVar 0) dONone (dOSome (dC (.int 11)))) (dLst (dCons (dVar 2) dNil)))) (dName 4) (dSet 3 (dOp gMod (dCB gInt (dCons (dOp gAdd (dOp gAdd (dOp gMul (dVar 3) (dC (.int 39373))) (dOp gMod (dCB gInt (dCons (dVar 4) dNil)) (dC (.int 2147483477)))) (dC (.int 17))) dNil)) (dC (.int 2147483477)))))
    (dRet (dLst (dCons (dIf (dOr (dTest (dOp gLt (dVar 2) (dC (.int 0)))) (dTest (dOp gGe (dVar 2) (dOp gPow (dC (.int 10)) (dC (.int 18)))))) (dCB gAbs (dCons (dVar 2) dNil)) (dC (.int 0))) (dCons (dVar 3) (dCons (dC (.int 0)) dNil))))))))
noncomputable def F_law_lode : List Dx.D → Option Dx.D := runD 5 m_law_lode
theorem ok_law_lode (T : Txt K mg A Fd) : FnG P w K mg base CX0 1 (A 11) (Fd 11) p_law_lode (spD K 2 F_law_lode) := fnD (ds := m_law_lode) (k := 0) T.f_law_lode sc_law_lode fun cdv A0 outer s H E hg hr => by
  unfold m_law_lode
  exact (pds_cons (pds_set (i := 2) sc_law_lode.nd (pd_ite (pdt_cmp op_lt os_lt (pd_var 1) (pd_callB call_len cs_len (by rfl) T.b_len boot_len (pda_cons (pd_var 0) pda_nil)) (nomark _)) (pd_callTy call_int1 cs_int (by rfl) T.b_int boot_int (pda_cons (pd_ix ix_seq os_ix (pd_var 0) (pd_var 1) (fun _ _ => rfl)) pda_nil)) (pd_op op_addA os_add (pd_op op_addA os_add (pd_op op_mulA os_mul pd_int (pd_var 1)) pd_int) (pd_op op_modN os_mod (pd_callTy call_int1 cs_int (by rfl) T.b_int boot_int (pda_cons (pd_callB (cr_sum rfl) cs_sum (by rfl) T.b_sum boot_sum (pda_cons (pd_sl (pd_var 0) pdo_none (pdo_some pd_int)) pda_nil)) pda_nil)) pd_int))))
    (pds_cons (pds_set (i := 3) sc_law_lode.nd (pd_op op_addA os_add pd_int (pd_op op_mulA os_mul pd_int (pd_var 1))))
    (pds_cons (pds_for rfl (pdi_seq (pd_op op_addA os_add (pd_sl (pd_var 0) pdo_none (pdo_some pd_int)) (pd_lst (pda_cons (pd_var 2) pda_nil)))) (pdg_name sc_law_lode.nd) (pds_one (pds_set (i := 3) sc_law_lode.nd (pd_op op_modN os_mod (pd_callTy call_int1 cs_int (by rfl) T.b_int boot_int (pda_cons (pd_op op_addA os_add (pd_op op_addA os_add (pd_op op_mulA os_mul (pd_var 3) pd_int) (pd_op op_modN os_mod (pd_callTy call_int1 cs_int (by rfl) T.b_int boot_int (pda_cons (pd_var 4) pda_nil)) pd_int)) pd_int) pda_nil)) pd_int))) PassesOwn.never)
    (pds_one (pds_ret (pd_lst (pda_cons (pd_ite (pdt_w (pdw_or (pdt_cmp op_lt os_lt (pd_var 2) pd_int (nomark _)) (pdw_or1 (pdt_cmp op_ge os_ge (pd_var 2) (pd_op op_pow os_pow pd_int pd_int) (nomark _))))) (pd_callB call_abs cs_abs (by rfl) T.b_abs boot_abs (pda_cons (pd_var 2) pda_nil)) pd_int) (pda_cons (pd_var 3) (pda_cons pd_int pda_nil)))))))))
noncomputable def m_law_deal : DS := (dSeq (dIfS (dTest (dOp gGt (dLo 0 0) (dC (.int 0))))
    (dSeq (dDivLo 0 2 1)
    (dRet (dVar 2))) dNext)
    (dSeq (dSetLo 0 2 (dOp gAdd (dLo 0 2) (dC (.int 1))))
    (dSeq (dSet 3 (dOp gAdd (dOp gMod (dCB gInt (dCons (dLo 0 1) dNil)) (dC (.int 17011))) (dC (.int 23003))))
    (dSeq (dSetLo 0 1 (dOp gMod (dCB gInt (dCons (dOp gAdd (dOp gAdd (dOp gMul (dLo 0 1) (dVar 3)) (dOp gMul (dC (.int 60013)) (dLo 0 2))) (dC (.int 41))) dNil)) (dC (.int 2147483477))))
    (dRet (dOp gMod (dCB gInt (dCons (dOp gDiv (dLo 0 1) (dC (.int 89))) dNil)) (dVar 1)))))))
noncomputable def F_law_deal : List Dx.D → Ld → Res Dx.D := runL 4 m_law_deal
theorem ok_law_deal (T : Txt K mg A Fd) : FnG P w K mg base CX0 1 (A 12) (Fd 12) p_law_deal (spL K 1 F_law_deal) := fnL (ds := m_law_deal) (k := 0) T.f_law_deal sc_law_deal (by decide) (by decide) fun cdv A0 outer s H E hg hr => by
  unfold m_law_deal
  exact (pds_cons (pds_if (pdt_cmp op_gt os_gt (pd_lo 0 0 (pv 0)) pd_int (nomark _))
    (pds_cons (pds_divLo (i := 0) (x := 2) (y := 1) sc_law_deal.nd rfl (pv 0) (pv 0) (pv 1) (by rfl) T.b_divmod)
    (pds_one (pds_ret (pd_var 2)))) pds_nil)
    (pds_cons (pds_setLo 0 2 (pv 0) (pd_op op_addA os_add (pd_lo 0 2 (pv 0)) pd_int))
    (pds_cons (pds_set (i := 3) sc_law_deal.nd (pd_op op_addA os_add (pd_op op_modN os_mod (pd_callTy call_int1 cs_int (by rfl) T.b_int boot_int (pda_cons (pd_lo 0 1 (pv 0)) pda_nil)) pd_int) pd_int))
    (pds_cons (pds_setLo 0 1 (pv 0) (pd_op op_modN os_mod (pd_callTy call_int1 cs_int (by rfl) T.b_int boot_int (pda_cons (pd_op op_addA os_add (pd_op op_addA os_add (pd_op op_mulA os_mul (pd_lo 0 1 (pv 0)) (pd_var 3)) (pd_op op_mulA os_mul pd_int (pd_lo 0 2 (pv 0)))) pd_int) pda_nil)) pd_int))
    (pds_one (pds_ret (pd_op op_modN os_mod (pd_callTy call_int1 cs_int (by rfl) T.b_int boot_int (pda_cons (pd_op op_fdivA os_div (pd_lo 0 1 (pv 0)) pd_int) pda_nil)) (pd_var 1))))))))
noncomputable def m_law_some : DS := (dRet (dOp gIx (dVar 1) (dCallL 0 1 F_law_deal (dCons (dCB gLen (dCons (dVar 1) dNil)) dNil))))
noncomputable def F_law_some : List Dx.D → Ld → Res Dx.D := runL 2 m_law_some
theorem ok_law_some (T : Txt K mg A Fd) : FnG P w K mg base CX0 2 (A 13) (Fd 13) p_law_some (spL K 1 F_law_some) := fnL (ds := m_law_some) (k := 1) T.f_law_some sc_law_some (by decide) (by decide) fun cdv A0 outer s H E hg hr => by
  unfold m_law_some
  exact (pds_one (pds_ret (pd_ix ix_seq os_ix (pd_var 1) (pd_callL (ok_law_deal T) hg (hr.mono (by decide)) (by rfl) T.g_law_deal T.kp_law_deal T.t_law_deal (pv 0) (pda_cons (pd_callB call_len cs_len (by rfl) T.b_len boot_len (pda_cons (pd_var 1) pda_nil)) pda_nil)) (fun _ _ => rfl))))
noncomputable def m_law_about : DS := (dSeq (dIfS (dTest (dOp gLt (dVar 1) (dOp gPow (dC (.int 10)) (dC (.int 5)))))
    (dRet (dOp gSub (dCallL 0 1 F_law_deal (dCons (dOp gAdd (dOp gMul (dC (.int 2)) (dVar 1)) (dC (.int 1))) dNil)) (dVar 1))) dNext)
    (dSeq (dSet 2 (dCallL 0 1 F_law_deal (dCons (dC (.int 64007)) dNil)))
    (dRet (dOp gSub (dOp gMod (dCB gInt (dCons (dOp gAdd (dOp gMul (dVar 2) (dC (.int 64007))) (dCallL 0 1 F_law_deal (dCons (dC (.int 64007)) dNil))) dNil)) (dOp gAdd (dOp gMul (dC (.int 2)) (dVar 1)) (dC (.int 1)))) (dVar 1)))))
noncomputable def F_law_about : List Dx.D → Ld → Res Dx.D := runL 3 m_law_about
theorem ok_law_about (T : Txt K mg A Fd) : FnG P w K mg base CX0 2 (A 14) (Fd 14) p_law_about (spL K 1 F_law_about) := fnL (ds := m_law_about) (k := 1) T.f_law_about sc_law_about (by decide) (by decide) fun cdv A0 outer s H E hg hr => by
  unfold m_law_about
  exact (pds_cons (pds_if (pdt_cmp op_lt os_lt (pd_var 1) (pd_op op_pow os_pow pd_int pd_int) (nomark _))
    (pds_one (pds_ret (pd_op op_sub os_sub (pd_callL (ok_law_deal T) hg (hr.mono (by decide)) (by rfl) T.g_law_deal T.kp_law_deal T.t_law_deal (pv 0) (pda_cons (pd_op op_addA os_add (pd_op op_mulA os_mul pd_int (pd_var 1)) pd_int) pda_nil)) (pd_var 1)))) pds_nil)
    (pds_cons (pds_set (i := 2) sc_law_about.nd (pd_callL (ok_law_deal T) hg (hr.mono (by decide)) (by rfl) T.g_law_deal T.kp_law_deal T.t_law_deal (pv 0) (pda_cons pd_int pda_nil)))
    (pds_one (pds_ret (pd_op op_sub os_sub (pd_op op_modN os_mod (pd_callTy call_int1 cs_int (by rfl) T.b_int boot_int (pda_cons (pd_op op_addA os_add (pd_op op_mulA os_mul (pd_var 2) pd_int) (pd_callL (ok_law_deal T) hg (hr.mono (by decide)) (by rfl) T.g_law_deal T.kp_law_deal T.t_law_deal (pv 0) (pda_cons pd_int pda_nil))) pda_nil)) (pd_op op_addA os_add (pd_op op_mulA os_mul pd_int (pd_var 1)) pd_int)) (pd_var 1))))))
noncomputable def m_law_gcd : DS := (dSeq (dPar [0, 1] (dCons (dCB gAbs (dCons (dVar 0) dNil)) (dCons (dCB gAbs (dCons (dVar 1) dNil)) dNil)))
    (dSeq (dWhile (dTest (dOp gGt (dVar 1) (dC (.int 0)))) (dPar [0, 1] (dCons (dVar 1) (dCons (dOp gMod (dCB gInt (dCons (dVar 0) dNil)) (dVar 1)) dNil))))
    (dRet (dVar 0))))
noncomputable def F_law_gcd : List Dx.D → Option Dx.D := runD 2 m_law_gcd
theorem ok_law_gcd (T : Txt K mg A Fd) : FnG P w K mg base CX0 1 (A 15) (Fd 15) p_law_gcd (spD K 2 F_law_gcd) := fnD (ds := m_law_gcd) (k := 0) T.f_law_gcd sc_law_gcd fun cdv A0 outer s H E hg hr => by
  unfold m_law_gcd
  exact (pds_cons (pds_par (i := 0) (j := 1) rfl sc_law_gcd.nd (pda_cons (pd_callB call_abs cs_abs (by rfl) T.b_abs boot_abs (pda_cons (pd_var 0) pda_nil)) (pda_cons (pd_callB call_abs cs_abs (by rfl) T.b_abs boot_abs (pda_cons (pd_var 1) pda_nil)) pda_nil)))
    (pds_cons (pds_while (pdt_cmp op_gt os_gt (pd_var 1) pd_int (nomark _)) (pds_one (pds_par (i := 0) (j := 1) rfl sc_law_gcd.nd (pda_cons (pd_var 1) (pda_cons (pd_op op_modN os_mod (pd_callTy call_int1 cs_int (by rfl) T.b_int boot_int (pda_cons (pd_var 0) pda_nil)) (pd_var 1)) pda_nil)))) PassesOwn.never)
    (pds_one (pds_ret (pd_var 0)))))
noncomputable def m_law_low : DS := (dSeq (dSet 1 (dC (.int 0)))
    (dSeq (dFor (dIt (dVar 0)) (dName 2) (dSet 1 (dCall 2 F_law_gcd (dCons (dVar 1) (dCons (dVar 2) dNil)))))
    (dRet (dCB gTuple (dCons (dLc [2] (dIt (dVar 0)) (dName 2) dYes (dOp gDiv (dVar 2) (dVar 1))) dNil)))))
noncomputable def F_law_low : List Dx.D → Option Dx.D := runD 3 m_law_low
theorem ok_law_low (T : Txt K mg A Fd) : FnG P w K mg base CX0 2 (A 16) (Fd 16) p_law_low (spD K 1 F_law_low) := fnD (ds := m_law_low) (k := 1) T.f_law_low sc_law_low fun cdv A0 outer s H E hg hr => by
  unfold m_law_low
  exact (pds_cons (pds_set (i := 1) sc_law_low.nd pd_int)
    (pds_cons (pds_for rfl (pdi_seq (pd_var 0)) (pdg_name sc_law_low.nd) (pds_one (pds_set (i := 1) sc_law_low.nd (pd_call (ok_law_gcd T) hg (hr.mono (by decide)) (by rfl) T.g_law_gcd T.kp_law_gcd T.t_law_gcd (pda_cons (pd_var 1) (pda_cons (pd_var 2) pda_nil))))) PassesOwn.never)
    (pds_one (pds_ret (pd_callTy cr_tupC cs_tuple (by rfl) T.b_tuple boot_tuple (pda_cons (pd_lc (own := [("_law_each", 2)]) rfl sc_law_low.nd (pdi_seq (pd_var 0)) (blkOk_by (own := [("_law_each", 2)]) (N := N_law_low) (sc := defScope s_law_low) (by decide +kernel)) (fun _ => (pdg_name sc_law_low.nd)) (fun _ => pdts_nil) (fun _ => (pd_op op_fdivA os_div (pd_var 2) (pd_var 1)))) pda_nil))))))
noncomputable def m_law_part : DS := (dRet (dCall 1 F_law_low (dCons (dIf (dTest (dOp gGt (dVar 1) (dC (.int 0)))) (dTup (dCons (dVar 0) (dCons (dVar 1) dNil))) (dTup (dCons (dOp gSub (dC (.int 0)) (dVar 0)) (dCons (dOp gSub (dC (.int 0)) (dVar 1)) dNil)))) dNil)))
noncomputable def F_law_part : List Dx.D → Option Dx.D := runD 2 m_law_part
theorem ok_law_part (T : Txt K mg A Fd) : FnG P w K mg base CX0 3 (A 17) (Fd 17) p_law_part (spD K 2 F_law_part) := fnD (ds := m_law_part) (k := 2) T.f_law_part sc_law_part fun cdv A0 outer s H E hg hr => by
  unfold m_law_part
  exact (pds_one (pds_ret (pd_call (ok_law_low T) hg (hr.mono (by decide)) (by rfl) T.g_law_low T.kp_law_low T.t_law_low (pda_cons (pd_ite (pdt_cmp op_gt os_gt (pd_var 1) pd_int (nomark _)) (pd_tup (pda_cons (pd_var 0) (pda_cons (pd_var 1) pda_nil))) (pd_tup (pda_cons (pd_op op_sub os_sub pd_int (pd_var 0)) (pda_cons (pd_op op_sub os_sub pd_int (pd_var 1)) pda_nil)))) pda_nil))))
noncomputable def m_law_add : DS := (dRet (dCall 2 F_law_part (dCons (dOp gAdd (dOp gMul (dOp gIx (dVar 0) (dC (.int 0))) (dOp gIx (dVar 1) (dC (.int 1)))) (dOp gMul (dOp gIx (dVar 1) (dC (.int 0))) (dOp gIx (dVar 0) (dC (.int 1))))) (dCons (dOp gMul (dOp gIx (dVar 0) (dC (.int 1))) (dOp gIx (dVar 1) (dC (.int 1)))) dNil))))
noncomputable def F_law_add : List Dx.D → Option Dx.D := runD 2 m_law_add
theorem ok_law_add (T : Txt K mg A Fd) : FnG P w K mg base CX0 4 (A 18) (Fd 18) p_law_add (spD K 2 F_law_add) := fnD (ds := m_law_add) (k := 3) T.f_law_add sc_law_add fun cdv A0 outer s H E hg hr => by
  unfold m_law_add
  exact (pds_one (pds_ret (pd_call (ok_law_part T) hg (hr.mono (by decide)) (by rfl) T.g_law_part T.kp_law_part T.t_law_part (pda_cons (pd_op op_addA os_add (pd_op op_mulA os_mul (pd_ix ix_seq os_ix (pd_var 0) pd_int (fun _ _ => rfl)) (pd_ix ix_seq os_ix (pd_var 1) pd_int (fun _ _ => rfl))) (pd_op op_mulA os_mul (pd_ix ix_seq os_ix (pd_var 1) pd_int (fun _ _ => rfl)) (pd_ix ix_seq os_ix (pd_var 0) pd_int (fun _ _ => rfl)))) (pda_cons (pd_op op_mulA os_mul (pd_ix ix_seq os_ix (pd_var 0) pd_int (fun _ _ => rfl)) (pd_ix ix_seq os_ix (pd_var 1) pd_int (fun _ _ => rfl))) pda_nil)))))
noncomputable def m_law_mul : DS := (dRet (dCall 2 F_law_part (dCons (dOp gMul (dOp gIx (dVar 0) (dC (.int 0))) (dOp gIx (dVar 1) (dC (.int 0)))) (dCons (dOp gMul (dOp gIx (dVar 0) (dC (.int 1))) (dOp gIx (dVar 1) (dC (.int 1)))) dNil))))
noncomputable def F_law_mul : List Dx.D → Option Dx.D := runD 2 m_law_mul
theorem ok_law_mul (T : Txt K mg A Fd) : FnG P w K mg base CX0 4 (A 19) (Fd 19) p_law_mul (spD K 2 F_law_mul) := fnD (ds := m_law_mul) (k := 3) T.f_law_mul sc_law_mul fun cdv A0 outer s H E hg hr => by
  unfold m_law_mul
  exact (pds_one (pds_ret (pd_call (ok_law_part T) hg (hr.mono (by decide)) (by rfl) T.g_law_part T.kp_law_part T.t_law_part (pda_cons (pd_op op_mulA os_mul (pd_ix ix_seq os_ix (pd_var 0) pd_int (fun _ _ => rfl)) (pd_ix ix_seq os_ix (pd_var 1) pd_int (fun _ _ => rfl))) (pda_cons (pd_op op_mulA os_mul (pd_ix ix_seq os_ix (pd_var 0) pd_int (fun _ _ => rfl)) (pd_ix ix_seq os_ix (pd_var 1) pd_int (fun _ _ => rfl))) pda_nil)))))
noncomputable def m_law_div : DS := (dRet (dCall 2 F_law_part (dCons (dOp gMul (dOp gIx (dVar 0) (dC (.int 0))) (dOp gIx (dVar 1) (dC (.int 1)))) (dCons (dOp gMul (dOp gIx (dVar 0) (dC (.int 1))) (dOp gIx (dVar 1) (dC (.int 0)))) dNil))))
noncomputable def F_law_div : List Dx.D → Option Dx.D := runD 2 m_law_div
theorem ok_law_div (T : Txt K mg A Fd) : FnG P w K mg base CX0 4 (A 20) (Fd 20) p_law_div (spD K 2 F_law_div) := fnD (ds := m_law_div) (k := 3) T.f_law_div sc_law_div fun cdv A0 outer s H E hg hr => by
  unfold m_law_div
  exact (pds_one (pds_ret (pd_call (ok_law_part T) hg (hr.mono (by decide)) (by rfl) T.g_law_part T.kp_law_part T.t_law_part (pda_cons (pd_op op_mulA os_mul (pd_ix ix_seq os_ix (pd_var 0) pd_int (fun _ _ => rfl)) (pd_ix ix_seq os_ix (pd_var 1) pd_int (fun _ _ => rfl))) (pda_cons (pd_op op_mulA os_mul (pd_ix ix_seq os_ix (pd_var 0) pd_int (fun _ _ => rfl)) (pd_ix ix_seq os_ix (pd_var 1) pd_int (fun _ _ => rfl))) pda_nil)))))
noncomputable def m_law_back : DS := (dRet (dTup (dCons (dOp gSub (dC (.int 0)) (dOp gIx (dVar 0) (dC (.int 0)))) (dCons (dOp gIx (dVar 0) (dC (.int 1))) dNil))))
noncomputable def F_law_back : List Dx.D → Option Dx.D := runD 1 m_law_back
theorem ok_law_back (T : Txt K mg A Fd) : FnG P w K mg base CX0 1 (A 21) (Fd 21) p_law_back (spD K 1 F_law_back) := fnD (ds := m_law_back) (k := 0) T.f_law_back sc_law_back fun cdv A0 outer s H E hg hr => by
  unfold m_law_back
  exact (pds_one (pds_ret (pd_tup (pda_cons (pd_op op_sub os_sub pd_int (pd_ix ix_seq os_ix (pd_var 0) pd_int (fun _ _ => rfl))) (pda_cons (pd_ix ix_seq os_ix (pd_var 0) pd_int (fun _ _ => rfl)) pda_nil)))))
noncomputable def m_law_sign : DS := (dRet (dIf (dTest (dOp gGt (dVar 0) (dC (.int 0)))) (dC (.int 1)) (dIf (dTest (dOp gLt (dVar 0) (dC (.int 0)))) (dUn gNeg (dC (.int 1))) (dC (.int 0)))))
noncomputable def F_law_sign : List Dx.D → Option Dx.D := runD 1 m_law_sign
theorem ok_law_sign (T : Txt K mg A Fd) : FnG P w K mg base CX0 1 (A 22) (Fd 22) p_law_sign (spD K 1 F_law_sign) := fnD (ds := m_law_sign) (k := 0) T.f_law_sign sc_law_sign fun cdv A0 outer s H E hg hr => by
  unfold m_law_sign
  exact (pds_one (pds_ret (pd_ite (pdt_cmp op_gt os_gt (pd_var 0) pd_int (nomark _)) pd_int (pd_ite (pdt_cmp op_lt os_lt (pd_var 0) pd_int (nomark _)) (pd_un un_neg us_neg pd_int) pd_int))))
noncomputable def m_law_any_part : DS := (dRet (dCall 2 F_law_part (dCons (dCallL 0 1 F_law_about (dCons (dVar 1) dNil)) (dCons (dOp gAdd (dC (.int 1)) (dCallL 0 1 F_law_deal (dCons (dCallL 0 1 F_law_some (dCons (dLst (dCons (dC (.int 1)) (dCons (dC (.int 1)) (dCons (dC (.int 2)) (dCons (dC (.int 3)) (dCons (dC (.int 7)) (dCons (dCB gMin (dCons (dVar 1) (dCons (dOp gPow (dC (.int 10)) (dC (.int 4))) dNil))) dNil))))))) dNil)) dNil))) dNil))))
noncomputable def F_law_any_part : List Dx.D → Ld → Res Dx.D := runL 2 m_law_any_part
theorem ok_law_any_part (T : Txt K mg A Fd) : FnG P w K mg base CX0 4 (A 23) (Fd 23) p_law_any_part (spL K 1 F_law_any_part) := fnL (ds := m_law_any_part) (k := 3) T.f_law_any_part sc_law_any_part (by decide) (by decide) fun cdv A0 outer s H E hg hr => by
  unfold m_law_any_part
  exact (pds_one (pds_ret (pd_call (ok_law_part T) hg (hr.mono (by decide)) (by rfl) T.g_law_part T.kp_law_part T.t_law_part (pda_cons (pd_callL (ok_law_about T) hg (hr.mono (by decide)) (by rfl) T.g_law_about T.kp_law_about T.t_law_about (pv 0) (pda_cons (pd_var 1) pda_nil)) (pda_cons (pd_op op_addA os_add pd_int (pd_callL (ok_law_deal T) hg (hr.mono (by decide)) (by rfl) T.g_law_deal T.kp_law_deal T.t_law_deal (pv 0) (pda_cons (pd_callL (ok_law_some T) hg (hr.mono (by decide)) (by rfl) T.g_law_some T.kp_law_some T.t_law_some (pv 0) (pda_cons (pd_lst (pda_cons pd_int (pda_cons pd_int (pda_cons pd_int (pda_cons pd_int (pda_cons pd_int (pda_cons (pd_callB (call_min2 rfl) cs_min (by rfl) T.b_min boot_min (pda_cons (pd_var 1) (pda_cons (pd_op op_pow os_pow pd_int pd_int) pda_nil))) pda_nil))))))) pda_nil)) pda_nil))) pda_nil)))))
noncomputable def m_law_over : DS := (dRet (dCall 2 F_law_part (dCons (dOp gAdd (dC (.int 1)) (dCB gAbs (dCons (dCallL 0 1 F_law_about (dCons (dVar 1) dNil)) dNil))) (dCons (dOp gAdd (dC (.int 1)) (dCallL 0 1 F_law_deal (dCons (dCallL 0 1 F_law_some (dCons (dLst (dCons (dC (.int 1)) (dCons (dC (.int 1)) (dCons (dC (.int 2)) (dCons (dC (.int 3)) (dCons (dC (.int 7)) dNil)))))) dNil)) dNil))) dNil))))
noncomputable def F_law_over : List Dx.D → Ld → Res Dx.D := runL 2 m_law_over
theorem ok_law_over (T : Txt K mg A Fd) : FnG P w K mg base CX0 4 (A 24) (Fd 24) p_law_over (spL K 1 F_law_over) := fnL (ds := m_law_over) (k := 3) T.f_law_over sc_law_over (by decide) (by decide) fun cdv A0 outer s H E hg hr => by
  unfold m_law_over
  exact (pds_one (pds_ret (pd_call (ok_law_part T) hg (hr.mono (by decide)) (by rfl) T.g_law_part T.kp_law_part T.t_law_part (pda_cons (pd_op op_addA os_add pd_int (pd_callB call_abs cs_abs (by rfl) T.b_abs boot_abs (pda_cons (pd_callL (ok_law_about T) hg (hr.mono (by decide)) (by rfl) T.g_law_about T.kp_law_about T.t_law_about (pv 0) (pda_cons (pd_var 1) pda_nil)) pda_nil))) (pda_cons (pd_op op_addA os_add pd_int (pd_callL (ok_law_deal T) hg (hr.mono (by decide)) (by rfl) T.g_law_deal T.kp_law_deal T.t_law_deal (pv 0) (pda_cons (pd_callL (ok_law_some T) hg (hr.mono (by decide)) (by rfl) T.g_law_some T.kp_law_some T.t_law_some (pv 0) (pda_cons (pd_lst (pda_cons pd_int (pda_cons pd_int (pda_cons pd_int (pda_cons pd_int (pda_cons pd_int pda_nil)))))) pda_nil)) pda_nil))) pda_nil)))))
noncomputable def m_law_root : DS := (dSeq (dAsg (dGTup 2 (dGCons (dName 1) (dGCons (dName 2) dGNil))) (dTup (dCons (dC (.int 0)) (dCons (dC (.int 1)) dNil))))
    (dSeq (dWhile (dTest (dOp gLe (dOp gMul (dVar 2) (dVar 2)) (dVar 0))) (dSet 2 (dOp gMul (dC (.int 2)) (dVar 2))))
    (dSeq (dWhile (dTest (dOp gGt (dOp gSub (dVar 2) (dVar 1)) (dC (.int 1)))) (dSeq (dSet 3 (dOp gDiv (dOp gAdd (dVar 1) (dVar 2)) (dC (.int 2))))
    (dIfS (dTest (dOp gLe (dOp gMul (dVar 3) (dVar 3)) (dVar 0)))
    (dSet 1 (dVar 3)) (dSet 2 (dVar 3)))))
    (dRet (dVar 1)))))
noncomputable def F_law_root : List Dx.D → Option Dx.D := runD 4 m_law_root
theorem ok_law_root (T : Txt K mg A Fd) : FnG P w K mg base CX0 1 (A 25) (Fd 25) p_law_root (spD K 1 F_law_root) := fnD (ds := m_law_root) (k := 0) T.f_law_root sc_law_root fun cdv A0 outer s H E hg hr => by
  unfold m_law_root
  exact (pds_cons (pds_asg (pd_tup (pda_cons pd_int (pda_cons pd_int pda_nil))) (pdg_tup rfl (pdg_cons (pdg_name sc_law_root.nd) (pdg_cons (pdg_name sc_law_root.nd) pdg_nil))))
    (pds_cons (pds_while (pdt_cmp op_le os_le (pd_op op_mulA os_mul (pd_var 2) (pd_var 2)) (pd_var 0) (nomark _)) (pds_one (pds_set (i := 2) sc_law_root.nd (pd_op op_mulA os_mul pd_int (pd_var 2)))) PassesOwn.never)
    (pds_cons (pds_while (pdt_cmp op_gt os_gt (pd_op op_sub os_sub (pd_var 2) (pd_var 1)) pd_int (nomark _)) (pds_cons (pds_set (i := 3) sc_law_root.nd (pd_op op_fdivA os_div (pd_op op_addA os_add (pd_var 1) (pd_var 2)) pd_int))
    (pds_one (pds_if (pdt_cmp op_le os_le (pd_op op_mulA os_mul (pd_var 3) (pd_var 3)) (pd_var 0) (nomark _))
    (pds_one (pds_set (i := 1) sc_law_root.nd (pd_var 3))) (pds_one (pds_set (i := 2) sc_law_root.nd (pd_var 3)))))) PassesOwn.never)
    (pds_one (pds_ret (pd_var 1))))))
noncomputable def m_law_square_of : DS := (dSeq (dPar [1, 2] (dCons (dCall 1 F_law_root (dCons (dOp gIx (dVar 0) (dC (.int 0))) dNil)) (dCons (dCall 1 F_law_root (dCons (dOp gIx (dVar 0) (dC (.int 1))) dNil)) dNil)))
    (dRet (dIf (dAnd (dTest (dOp gEqA (dOp gMul (dVar 1) (dVar 1)) (dOp gIx (dVar 0) (dC (.int 0))))) (dTest (dOp gEqA (dOp gMul (dVar 2) (dVar 2)) (dOp gIx (dVar 0) (dC (.int 1)))))) (dTup (dCons (dVar 1) (dCons (dVar 2) dNil))) (dC .none))))
noncomputable def F_law_square_of : List Dx.D → Option Dx.D := runD 3 m_law_square_of
theorem ok_law_square_of (T : Txt K mg A Fd) : FnG P w K mg base CX0 2 (A 26) (Fd 26) p_law_square_of (spD K 1 F_law_square_of) := fnD (ds := m_law_square_of) (k := 1) T.f_law_square_of sc_law_square_of fun cdv A0 outer s H E hg hr => by
  unfold m_law_square_of
  exact (pds_cons (pds_par (i := 1) (j := 2) rfl sc_law_square_of.nd (pda_cons (pd_call (ok_law_root T) hg (hr.mono (by decide)) (by rfl) T.g_law_root T.kp_law_root T.t_law_root (pda_cons (pd_ix ix_seq os_ix (pd_var 0) pd_int (fun _ _ => rfl)) pda_nil)) (pda_cons (pd_call (ok_law_root T) hg (hr.mono (by decide)) (by rfl) T.g_law_root T.kp_law_root T.t_law_root (pda_cons (pd_ix ix_seq os_ix (pd_var 0) pd_int (fun _ _ => rfl)) pda_nil)) pda_nil)))
    (pds_one (pds_ret (pd_ite (pdt_w (pdw_and (pdt_cmp (op_eqA hr.units) os_eqA (pd_op op_mulA os_mul (pd_var 1) (pd_var 1)) (pd_ix ix_seq os_ix (pd_var 0) pd_int (fun _ _ => rfl)) (nomark _)) (pdw_and1 (pdt_cmp (op_eqA hr.units) os_eqA (pd_op op_mulA os_mul (pd_var 2) (pd_var 2)) (pd_ix ix_seq os_ix (pd_var 0) pd_int (fun _ _ => rfl)) (nomark _))))) (pd_tup (pda_cons (pd_var 1) (pda_cons (pd_var 2) pda_nil))) pd_non))))
noncomputable def m_law_surd : DS := (dSeq (dSet 3 (dCall 2 F_law_mul (dCons (dCall 2 F_law_mul (dCons (dVar 1) (dCons (dVar 1) dNil))) (dCons (dVar 2) dNil))))
    (dSeq (dSet 4 (dCall 1 F_law_square_of (dCons (dVar 3) dNil)))
    (dSeq (dIfS (dTest (dOp gNotN (dVar 4) (dC .none)))
    (dRet (dTup (dCons (dCall 2 F_law_add (dCons (dVar 0) (dCons (dIf (dTest (dOp gGt (dOp gIx (dVar 1) (dC (.int 0))) (dC (.int 0)))) (dVar 4) (dCall 1 F_law_back (dCons (dVar 4) dNil))) dNil))) (dCons (dC (.int 0)) (dCons (dTup (dCons (dC (.int 0)) (dCons (dC (.int 1)) dNil))) dNil))))) dNext)
    (dRet (dTup (dCons (dVar 0) (dCons (dCall 1 F_law_sign (dCons (dOp gIx (dVar 1) (dC (.int 0))) dNil)) (dCons (dVar 3) dNil))))))))
noncomputable def F_law_surd : List Dx.D → Option Dx.D := runD 5 m_law_surd
theorem ok_law_surd (T : Txt K mg A Fd) : FnG P w K mg base CX0 5 (A 27) (Fd 27) p_law_surd (spD K 3 F_law_surd) := fnD (ds := m_law_surd) (k := 4) T.f_law_surd sc_law_surd fun cdv A0 outer s H E hg hr => by
  unfold m_law_surd
  exact (pds_cons (pds_set (i := 3) sc_law_surd.nd (pd_call (ok_law_mul T) hg (hr.mono (by decide)) (by rfl) T.g_law_mul T.kp_law_mul T.t_law_mul (pda_cons (pd_call (ok_law_mul T) hg (hr.mono (by decide)) (by rfl) T.g_law_mul T.kp_law_mul T.t_law_mul (pda_cons (pd_var 1) (pda_cons (pd_var 1) pda_nil))) (pda_cons (pd_var 2) pda_nil))))
    (pds_cons (pds_set (i := 4) sc_law_surd.nd (pd_call (ok_law_square_of T) hg (hr.mono (by decide)) (by rfl) T.g_law_square_of T.kp_law_square_of T.t_law_square_of (pda_cons (pd_var 3) pda_nil)))
    (pds_cons (pds_if (pdt_cmp op_notN os_notN (pd_var 4) pd_non (nomark _))
    (pds_one (pds_ret (pd_tup (pda_cons (pd_call (ok_law_add T) hg (hr.mono (by decide)) (by rfl) T.g_law_add T.kp_law_add T.t_law_add (pda_cons (pd_var 0) (pda_cons (pd_ite (pdt_cmp op_gt os_gt (pd_ix ix_seq os_ix (pd_var 1) pd_int (fun _ _ => rfl)) pd_int (nomark _)) (pd_var 4) (pd_call (ok_law_back T) hg (hr.mono (by decide)) (by rfl) T.g_law_back T.kp_law_back T.t_law_back (pda_cons (pd_var 4) pda_nil))) pda_nil))) (pda_cons pd_int (pda_cons (pd_tup (pda_cons pd_int (pda_cons pd_int pda_nil))) pda_nil)))))) pds_nil)
    (pds_one (pds_ret (pd_tup (pda_cons (pd_var 0) (pda_cons (pd_call (ok_law_sign T) hg (hr.mono (by decide)) (by rfl) T.g_law_sign T.kp_law_sign T.t_law_sign (pda_cons (pd_ix ix_seq os_ix (pd_var 1) pd_int (fun _ _ => rfl)) pda_nil)) (pda_cons (pd_var 3) pda_nil)))))))))
noncomputable def m_law_some_square : DS := (dSeq (dSet 1 (dCallL 0 1 F_law_deal (dCons (dC (.int 6)) dNil)))
    (dSeq (dIfS (dTest (dOp gEqA (dVar 1) (dC (.int 0))))
    (dSeq (dSet 2 (dCallL 0 1 F_law_any_part (dCons (dC (.int 9)) dNil)))
    (dRet (dCall 2 F_law_mul (dCons (dVar 2) (dCons (dVar 2) dNil))))) dNext)
    (dSeq (dIfS (dTest (dOp gLt (dVar 1) (dC (.int 4))))
    (dRet (dTup (dCons (dCallL 0 1 F_law_deal (dCons (dC (.int 13)) dNil)) (dCons (dC (.int 1)) dNil)))) dNext)
    (dRet (dCall 2 F_law_part (dCons (dCallL 0 1 F_law_deal (dCons (dCallL 0 1 F_law_some (dCons (dLst (dCons (dC (.int 9)) (dCons (dC (.int 99)) (dCons (dOp gPow (dC (.int 10)) (dC (.int 6))) dNil)))) dNil)) dNil)) (dCons (dOp gAdd (dC (.int 1)) (dCallL 0 1 F_law_deal (dCons (dC (.int 9)) dNil))) dNil)))))))
noncomputable def F_law_some_square : List Dx.D → Ld → Res Dx.D := runL 3 m_law_some_square
theorem ok_law_some_square (T : Txt K mg A Fd) : FnG P w K mg base CX0 5 (A 28) (Fd 28) p_law_some_square (spL K 0 F_law_some_square) := fnL (ds := m_law_some_square) (k := 4) T.f_law_some_square sc_law_some_square (by decide) (by decide) fun cdv A0 outer s H E hg hr => by
  unfold m_law_some_square
  exact (pds_cons (pds_set (i := 1) sc_law_some_square.nd (pd_callL (ok_law_deal T) hg (hr.mono (by decide)) (by rfl) T.g_law_deal T.kp_law_deal T.t_law_deal (pv 0) (pda_cons pd_int pda_nil)))
    (pds_cons (pds_if (pdt_cmp (op_eqA hr.units) os_eqA (pd_var 1) pd_int (nomark _))
    (pds_cons (pds_set (i := 2) sc_law_some_square.nd (pd_callL (ok_law_any_part T) hg (hr.mono (by decide)) (by rfl) T.g_law_any_part T.kp_law_any_part T.t_law_any_part (pv 0) (pda_cons pd_int pda_nil)))
    (pds_one (pds_ret (pd_call (ok_law_mul T) hg (hr.mono (by decide)) (by rfl) T.g_law_mul T.kp_law_mul T.t_law_mul (pda_cons (pd_var 2) (pda_cons (pd_var 2) pda_nil)))))) pds_nil)
    (pds_cons (pds_if (pdt_cmp op_lt os_lt (pd_var 1) pd_int (nomark _))
    (pds_one (pds_ret (pd_tup (pda_cons (pd_callL (ok_law_deal T) hg (hr.mono (by decide)) (by rfl) T.g_law_deal T.kp_law_deal T.t_law_deal (pv 0) (pda_cons pd_int pda_nil)) (pda_cons pd_int pda_nil))))) pds_nil)
    (pds_one (pds_ret (pd_call (ok_law_part T) hg (hr.mono (by decide)) (by rfl) T.g_law_part T.kp_law_part T.t_law_part (pda_cons (pd_callL (ok_law_deal T) hg (hr.mono (by decide)) (by rfl) T.g_law_deal T.kp_law_deal T.t_law_deal (pv 0) (pda_cons (pd_callL (ok_law_some T) hg (hr.mono (by decide)) (by rfl) T.g_law_some T.kp_law_some T.t_law_some (pv 0) (pda_cons (pd_lst (pda_cons pd_int (pda_cons pd_int (pda_cons (pd_op op_pow os_pow pd_int pd_int) pda_nil)))) pda_nil)) pda_nil)) (pda_cons (pd_op op_addA os_add pd_int (pd_callL (ok_law_deal T) hg (hr.mono (by decide)) (by rfl) T.g_law_deal T.kp_law_deal T.t_law_deal (pv 0) (pda_cons pd_int pda_nil))) pda_nil))))))))
noncomputable def m_law_wide : DS := (dRet (dCallL 0 1 F_law_some (dCons (dLst (dCons (dC (.int 1)) (dCons (dC (.int 2)) (dCons (dC (.int 3)) (dCons (dC (.int 3)) (dCons (dC (.int 5)) (dCons (dC (.int 9)) (dCons (dC (.int 99)) (dCons (dOp gPow (dC (.int 10)) (dC (.int 9))) dNil))))))))) dNil)))
noncomputable def F_law_wide : List Dx.D → Ld → Res Dx.D := runL 1 m_law_wide
theorem ok_law_wide (T : Txt K mg A Fd) : FnG P w K mg base CX0 3 (A 29) (Fd 29) p_law_wide (spL K 0 F_law_wide) := fnL (ds := m_law_wide) (k := 2) T.f_law_wide sc_law_wide (by decide) (by decide) fun cdv A0 outer s H E hg hr => by
  unfold m_law_wide
  exact (pds_one (pds_ret (pd_callL (ok_law_some T) hg (hr.mono (by decide)) (by rfl) T.g_law_some T.kp_law_some T.t_law_some (pv 0) (pda_cons (pd_lst (pda_cons pd_int (pda_cons pd_int (pda_cons pd_int (pda_cons pd_int (pda_cons pd_int (pda_cons pd_int (pda_cons pd_int (pda_cons (pd_op op_pow os_pow pd_int pd_int) pda_nil))))))))) pda_nil))))
noncomputable def m_law_odd_parts : DS := (dSeq (dSet 0 (dLst (dCons (dC .none) (dCons (dC (.int 1)) (dCons (dC (.int 0)) (dCons (dC (.str "1")) (dCons (dTup dNil) (dCons (dTup (dCons (dC (.int 1)) dNil)) (dCons (dTup (dCons (dC (.int 2)) (dCons (dC (.int 4)) dNil))) (dCons (dTup (dCons (dC (.int 1)) (dCons (dC (.int 0)) dNil))) (dCons (dTup (dCons (dC (.int 1)) (dCons (dUn gNeg (dC (.int 2))) dNil))) (dCons (dTup (dCons (dC (.int 0)) (dCons (dC (.int 3)) dNil))) (dCons (dTup (dCons (dUn gNeg (dC (.int 3))) (dCons (dUn gNeg (dC (.int 1))) dNil))) (dCons (dLst (dCons (dC (.int 1)) (dCons (dC (.int 2)) dNil))) (dCons (dTup (dCons (dC (.bool true)) (dCons (dC (.int 2)) dNil))) (dCons (dTup (dCons (dC (.int 1)) (dCons (dC (.bool true)) dNil))) dNil))))))))))))))))
    (dRet (dOp gAdd (dVar 0) (dLst (dCons (dTup (dCons (dC (.int 1)) (dCons (dC (.int 2)) (dCons (dC (.int 3)) dNil)))) (dCons dDict0 (dCons (dTup (dCons (dC .none) (dCons (dC (.int 1)) dNil))) (dCons (dTup (dCons (dC (.str "1")) (dCons (dC (.int 2)) dNil))) (dCons (dTup (dCons (dTup (dCons (dC (.int 1)) (dCons (dC (.int 2)) dNil))) (dCons (dC (.int 1)) dNil))) (dCons (dC (.bool true)) (dCons (dTup (dCons (dC (.int 0)) (dCons (dC (.int 0)) dNil))) dNil)))))))))))
noncomputable def F_law_odd_parts : List Dx.D → Option Dx.D := runD 1 m_law_odd_parts
theorem ok_law_odd_parts (T : Txt K mg A Fd) : FnG P w K mg base CX0 1 (A 30) (Fd 30) p_law_odd_parts (spD K 0 F_law_odd_parts) := fnD (ds := m_law_odd_parts) (k := 0) T.f_law_odd_parts sc_law_odd_parts fun cdv A0 outer s H E hg hr => by
  unfold m_law_odd_parts
  exact (pds_cons (pds_set (i := 0) sc_law_odd_parts.nd (pd_lst (pda_cons pd_non (pda_cons pd_int (pda_cons pd_int (pda_cons pd_str (pda_cons (pd_tup pda_nil) (pda_cons (pd_tup (pda_cons pd_int pda_nil)) (pda_cons (pd_tup (pda_cons pd_int (pda_cons pd_int pda_nil))) (pda_cons (pd_tup (pda_cons pd_int (pda_cons pd_int pda_nil))) (pda_cons (pd_tup (pda_cons pd_int (pda_cons (pd_un un_neg us_neg pd_int) pda_nil))) (pda_cons (pd_tup (pda_cons pd_int (pda_cons pd_int pda_nil))) (pda_cons (pd_tup (pda_cons (pd_un un_neg us_neg pd_int) (pda_cons (pd_un un_neg us_neg pd_int) pda_nil))) (pda_cons (pd_lst (pda_cons pd_int (pda_cons pd_int pda_nil))) (pda_cons (pd_tup (pda_cons pd_bl (pda_cons pd_int pda_nil))) (pda_cons (pd_tup (pda_cons pd_int (pda_cons pd_bl pda_nil))) pda_nil))))))))))))))))
    (pds_one (pds_ret (pd_op op_addA os_add (pd_var 0) (pd_lst (pda_cons (pd_tup (pda_cons pd_int (pda_cons pd_int (pda_cons pd_int pda_nil)))) (pda_cons pd_dict0 (pda_cons (pd_tup (pda_cons pd_non (pda_cons pd_int pda_nil))) (pda_cons (pd_tup (pda_cons pd_str (pda_cons pd_int pda_nil))) (pda_cons (pd_tup (pda_cons (pd_tup (pda_cons pd_int (pda_cons pd_int pda_nil))) (pda_cons pd_int pda_nil))) (pda_cons pd_bl (pda_cons (pd_tup (pda_cons pd_int (pda_cons pd_int pda_nil))) pda_nil))))))))))))
noncomputable def m_law_odd_surds : DS := (dSeq (dAsg (dGTup 3 (dGCons (dName 0) (dGCons (dName 1) (dGCons (dName 2) dGNil)))) (dTup (dCons (dTup (dCons (dC (.int 1)) (dCons (dC (.int 2)) dNil))) (dCons (dTup (dCons (dC (.int 2)) (dCons (dC (.int 1)) dNil))) (dCons (dTup (dCons (dC (.int 0)) (dCons (dC (.int 1)) dNil))) dNil)))))
    (dSeq (dSet 3 (dLst (dCons (dC .none) (dCons (dC (.int 5)) (dCons (dC (.str "abc")) (dCons (dTup dNil) (dCons (dVar 0) (dCons (dTup (dCons (dVar 0) (dCons (dC (.int 0)) dNil))) (dCons (dTup (dCons (dVar 0) (dCons (dC (.int 0)) (dCons (dVar 2) (dCons (dVar 2) dNil))))) (dCons (dLst (dCons (dVar 0) (dCons (dC (.int 0)) (dCons (dVar 2) dNil)))) (dCons (dTup (dCons (dVar 0) (dCons (dC (.int 0)) (dCons (dVar 1) dNil)))) (dCons (dTup (dCons (dVar 0) (dCons (dC (.int 1)) (dCons (dVar 2) dNil)))) dNil))))))))))))
    (dSeq (dSet 3 (dOp gAdd (dVar 3) (dLst (dCons (dTup (dCons (dVar 0) (dCons (dC (.int 1)) (dCons (dTup (dCons (dC (.int 4)) (dCons (dC (.int 1)) dNil))) dNil)))) (dCons (dTup (dCons (dVar 0) (dCons (dUn gNeg (dC (.int 1))) (dCons (dTup (dCons (dC (.int 9)) (dCons (dC (.int 4)) dNil))) dNil)))) (dCons (dTup (dCons (dVar 0) (dCons (dC (.int 1)) (dCons (dTup (dCons (dUn gNeg (dC (.int 2))) (dCons (dC (.int 1)) dNil))) dNil)))) (dCons (dTup (dCons (dVar 0) (dCons (dC (.int 2)) (dCons (dVar 1) dNil)))) (dCons (dTup (dCons (dVar 0) (dCons (dC (.bool true)) (dCons (dVar 1) dNil)))) dNil))))))))
    (dSeq (dSet 3 (dOp gAdd (dVar 3) (dLst (dCons (dTup (dCons (dVar 0) (dCons (dC (.bool false)) (dCons (dVar 2) dNil)))) (dCons (dTup (dCons (dVar 0) (dCons (dC .none) (dCons (dVar 2) dNil)))) (dCons (dTup (dCons (dTup (dCons (dC (.int 2)) (dCons (dC (.int 4)) dNil))) (dCons (dC (.int 0)) (dCons (dVar 2) dNil)))) (dCons (dTup (dCons (dVar 0) (dCons (dC (.int 1)) (dCons (dTup (dCons (dC (.int 4)) (dCons (dC (.int 2)) dNil))) dNil)))) (dCons (dTup (dCons (dC (.int 1)) (dCons (dC (.int 0)) (dCons (dVar 2) dNil)))) dNil))))))))
    (dRet (dOp gAdd (dVar 3) (dLst (dCons (dTup (dCons (dVar 0) (dCons (dC (.int 0)) (dCons (dC (.int 0)) dNil)))) (dCons (dTup (dCons (dVar 0) (dCons (dC (.int 0)) (dCons (dTup (dCons (dC (.int 0)) (dCons (dC (.int 2)) dNil))) dNil)))) (dCons (dTup (dCons (dTup (dCons (dC (.int 1)) (dCons (dC (.int 0)) dNil))) (dCons (dC (.int 1)) (dCons (dVar 1) dNil)))) (dCons dDict0 (dCons (dTup (dCons (dVar 0) (dCons (dTup (dCons (dC (.int 1)) (dCons (dC (.int 1)) dNil))) (dCons (dVar 1) dNil)))) dNil))))))))))))
noncomputable def F_law_odd_surds : List Dx.D → Option Dx.D := runD 4 m_law_odd_surds
theorem ok_law_odd_surds (T : Txt K mg A Fd) : FnG P w K mg base CX0 1 (A 31) (Fd 31) p_law_odd_surds (spD K 0 F_law_odd_surds) := fnD (ds := m_law_odd_surds) (k := 0) T.f_law_odd_surds sc_law_odd_surds fun cdv A0 outer s H E hg hr => by
  unfold m_law_odd_surds
  exact (pds_cons (pds_asg (pd_tup (pda_cons (pd_tup (pda_cons pd_int (pda_cons pd_int pda_nil))) (pda_cons (pd_tup (pda_cons pd_int (pda_cons pd_int pda_nil))) (pda_cons (pd_tup (pda_cons pd_int (pda_cons pd_int pda_nil))) pda_nil)))) (pdg_tup rfl (pdg_cons (pdg_name sc_law_odd_surds.nd) (pdg_cons (pdg_name sc_law_odd_surds.nd) (pdg_cons (pdg_name sc_law_odd_surds.nd) pdg_nil)))))
    (pds_cons (pds_set (i := 3) sc_law_odd_surds.nd (pd_lst (pda_cons pd_non (pda_cons pd_int (pda_cons pd_str (pda_cons (pd_tup pda_nil) (pda_cons (pd_var 0) (pda_cons (pd_tup (pda_cons (pd_var 0) (pda_cons pd_int pda_nil))) (pda_cons (pd_tup (pda_cons (pd_var 0) (pda_cons pd_int (pda_cons (pd_var 2) (pda_cons (pd_var 2) pda_nil))))) (pda_cons (pd_lst (pda_cons (pd_var 0) (pda_cons pd_int (pda_cons (pd_var 2) pda_nil)))) (pda_cons (pd_tup (pda_cons (pd_var 0) (pda_cons pd_int (pda_cons (pd_var 1) pda_nil)))) (pda_cons (pd_tup (pda_cons (pd_var 0) (pda_cons pd_int (pda_cons (pd_var 2) pda_nil)))) pda_nil))))))))))))
    (pds_cons (pds_set (i := 3) sc_law_odd_surds.nd (pd_op op_addA os_add (pd_var 3) (pd_lst (pda_cons (pd_tup (pda_cons (pd_var 0) (pda_cons pd_int (pda_cons (pd_tup (pda_cons pd_int (pda_cons pd_int pda_nil))) pda_nil)))) (pda_cons (pd_tup (pda_cons (pd_var 0) (pda_cons (pd_un un_neg us_neg pd_int) (pda_cons (pd_tup (pda_cons pd_int (pda_cons pd_int pda_nil))) pda_nil)))) (pda_cons (pd_tup (pda_cons (pd_var 0) (pda_cons pd_int (pda_cons (pd_tup (pda_cons (pd_un un_neg us_neg pd_int) (pda_cons pd_int pda_nil))) pda_nil)))) (pda_cons (pd_tup (pda_cons (pd_var 0) (pda_cons pd_int (pda_cons (pd_var 1) pda_nil)))) (pda_cons (pd_tup (pda_cons (pd_var 0) (pda_cons pd_bl (pda_cons (pd_var 1) pda_nil)))) pda_nil))))))))
    (pds_cons (pds_set (i := 3) sc_law_odd_surds.nd (pd_op op_addA os_add (pd_var 3) (pd_lst (pda_cons (pd_tup (pda_cons (pd_var 0) (pda_cons pd_bl (pda_cons (pd_var 2) pda_nil)))) (pda_cons (pd_tup (pda_cons (pd_var 0) (pda_cons pd_non (pda_cons (pd_var 2) pda_nil)))) (pda_cons (pd_tup (pda_cons (pd_tup (pda_cons pd_int (pda_cons pd_int pda_nil))) (pda_cons pd_int (pda_cons (pd_var 2) pda_nil)))) (pda_cons (pd_tup (pda_cons (pd_var 0) (pda_cons pd_int (pda_cons (pd_tup (pda_cons pd_int (pda_cons pd_int pda_nil))) pda_nil)))) (pda_cons (pd_tup (pda_cons pd_int (pda_cons pd_int (pda_cons (pd_var 2) pda_nil)))) pda_nil))))))))
    (pds_one (pds_ret (pd_op op_addA os_add (pd_var 3) (pd_lst (pda_cons (pd_tup (pda_cons (pd_var 0) (pda_cons pd_int (pda_cons pd_int pda_nil)))) (pda_cons (pd_tup (pda_cons (pd_var 0) (pda_cons pd_int (pda_cons (pd_tup (pda_cons pd_int (pda_cons pd_int pda_nil))) pda_nil)))) (pda_cons (pd_tup (pda_cons (pd_tup (pda_cons pd_int (pda_cons pd_int pda_nil))) (pda_cons pd_int (pda_cons (pd_var 1) pda_nil)))) (pda_cons pd_dict0 (pda_cons (pd_tup (pda_cons (pd_var 0) (pda_cons (pd_tup (pda_cons pd_int (pda_cons pd_int pda_nil))) (pda_cons (pd_var 1) pda_nil)))) pda_nil)))))))))))))
noncomputable def m_law_is_part : DS := (dRet (dAndV (dOp gGt (dOp gIx (dVar 0) (dC (.int 1))) (dC (.int 0))) (dOp gEqA (dCall 2 F_law_gcd (dCons (dOp gIx (dVar 0) (dC (.int 0))) (dCons (dOp gIx (dVar 0) (dC (.int 1))) dNil))) (dC (.int 1)))))
noncomputable def F_law_is_part : List Dx.D → Option Dx.D := runD 1 m_law_is_part
theorem ok_law_is_part (T : Txt K mg A Fd) : FnG P w K mg base CX0 2 (A 32) (Fd 32) p_law_is_part (spD K 1 F_law_is_part) := fnD (ds := m_law_is_part) (k := 1) T.f_law_is_part sc_law_is_part fun cdv A0 outer s H E hg hr => by
  unfold m_law_is_part
  exact (pds_one (pds_ret (pd_and (pd_cmp op_gt os_gt (pd_ix ix_seq os_ix (pd_var 0) pd_int (fun _ _ => rfl)) pd_int (nomark _)) (pd_bone (pd_cmp (op_eqA hr.units) os_eqA (pd_call (ok_law_gcd T) hg (hr.mono (by decide)) (by rfl) T.g_law_gcd T.kp_law_gcd T.t_law_gcd (pda_cons (pd_ix ix_seq os_ix (pd_var 0) pd_int (fun _ _ => rfl)) (pda_cons (pd_ix ix_seq os_ix (pd_var 0) pd_int (fun _ _ => rfl)) pda_nil))) pd_int (nomark _))))))
noncomputable def m_law_is_surd : DS := (dSeq (dIfS (dOr (dNot (dTest (dCall 1 F_law_is_part (dCons (dVar 0) dNil)))) (dOr (dNot (dTest (dCall 1 F_law_is_part (dCons (dVar 2) dNil)))) (dTest (dOp gNotIn (dVar 1) (dLst (dCons (dUn gNeg (dC (.int 1))) (dCons (dC (.int 0)) (dCons (dC (.int 1)) dNil))))))))
    (dRet (dC (.bool false))) dNext)
    (dRet (dIf (dTest (dOp gEqA (dVar 1) (dC (.int 0)))) (dOp gEqA (dVar 2) (dTup (dCons (dC (.int 0)) (dCons (dC (.int 1)) dNil)))) (dAndV (dOp gGt (dOp gIx (dVar 2) (dC (.int 0))) (dC (.int 0))) (dOp gIsN (dCall 1 F_law_square_of (dCons (dVar 2) dNil)) (dC .none))))))
noncomputable def F_law_is_surd : List Dx.D → Option Dx.D := runD 3 m_law_is_surd
theorem ok_law_is_surd (T : Txt K mg A Fd) : FnG P w K mg base CX0 3 (A 33) (Fd 33) p_law_is_surd (spD K 3 F_law_is_surd) := fnD (ds := m_law_is_surd) (k := 2) T.f_law_is_surd sc_law_is_surd fun cdv A0 outer s H E hg hr => by
  unfold m_law_is_surd
  exact (pds_cons (pds_if (pdt_w (pdw_or (pdt_not (pdt_v (pd_call (ok_law_is_part T) hg (hr.mono (by decide)) (by rfl) T.g_law_is_part T.kp_law_is_part T.t_law_is_part (pda_cons (pd_var 0) pda_nil)))) (pdw_or (pdt_not (pdt_v (pd_call (ok_law_is_part T) hg (hr.mono (by decide)) (by rfl) T.g_law_is_part T.kp_law_is_part T.t_law_is_part (pda_cons (pd_var 2) pda_nil)))) (pdw_or1 (pdt_cmp (op_notInA (room65 hr)) os_notIn (pd_var 1) (pd_lst (pda_cons (pd_un un_neg us_neg pd_int) (pda_cons pd_int (pda_cons pd_int pda_nil)))) rfl)))))
    (pds_one (pds_ret pd_bl)) pds_nil)
    (pds_one (pds_ret (pd_ite (pdt_cmp (op_eqA hr.units) os_eqA (pd_var 1) pd_int (nomark _)) (pd_cmp (op_eqA hr.units) os_eqA (pd_var 2) (pd_tup (pda_cons pd_int (pda_cons pd_int pda_nil))) (nomark _)) (pd_and (pd_cmp op_gt os_gt (pd_ix ix_seq os_ix (pd_var 2) pd_int (fun _ _ => rfl)) pd_int (nomark _)) (pd_bone (pd_cmp op_isN os_isN (pd_call (ok_law_square_of T) hg (hr.mono (by decide)) (by rfl) T.g_law_square_of T.kp_law_square_of T.t_law_square_of (pda_cons (pd_var 2) pda_nil)) pd_non (nomark _))))))))
noncomputable def m_law_right : DS := (dSeq (dSet 1 (dCallL 0 0 F_law_wide dNil))
    (dSeq (dPar [2, 3] (dCons (dCallL 0 1 F_law_any_part (dCons (dVar 1) dNil)) (dCons (dCallL 0 1 F_law_any_part (dCons (dCallL 0 0 F_law_wide dNil) dNil)) dNil)))
    (dSeq (dSet 4 (dCallL 0 0 F_law_some_square dNil))
    (dSeq (dSet 5 (dCall 3 F_law_surd (dCons (dVar 2) (dCons (dVar 3) (dCons (dVar 4) dNil)))))
    (dSeq (dIfS (dTest (dOp gNeA (dCB gRepr (dCons (dLst (dCons (dCall 3 F_surd_of (dCons (dVar 2) (dCons (dVar 3) (dCons (dVar 4) dNil)))) (dCons (dCallK 3 3 [2, 1, 0] F_surd_of (dCons (dVar 4) (dCons (dVar 3) (dCons (dVar 2) dNil)))) dNil))) dNil)) (dCB gRepr (dCons (dLst (dCons (dVar 5) (dCons (dVar 5) dNil))) dNil))))
    (dRet (dC (.bool false))) dNext)
    (dSeq (dPar [6, 7] (dCons (dCall 2 F_law_mul (dCons (dCall 2 F_law_mul (dCons (dVar 3) (dCons (dVar 3) dNil))) (dCons (dVar 4) dNil))) (dCons (dCallL 0 1 F_law_over (dCons (dC (.int 9)) dNil)) dNil)))
    (dSeq (dIfS (dTest (dOp gNeA (dCall 3 F_surd_of (dCons (dVar 2) (dCons (dTup (dCons (dCall 1 F_law_sign (dCons (dOp gIx (dVar 3) (dC (.int 0))) dNil)) (dCons (dC (.int 1)) dNil))) (dCons (dVar 6) dNil)))) (dVar 5)))
    (dRet (dC (.bool false))) dNext)
    (dSeq (dIfS (dTest (dOp gNeA (dCall 3 F_surd_of (dCons (dVar 2) (dCons (dCall 2 F_law_div (dCons (dVar 3) (dCons (dVar 7) dNil))) (dCons (dCall 2 F_law_mul (dCons (dVar 4) (dCons (dCall 2 F_law_mul (dCons (dVar 7) (dCons (dVar 7) dNil))) dNil))) dNil)))) (dVar 5)))
    (dRet (dC (.bool false))) dNext)
    (dSeq (dPar [8, 9] (dCons (dTup (dCons (dCallL 0 1 F_law_about (dCons (dVar 1) dNil)) (dCons (dCallL 0 1 F_law_about (dCons (dC (.int 3)) dNil)) dNil))) (dCons (dCallL 0 1 F_law_about (dCons (dC (.int 2)) dNil)) dNil)))
    (dSeq (dSetOwn 10 (dNew (dCons (dCall 1 F_is_fraction (dCons (dVar 8) dNil)) (dCons (dCallK 1 1 [0] F_is_fraction (dCons (dVar 2) dNil)) (dCons (dCall 1 F_is_surd (dCons (dVar 5) dNil)) (dCons (dCall 1 F_is_surd (dCons (dTup (dCons (dVar 8) (dCons (dVar 9) (dCons (dVar 4) dNil)))) dNil)) dNil))))))
    (dSeq (dApp 10 (dCallK 1 1 [0] F_is_surd (dCons (dTup (dCons (dVar 2) (dCons (dVar 9) (dCons (dVar 4) dNil)))) dNil)))
    (dSeq (dSet 11 (dLst (dCons (dCall 1 F_law_is_part (dCons (dVar 8) dNil)) (dCons (dC (.bool true)) (dCons (dC (.bool true)) (dCons (dCall 3 F_law_is_surd (dCons (dVar 8) (dCons (dVar 9) (dCons (dVar 4) dNil)))) (dCons (dCall 3 F_law_is_surd (dCons (dVar 2) (dCons (dVar 9) (dCons (dVar 4) dNil)))) dNil)))))))
    (dSeq (dFrz 10 (dIfS (dTest (dOp gNeA (dCB gRepr (dCons (dVar 10) dNil)) (dCB gRepr (dCons (dVar 11) dNil))))
    (dRet (dC (.bool false))) dNext))
    (dSeq (dPar [12, 13] (dCons (dCallL 0 1 F_law_some (dCons (dCall 0 F_law_odd_parts dNil) dNil)) (dCons (dCallL 0 1 F_law_some (dCons (dCall 0 F_law_odd_surds dNil) dNil)) dNil)))
    (dRet (dOp gEqA (dCB gRepr (dCons (dLst (dCons (dCall 1 F_is_fraction (dCons (dVar 12) dNil)) (dCons (dCallK 1 1 [0] F_is_surd (dCons (dVar 13) dNil)) (dCons (dCall 1 F_is_surd (dCons (dTup (dCons (dVar 12) (dCons (dC (.int 0)) (dCons (dTup (dCons (dC (.int 0)) (dCons (dC (.int 1)) dNil))) dNil)))) dNil)) (dCons (dCall 1 F_is_surd (dCons (dVar 2) dNil)) dNil))))) dNil)) (dCB gRepr (dCons (dOp gMul (dLst (dCons (dC (.bool false)) dNil)) (dC (.int 4))) dNil))))))))))))))))))
noncomputable def F_law_right : List Dx.D → Ld → Res Dx.D := runL 14 m_law_right
theorem ok_law_right (T : Txt K mg A Fd) : FnG P w K mg base CX0 6 (A 34) (Fd 34) p_law_right (spL K 0 F_law_right) := fnL (ds := m_law_right) (k := 5) T.f_law_right sc_law_right (by decide) (by decide) fun cdv A0 outer s H E hg hr => by
  unfold m_law_right
  exact (pds_cons (pds_set (i := 1) sc_law_right.nd (pd_callL (ok_law_wide T) hg (hr.mono (by decide)) (by rfl) T.g_law_wide T.kp_law_wide T.t_law_wide (pv 0) pda_nil))
    (pds_cons (pds_par (i := 2) (j := 3) rfl sc_law_right.nd (pda_cons (pd_callL (ok_law_any_part T) hg (hr.mono (by decide)) (by rfl) T.g_law_any_part T.kp_law_any_part T.t_law_any_part (pv 0) (pda_cons (pd_var 1) pda_nil)) (pda_cons (pd_callL (ok_law_any_part T) hg (hr.mono (by decide)) (by rfl) T.g_law_any_part T.kp_law_any_part T.t_law_any_part (pv 0) (pda_cons (pd_callL (ok_law_wide T) hg (hr.mono (by decide)) (by rfl) T.g_law_wide T.kp_law_wide T.t_law_wide (pv 0) pda_nil) pda_nil)) pda_nil)))
    (pds_cons (pds_set (i := 4) sc_law_right.nd (pd_callL (ok_law_some_square T) hg (hr.mono (by decide)) (by rfl) T.g_law_some_square T.kp_law_some_square T.t_law_some_square (pv 0) pda_nil))
    (pds_cons (pds_set (i := 5) sc_law_right.nd (pd_call (ok_law_surd T) hg (hr.mono (by decide)) (by rfl) T.g_law_surd T.kp_law_surd T.t_law_surd (pda_cons (pd_var 2) (pda_cons (pd_var 3) (pda_cons (pd_var 4) pda_nil)))))
    (pds_cons (pds_if (pdt_cmp (op_neA hr.units) os_neA (pd_callB (cr_repr hg (room70 hr)) cs_repr (by rfl) T.b_repr boot_repr (pda_cons (pd_lst (pda_cons (pd_call (ok_surd_of T) hg (hr.mono (by decide)) (by rfl) T.g_surd_of T.kp_surd_of T.t_surd_of (pda_cons (pd_var 2) (pda_cons (pd_var 3) (pda_cons (pd_var 4) pda_nil)))) (pda_cons (pd_callK (ok_surd_of T) hg (hr.mono (by decide)) (by rfl) T.g_surd_of T.kp_surd_of T.w_surd_of_2_1_0 (pdk_cons (pd_var 4) (pdk_cons (pd_var 3) (pdk_cons (pd_var 2) pdk_nil)))) pda_nil))) pda_nil)) (pd_callB (cr_repr hg (room70 hr)) cs_repr (by rfl) T.b_repr boot_repr (pda_cons (pd_lst (pda_cons (pd_var 5) (pda_cons (pd_var 5) pda_nil))) pda_nil)) (nomark _))
    (pds_one (pds_ret pd_bl)) pds_nil)
    (pds_cons (pds_par (i := 6) (j := 7) rfl sc_law_right.nd (pda_cons (pd_call (ok_law_mul T) hg (hr.mono (by decide)) (by rfl) T.g_law_mul T.kp_law_mul T.t_law_mul (pda_cons (pd_call (ok_law_mul T) hg (hr.mono (by decide)) (by rfl) T.g_law_mul T.kp_law_mul T.t_law_mul (pda_cons (pd_var 3) (pda_cons (pd_var 3) pda_nil))) (pda_cons (pd_var 4) pda_nil))) (pda_cons (pd_callL (ok_law_over T) hg (hr.mono (by decide)) (by rfl) T.g_law_over T.kp_law_over T.t_law_over (pv 0) (pda_cons pd_int pda_nil)) pda_nil)))
    (pds_cons (pds_if (pdt_cmp (op_neA hr.units) os_neA (pd_call (ok_surd_of T) hg (hr.mono (by decide)) (by rfl) T.g_surd_of T.kp_surd_of T.t_surd_of (pda_cons (pd_var 2) (pda_cons (pd_tup (pda_cons (pd_call (ok_law_sign T) hg (hr.mono (by decide)) (by rfl) T.g_law_sign T.kp_law_sign T.t_law_sign (pda_cons (pd_ix ix_seq os_ix (pd_var 3) pd_int (fun _ _ => rfl)) pda_nil)) (pda_cons pd_int pda_nil))) (pda_cons (pd_var 6) pda_nil)))) (pd_var 5) (nomark _))
    (pds_one (pds_ret pd_bl)) pds_nil)
    (pds_cons (pds_if (pdt_cmp (op_neA hr.units) os_neA (pd_call (ok_surd_of T) hg (hr.mono (by decide)) (by rfl) T.g_surd_of T.kp_surd_of T.t_surd_of (pda_cons (pd_var 2) (pda_cons (pd_call (ok_law_div T) hg (hr.mono (by decide)) (by rfl) T.g_law_div T.kp_law_div T.t_law_div (pda_cons (pd_var 3) (pda_cons (pd_var 7) pda_nil))) (pda_cons (pd_call (ok_law_mul T) hg (hr.mono (by decide)) (by rfl) T.g_law_mul T.kp_law_mul T.t_law_mul (pda_cons (pd_var 4) (pda_cons (pd_call (ok_law_mul T) hg (hr.mono (by decide)) (by rfl) T.g_law_mul T.kp_law_mul T.t_law_mul (pda_cons (pd_var 7) (pda_cons (pd_var 7) pda_nil))) pda_nil))) pda_nil)))) (pd_var 5) (nomark _))
    (pds_one (pds_ret pd_bl)) pds_nil)
    (pds_cons (pds_par (i := 8) (j := 9) rfl sc_law_right.nd (pda_cons (pd_tup (pda_cons (pd_callL (ok_law_about T) hg (hr.mono (by decide)) (by rfl) T.g_law_about T.kp_law_about T.t_law_about (pv 0) (pda_cons (pd_var 1) pda_nil)) (pda_cons (pd_callL (ok_law_about T) hg (hr.mono (by decide)) (by rfl) T.g_law_about T.kp_law_about T.t_law_about (pv 0) (pda_cons pd_int pda_nil)) pda_nil))) (pda_cons (pd_callL (ok_law_about T) hg (hr.mono (by decide)) (by rfl) T.g_law_about T.kp_law_about T.t_law_about (pv 0) (pda_cons pd_int pda_nil)) pda_nil)))
    (pds_cons (pds_setOwn (i := 10) sc_law_right.nd (pdn_lst (pda_cons (pd_call (ok_is_fraction T) hg (hr.mono (by decide)) (by rfl) T.g_is_fraction T.kp_is_fraction T.t_is_fraction (pda_cons (pd_var 8) pda_nil)) (pda_cons (pd_callK (ok_is_fraction T) hg (hr.mono (by decide)) (by rfl) T.g_is_fraction T.kp_is_fraction T.w_is_fraction_0 (pdk_cons (pd_var 2) pdk_nil)) (pda_cons (pd_call (ok_is_surd T) hg (hr.mono (by decide)) (by rfl) T.g_is_surd T.kp_is_surd T.t_is_surd (pda_cons (pd_var 5) pda_nil)) (pda_cons (pd_call (ok_is_surd T) hg (hr.mono (by decide)) (by rfl) T.g_is_surd T.kp_is_surd T.t_is_surd (pda_cons (pd_tup (pda_cons (pd_var 8) (pda_cons (pd_var 9) (pda_cons (pd_var 4) pda_nil)))) pda_nil)) pda_nil))))))
    (pds_cons (pds_app 10 (pv 10) (pd_callK (ok_is_surd T) hg (hr.mono (by decide)) (by rfl) T.g_is_surd T.kp_is_surd T.w_is_surd_0 (pdk_cons (pd_tup (pda_cons (pd_var 2) (pda_cons (pd_var 9) (pda_cons (pd_var 4) pda_nil)))) pdk_nil)))
    (pds_cons (pds_set (i := 11) sc_law_right.nd (pd_lst (pda_cons (pd_call (ok_law_is_part T) hg (hr.mono (by decide)) (by rfl) T.g_law_is_part T.kp_law_is_part T.t_law_is_part (pda_cons (pd_var 8) pda_nil)) (pda_cons pd_bl (pda_cons pd_bl (pda_cons (pd_call (ok_law_is_surd T) hg (hr.mono (by decide)) (by rfl) T.g_law_is_surd T.kp_law_is_surd T.t_law_is_surd (pda_cons (pd_var 8) (pda_cons (pd_var 9) (pda_cons (pd_var 4) pda_nil)))) (pda_cons (pd_call (ok_law_is_surd T) hg (hr.mono (by decide)) (by rfl) T.g_law_is_surd T.kp_law_is_surd T.t_law_is_surd (pda_cons (pd_var 2) (pda_cons (pd_var 9) (pda_cons (pd_var 4) pda_nil)))) pda_nil)))))))
    (pds_cons (pds_frz 10 (pds_if (pdt_cmp (op_neA hr.units) os_neA (pd_callB (cr_repr hg (room70 hr)) cs_repr (by rfl) T.b_repr boot_repr (pda_cons (pd_var 10) pda_nil)) (pd_callB (cr_repr hg (room70 hr)) cs_repr (by rfl) T.b_repr boot_repr (pda_cons (pd_var 11) pda_nil)) (nomark _))
    (pds_one (pds_ret pd_bl)) pds_nil))
    (pds_cons (pds_par (i := 12) (j := 13) rfl sc_law_right.nd (pda_cons (pd_callL (ok_law_some T) hg (hr.mono (by decide)) (by rfl) T.g_law_some T.kp_law_some T.t_law_some (pv 0) (pda_cons (pd_call0 (ok_law_odd_parts T) hg (hr.mono (by decide)) (by rfl) T.g_law_odd_parts T.kp_law_odd_parts T.t_law_odd_parts) pda_nil)) (pda_cons (pd_callL (ok_law_some T) hg (hr.mono (by decide)) (by rfl) T.g_law_some T.kp_law_some T.t_law_some (pv 0) (pda_cons (pd_call0 (ok_law_odd_surds T) hg (hr.mono (by decide)) (by rfl) T.g_law_odd_surds T.kp_law_odd_surds T.t_law_odd_surds) pda_nil)) pda_nil)))
    (pds_one (pds_ret (pd_cmp (op_eqA hr.units) os_eqA (pd_callB (cr_repr hg (room70 hr)) cs_repr (by rfl) T.b_repr boot_repr (pda_cons (pd_lst (pda_cons (pd_call (ok_is_fraction T) hg (hr.mono (by decide)) (by rfl) T.g_is_fraction T.kp_is_fraction T.t_is_fraction (pda_cons (pd_var 12) pda_nil)) (pda_cons (pd_callK (ok_is_surd T) hg (hr.mono (by decide)) (by rfl) T.g_is_surd T.kp_is_surd T.w_is_surd_0 (pdk_cons (pd_var 13) pdk_nil)) (pda_cons (pd_call (ok_is_surd T) hg (hr.mono (by decide)) (by rfl) T.g_is_surd T.kp_is_surd T.t_is_surd (pda_cons (pd_tup (pda_cons (pd_var 12) (pda_cons pd_int (pda_cons (pd_tup (pda_cons pd_int (pda_cons pd_int pda_nil))) pda_nil)))) pda_nil)) (pda_cons (pd_call (ok_is_surd T) hg (hr.mono (by decide)) (by rfl) T.g_is_surd T.kp_is_surd T.t_is_surd (pda_cons (pd_var 2) pda_nil)) pda_nil))))) pda_nil)) (pd_callB (cr_repr hg (room70 hr)) cs_repr (by rfl) T.b_repr boot_repr (pda_cons (pd_op op_mulA os_mul (pd_lst (pda_cons pd_bl pda_nil)) pd_int) pda_nil)) (nomark _))))))))))))))))))
end
end K02
end
section
set_option Elab.async false
set_option linter.all false
set_option maxRecDepth 100000
set_option maxHeartbeats 4000000
namespace K02
open PySem PySem.Spec PyProof.Rows L2 Dx
/-! the store is made -/
def spLode (K : PySem.W.Frag) : Sp := fun vs H Q _ => ∃ (a : Addr) (ns : List Int) (lap : Int), vs = [.ref a, .int lap] ∧ SqL K H a (ns.map V.int) ∧ ns.length ≤ 63 ∧ 0 ≤ lap ∧ ∀ (p : Addr) (l : Ld) (H' : Hp), (0 ≤ l.s ∧ l.s < 2147483477 ∧ l.k = 0) → (∀ b o, H b = some o → H' b = some o) → H p = none → H' p = some l.ho → Q (.ref p) H'
def spLaw (K : PySem.W.Frag) : Sp := fun vs H Q _ => ∃ (a : Addr) (ns : List Int), vs = [.ref a] ∧ SqL K H a (ns.map V.int) ∧ ns.length ≤ 63 ∧ ∀ H', Q (.bl true) H'
theorem both2 {H : Hp} {G : Prop} (X : Int → Hp → Prop) (h : (∀ c H0, Same H H0 → X c H0) → G) (k : ∀ c H0, Same H H0 → X c H0) : G := h k
theorem cut_ints (ns : List Int) (lo hi : Option Int) : ∃ ms : List Int, cutV (ns.map V.int) lo hi = ms.map V.int := ⟨_, by
  unfold cutV
  rw [← List.map_drop, ← List.map_take]⟩
theorem boot_lode_len : bootBuiltins "len" = some (.builtin "len") := by decide +kernel
theorem boot_lode_sum : bootBuiltins "sum" = some (.builtin "sum") := by decide +kernel
theorem boot_lode_int : bootBuiltins "int" = some (.type "int") := by decide +kernel
theorem boot_lode_abs : bootBuiltins "abs" = some (.builtin "abs") := by decide +kernel
theorem boot_lode_all : bootBuiltins "all" = some (.builtin "all") := by decide +kernel
theorem boot_lode_min : bootBuiltins "min" = some (.builtin "min") := by decide +kernel
theorem boot_lode_max : bootBuiltins "max" = some (.builtin "max") := by decide +kernel
structure Bn (mg : Str → Option Value) : Prop where
  len : mg "len" = none
  sum : mg "sum" = none
  int : mg "int" = none
  abs : mg "abs" = none
  all : mg "all" = none
  min : mg "min" = none
  max : mg "max" = none
  range : mg "range" = none
section
variable {P : Program} {w : World} {K : PySem.W.Frag} {mg : Str → Option Value} {base : Heap} {A : Nat → Addr} {Fd : Nat → FuncData}
theorem ok_lode (T : Txt K mg A Fd) (B : Bn mg) {f : Addr} {fd : FuncData} (F : Fun K "_law_lode" "_law_lode" s_law_lode f fd) : FnG P w K mg base CX0 1 f fd p_law_lode (spLode K) := by
  refine fnG_body F sc_law_lode (fun vs H Q E h => ?_) fun cdv A0 outer s H vs Q E hg hr h => ?_
  · obtain ⟨a, ns, lap, rfl, _⟩ := h
    rfl
  · obtain ⟨a, ns, lap, rfl, hS, hl, h0, k⟩ := h
    have nd := sc_law_lode.nd
    refine ⟨_, PSs.nox (pss_cons (ps_set (i := 2) nd rfl (Or.inl rfl) (pe_ifExp (pt_cmpR op_lt (pv 1) (pe_callB call_len_seq (by rfl) B.len boot_lode_len (pa_cons (pv 0) pa_nil)) (nomark _)) (pe_callTy call_int1 (by rfl) B.int boot_lode_int (pa_cons (pe_ix ix_list (pv 0) (pv 1) (fun _ _ => rfl)) pa_nil))
        (pe_op op_add (pe_op op_add (pe_op op_mul pe_int (pv 1)) pe_int) (pe_op op_modN (pe_callTy call_int1 (by rfl) B.int boot_lode_int (pa_cons (pe_callB (cr_sum rfl) (by rfl) B.sum boot_lode_sum (pa_cons (pe_slice sl_list (pv 0) po_none (po_some pe_int)) pa_nil)) pa_nil)) pe_int))))
      (pss_cons (ps_set (i := 3) nd rfl (Or.inl rfl) (pe_op op_add pe_int (pe_op op_mul pe_int (pv 1))))
      (pss_cons (ps_for PassesOwn.never rfl (pi_list (pe_op op_cat (pe_slice sl_list (pv 0) po_none (po_some pe_int)) (pe_lst (pa_cons (pv 2) pa_nil)))) (pg_name (i := 4) nd rfl (Or.inl rfl))
        (pss_one (ps_set (i := 3) nd rfl (Or.inl rfl) (pe_op op_modN (pe_callTy call_int1 (by rfl) B.int boot_lode_int (pa_cons (pe_op op_add (pe_op op_add (pe_op op_mul (pv 3) pe_int) (pe_op op_modN (pe_callTy call_int1 (by rfl) B.int boot_lode_int (pa_cons (pv 4) pa_nil)) pe_int)) pe_int) pa_nil)) pe_int))))
      (pss_one (ps_ret (pe_lst (pa_cons (pe_ifExp (PW.pt (pw_or (pt_cmpR op_lt (pv 2) pe_int (nomark _)) (pw_or1 (pt_cmpR op_ge (pv 2) (pe_op op_pow pe_int pe_int) (nomark _))))) (pe_callB call_abs (by rfl) B.abs boot_lode_abs (pa_cons (pv 2) pa_nil)) pe_int) (pa_cons (pv 3) (pa_cons pe_int pa_nil))))))))), ?_⟩
    apply both2 (H := H)
    · intro fol
      refine ⟨_, rfl, _, rfl, a, _, rfl, .inl hS, _, _, rfl, rfl, _, rfl, ?_⟩
      refine ite2 (fun hlt => ?_) (fun _ => ?_)
      · have hlt' : lap < ((ns.map V.int).length : Nat) := of_decide_eq_true hlt
        rw [List.length_map] at hlt'
        obtain ⟨n, hn⟩ : ∃ n, ns[lap.toNat]? = some n := ⟨_, List.getElem?_eq_getElem (by omega)⟩
        have hat : atI (ns.map V.int) lap = some (.int n) := by
          have e : lap = ((lap.toNat : Nat) : Int) := by omega
          rw [e]
          exact atI_nat (by rw [List.getElem?_map, hn]; rfl)
        exact ⟨.ref a, rfl, _, rfl, a, _, lap, _, rfl, rfl, hS, hat, .inl ⟨_, rfl, fol n H (Same.refl H)⟩⟩
      · refine ⟨_, rfl, _, _, rfl, rfl, .inl (by constructor <;> decide), _, _, rfl, rfl, ?_⟩
        refine ⟨.ref a, rfl, _, rfl, a, _, rfl, hS, fun p hp => ?_⟩
        obtain ⟨ms, hms⟩ := cut_ints ns none (some 5)
        refine ⟨p, ms, rfl, by rw [← hms]; exact SqL.of upd_same, .inl ⟨_, rfl, _, _, rfl, rfl, by show ¬ _ = (0 : Int); decide, _, _, rfl, rfl, fol _ _ fun b o e => ?_⟩⟩
        rw [upd_ne (ne_of_none e hp)]
        exact e
    · intro c H0 S0
      refine ⟨_, rfl, _, _, rfl, rfl, .inl (by constructor <;> decide), _, _, rfl, rfl, ?_⟩
      refine ⟨.ref a, rfl, _, rfl, a, _, rfl, S0.seq hS, fun p hp => ⟨_, rfl, by show 1 ≤ sizeLine; decide, fun q hq => ?_⟩⟩
      obtain ⟨ms, hms⟩ := cut_ints ns none (some 11)
      have npq : p ≠ q := fun e => by rw [e, upd_same] at hq; cases hq
      have hp2 : upd (upd H0 p (.lst (cutV (ns.map V.int) none (some 11)))) q (.lst [V.int c]) p = some (.lst (cutV (ns.map V.int) none (some 11))) := by rw [upd_ne npq, upd_same]
      have len1 : (cutV (ns.map V.int) none (some 11)).length ≤ 63 := Nat.le_trans (cutV_length _ _ _) (by rw [List.length_map]; exact hl)
      refine ⟨p, q, _, _, rfl, rfl, hp2, upd_same, ?_, fun r hr2 => ?_⟩
      · rw [List.length_singleton]
        exact Nat.le_trans (Nat.add_le_add_right len1 1) (by decide)
      have S3 : Same H0 (upd (upd (upd H0 p (.lst (cutV (ns.map V.int) none (some 11)))) q (.lst [V.int c])) r (.lst (cutV (ns.map V.int) none (some 11) ++ [V.int c]))) := fun b o e => by
        have e1 : (upd H0 p (.lst (cutV (ns.map V.int) none (some 11)))) b = some o := by rw [upd_ne (ne_of_none e hp)]; exact e
        have e2 : (upd (upd H0 p (.lst (cutV (ns.map V.int) none (some 11)))) q (.lst [V.int c])) b = some o := by rw [upd_ne (ne_of_none e1 hq)]; exact e1
        rw [upd_ne (ne_of_none e2 hr2)]
        exact e2
      have eL : cutV (ns.map V.int) none (some 11) ++ [V.int c] = (ms ++ [c]).map V.int := by rw [hms, List.map_append]; rfl
      refine ⟨r, rfl, ⟨_, SqL.of upd_same⟩, for_list (K := K) (a := r) (xs := (ms ++ [c]).map V.int) (fun i σ H' => ∃ (st : Int) (v : Option V), σ = [some (.ref a), some (.int lap), some (.int c), some (.int st), v] ∧ Same H H' ∧ H' r = some (.lst ((ms ++ [c]).map V.int)) ∧ (i = 0 ∨ (0 ≤ st ∧ st < 2147483477))) ⟨_, none, rfl, S0.trans S3, by rw [upd_same, eL], .inl rfl⟩ (fun i σ H' _ ⟨_, _, _, _, q, _⟩ => SqL.of q) ?_ ?_⟩
      · rintro i y σ H' hi ⟨st, v, rfl, s5, q5, _⟩
        obtain ⟨z, rfl⟩ : ∃ z, y = V.int z := by
          rw [List.getElem?_map] at hi
          cases e : (ms ++ [c])[i]? with
          | none => rw [e] at hi; cases hi
          | some z => rw [e] at hi; exact ⟨z, (Option.some.inj hi).symm⟩
        refine ⟨_, rfl, _, _, rfl, rfl, .inr (by constructor <;> decide), _, rfl, .inl ⟨_, rfl, _, _, rfl, rfl, by show ¬ _ = (0 : Int); decide, _, _, rfl, rfl, _, _, rfl, rfl, .inl ⟨_, rfl, _, _, rfl, rfl, by show ¬ _ = (0 : Int); decide, ?_⟩⟩⟩
        exact ⟨_, _, rfl, s5, q5, .inr ⟨Int.fmod_nonneg_of_pos _ (by decide), Int.fmod_lt_of_pos _ (by decide)⟩⟩
      · rintro σ H' ⟨st, v, rfl, s5, q5, b5⟩
        have fin : ∀ z : Int, tCons (fun σ H Q => Q (.int z) H) (tCons (tVar 3) (tCons (tC (.int 0)) tNil)) [some (.ref a), some (.int lap), some (.int c), some (.int st), v] H' fun xs H1 => xs.length ≤ sizeLine ∧ ∀ p, H1 p = none → Q (.ref p) (upd H1 p (.lst xs)) := fun z => by
          refine ⟨_, rfl, by show 3 ≤ sizeLine; decide, fun p hp => ?_⟩
          have b6 : 0 ≤ st ∧ st < 2147483477 := by
            rcases b5 with z | z
            · rw [List.length_map, List.length_append, List.length_singleton] at z
              omega
            · exact z
          refine k p ⟨z, st, 0⟩ _ ⟨b6.1, b6.2, rfl⟩ (fun b o e => ?_) (s5.free hp) upd_same
          rw [upd_ne (ne_of_none (s5 _ _ e) hp)]
          exact s5 _ _ e
        refine ⟨_, rfl, _, _, rfl, rfl, _, rfl, ?_⟩
        refine ite2 (fun _ => iteT ?_) (fun _ => ?_)
        · exact ⟨_, rfl, _, rfl, fin _⟩
        · refine ⟨_, rfl, _, _, rfl, rfl, ⟨by decide, by decide, by decide⟩, _, _, rfl, rfl, _, rfl, ?_⟩
          refine ite2 (fun _ => ?_) (fun _ => ?_)
          · exact ⟨_, rfl, _, rfl, fin _⟩
          · exact fin 0
end
end K02
end
section
set_option Elab.async false
set_option linter.all false
set_option maxRecDepth 100000
set_option maxHeartbeats 4000000
namespace K02
open PySem PySem.Spec PyProof.Rows L2 Dx
section
variable {P : Program} {w : World} {K : PySem.W.Frag} {mg : Str → Option Value} {base : Heap} {A : Nat → Addr} {Fd : Nat → FuncData}
theorem ok_law (T : Txt K mg A Fd) (B : Bn mg) (hR : ∀ l, (0 ≤ l.s ∧ l.s < 2147483477 ∧ l.k = 0) → ∃ l', F_law_right [] l = .ok (.bool true) l') {f : Addr} {fd : FuncData} (F : Fun K "law" "law" s_law f fd) : FnG P w K mg base CX0 7 f fd ["_law_script"] (spLaw K) := by
  refine fnG_body F sc_law (fun vs H Q E h => ?_) fun cdv A0 outer s H vs Q E hg hr h => ?_
  · obtain ⟨a, ns, rfl, _⟩ := h
    rfl
  · obtain ⟨a, ns, rfl, hS, hl, k⟩ := h
    have nd := sc_law.nd
    refine ⟨_, PSs.nox (pss_one (ps_ret (pe_callB (cr_all rfl) (by rfl) B.all boot_lode_all (pa_cons (pe_lc (own := [("_law_lap", 1)]) rfl nd (pi_range1 (by rfl) B.range (pa_cons (pe_callB (call_max2 rfl) (by rfl) B.max boot_lode_max (pa_cons pe_int (pa_cons (pe_callB (call_min2 rfl) (by rfl) B.min boot_lode_min (pa_cons (pe_callB call_len_seq (by rfl) B.len boot_lode_len (pa_cons (pv 0) pa_nil)) (pa_cons pe_int pa_nil))) pa_nil))) pa_nil))
      (blkOk_by (own := [("_law_lap", 1)]) (N := N_law) (sc := defScope s_law) (by decide +kernel)) (fun _ _ _ _ _ => pg_name (i := 1) nd rfl (Or.inl rfl)) (fun _ _ _ _ _ => pts_nil)
      (fun _ _ _ _ _ => pe_callG (ok_law_right T) hg (hr.mono (by decide)) (by rfl) T.g_law_right T.kp_law_right T.t_law_right pass0 (pa_cons (pe_callG (ok_lode T B T.f_law_lode) hg (hr.mono (by decide)) (by rfl) T.g_law_lode T.kp_law_lode T.t_law_lode pass0 (pa_cons (pv 0) (pa_cons (pv 1) pa_nil))) pa_nil))) pa_nil)))), ?_⟩
    refine ⟨.ref a, rfl, a, _, rfl, .inl hS, _, _, rfl, _, _, rfl, ?_⟩
    rw [List.length_map]
    refine ⟨_, rfl, ?_, ?_, ?_⟩
    · repeat (first | omega | split)
    · repeat (first | omega | split)
    obtain ⟨n, hn, hj⟩ : ∃ n : Nat, n ≤ 1000 ∧ (if (if (3 : Int) < ((ns.length : Nat) : Int) then (3 : Int) else ((ns.length : Nat) : Int)) > 2 then (if (3 : Int) < ((ns.length : Nat) : Int) then (3 : Int) else ((ns.length : Nat) : Int)) else 2).toNat = n := ⟨_, by repeat (first | omega | split), rfl⟩
    rw [hj]
    intro D hD
    have nD : ∀ b o, H b = some o → b ≠ D := fun b o e z => by
      rw [z, hD] at e
      cases e
    refine lc_range (lo := 0) (n := n) (fun i H' => Same H H' ∧ H' D = some (.lst ((List.replicate i true).map V.bl)) ∧ i ≤ n) ?_ ?_ ?_
    · exact ⟨fun b o e => by rw [upd_ne (nD b o e)]; exact e, upd_same, Nat.zero_le _⟩
    · rintro i H' hi ⟨s5, d5, b5⟩
      refine ⟨rfl, ?_⟩
      unfold tYes
      dsimp only
      rw [if_pos rfl]
      refine ⟨.ref a, rfl, _, rfl, a, ns, 0 + (i : Int), rfl, s5.seq hS, hl, by omega, fun p l H2 kk k1 k2 k3 => ?_⟩
      obtain ⟨l', e'⟩ := hR l kk
      have pD : D ≠ p := fun z => by
        rw [z, k2] at d5
        cases d5
      refine ⟨fun _ => none, [], [], .bool true, p, l, l', rfl, rfl, (fun b o e => nomatch e), rfl, k3, .nil, e', fun v H3 P3 G3 r3 => ?_⟩
      rw [r3.isBl]
      have keep : ∀ b o, H' b = some o → H3 b = some o := fun b o e => G3.keep b o (fun z => by cases z; rw [k2] at e; cases e) (k1 b o e)
      refine ⟨_, keep D _ d5, ?_, fun b o e => ?_, ?_, ?_⟩
      · rw [List.length_map, List.length_replicate]
        exact Nat.lt_of_le_of_lt (Nat.le_trans b5 hn) (by decide)
      · rw [upd_ne (nD b o e)]
        exact keep b o (s5 b o e)
      · rw [upd_same, List.replicate_succ', List.map_append]
        rfl
      · exact hi
    · rintro H' ⟨s5, d5, b5⟩
      refine ⟨D, List.replicate n true, rfl, SqL.of d5, ?_⟩
      have e : (List.replicate n true).all id = true := by simp
      rw [e]
      exact k _
end
end K02
end
section
set_option Elab.async false
set_option linter.all false
set_option maxRecDepth 100000
set_option maxHeartbeats 1000000
set_option exponentiation.threshold 100
namespace K02
open PySem Dx Fc
theorem lw_t {c : DT} {b : DS} {n : Nat} {en en' : En} {l l1 l' : Ld} (h : c en l = .ok true l1) (k : b en l1 = .nx en' l') : loopW c b (n + 1) en l = loopW c b n en' l' := by
  conv => lhs; unfold loopW
  rw [h]
  dsimp only
  rw [k]
theorem lw_f {c : DT} {b : DS} {n : Nat} {en : En} {l l1 : Ld} (h : c en l = .ok false l1) : loopW c b (n + 1) en l = .nx en l1 := by
  conv => lhs; unfold loopW
  rw [h]
theorem lw_up {c : DT} {b : DS} {n m : Nat} {en : En} {l : Ld} {r : SRes} (h : loopW c b n en l = r) (hr : r ≠ .no) (hm : n ≤ m) : loopW c b m en l = r := by
  obtain ⟨k, rfl⟩ := Nat.exists_eq_add_of_le hm
  rw [loopW_up k (by rw [h]; exact hr), h]
/-! the statement's own gcd -/
def gcdC : DT := dTest (dOp gGt (dVar 1) (dC (.int 0)))
def gcdB : DS := dPar [0, 1] (dCons (dVar 1) (dCons (dOp gMod (dCB gInt (dCons (dVar 0) dNil)) (dVar 1)) dNil))
def en2 (a b : Int) : En := [some (.dat (.int a)), some (.dat (.int b))]
theorem gcdC_eq (a b : Int) (l : Ld) : gcdC (en2 a b) l = .ok (decide (0 < b)) l := rfl
theorem gcdB_eq (a b : Int) (l : Ld) (h : b ≠ 0) : gcdB (en2 a b) l = .nx (en2 b (a.fmod b)) l := by
  simp [gcdB, en2, dPar, dCons, dNil, dOp, gMod, g2IC, dCB, gInt, dVar, Res.bind, cMod, h]
theorem loop_gcd (l : Ld) : ∀ (b a : Nat), loopW gcdC gcdB (b + 1) (en2 a b) l = .nx (en2 (Nat.gcd b a) 0) l := by
  intro b
  induction b using Nat.strongRecOn with
  | ind b ih =>
    intro a
    cases b with
    | zero =>
      rw [Nat.gcd_zero_left]
      exact lw_f rfl
    | succ b =>
      have h := ih (a % (b + 1)) (Nat.mod_lt _ (by omega)) (b + 1)
      have e2 := gcdB_eq (a : Int) ((b + 1 : Nat) : Int) l (by omega)
      have e3 : (a : Int).fmod ((b + 1 : Nat) : Int) = ((a % (b + 1) : Nat) : Int) := by
        rw [Int.fmod_eq_emod_of_nonneg _ (by omega)]
        rfl
      rw [e3] at e2
      have e1 : gcdC (en2 (a : Int) ((b + 1 : Nat) : Int)) l = .ok true l := by
        rw [gcdC_eq, decide_eq_true (by omega)]
      rw [lw_t e1 e2, lw_up h (by simp) (Nat.succ_le_of_lt (Nat.mod_lt _ (by omega))), ← Nat.gcd_rec]
theorem F_law_gcd_eq (a b : Int) : F_law_gcd [.int a, .int b] = some (.int (Int.gcd a b)) := by
  have w := dWhile_eq (loop_gcd ⟨0, 0, 0⟩ b.natAbs a.natAbs) (by simp)
  have ha : (if a < 0 then -a else a) = (a.natAbs : Int) := by split <;> omega
  have hb : (if b < 0 then -b else b) = (b.natAbs : Int) := by split <;> omega
  unfold F_law_gcd runD m_law_gcd
  have e : dPar [0, 1] (dCons (dCB gAbs (dCons (dVar 0) dNil)) (dCons (dCB gAbs (dCons (dVar 1) dNil)) dNil)) (enOf 2 [.int a, .int b]) ⟨0, 0, 0⟩ = .nx (en2 a.natAbs b.natAbs) ⟨0, 0, 0⟩ := by
    rw [← ha, ← hb]
    rfl
  unfold dSeq
  simp only [e]
  have w' : dWhile (dTest (dOp gGt (dVar 1) (dC (.int 0)))) (dPar [0, 1] (dCons (dVar 1) (dCons (dOp gMod (dCB gInt (dCons (dVar 0) dNil)) (dVar 1)) dNil))) (en2 a.natAbs b.natAbs) ⟨0, 0, 0⟩ = _ := w
  rw [w', Nat.gcd_comm]
  rfl
/-! the statement's own root -/
def en4 (n a b : Int) (m : Option Sl) : En := [some (.dat (.int n)), some (.dat (.int a)), some (.dat (.int b)), m]
def rootC1 : DT := dTest (dOp gLe (dOp gMul (dVar 2) (dVar 2)) (dVar 0))
def rootB1 : DS := dSet 2 (dOp gMul (dC (.int 2)) (dVar 2))
def rootC2 : DT := dTest (dOp gGt (dOp gSub (dVar 2) (dVar 1)) (dC (.int 1)))
def rootB2 : DS := (dSeq (dSet 3 (dOp gDiv (dOp gAdd (dVar 1) (dVar 2)) (dC (.int 2))))
    (dIfS (dTest (dOp gLe (dOp gMul (dVar 3) (dVar 3)) (dVar 0)))
    (dSet 1 (dVar 3)) (dSet 2 (dVar 3))))
theorem rootC1_eq (n a b : Int) (m : Option Sl) (l : Ld) (h : cMul b b = true) : rootC1 (en4 n a b m) l = .ok (decide (b * b ≤ n)) l := by
  simp [rootC1, en4, dTest, dOp, gLe, gMul, gMulI, g2IC, g2B, dVar, Res.bind, h]
theorem rootB1_eq (n a b : Int) (m : Option Sl) (l : Ld) (h : cMul 2 b = true) : rootB1 (en4 n a b m) l = .nx (en4 n a (2 * b) m) l := by
  simp [rootB1, en4, dSet, dOp, gMul, gMulI, g2IC, dC, dVar, Res.bind, h]
theorem rootC2_eq (n a b : Int) (m : Option Sl) (l : Ld) : rootC2 (en4 n a b m) l = .ok (decide (1 < b - a)) l := rfl
theorem rootB2_eq (n a b : Int) (m : Option Sl) (l : Ld) (h : cMul ((a + b).fdiv 2) ((a + b).fdiv 2) = true) : rootB2 (en4 n a b m) l = .nx (if (a + b).fdiv 2 * (a + b).fdiv 2 ≤ n then en4 n ((a + b).fdiv 2) b (some (.dat (.int ((a + b).fdiv 2)))) else en4 n a ((a + b).fdiv 2) (some (.dat (.int ((a + b).fdiv 2))))) l := by
  have hd : cDiv (a + b) 2 = true := by
    unfold cDiv
    exact decide_eq_true ⟨by decide, by decide⟩
  by_cases c : (a + b).fdiv 2 * (a + b).fdiv 2 ≤ n
  · simp [rootB2, en4, dSet, dSeq, dIfS, dTest, gLe, g2B, dOp, gDiv, gAdd, gMul, gMulI, g2I, g2IC, dC, dVar, Res.bind, h, hd, c]
  · simp [rootB2, en4, dSet, dSeq, dIfS, dTest, gLe, g2B, dOp, gDiv, gAdd, gMul, gMulI, g2I, g2IC, dC, dVar, Res.bind, h, hd, c]
theorem Bd_int {n : Nat} {x : Int} (h0 : 0 ≤ x) (h : x < ((2 ^ n : Nat) : Int)) : Bd n x := by
  unfold Bd
  omega
theorem root1 (l : Ld) (n : Int) : ∀ (f : Nat) (b : Int), 1 ≤ b → n < ((2 ^ f : Nat) * b) * ((2 ^ f : Nat) * b) → Bd 9000 ((2 ^ f : Nat) * b) → ∃ h : Int, loopW rootC1 rootB1 (f + 1) (en4 n 0 b none) l = .nx (en4 n 0 h none) l ∧ n < h * h ∧ 1 ≤ h ∧ h ≤ (2 ^ f : Nat) * b := by
  intro f
  induction f with
  | zero =>
    intro b h1 h2 h3
    rw [Nat.pow_zero, Int.natCast_one, Int.one_mul] at *
    refine ⟨b, ?_, h2, h1, Int.le_refl _⟩
    have c := rootC1_eq n 0 b none l (cMul_ok h3 h3 (by decide) (by decide) (by decide))
    rw [decide_eq_false (by omega)] at c
    exact lw_f c
  | succ f ih =>
    intro b h1 h2 h3
    have e : ((2 ^ (f + 1) : Nat) : Int) * b = ((2 ^ f : Nat) : Int) * (2 * b) := by
      rw [Nat.pow_succ, Int.natCast_mul, Int.mul_assoc]
      rfl
    have hb : b ≤ ((2 ^ (f + 1) : Nat) : Int) * b := by
      have p : 1 ≤ ((2 ^ (f + 1) : Nat) : Int) := by
        have := Nat.pow_pos (n := f + 1) (show 0 < 2 by decide)
        omega
      have := Int.mul_le_mul_of_nonneg_right p (show 0 ≤ b by omega)
      omega
    have bb : Bd 9000 b := by
      unfold Bd at *
      omega
    have c := rootC1_eq n 0 b none l (cMul_ok bb bb (by decide) (by decide) (by decide))
    by_cases q : b * b ≤ n
    · rw [decide_eq_true q] at c
      have d := rootB1_eq n 0 b none l (cMul_ok (n := 2) (by unfold Bd; decide) bb (by decide) (by decide) (by decide))
      rw [e] at h2 h3
      obtain ⟨h, k1, k2, k3, k4⟩ := ih (2 * b) (by omega) h2 h3
      refine ⟨h, ?_, k2, k3, by rw [e]; exact k4⟩
      rw [lw_t c d]
      exact k1
    · rw [decide_eq_false q] at c
      exact ⟨b, lw_f c, by omega, h1, hb⟩
theorem root2 (l : Ld) (n : Int) : ∀ (f : Nat) (a b : Int) (m : Option Sl), b - a ≤ f → 0 ≤ a → a < b → Bd 9000 b → a * a ≤ n → n < b * b → ∃ r b' m', loopW rootC2 rootB2 (f + 1) (en4 n a b m) l = .nx (en4 n r b' m') l ∧ 0 ≤ r ∧ r * r ≤ n ∧ n < (r + 1) * (r + 1) := by
  intro f
  induction f with
  | zero =>
    intro a b m h1 h2 h3
    omega
  | succ f ih =>
    intro a b m h1 h2 h3 h4 h5 h6
    have c := rootC2_eq n a b m l
    by_cases q : 1 < b - a
    · rw [decide_eq_true q] at c
      have e : (a + b).fdiv 2 = (a + b) / 2 := Int.fdiv_eq_ediv_of_nonneg _ (by decide)
      have bm : Bd 9000 ((a + b).fdiv 2) := by
        rw [e]
        unfold Bd at *
        omega
      have d := rootB2_eq n a b m l (cMul_ok bm bm (by decide) (by decide) (by decide))
      rw [e] at d bm
      by_cases k : (a + b) / 2 * ((a + b) / 2) ≤ n
      · rw [if_pos k] at d
        rw [lw_t c d]
        exact ih _ _ _ (by omega) (by omega) (by omega) h4 k h6
      · rw [if_neg k] at d
        rw [lw_t c d]
        exact ih _ _ _ (by omega) (by omega) (by omega) bm h5 (by omega)
    · rw [decide_eq_false q] at c
      have e : b = a + 1 := by omega
      subst e
      exact ⟨a, _, _, lw_f c, h2, h5, h6⟩
theorem sq_uniq {r s n : Nat} (h1 : r * r ≤ n) (h2 : n < (r + 1) * (r + 1)) (h3 : s * s ≤ n) (h4 : n < (s + 1) * (s + 1)) : r = s := by
  rcases Nat.lt_trichotomy r s with h | h | h
  · have := Nat.mul_le_mul (show r + 1 ≤ s from h) (show r + 1 ≤ s from h)
    omega
  · exact h
  · have := Nat.mul_le_mul (show s + 1 ≤ r from h) (show s + 1 ≤ r from h)
    omega
theorem F_law_root_eq (n : Nat) (hn : Bd 4000 n) : F_law_root [.int n] = some (.int (Float64.isqrt n)) := by
  have hn' : n < 2 ^ 4000 := hn
  have p0 : 0 < 2 ^ 4000 := Nat.pow_pos (by decide)
  obtain ⟨h, w1, w2, w3, w4⟩ := root1 ⟨0, 0, 0⟩ n 4000 1 (by decide) (by
    rw [Int.mul_one, ← Int.natCast_mul]
    have : 2 ^ 4000 * 1 ≤ 2 ^ 4000 * 2 ^ 4000 := Nat.mul_le_mul_left _ p0
    omega) (by rw [Int.mul_one]; exact Nat.pow_lt_pow_right (by decide) (by decide))
  rw [Int.mul_one] at w4
  have bh : Bd 9000 h := by
    have : 2 ^ 4000 < 2 ^ 9000 := Nat.pow_lt_pow_right (by decide) (by decide)
    unfold Bd
    omega
  obtain ⟨r, b', m', v1, v2, v3, v4⟩ := root2 ⟨0, 0, 0⟩ n h.toNat 0 h none (by omega) (by decide) (by omega) bh (by omega) w2
  obtain ⟨s, rfl⟩ : ∃ s : Nat, r = s := ⟨r.toNat, by omega⟩
  have sp := PySem.Float64.isqrt_spec n
  have e : s = Float64.isqrt n := sq_uniq (by exact_mod_cast v3) (by exact_mod_cast v4) sp.1 sp.2
  rw [← e]
  have u1 := dWhile_eq w1 (by simp)
  have u2 := dWhile_eq v1 (by simp)
  unfold F_law_root runD m_law_root
  have e0 : dAsg (dGTup 2 (dGCons (dName 1) (dGCons (dName 2) dGNil))) (dTup (dCons (dC (.int 0)) (dCons (dC (.int 1)) dNil))) (enOf 4 [.int (n : Int)]) ⟨0, 0, 0⟩ = .nx (en4 n 0 1 none) ⟨0, 0, 0⟩ := rfl
  unfold dSeq
  simp only [e0]
  have u1' : dWhile (dTest (dOp gLe (dOp gMul (dVar 2) (dVar 2)) (dVar 0))) (dSet 2 (dOp gMul (dC (.int 2)) (dVar 2))) (en4 n 0 1 none) ⟨0, 0, 0⟩ = _ := u1
  simp only [u1']
  have u2' : dWhile (dTest (dOp gGt (dOp gSub (dVar 2) (dVar 1)) (dC (.int 1)))) (dSeq (dSet 3 (dOp gDiv (dOp gAdd (dVar 1) (dVar 2)) (dC (.int 2))))
    (dIfS (dTest (dOp gLe (dOp gMul (dVar 3) (dVar 3)) (dVar 0)))
    (dSet 1 (dVar 3)) (dSet 2 (dVar 3)))) (en4 n 0 h none) ⟨0, 0, 0⟩ = _ := u2
  unfold dSeq at u2'
  rw [u2']
  rfl
end K02
end
section
set_option Elab.async false
set_option linter.all false
set_option maxRecDepth 100000
set_option maxHeartbeats 1000000
set_option exponentiation.threshold 100
namespace K02
open PySem Dx Fc
/-! reduced fractions -/
structure Cn (p : Int × Int) : Prop where
  b : 0 < p.2
  g : Int.gcd p.1 p.2 = 1
theorem sg_pos_mul {b : Int} {g : Nat} (hb : b ≠ 0) (h : 0 < g) : 0 < b * sg b g := by
  unfold sg
  split
  · rename_i c
    have := Int.mul_pos (show 0 < -b by omega) (show (0 : Int) < g by omega)
    rw [Int.neg_mul] at this
    rw [Int.mul_neg]
    exact this
  · exact Int.mul_pos (by omega) (by omega)
theorem sg_abs (b : Int) (g : Nat) : (sg b g).natAbs = g := by
  unfold sg
  split <;> omega
theorem red_mul {t b : Int} (hb : b ≠ 0) : t = (red t b).1 * sg b (Int.gcd t b) ∧ b = (red t b).2 * sg b (Int.gcd t b) := by
  have hd : ∀ x : Int, ((Int.gcd t b : Nat) : Int) ∣ x → sg b (Int.gcd t b) ∣ x := fun x h => by
    unfold sg
    split
    · exact Int.neg_dvd.mpr h
    · exact h
  have h1 := hd t (Int.gcd_dvd_left ..)
  have h2 := hd b (Int.gcd_dvd_right ..)
  exact ⟨(Int.fdiv_mul_cancel h1).symm, (Int.fdiv_mul_cancel h2).symm⟩
theorem red_spec {t b : Int} (hb : b ≠ 0) : ∃ x y s : Int, red t b = (x, y) ∧ t = x * s ∧ b = y * s ∧ s.natAbs = Int.gcd t b ∧ 0 < y ∧ s ≠ 0 := by
  have hm := red_mul (t := t) hb
  have hg := gcd_pos (t := t) hb
  have hs := sg_pos_mul (b := b) hb hg
  have hne : sg b (Int.gcd t b) ≠ 0 := sg_ne (by omega)
  have ha := sg_abs b (Int.gcd t b)
  refine ⟨(red t b).1, (red t b).2, sg b (Int.gcd t b), rfl, hm.1, hm.2, ha, ?_, hne⟩
  have h2 := hm.2
  revert hs h2 hne
  generalize (red t b).2 = y
  generalize sg b (Int.gcd t b) = s
  intro hs hne h2
  rw [h2, Int.mul_assoc] at hs
  have p : 0 < s * s := by
    rcases Int.lt_or_gt_of_ne hne with c | c
    · exact Int.mul_pos_of_neg_of_neg c c
    · exact Int.mul_pos c c
  exact Int.pos_of_mul_pos_left hs p
theorem red_cn {t b : Int} (hb : b ≠ 0) : Cn (red t b) := by
  obtain ⟨x, y, s, e, e1, e2, hs, hy, hne⟩ := red_spec (t := t) hb
  rw [e]
  refine ⟨hy, ?_⟩
  have hg := gcd_pos (t := t) hb
  have k : Int.gcd t b = Int.gcd x y * s.natAbs := by rw [e1, e2, Int.gcd_mul_right]
  rw [hs] at k
  show Int.gcd x y = 1
  generalize Int.gcd t b = g at *
  generalize Int.gcd x y = z at *
  have := Nat.eq_of_mul_eq_mul_right hg (show 1 * g = z * g by omega)
  omega
theorem red_cross {t b : Int} (hb : b ≠ 0) : (red t b).1 * b = t * (red t b).2 := by
  obtain ⟨x, y, s, e, e1, e2, hs, hy, hne⟩ := red_spec (t := t) hb
  rw [e, e1, e2]
  show x * (y * s) = x * s * y
  rw [Int.mul_assoc, Int.mul_comm y s]
theorem cop_dvd {a b c : Int} (h : a ∣ b * c) (g : Int.gcd b a = 1) : a ∣ c := by
  rw [← Int.natAbs_dvd_natAbs] at *
  rw [Int.natAbs_mul] at h
  refine Nat.Coprime.dvd_of_dvd_mul_left ?_ h
  show Nat.gcd _ _ = 1
  rw [Nat.gcd_comm]
  exact g
theorem cn_uniq {p q : Int × Int} (hp : Cn p) (hq : Cn q) (h : p.1 * q.2 = q.1 * p.2) : p = q := by
  have d1 : p.2 ∣ q.2 := cop_dvd (b := p.1) ⟨q.1, by rw [h, Int.mul_comm]⟩ hp.g
  have d2 : q.2 ∣ p.2 := cop_dvd (b := q.1) ⟨p.1, by rw [← h, Int.mul_comm]⟩ hq.g
  have e : p.2 = q.2 := Int.dvd_antisymm (Int.le_of_lt hp.b) (Int.le_of_lt hq.b) d1 d2
  have e1 : p.1 = q.1 := by
    rw [e] at h
    exact Int.eq_of_mul_eq_mul_right (Int.ne_of_gt hq.b) h
  exact Prod.ext e1 e
theorem red_eq {t b : Int} (hb : b ≠ 0) {p : Int × Int} (hp : Cn p) (h : p.1 * b = t * p.2) : red t b = p := by
  refine cn_uniq (red_cn hb) hp ?_
  have c := red_cross (t := t) hb
  have e : (red t b).1 * p.2 * b = p.1 * (red t b).2 * b := by
    rw [Int.mul_right_comm, c, Int.mul_right_comm, ← h, Int.mul_right_comm, Int.mul_right_comm p.1]
  exact Int.eq_of_mul_eq_mul_right hb e
theorem red_neg {t b : Int} (hb : b ≠ 0) : red (-t) (-b) = red t b := by
  refine red_eq (by omega) (red_cn hb) ?_
  have c := red_cross (t := t) hb
  rw [Int.mul_neg, Int.neg_mul, c]
theorem fdiv_abs {a b : Int} (h : b ∣ a) (hb : b ≠ 0) : (a.fdiv b).natAbs ≤ a.natAbs := by
  obtain ⟨c, rfl⟩ := h
  rw [Int.mul_fdiv_cancel_left _ hb, Int.natAbs_mul]
  exact Nat.le_mul_of_pos_left _ (by omega)
theorem red_abs {t b : Int} (hb : b ≠ 0) : (red t b).1.natAbs ≤ t.natAbs ∧ (red t b).2.natAbs ≤ b.natAbs := by
  have hm := red_mul (t := t) hb
  have hne : sg b (Int.gcd t b) ≠ 0 := sg_ne (by have := gcd_pos (t := t) hb; omega)
  constructor
  · conv => rhs; rw [hm.1]
    rw [Int.natAbs_mul]
    exact Nat.le_mul_of_pos_right _ (by omega)
  · conv => rhs; rw [hm.2]
    rw [Int.natAbs_mul]
    exact Nat.le_mul_of_pos_right _ (by omega)
theorem red_fd {n : Nat} {t b : Int} (hb : b ≠ 0) (ht : Bd n t) (h : Bd n b) : Fd n (red t b) := by
  have a := red_abs (t := t) hb
  exact ⟨Nat.lt_of_le_of_lt a.1 ht, Nat.lt_of_le_of_lt a.2 h, (red_cn hb).b⟩
/-! the statement's own reduced form -/
theorem F_low_eq {t b : Int} (hb : 0 < b) (h : Bd 9000 b) : F_law_low [.tuple [.int t, .int b]] = some (fr (red t b)) := by
  have g1 := F_law_gcd_eq 0 t
  have g2 := F_law_gcd_eq ((Int.gcd 0 t : Nat) : Int) b
  have e : Int.gcd ((Int.gcd 0 t : Nat) : Int) b = Int.gcd t b := by
    rw [Int.gcd_zero_left]
    rfl
  rw [e] at g2
  generalize (Int.gcd 0 t : Nat) = z at *
  have hg := gcd_pos (t := t) (Int.ne_of_gt hb)
  have es : sg b (Int.gcd t b) = (Int.gcd t b : Int) := if_neg (by omega)
  have hd : ∀ x, cDiv x (Int.gcd t b) = true := fun x => by
    have h1 : (Int.gcd t b) ≤ b.natAbs := Nat.le_of_dvd (by omega) (Int.gcd_dvd_natAbs_right t b)
    have h2 : (Int.gcd t b).log2 < 9000 := log2_lt (Nat.lt_of_le_of_lt h1 h) (by decide)
    unfold cDiv
    exact decide_eq_true ⟨by omega, h2⟩
  have er : fr (red t b) = .tuple [.int (t.fdiv (Int.gcd t b)), .int (b.fdiv (Int.gcd t b))] := by
    unfold fr red
    rw [es]
  rw [er]
  generalize Int.gcd t b = g at *
  simp [F_law_low, runD, m_law_low, dSeq, dSet, dC, enOf, dFor, dIt, dVar, Res.bind, forL, dName, dCall, dCons, dNil, g1, g2, dRet, dCB, gTuple, dLc, lcL, wipeE, dYes, dOp, gDiv, g2IC, hd]
theorem F_part_eq {t b : Int} (hb : b ≠ 0) (h : Bd 9000 b) : F_law_part [.int t, .int b] = some (fr (red t b)) := by
  by_cases c : 0 < b
  · have e := F_low_eq (t := t) c h
    simp [F_law_part, runD, m_law_part, dRet, dCall, dCons, dIf, dTest, dOp, gGt, g2B, dVar, dC, enOf, Res.bind, dTup, dNil, c, e]
  · have e := F_low_eq (t := 0 - t) (b := 0 - b) (by omega) (by unfold Bd at *; omega)
    have e2 : red (0 - t) (0 - b) = red t b := by
      rw [Int.zero_sub, Int.zero_sub]
      exact red_neg hb
    rw [e2] at e
    simp [F_law_part, runD, m_law_part, dRet, dCall, dCons, dIf, dTest, dOp, gGt, gSub, g2I, g2B, dVar, dC, enOf, Res.bind, dTup, dNil, c] at e ⊢
    rw [e]
end K02
end
section
set_option Elab.async false
set_option linter.all false
set_option maxRecDepth 100000
set_option maxHeartbeats 1000000
set_option exponentiation.threshold 100
namespace K02
open PySem Dx Fc
theorem sh_int (a : Int) : SeqAt.shaped (.int a) = true := rfl
theorem eqv_int (a b : Int) : PyData.eqv (.int a) (.int b) = decide (a = b) := by
  by_cases e : a = b
  · subst e
    rw [decide_eq_true rfl]
    simp [PyData.eqv]
  · rw [decide_eq_false e]
    simp [PyData.eqv, e]
theorem gEqA_int (a b : Int) : gEqA (.int a) (.int b) = some (.bool (decide (a = b))) := by
  have h : gEqA (.int a) (.int b) = some (.bool (PyData.eqv (.int a) (.int b))) := rfl
  rw [h, eqv_int]
theorem gNeA_int (a b : Int) : gNeA (.int a) (.int b) = some (.bool (!decide (a = b))) := by
  have h : gNeA (.int a) (.int b) = some (.bool (!PyData.eqv (.int a) (.int b))) := rfl
  rw [h, eqv_int]
theorem F_times_eq {a b : Int × Int} (ha : Fd 4000 a) (hb : Fd 4000 b) : F_times [fr a, fr b] = some (fr (mul a b)) := by
  have c1 := cMul_ok ha.t hb.t (by decide) (by decide) (by decide)
  have c3 := cMul_ok ha.b hb.b (by decide) (by decide) (by decide)
  have hne : a.2 * b.2 ≠ 0 := Int.ne_of_gt (Int.mul_pos ha.p hb.p)
  have h : F_reduced [.int (a.1 * b.1), .int (a.2 * b.2)] = _ := F_reduced_eq (t := a.1 * b.1) hne ((ha.b.mul hb.b).up (by decide))
  simp [F_times, runD, m_times, dRet, dCall, dCons, dOp, dVar, dC, dNil, Res.bind, enOf, gIx0, gIx1, gMul, gMulI, g2IC, gAdd, g2I, c1, c3, h, mul]
theorem F_plus_eq' {a b : Int × Int} (ha : Fd 4000 a) (hb : Fd 4000 b) : F_plus [fr a, fr b] = some (fr (add a b)) := F_plus_eq ha hb
theorem F_law_mul_eq {a b : Int × Int} (ha : Fd 4000 a) (hb : Fd 4000 b) : F_law_mul [fr a, fr b] = some (fr (mul a b)) := by
  have c1 := cMul_ok ha.t hb.t (by decide) (by decide) (by decide)
  have c3 := cMul_ok ha.b hb.b (by decide) (by decide) (by decide)
  have hne : a.2 * b.2 ≠ 0 := Int.ne_of_gt (Int.mul_pos ha.p hb.p)
  have h := F_part_eq (t := a.1 * b.1) hne ((ha.b.mul hb.b).up (by decide))
  simp [F_law_mul, runD, m_law_mul, dRet, dCall, dCons, dOp, dVar, dC, dNil, Res.bind, enOf, gIx0, gIx1, gMul, gMulI, g2IC, gAdd, g2I, c1, c3, h, mul]
theorem F_law_add_eq {a b : Int × Int} (ha : Fd 4000 a) (hb : Fd 4000 b) : F_law_add [fr a, fr b] = some (fr (add a b)) := by
  have c1 := cMul_ok ha.t hb.b (by decide) (by decide) (by decide)
  have c2 := cMul_ok hb.t ha.b (by decide) (by decide) (by decide)
  have c3 := cMul_ok ha.b hb.b (by decide) (by decide) (by decide)
  have hne : a.2 * b.2 ≠ 0 := Int.ne_of_gt (Int.mul_pos ha.p hb.p)
  have h := F_part_eq (t := a.1 * b.2 + b.1 * a.2) hne ((ha.b.mul hb.b).up (by decide))
  simp [F_law_add, runD, m_law_add, dRet, dCall, dCons, dOp, dVar, dC, dNil, Res.bind, enOf, gIx0, gIx1, gMul, gMulI, g2IC, gAdd, g2I, c1, c2, c3, h, add]
def dv (a b : Int × Int) : Int × Int := red (a.1 * b.2) (a.2 * b.1)
theorem F_law_div_eq {a b : Int × Int} (ha : Fd 4000 a) (hb : Fd 4000 b) (h0 : 0 < b.1) : F_law_div [fr a, fr b] = some (fr (dv a b)) := by
  have c1 := cMul_ok ha.t hb.b (by decide) (by decide) (by decide)
  have c3 := cMul_ok ha.b hb.t (by decide) (by decide) (by decide)
  have hne : a.2 * b.1 ≠ 0 := Int.ne_of_gt (Int.mul_pos ha.p h0)
  have h := F_part_eq (t := a.1 * b.2) hne ((ha.b.mul hb.t).up (by decide))
  simp [F_law_div, runD, m_law_div, dRet, dCall, dCons, dOp, dVar, dC, dNil, Res.bind, enOf, gIx0, gIx1, gMul, gMulI, g2IC, gAdd, g2I, c1, c3, h, dv]
def sgn (i : Int) : Int := if i = 0 then 0 else if 0 < i then 1 else -1
theorem F_whole_sign_eq (i : Int) : F_whole_sign [.int i] = some (.int (sgn i)) := by
  unfold sgn
  by_cases c : i = 0
  · subst c
    simp [F_whole_sign, runD, m_whole_sign, dSeq, dIfS, dTest, dOp, dVar, dC, enOf, Res.bind, gEqA_int, dRet]
  · by_cases d : 0 < i
    · simp [F_whole_sign, runD, m_whole_sign, dSeq, dIfS, dTest, dOp, dVar, dC, enOf, Res.bind, gEqA_int, dRet, c, d, dNext, dIf, gGt, g2B, dUn, gNeg]
    · simp [F_whole_sign, runD, m_whole_sign, dSeq, dIfS, dTest, dOp, dVar, dC, enOf, Res.bind, gEqA_int, dRet, c, d, dNext, dIf, gGt, g2B, dUn, gNeg]
theorem F_sign_of_eq (a : Int × Int) : F_sign_of [fr a] = some (.int (sgn a.1)) := by
  have h := F_whole_sign_eq a.1
  simp [F_sign_of, runD, m_sign_of, dRet, dCall, dCons, dNil, dOp, dVar, dC, enOf, Res.bind, gIx0, h]
theorem F_law_sign_eq (i : Int) : F_law_sign [.int i] = some (.int (sgn i)) := by
  unfold sgn
  by_cases c : i = 0
  · subst c
    rfl
  · by_cases d : 0 < i
    · simp [F_law_sign, runD, m_law_sign, dRet, dIf, dTest, dOp, dVar, dC, enOf, Res.bind, gGt, gLt, g2B, c, d]
    · have e : i < 0 := by omega
      simp [F_law_sign, runD, m_law_sign, dRet, dIf, dTest, dOp, dVar, dC, enOf, Res.bind, gGt, gLt, g2B, c, d, e, dUn, gNeg]
def sq (p : Int × Int) : Option (Int × Int) := if (Float64.isqrt p.1.toNat : Int) * (Float64.isqrt p.1.toNat : Int) = p.1 ∧ (Float64.isqrt p.2.toNat : Int) * (Float64.isqrt p.2.toNat : Int) = p.2 then some ((Float64.isqrt p.1.toNat : Int), (Float64.isqrt p.2.toNat : Int)) else none
def dsq : Option (Int × Int) → Dx.D
  | some r => fr r
  | none => .none
theorem isqrt_bd {n : Nat} {x : Nat} (h : x < 2 ^ n) : Bd n (Float64.isqrt x : Int) := by
  have := PySem.Float64.isqrt_spec x
  have : Float64.isqrt x ≤ x := Nat.le_trans (Nat.le_mul_self _) this.1
  unfold Bd
  omega
theorem F_root_of_eq {p : Int × Int} (h : Fd 4000 p) (h0 : 0 ≤ p.1) : F_root_of [fr p] = some (dsq (sq p)) := by
  have h1 : p.1.toNat < 2 ^ 4000 := by
    have := h.t
    unfold Bd at this
    omega
  have h2 : p.2.toNat < 2 ^ 4000 := by
    have := h.b
    unfold Bd at this
    omega
  have l1 : 0 ≤ p.1 ∧ p.1.toNat.log2 < 13000 := ⟨h0, Nat.lt_trans (log2_lt h1 (by decide)) (by decide)⟩
  have l2 : 0 ≤ p.2 ∧ p.2.toNat.log2 < 13000 := ⟨Int.le_of_lt h.p, Nat.lt_trans (log2_lt h2 (by decide)) (by decide)⟩
  have b1 := isqrt_bd h1
  have b2 := isqrt_bd h2
  have c1 := cMul_ok b1 b1 (by decide) (by decide) (by decide)
  have c2 := cMul_ok b2 b2 (by decide) (by decide) (by decide)
  unfold sq
  by_cases q1 : (Float64.isqrt p.1.toNat : Int) * (Float64.isqrt p.1.toNat : Int) = p.1
  · by_cases q2 : (Float64.isqrt p.2.toNat : Int) * (Float64.isqrt p.2.toNat : Int) = p.2
    · simp [F_root_of, runD, m_root_of, dSeq, dPar, dCons, dNil, dCB, dOp, dVar, dC, enOf, Res.bind, gIx0, gIx1, gIsqrt, l1, l2, dIfS, dOr, dTest, gNeA_int, gMul, gMulI, g2IC, c1, c2, q1, q2, dNext, dRet, dTup, dsq]
      rfl
    · simp [F_root_of, runD, m_root_of, dSeq, dPar, dCons, dNil, dCB, dOp, dVar, dC, enOf, Res.bind, gIx0, gIx1, gIsqrt, l1, l2, dIfS, dOr, dTest, gNeA_int, gMul, gMulI, g2IC, c1, c2, q1, q2, dNext, dRet, dTup, dsq]
  · simp [F_root_of, runD, m_root_of, dSeq, dPar, dCons, dNil, dCB, dOp, dVar, dC, enOf, Res.bind, gIx0, gIx1, gIsqrt, l1, l2, dIfS, dOr, dTest, gNeA_int, gMul, gMulI, g2IC, c1, c2, q1, dNext, dRet, dTup, dsq]
theorem F_square_of_eq {p : Int × Int} (h : Fd 3900 p) (h0 : 0 ≤ p.1) : F_law_square_of [fr p] = some (dsq (sq p)) := by
  have h1 : p.1.toNat < 2 ^ 3900 := by
    have := h.t
    unfold Bd at this
    omega
  have h2 : p.2.toNat < 2 ^ 3900 := by
    have := h.b
    unfold Bd at this
    omega
  have l1 := F_law_root_eq p.1.toNat (Bd.up (n := 3900) h1 (by decide))
  have l2 := F_law_root_eq p.2.toNat (Bd.up (n := 3900) h2 (by decide))
  rw [Int.toNat_of_nonneg h0] at l1
  rw [Int.toNat_of_nonneg (Int.le_of_lt h.p)] at l2
  have b1 := isqrt_bd h1
  have b2 := isqrt_bd h2
  have c1 := cMul_ok b1 b1 (by decide) (by decide) (by decide)
  have c2 := cMul_ok b2 b2 (by decide) (by decide) (by decide)
  unfold sq
  by_cases q1 : (Float64.isqrt p.1.toNat : Int) * (Float64.isqrt p.1.toNat : Int) = p.1
  · by_cases q2 : (Float64.isqrt p.2.toNat : Int) * (Float64.isqrt p.2.toNat : Int) = p.2
    · simp [F_law_square_of, runD, m_law_square_of, dSeq, dPar, dCons, dNil, dCall, dOp, dVar, dC, enOf, Res.bind, gIx0, gIx1, l1, l2, dIf, dAnd, dTest, gEqA_int, gMul, gMulI, g2IC, c1, c2, q1, q2, dRet, dTup, dsq]
      rfl
    · simp [F_law_square_of, runD, m_law_square_of, dSeq, dPar, dCons, dNil, dCall, dOp, dVar, dC, enOf, Res.bind, gIx0, gIx1, l1, l2, dIf, dAnd, dTest, gEqA_int, gMul, gMulI, g2IC, c1, c2, q1, q2, dRet, dTup, dsq]
  · simp [F_law_square_of, runD, m_law_square_of, dSeq, dPar, dCons, dNil, dCall, dOp, dVar, dC, enOf, Res.bind, gIx0, gIx1, l1, l2, dIf, dAnd, dTest, gEqA_int, gMul, gMulI, g2IC, c1, c2, q1, dRet, dTup, dsq]
end K02
end
section
set_option Elab.async false
set_option linter.all false
set_option maxRecDepth 100000
set_option maxHeartbeats 1000000
set_option exponentiation.threshold 100
namespace K02
open PySem Dx Fc
/-! how long a printed surd is -/
theorem lt2 (A B : Str) : listText [A, B] = (((Str.ofString "[" ++ Str.ofString "" ++ A) ++ Str.ofString ", ") ++ B) ++ Str.ofString "]" := rfl
theorem tt2 (A B : Str) : tupleText [A, B] = (Str.ofString "(" ++ (A ++ Str.ofString ", " ++ B)) ++ Str.ofString ")" := rfl
theorem tt3 (A B C : Str) : tupleText [A, B, C] = (Str.ofString "(" ++ (A ++ Str.ofString ", " ++ (B ++ Str.ofString ", " ++ C))) ++ Str.ofString ")" := rfl
theorem l1 : (Str.ofString "[").length = 1 := rfl
theorem l2 : (Str.ofString "]").length = 1 := rfl
theorem l3 : (Str.ofString "(").length = 1 := rfl
theorem l4 : (Str.ofString ")").length = 1 := rfl
theorem l5 : (Str.ofString ", ").length = 2 := rfl
theorem l6 : (Str.ofString "").length = 0 := rfl
theorem intLen {i : Int} (h : Bd 1000 i) : (Str.ofString (toString i)).length ≤ 1001 := by
  rw [ofString_length]
  exact int_text_length_le (by decide) (log2_lt h (by decide))
def surd3 (p : Int × Int) (s : Int) (q : Int × Int) : Dx.D := .tuple [fr p, .int s, fr q]
theorem repr_surd2 {p q : Int × Int} {s : Int} (h1 : Bd 1000 p.1) (h2 : Bd 1000 p.2) (h3 : Bd 1000 s) (h4 : Bd 1000 q.1) (h5 : Bd 1000 q.2) : ∃ x, gRepr [.list [surd3 p s q, surd3 p s q]] = some (.str x) := by
  refine ⟨(PyData.list [surd3 p s q, surd3 p s q]).shown, if_pos ⟨rfl, ?_, ?_, ?_⟩⟩
  · have g : ∀ {i : Int}, Bd 1000 i → i.natAbs.log2 < 1920 := fun h => Nat.lt_trans (log2_lt h (by decide)) (by decide)
    simp [surd3, fr, PyData.showable, PyData.showableAll, g h1, g h2, g h3, g h4, g h5]
  · simp [surd3, fr, PyData.depth, PyData.depthAll]
  · have a1 := intLen h1
    have a2 := intLen h2
    have a3 := intLen h3
    have a4 := intLen h4
    have a5 := intLen h5
    simp only [surd3, fr, PyData.shown, PyData.shownAll, lt2, tt2, tt3, strLen_append, l1, l2, l3, l4, l5, l6]
    omega
theorem gRepr4 (a b c d : Bool) : ∃ x, gRepr [.list [.bool a, .bool b, .bool c, .bool d]] = some (.str x) := by
  cases a <;> cases b <;> cases c <;> cases d <;> exact ⟨_, rfl⟩
theorem gRepr5 (a b c d e : Bool) : ∃ x, gRepr [.list [.bool a, .bool b, .bool c, .bool d, .bool e]] = some (.str x) := by
  cases a <;> cases b <;> cases c <;> cases d <;> cases e <;> exact ⟨_, rfl⟩
theorem gNeA_str (x : Str) : gNeA (.str x) (.str x) = some (.bool false) := by
  have h : gNeA (.str x) (.str x) = some (.bool (!decide (x = x))) := rfl
  rw [h, decide_eq_true rfl]
  rfl
theorem gEqA_str (x : Str) : gEqA (.str x) (.str x) = some (.bool true) := by
  have h : gEqA (.str x) (.str x) = some (.bool (decide (x = x))) := rfl
  rw [h, decide_eq_true rfl]
theorem gNeA_surd (p q : Int × Int) (s : Int) : gNeA (surd3 p s q) (surd3 p s q) = some (.bool false) := by
  have h : gNeA (surd3 p s q) (surd3 p s q) = some (.bool (!PyData.eqv (surd3 p s q) (surd3 p s q))) := rfl
  rw [h]
  simp [surd3, fr, PyData.eqv, PyData.eqvAll]
theorem gEqA_fr (p q : Int × Int) : gEqA (fr p) (fr q) = some (.bool (decide (p.1 = q.1) && decide (p.2 = q.2))) := by
  have h : gEqA (fr p) (fr q) = some (.bool (PyData.eqv (fr p) (fr q))) := rfl
  rw [h]
  have e1 := eqv_int p.1 q.1
  have e2 := eqv_int p.2 q.2
  simp [fr, PyData.eqv, PyData.eqvAll] at e1 e2 ⊢
  rw [e1, e2]
/-! what is a fraction, a surd -/
def cnB (p : Int × Int) : Bool := decide (0 < p.2) && decide (Int.gcd p.1 p.2 = 1)
theorem Cn.B {p : Int × Int} (h : Cn p) : cnB p = true := by
  unfold cnB
  rw [decide_eq_true h.b, decide_eq_true h.g]
  rfl
theorem kb0 : L2.kitB "tuple" "tuple" = some true := by decide
theorem kb1 : L2.kitB "int" "int" = some true := by decide
theorem kb2 : L2.kitB "int" "bool" = some false := by decide
theorem F_is_whole_int (i : Int) : F_is_whole [.int i] = some (.bool true) := by
  simp [F_is_whole, runD, m_is_whole, enOf, dRet, dAndV, dNotV, dTest, dIsi, dVar, Res.bind, tyN, kb1, kb2]
theorem gcd_one (p : Int × Int) : ((Nat.gcd p.1.natAbs p.2.natAbs : Nat) : Int) = 1 ↔ Int.gcd p.1 p.2 = 1 := by
  show ((Int.gcd p.1 p.2 : Nat) : Int) = 1 ↔ _
  omega
theorem F_is_fraction_eq (p : Int × Int) : F_is_fraction [fr p] = some (.bool (cnB p)) := by
  have g := gcd_one p
  unfold cnB
  by_cases c : 0 < p.2
  · by_cases d : Int.gcd p.1 p.2 = 1
    · have d' := g.mpr d
      simp [F_is_fraction, runD, m_is_fraction, fr, enOf, dSeq, dIfS, dOr, dNot, dTest, dIsi, dVar, Res.bind, tyN, kb0, dOp, dCB, gLen, dCons, dNil, dC, gNeA_int, dNext, dAsg, dGTup, dGCons, dName, dGNil, dRet, dAndV, dCall, F_is_whole_int, gGt, g2B, c, gGcd, g2L, gEqA_int, d, d']
    · have d' := fun z => d (g.mp z)
      simp [F_is_fraction, runD, m_is_fraction, fr, enOf, dSeq, dIfS, dOr, dNot, dTest, dIsi, dVar, Res.bind, tyN, kb0, dOp, dCB, gLen, dCons, dNil, dC, gNeA_int, dNext, dAsg, dGTup, dGCons, dName, dGNil, dRet, dAndV, dCall, F_is_whole_int, gGt, g2B, c, gGcd, g2L, gEqA_int, d, d']
      exact fun z => d' z
  · simp [F_is_fraction, runD, m_is_fraction, fr, enOf, dSeq, dIfS, dOr, dNot, dTest, dIsi, dVar, Res.bind, tyN, kb0, dOp, dCB, gLen, dCons, dNil, dC, gNeA_int, dNext, dAsg, dGTup, dGCons, dName, dGNil, dRet, dAndV, dCall, F_is_whole_int, gGt, g2B, c, gGcd, g2L, gEqA_int]
theorem F_law_is_part_eq (p : Int × Int) : F_law_is_part [fr p] = some (.bool (cnB p)) := by
  have g := F_law_gcd_eq p.1 p.2
  unfold cnB
  by_cases c : 0 < p.2
  · simp [F_law_is_part, runD, m_law_is_part, enOf, dRet, dAndV, dTest, dOp, dVar, dC, dCall, dCons, dNil, Res.bind, gIx0, gIx1, gGt, g2B, c, g, gEqA_int]
    omega
  · simp [F_law_is_part, runD, m_law_is_part, enOf, dRet, dAndV, dTest, dOp, dVar, dC, dCall, dCons, dNil, Res.bind, gIx0, gIx1, gGt, g2B, c, g, gEqA_int]
theorem F_check_fraction_eq {p : Int × Int} (h : Cn p) : F_check_fraction [fr p] = some .none := by
  have e := F_is_fraction_eq p
  rw [h.B] at e
  simp [F_check_fraction, runD, m_check_fraction, enOf, dIfS, dNot, dTest, dCall, dCons, dNil, dVar, Res.bind, e, dNext]
end K02
end
section
set_option Elab.async false
set_option linter.all false
set_option maxRecDepth 100000
set_option maxHeartbeats 1000000
set_option exponentiation.threshold 100
namespace K02
open PySem Dx Fc
theorem fdUp {n m : Nat} {p : Int × Int} (h : Fd n p) (k : n ≤ m) : Fd m p := ⟨h.t.up k, h.b.up k, h.p⟩
theorem mul_fd {n m : Nat} {a b : Int × Int} (ha : Fd n a) (hb : Fd m b) : Fd (n + m) (mul a b) := red_fd (Int.ne_of_gt (Int.mul_pos ha.p hb.p)) (ha.t.mul hb.t) (ha.b.mul hb.b)
theorem bdAdd {n : Nat} {i j : Int} (h : Bd n i) (k : Bd n j) : Bd (n + 1) (i + j) := by
  unfold Bd at *
  rw [Nat.pow_succ]
  omega
theorem add_fd {n m : Nat} {a b : Int × Int} (ha : Fd n a) (hb : Fd m b) : Fd (n + m + 1) (add a b) := red_fd (Int.ne_of_gt (Int.mul_pos ha.p hb.p)) (bdAdd (ha.t.mul hb.b) (((hb.t.mul ha.b)).up (by omega))) ((ha.b.mul hb.b).up (by omega))
theorem mul_cn {n m : Nat} {a b : Int × Int} (ha : Fd n a) (hb : Fd m b) : Cn (mul a b) := red_cn (Int.ne_of_gt (Int.mul_pos ha.p hb.p))
theorem add_cn {n m : Nat} {a b : Int × Int} (ha : Fd n a) (hb : Fd m b) : Cn (add a b) := red_cn (Int.ne_of_gt (Int.mul_pos ha.p hb.p))
theorem red_nonneg {t b : Int} (ht : 0 ≤ t) (hb : 0 < b) : 0 ≤ (red t b).1 := by
  have c := red_cross (t := t) (Int.ne_of_gt hb)
  have p := (red_cn (t := t) (Int.ne_of_gt hb)).b
  have q := Int.mul_nonneg ht (Int.le_of_lt p)
  rw [← c] at q
  exact Int.nonneg_of_mul_nonneg_left q hb
/-- p is the fraction n/d -/
def Rl (p : Int × Int) (n d : Int) : Prop := p.1 * d = n * p.2
theorem red_rl {t b : Int} (hb : b ≠ 0) : Rl (red t b) t b := red_cross hb
theorem Rl.self (p : Int × Int) : Rl p p.1 p.2 := rfl
theorem mul_rl {p q : Int × Int} {a b c d : Int} (hp : 0 < p.2) (hq : 0 < q.2) (h : Rl p a b) (k : Rl q c d) : Rl (mul p q) (a * c) (b * d) := by
  unfold Rl at *
  have e := red_cross (t := p.1 * q.1) (Int.ne_of_gt (Int.mul_pos hp hq))
  have hn : p.2 * q.2 ≠ 0 := Int.ne_of_gt (Int.mul_pos hp hq)
  refine Int.eq_of_mul_eq_mul_right hn ?_
  unfold mul
  generalize (red (p.1 * q.1) (p.2 * q.2)).1 = x at *
  generalize (red (p.1 * q.1) (p.2 * q.2)).2 = y at *
  have e1 : x * (b * d) * (p.2 * q.2) = x * (p.2 * q.2) * (b * d) := by grind
  have e2 : a * c * y * (p.2 * q.2) = (a * p.2) * (c * q.2) * y := by grind
  rw [e1, e, e2, ← h, ← k]
  grind
theorem rl_uniq {p q : Int × Int} {a b : Int} (hp : Cn p) (hq : Cn q) (hb : b ≠ 0) (h : Rl p a b) (k : Rl q a b) : p = q := by
  refine cn_uniq hp hq (Int.eq_of_mul_eq_mul_right hb ?_)
  unfold Rl at *
  have e1 : p.1 * q.2 * b = p.1 * b * q.2 := by grind
  have e2 : q.1 * p.2 * b = q.1 * b * p.2 := by grind
  rw [e1, e2, h, k]
  grind
/-! the surd, told without the program -/
def surdD (p : Int × Int) (s : Int) (q : Int × Int) : Dx.D := match sq q with
  | some r => surd3 (add p (s * r.1, r.2)) 0 (0, 1)
  | none => surd3 p s q
theorem sq_some {q r : Int × Int} (h : sq q = some r) (hq : 0 < q.2) : r.1 * r.1 = q.1 ∧ r.2 * r.2 = q.2 ∧ 0 ≤ r.1 ∧ 0 < r.2 := by
  unfold sq at h
  split at h
  · rename_i z
    cases h
    refine ⟨z.1, z.2, Int.natCast_nonneg _, ?_⟩
    have := z.2
    rcases Nat.eq_zero_or_pos (Float64.isqrt q.2.toNat) with e | e
    · rw [e] at this
      simp at this
      omega
    · show (0 : Int) < _
      omega
  · cases h
theorem sgn_cases (x : Int) : sgn x = -1 ∨ sgn x = 0 ∨ sgn x = 1 := by
  unfold sgn
  split
  · exact .inr (.inl rfl)
  · split
    · exact .inr (.inr rfl)
    · exact .inl rfl
theorem sq_fd {n : Nat} {q r : Int × Int} (h : sq q = some r) (hq : Fd n q) (h0 : 0 ≤ q.1) : Fd n r := by
  have z := sq_some h hq.p
  unfold sq at h
  split at h
  · cases h
    refine ⟨isqrt_bd ?_, isqrt_bd ?_, z.2.2.2⟩
    · have := hq.t
      unfold Bd at this
      omega
    · have := hq.b
      unfold Bd at this
      omega
  · cases h
theorem sgn_fd {n : Nat} {r : Int × Int} (x : Int) (h : Fd n r) : Fd n (sgn x * r.1, r.2) := by
  refine ⟨?_, h.b, h.p⟩
  have := h.t
  show Bd n (sgn x * r.1)
  unfold Bd at *
  rcases sgn_cases x with e | e | e <;> rw [e]
  · rw [Int.neg_one_mul, Int.natAbs_neg]
    exact this
  · rw [Int.zero_mul]
    exact Nat.pow_pos (by decide)
  · rw [Int.one_mul]
    exact this
theorem inner_nonneg {n : Nat} {f s : Int × Int} (hf : Fd n f) (hs : Fd n s) (h0 : 0 ≤ s.1) : 0 ≤ (mul (mul f f) s).1 := by
  have a : 0 ≤ (mul f f).1 := red_nonneg (by
    rcases Int.le_total 0 f.1 with z | z
    · exact Int.mul_nonneg z z
    · exact Int.mul_nonneg_of_nonpos_of_nonpos z z) (Int.mul_pos hf.p hf.p)
  exact red_nonneg (Int.mul_nonneg a h0) (Int.mul_pos (mul_fd hf hf).p hs.p)
theorem F_surd_of_eq {p f s : Int × Int} (cp : Cn p) (cf : Cn f) (cs : Cn s) (hp : Fd 900 p) (hf : Fd 900 f) (hs : Fd 900 s) (h0 : 0 ≤ s.1) : F_surd_of [fr p, fr f, fr s] = some (surdD p (sgn f.1) (mul (mul f f) s)) := by
  have k1 := F_check_fraction_eq cp
  have k2 := F_check_fraction_eq cf
  have k3 := F_check_fraction_eq cs
  have k4 := F_sign_of_eq s
  have k5 := F_sign_of_eq f
  have k6 := F_times_eq (fdUp hf (by decide : 900 ≤ 4000)) (fdUp hf (by decide))
  have hff := mul_fd hf hf
  have k7 := F_times_eq (fdUp hff (by decide : 900 + 900 ≤ 4000)) (fdUp hs (by decide))
  have hq := mul_fd hff hs
  have hn := inner_nonneg hf hs h0
  have k8 := F_root_of_eq (fdUp hq (by decide : 900 + 900 + 900 ≤ 4000)) hn
  have e4 : ¬ sgn s.1 < 0 := by
    unfold sgn
    split
    · decide
    · split
      · decide
      · omega
  have ef : ∀ a b : Int, Dx.gIx (fr (a, b)) (.int 0) = some (.int a) := fun _ _ => rfl
  unfold surdD
  generalize mul (mul f f) s = q at *
  cases e : sq q with
  | none =>
    rw [e] at k8
    have i0 : gIsN (dsq none) .none = some (.bool true) := rfl
    simp [F_surd_of, runD, m_surd_of, enOf, dSeq, dDrop, dCall, dCons, dNil, dVar, Res.bind, k1, k2, k3, dIfS, dTest, dOp, k4, dC, gLt, g2B, e4, dNext, dSet, k5, k6, k7, k8, i0, dRet, dTup]
    rfl
  | some r =>
    rw [e] at k8
    have i0 : gIsN (dsq (some r)) .none = some (.bool false) := rfl
    have hr := sq_fd e hq hn
    have hr' := sgn_fd f.1 hr
    have k9 := F_plus_eq' (fdUp hp (by decide : 900 ≤ 4000)) (fdUp hr' (by decide : 900 + 900 + 900 ≤ 4000))
    have c9 : cMul (sgn f.1) r.1 = true := cMul_ok (n := 2) (by unfold Bd; rcases sgn_cases f.1 with e | e | e <;> rw [e] <;> decide) hr.t (by decide) (by decide) (by decide)
    have k10 : F_plus [fr p, .tuple [.int (sgn f.1 * r.1), .int r.2]] = _ := k9
    have j0 : gIx (dsq (some r)) (.int 0) = some (.int r.1) := rfl
    have j1 : gIx (dsq (some r)) (.int 1) = some (.int r.2) := rfl
    simp [F_surd_of, runD, m_surd_of, enOf, dSeq, dDrop, dCall, dCons, dNil, dVar, Res.bind, k1, k2, k3, dIfS, dTest, dOp, k4, dC, gLt, g2B, e4, dNext, dSet, k5, k6, k7, k8, i0, dRet, dTup, j0, j1, gMul, gMulI, g2IC, c9, k10]
    rfl
end K02
end
section
set_option Elab.async false
set_option linter.all false
set_option maxRecDepth 100000
set_option maxHeartbeats 1000000
set_option exponentiation.threshold 100
namespace K02
open PySem Dx Fc
theorem sgn_nonpos {x : Int} (h : ¬ 0 < x) (h0 : x ≠ 0) : sgn x = -1 := by
  unfold sgn
  rw [if_neg h0, if_neg h]
theorem sgn_pos {x : Int} (h : 0 < x) : sgn x = 1 := by
  unfold sgn
  rw [if_neg (by omega), if_pos h]
theorem sgn_zero {x : Int} (h : x = 0) : sgn x = 0 := if_pos h
theorem mul_zero1 {a b : Int × Int} (hb : 0 < a.2 * b.2) (h : a.1 * b.1 = 0) : (mul a b).1 = 0 := by
  have c := red_cross (t := a.1 * b.1) (Int.ne_of_gt hb)
  rw [h, Int.zero_mul] at c
  unfold mul
  rw [h]
  rcases Int.mul_eq_zero.mp c with e | e
  · exact e
  · omega
theorem F_law_surd_eq {p f s : Int × Int} (hp : Fd 900 p) (hf : Fd 900 f) (hs : Fd 900 s) (h0 : 0 ≤ s.1) : F_law_surd [fr p, fr f, fr s] = some (surdD p (sgn f.1) (mul (mul f f) s)) := by
  have k5 := F_law_sign_eq f.1
  have k6 := F_law_mul_eq (fdUp hf (by decide : 900 ≤ 4000)) (fdUp hf (by decide))
  have hff := mul_fd hf hf
  have k7 := F_law_mul_eq (fdUp hff (by decide : 900 + 900 ≤ 4000)) (fdUp hs (by decide))
  have hq := mul_fd hff hs
  have hn := inner_nonneg hf hs h0
  have hz : f.1 = 0 → (mul (mul f f) s).1 = 0 := fun z => mul_zero1 (Int.mul_pos hff.p hs.p) (by rw [mul_zero1 (Int.mul_pos hf.p hf.p) (by rw [z]; rfl)]; exact Int.zero_mul _)
  have k8 := F_square_of_eq (fdUp hq (by decide : 900 + 900 + 900 ≤ 3900)) hn
  unfold surdD
  generalize mul (mul f f) s = q at *
  cases e : sq q with
  | none =>
    rw [e] at k8
    have i0 : gNotN (dsq none) .none = some (.bool false) := rfl
    simp [F_law_surd, runD, m_law_surd, enOf, dSeq, dCall, dCons, dNil, dVar, Res.bind, dIfS, dTest, dOp, dC, dNext, dSet, k5, k6, k7, k8, i0, dRet, dTup, gIx0]
    rfl
  | some r =>
    rw [e] at k8
    have i0 : gNotN (dsq (some r)) .none = some (.bool true) := rfl
    have hr := sq_fd e hq hn
    have hr' := sgn_fd f.1 hr
    have k9 := F_law_add_eq (fdUp hp (by decide : 900 ≤ 4000)) (fdUp hr' (by decide : 900 + 900 + 900 ≤ 4000))
    by_cases c : 0 < f.1
    · rw [sgn_pos c, Int.one_mul] at k9
      rw [sgn_pos c]
      show _ = some (surd3 (add p (1 * r.1, r.2)) 0 (0, 1))
      rw [Int.one_mul]
      have k10 : F_law_add [fr p, dsq (some r)] = _ := k9
      simp [F_law_surd, runD, m_law_surd, enOf, dSeq, dCall, dCons, dNil, dVar, Res.bind, dIfS, dTest, dOp, dC, dNext, dSet, k5, k6, k7, k8, i0, dRet, dTup, gIx0, dIf, gGt, g2B, c, k10]
      rfl
    · have eb : F_law_back [dsq (some r)] = some (fr (sgn f.1 * r.1, r.2)) := by
        have z : sgn f.1 * r.1 = 0 - r.1 := by
          by_cases d : f.1 = 0
          · have := (sq_some e hq.p).1
            rw [hz d] at this
            rcases Int.mul_eq_zero.mp this with w | w <;> rw [w] <;> omega
          · rw [sgn_nonpos c d]
            omega
        rw [z]
        rfl
      simp [F_law_surd, runD, m_law_surd, enOf, dSeq, dCall, dCons, dNil, dVar, Res.bind, dIfS, dTest, dOp, dC, dNext, dSet, k5, k6, k7, k8, i0, dRet, dTup, gIx0, dIf, gGt, g2B, c, eb, k9]
      rfl
/-! the three ways to tell one surd -/
theorem sgn_sgn (x : Int) : sgn (sgn x) = sgn x := by
  rcases sgn_cases x with e | e | e <;> rw [e] <;> rfl
theorem way2 {n : Nat} {f s : Int × Int} (hf : Fd n f) (hs : Fd n s) (h0 : 0 ≤ s.1) : mul (mul (sgn f.1, 1) (sgn f.1, 1)) (mul (mul f f) s) = mul (mul f f) s := by
  have hff := mul_fd hf hf
  have cq := mul_cn hff hs
  have hz : f.1 = 0 → (mul (mul f f) s).1 = 0 := fun z => mul_zero1 (Int.mul_pos hff.p hs.p) (by rw [mul_zero1 (Int.mul_pos hf.p hf.p) (by rw [z]; rfl)]; exact Int.zero_mul _)
  generalize mul (mul f f) s = q at *
  have e1 : mul (1, 1) (1, 1) = (1, 1) := by decide
  have e2 : mul (-1, 1) (-1, 1) = (1, 1) := by decide
  have e3 : mul (0, 1) (0, 1) = (0, 1) := by decide
  have g1 : mul (1, 1) q = q := red_eq (by show 1 * q.2 ≠ 0; have := cq.b; omega) cq (by show q.1 * (1 * q.2) = 1 * q.1 * q.2; rw [Int.one_mul, Int.one_mul])
  rcases sgn_cases f.1 with e | e | e
  · rw [e, e2, g1]
  · rw [e, e3]
    have z : f.1 = 0 := by
      unfold sgn at e
      split at e
      · assumption
      · split at e <;> omega
    exact red_eq (by show 1 * q.2 ≠ 0; have := cq.b; omega) cq (by
      show q.1 * (1 * q.2) = 0 * q.1 * q.2
      rw [hz z]
      omega)
  · rw [e, e1, g1]
theorem way3s {n : Nat} {f t : Int × Int} (hf : Fd n f) (ht : Fd n t) (h1 : 0 < t.1) : sgn (dv f t).1 = sgn f.1 := by
  have c := red_cross (t := f.1 * t.2) (Int.ne_of_gt (Int.mul_pos hf.p h1))
  have p := (red_cn (t := f.1 * t.2) (Int.ne_of_gt (Int.mul_pos hf.p h1))).b
  have hb := Int.mul_pos hf.p h1
  unfold dv
  generalize (red (f.1 * t.2) (f.2 * t.1)).1 = x at *
  generalize (red (f.1 * t.2) (f.2 * t.1)).2 = y at *
  rcases Int.lt_trichotomy f.1 0 with z | z | z
  · have a := Int.mul_neg_of_neg_of_pos (Int.mul_neg_of_neg_of_pos z ht.p) p
    rw [← c] at a
    have : x < 0 := by
      by_cases w : x < 0
      · exact w
      · have := Int.mul_nonneg (show 0 ≤ x by omega) (Int.le_of_lt hb)
        omega
    rw [sgn_nonpos (by omega) (by omega), sgn_nonpos (by omega) (by omega)]
  · rw [z, Int.zero_mul, Int.zero_mul] at c
    rcases Int.mul_eq_zero.mp c with e | e
    · rw [e, z]
    · omega
  · have a := Int.mul_pos (Int.mul_pos z ht.p) p
    rw [← c] at a
    have := Int.pos_of_mul_pos_left a hb
    rw [sgn_pos this, sgn_pos z]
theorem dv_fd {n m : Nat} {f t : Int × Int} (hf : Fd n f) (ht : Fd m t) (h1 : 0 < t.1) : Fd (n + m) (dv f t) := red_fd (Int.ne_of_gt (Int.mul_pos hf.p h1)) (hf.t.mul ht.b) (hf.b.mul ht.t)
theorem dv_cn {n m : Nat} {f t : Int × Int} (hf : Fd n f) (ht : Fd m t) (h1 : 0 < t.1) : Cn (dv f t) := red_cn (Int.ne_of_gt (Int.mul_pos hf.p h1))
theorem way3 {n : Nat} {f s t : Int × Int} (hf : Fd n f) (hs : Fd n s) (ht : Fd n t) (h1 : 0 < t.1) : mul (mul (dv f t) (dv f t)) (mul s (mul t t)) = mul (mul f f) s := by
  have hg := dv_fd hf ht h1
  have htt := mul_fd ht ht
  have hst := mul_fd hs htt
  have hgg := mul_fd hg hg
  have hff := mul_fd hf hf
  have r1 : Rl (dv f t) (f.1 * t.2) (f.2 * t.1) := red_rl (Int.ne_of_gt (Int.mul_pos hf.p h1))
  have r2 := mul_rl hg.p hg.p r1 r1
  have r3 := mul_rl ht.p ht.p (Rl.self t) (Rl.self t)
  have r4 := mul_rl hs.p htt.p (Rl.self s) r3
  have r5 := mul_rl hgg.p hst.p r2 r4
  have r6 := mul_rl hff.p hs.p (mul_rl hf.p hf.p (Rl.self f) (Rl.self f)) (Rl.self s)
  refine rl_uniq (mul_cn hgg hst) (mul_cn hff hs) (Int.ne_of_gt (Int.mul_pos (Int.mul_pos hf.p hf.p) hs.p)) ?_ r6
  unfold Rl at r5 ⊢
  generalize (mul (mul (dv f t) (dv f t)) (mul s (mul t t))).1 = x at *
  generalize (mul (mul (dv f t) (dv f t)) (mul s (mul t t))).2 = y at *
  have hX : t.1 * t.1 * (t.2 * t.2) ≠ 0 := Int.ne_of_gt (Int.mul_pos (Int.mul_pos h1 h1) (Int.mul_pos ht.p ht.p))
  refine Int.eq_of_mul_eq_mul_right hX ?_
  have e1 : x * (f.2 * f.2 * s.2) * (t.1 * t.1 * (t.2 * t.2)) = x * (f.2 * t.1 * (f.2 * t.1) * (s.2 * (t.2 * t.2))) := by grind
  rw [e1, r5]
  grind
end K02
end
section
set_option Elab.async false
set_option linter.all false
set_option maxRecDepth 100000
set_option maxHeartbeats 1000000
set_option exponentiation.threshold 100
namespace K02
open PySem Dx Fc
def suB (p : Int × Int) (m : Int) (q : Int × Int) : Bool := cnB p && (if m = 0 then (decide (q.1 = 0) && decide (q.2 = 1)) else (decide (m = -1 ∨ m = 1) && (decide (0 < q.1) && (sq q).isNone)))
theorem gIsN_dsq (o : Option (Int × Int)) : gIsN (dsq o) .none = some (.bool o.isNone) := by
  cases o <;> rfl
theorem gIx2 (a b c : Dx.D) : True := trivial
theorem gEqA_z (q : Int × Int) : gEqA (fr q) k_NOUGHT = some (.bool (decide (q.1 = 0) && decide (q.2 = 1))) := gEqA_fr q (0, 1)
theorem gEqA_z' (q : Int × Int) : gEqA (fr q) (.tuple [.int 0, .int 1]) = some (.bool (decide (q.1 = 0) && decide (q.2 = 1))) := gEqA_fr q (0, 1)
theorem in_m2 : gIn (.int (-2)) (.tuple [.int (-1), .int 1]) = some (.bool false) := rfl
theorem in_m1 : gIn (.int (-1)) (.tuple [.int (-1), .int 1]) = some (.bool true) := rfl
theorem in_p1 : gIn (.int 1) (.tuple [.int (-1), .int 1]) = some (.bool true) := rfl
theorem in_p2 : gIn (.int 2) (.tuple [.int (-1), .int 1]) = some (.bool false) := rfl
theorem ni_m2 : gNotIn (.int (-2)) (.list [.int (-1), .int 0, .int 1]) = some (.bool true) := rfl
theorem ni_m1 : gNotIn (.int (-1)) (.list [.int (-1), .int 0, .int 1]) = some (.bool false) := rfl
theorem ni_0 : gNotIn (.int 0) (.list [.int (-1), .int 0, .int 1]) = some (.bool false) := rfl
theorem ni_p1 : gNotIn (.int 1) (.list [.int (-1), .int 0, .int 1]) = some (.bool false) := rfl
theorem ni_p2 : gNotIn (.int 2) (.list [.int (-1), .int 0, .int 1]) = some (.bool true) := rfl
theorem sgn_pos_iff (x : Int) : (0 < sgn x) = (0 < x) := by
  unfold sgn
  split
  · rename_i h
    rw [h]
  · split
    · rename_i h
      simp [h]
    · rename_i h
      simp [h]
abbrev Mk (m : Int) : Prop := m = -2 ∨ m = -1 ∨ m = 0 ∨ m = 1 ∨ m = 2
theorem F_is_surd_eq {p q : Int × Int} {m : Int} (hm : Mk m) (cq : Cn q) (hq : Fd 3000 q) (h0 : 0 ≤ q.1) : F_is_surd [surd3 p m q] = some (.bool (suB p m q)) := by
  have k1 := F_is_fraction_eq p
  have k2 := F_is_fraction_eq q
  rw [cq.B] at k2
  have k3 := F_sign_of_eq q
  have k4 := F_root_of_eq (fdUp hq (by decide : 3000 ≤ 4000)) h0
  unfold suB
  cases hp : cnB p with
  | false =>
    rw [hp] at k1
    simp [F_is_surd, runD, m_is_surd, surd3, enOf, dSeq, dIfS, dOr, dNot, dTest, dIsi, dVar, Res.bind, tyN, kb0, dOp, dCB, gLen, dCons, dNil, dC, gNeA_int, dNext, dAsg, dGTup, dGCons, dName, dGNil, dRet, dAndV, dCall, F_is_whole_int, k1]
  | true =>
    rw [hp] at k1
    rcases hm with rfl | rfl | rfl | rfl | rfl
    · simp [F_is_surd, runD, m_is_surd, surd3, enOf, dSeq, dIfS, dOr, dNot, dTest, dIsi, dVar, Res.bind, tyN, kb0, dOp, dCB, gLen, dCons, dNil, dC, gNeA_int, dNext, dAsg, dGTup, dGCons, dName, dGNil, dRet, dAndV, dCall, F_is_whole_int, k1, k2, gEqA_int, dTup, dUn, gNeg, in_m2]
    · by_cases c : 0 < q.1
      · simp [F_is_surd, runD, m_is_surd, surd3, enOf, dSeq, dIfS, dOr, dNot, dTest, dIsi, dVar, Res.bind, tyN, kb0, dOp, dCB, gLen, dCons, dNil, dC, gNeA_int, dNext, dAsg, dGTup, dGCons, dName, dGNil, dRet, dAndV, dCall, F_is_whole_int, k1, k2, gEqA_int, dTup, dUn, gNeg, in_m1, k3, k4, gGt, g2B, sgn_pos_iff, c, gIsN_dsq]
      · simp [F_is_surd, runD, m_is_surd, surd3, enOf, dSeq, dIfS, dOr, dNot, dTest, dIsi, dVar, Res.bind, tyN, kb0, dOp, dCB, gLen, dCons, dNil, dC, gNeA_int, dNext, dAsg, dGTup, dGCons, dName, dGNil, dRet, dAndV, dCall, F_is_whole_int, k1, k2, gEqA_int, dTup, dUn, gNeg, in_m1, k3, k4, gGt, g2B, sgn_pos_iff, c, gIsN_dsq]
    · simp [F_is_surd, runD, m_is_surd, surd3, enOf, dSeq, dIfS, dOr, dNot, dTest, dIsi, dVar, Res.bind, tyN, kb0, dOp, dCB, gLen, dCons, dNil, dC, gNeA_int, dNext, dAsg, dGTup, dGCons, dName, dGNil, dRet, dAndV, dCall, F_is_whole_int, k1, k2, gEqA_int, gEqA_z]
    · by_cases c : 0 < q.1
      · simp [F_is_surd, runD, m_is_surd, surd3, enOf, dSeq, dIfS, dOr, dNot, dTest, dIsi, dVar, Res.bind, tyN, kb0, dOp, dCB, gLen, dCons, dNil, dC, gNeA_int, dNext, dAsg, dGTup, dGCons, dName, dGNil, dRet, dAndV, dCall, F_is_whole_int, k1, k2, gEqA_int, dTup, dUn, gNeg, in_p1, k3, k4, gGt, g2B, sgn_pos_iff, c, gIsN_dsq]
      · simp [F_is_surd, runD, m_is_surd, surd3, enOf, dSeq, dIfS, dOr, dNot, dTest, dIsi, dVar, Res.bind, tyN, kb0, dOp, dCB, gLen, dCons, dNil, dC, gNeA_int, dNext, dAsg, dGTup, dGCons, dName, dGNil, dRet, dAndV, dCall, F_is_whole_int, k1, k2, gEqA_int, dTup, dUn, gNeg, in_p1, k3, k4, gGt, g2B, sgn_pos_iff, c, gIsN_dsq]
    · simp [F_is_surd, runD, m_is_surd, surd3, enOf, dSeq, dIfS, dOr, dNot, dTest, dIsi, dVar, Res.bind, tyN, kb0, dOp, dCB, gLen, dCons, dNil, dC, gNeA_int, dNext, dAsg, dGTup, dGCons, dName, dGNil, dRet, dAndV, dCall, F_is_whole_int, k1, k2, gEqA_int, dTup, dUn, gNeg, in_p2]
theorem F_law_is_surd_eq {p q : Int × Int} {m : Int} (hm : Mk m) (cq : Cn q) (hq : Fd 3000 q) (h0 : 0 ≤ q.1) : F_law_is_surd [fr p, .int m, fr q] = some (.bool (suB p m q)) := by
  have k1 := F_law_is_part_eq p
  have k2 := F_law_is_part_eq q
  rw [cq.B] at k2
  have k4 := F_square_of_eq (fdUp hq (by decide : 3000 ≤ 3900)) h0
  unfold suB
  cases hp : cnB p with
  | false =>
    rw [hp] at k1
    simp [F_law_is_surd, runD, m_law_is_surd, enOf, dSeq, dIfS, dOr, dNot, dTest, dVar, Res.bind, dCall, dCons, dNil, k1, dRet, dC]
  | true =>
    rw [hp] at k1
    rcases hm with rfl | rfl | rfl | rfl | rfl
    · simp [F_law_is_surd, runD, m_law_is_surd, enOf, dSeq, dIfS, dOr, dNot, dTest, dVar, Res.bind, dCall, dCons, dNil, k1, k2, dRet, dC, dOp, dLst, dUn, gNeg, ni_m2]
    · by_cases c : 0 < q.1
      · simp [F_law_is_surd, runD, m_law_is_surd, enOf, dSeq, dIfS, dOr, dNot, dTest, dVar, Res.bind, dCall, dCons, dNil, k1, k2, dRet, dC, dOp, dLst, dUn, gNeg, ni_m1, dNext, dIf, gEqA_int, dAndV, gGt, g2B, c, k4, gIsN_dsq, gIx0]
      · simp [F_law_is_surd, runD, m_law_is_surd, enOf, dSeq, dIfS, dOr, dNot, dTest, dVar, Res.bind, dCall, dCons, dNil, k1, k2, dRet, dC, dOp, dLst, dUn, gNeg, ni_m1, dNext, dIf, gEqA_int, dAndV, gGt, g2B, c, k4, gIsN_dsq, gIx0]
    · simp [F_law_is_surd, runD, m_law_is_surd, enOf, dSeq, dIfS, dOr, dNot, dTest, dVar, Res.bind, dCall, dCons, dNil, k1, k2, dRet, dC, dOp, dLst, dUn, gNeg, ni_0, dNext, dIf, gEqA_int, dTup, gEqA_z']
    · by_cases c : 0 < q.1
      · simp [F_law_is_surd, runD, m_law_is_surd, enOf, dSeq, dIfS, dOr, dNot, dTest, dVar, Res.bind, dCall, dCons, dNil, k1, k2, dRet, dC, dOp, dLst, dUn, gNeg, ni_p1, dNext, dIf, gEqA_int, dAndV, gGt, g2B, c, k4, gIsN_dsq, gIx0]
      · simp [F_law_is_surd, runD, m_law_is_surd, enOf, dSeq, dIfS, dOr, dNot, dTest, dVar, Res.bind, dCall, dCons, dNil, k1, k2, dRet, dC, dOp, dLst, dUn, gNeg, ni_p1, dNext, dIf, gEqA_int, dAndV, gGt, g2B, c, k4, gIsN_dsq, gIx0]
    · simp [F_law_is_surd, runD, m_law_is_surd, enOf, dSeq, dIfS, dOr, dNot, dTest, dVar, Res.bind, dCall, dCons, dNil, k1, k2, dRet, dC, dOp, dLst, dUn, gNeg, ni_p2]
theorem sq01 : sq (0, 1) = some (0, 1) := by decide +kernel
theorem surd_is {p q : Int × Int} {x : Int} (cp : Cn p) (hp : Fd 64 p) (cq : Cn q) (hq : Fd 256 q) (h0 : 0 ≤ q.1) (hz : x = 0 → q.1 = 0) : F_is_surd [surdD p (sgn x) q] = some (.bool true) := by
  have c01 : Cn (0, 1) := ⟨by decide, by decide⟩
  have f01 : Fd 3000 (0, 1) := ⟨Nat.pow_pos (by decide), Nat.one_lt_two_pow (by decide), by decide⟩
  unfold surdD
  cases e : sq q with
  | none =>
    have hm : Mk (sgn x) := by rcases sgn_cases x with z | z | z <;> rw [z] <;> decide
    show F_is_surd [surd3 p (sgn x) q] = _
    rw [F_is_surd_eq hm cq (fdUp hq (by decide)) h0]
    have n0 : q.1 ≠ 0 := fun z => by
      have g := cq.g
      rw [z, Int.gcd_zero_left] at g
      have b := cq.b
      have : q = (0, 1) := Prod.ext z (by show q.2 = 1; omega)
      rw [this, sq01] at e
      cases e
    have nx : sgn x ≠ 0 := fun z => n0 (hz (by
      unfold sgn at z
      split at z
      · assumption
      · split at z <;> omega))
    have hs : sgn x = -1 ∨ sgn x = 1 := by rcases sgn_cases x with z | z | z <;> omega
    unfold suB
    rw [cp.B, if_neg nx, e, decide_eq_true hs, decide_eq_true (show 0 < q.1 by omega)]
    rfl
  | some r =>
    show F_is_surd [surd3 (add p (sgn x * r.1, r.2)) 0 (0, 1)] = _
    have hr := sgn_fd x (sq_fd e hq h0)
    rw [F_is_surd_eq (.inr (.inr (.inl rfl))) c01 f01 (by decide)]
    unfold suB
    rw [(add_cn hp hr).B]
    rfl
end K02
end
section
set_option Elab.async false
set_option linter.all false
set_option maxRecDepth 100000
set_option maxHeartbeats 1000000
set_option exponentiation.threshold 100
namespace K02
open PySem Dx Fc
/-! the draws -/
structure Lk (n : Nat) (l : Ld) : Prop where
  s0 : 0 ≤ l.s
  s1 : l.s < 2147483477
  k0 : 0 ≤ l.k
  k1 : l.k + n ≤ 100000
def Yl (n : Nat) (r : Ld → Res Dx.D) (P : Dx.D → Prop) : Prop := ∀ m l, Lk (m + n) l → ∃ d l', r l = .ok d l' ∧ P d ∧ Lk m l'
theorem Lk.dn {n m : Nat} {l : Ld} (h : Lk n l) (k : m ≤ n) : Lk m l := ⟨h.s0, h.s1, h.k0, by have := h.k1; omega⟩
theorem bd_of {n : Nat} {x : Int} (m : Nat) (h0 : 0 ≤ x) (h : x < (m : Int)) (k : m ≤ 2 ^ n) : Bd n x := by
  unfold Bd
  omega
theorem deal_yl {m : Int} (h0 : 0 < m) (h1 : m < 1073741824) : Yl 1 (F_law_deal [.int m]) fun d => ∃ i, d = .int i ∧ 0 ≤ i ∧ i < m := by
  intro n l h
  obtain ⟨c, s, k⟩ := l
  have z0 := h.s0
  have z1 := h.s1
  have z2 := h.k0
  have z3 := h.k1
  dsimp only at z0 z1 z2 z3
  by_cases p : 0 < c
  · refine ⟨.int (c % m), ⟨c / m, s, k⟩, ?_, ⟨_, rfl, Int.emod_nonneg _ (by omega), Int.emod_lt_of_pos _ h0⟩, ⟨z0, z1, z2, by show k + n ≤ 100000; omega⟩⟩
    simp [F_law_deal, runL, m_law_deal, enOf, dSeq, dIfS, dTest, dOp, dLo, Ld.at, dC, Res.bind, gGt, g2B, p, dDivLo, h0, h1, dRet, dVar, Ld.set]
  · have b1 : Bd 32 s := bd_of 2147483477 z0 z1 (by decide)
    have f0 : 0 ≤ s.fmod 17011 := Int.fmod_nonneg_of_pos _ (by decide)
    have f1 : s.fmod 17011 < 17011 := Int.fmod_lt_of_pos _ (by decide)
    have b2 : Bd 32 (s.fmod 17011 + 23003) := bd_of 100000 (by omega) (by omega) (by decide)
    have b3 : Bd 32 (k + 1) := bd_of 100002 (by omega) (by omega) (by decide)
    have c1 := cMul_ok b1 b2 (by decide) (by decide) (by decide)
    have c2 : cMul 60013 (k + 1) = true := cMul_ok (n := 32) (by unfold Bd; decide) b3 (by decide) (by decide) (by decide)
    have d1 : ∀ x, cMod x 17011 = true := fun _ => rfl
    have d2 : ∀ x, cMod x 2147483477 = true := fun _ => rfl
    have d3 : ∀ x, cMod x m = true := fun _ => decide_eq_true (by omega)
    have d4 : ∀ x, cDiv x 89 = true := fun _ => by
      unfold cDiv
      exact decide_eq_true ⟨by decide, by decide⟩
    refine ⟨.int ((((s * (s.fmod 17011 + 23003) + 60013 * (k + 1) + 41).fmod 2147483477).fdiv 89).fmod m), ⟨c, (s * (s.fmod 17011 + 23003) + 60013 * (k + 1) + 41).fmod 2147483477, k + 1⟩, ?_, ⟨_, rfl, Int.fmod_nonneg_of_pos _ h0, Int.fmod_lt_of_pos _ h0⟩, ⟨Int.fmod_nonneg_of_pos _ (by decide), Int.fmod_lt_of_pos _ (by decide), by show 0 ≤ k + 1; omega, by show k + 1 + n ≤ 100000; omega⟩⟩
    simp [F_law_deal, runL, m_law_deal, enOf, dSeq, dIfS, dTest, dOp, dLo, Ld.at, dC, Res.bind, gGt, g2B, p, dNext, dSetLo, Ld.set, gAdd, g2I, dSet, gMod, g2IC, d1, d2, d3, d4, dCB, gInt, dCons, dNil, gMul, gMulI, c1, c2, dRet, gDiv, dVar]
theorem some_yl {ds : List Dx.D} (h0 : ds ≠ []) (h1 : ds.length < 1000) : Yl 1 (F_law_some [.list ds]) fun d => d ∈ ds := by
  intro n l h
  have hl : 0 < ds.length := List.length_pos_iff.mpr h0
  obtain ⟨_, l1, e1, ⟨i, rfl, i0, i1⟩, k1⟩ := deal_yl (m := (ds.length : Int)) (by omega) (by omega) n l h
  obtain ⟨j, rfl⟩ : ∃ j : Nat, i = j := ⟨i.toNat, by omega⟩
  have hj : j < ds.length := by omega
  have a : gIx (.list ds) (.int j) = some ds[j] := L2.atI_nat (List.getElem?_eq_getElem hj)
  refine ⟨ds[j], l1, ?_, List.getElem_mem _, k1⟩
  simp [F_law_some, runL, m_law_some, enOf, dRet, dOp, dVar, dCallL, dCons, dNil, dCB, gLen, Res.bind, e1, a]
theorem wide_yl : Yl 1 (F_law_wide []) fun d => ∃ i, d = .int i ∧ 1 ≤ i ∧ i ≤ 1000000000 := by
  intro n l h
  obtain ⟨d, l1, e1, hd, k1⟩ := some_yl (ds := [.int 1, .int 2, .int 3, .int 3, .int 5, .int 9, .int 99, .int 1000000000]) (by simp) (by simp) n l h
  have p9 : gPow (.int 10) (.int 9) = some (.int 1000000000) := rfl
  refine ⟨d, l1, ?_, ?_, k1⟩
  · simp [F_law_wide, runL, m_law_wide, enOf, dRet, dCallL, dCons, dNil, dLst, dC, dOp, p9, Res.bind, e1]
  · simp at hd
    rcases hd with rfl | rfl | rfl | rfl | rfl | rfl | rfl <;> exact ⟨_, rfl, by decide, by decide⟩
theorem about_yl {w : Int} (h0 : 1 ≤ w) (h1 : w ≤ 1000000000) : Yl 2 (F_law_about [.int w]) fun d => ∃ i, d = .int i ∧ -w ≤ i ∧ i ≤ w := by
  intro n l h
  have p5 : gPow (.int 10) (.int 5) = some (.int 100000) := rfl
  have b1 : Bd 32 w := bd_of 1000000001 (by omega) (by omega) (by decide)
  have c1 : cMul 2 w = true := cMul_ok (n := 32) (by unfold Bd; decide) b1 (by decide) (by decide) (by decide)
  by_cases p : w < 100000
  · obtain ⟨_, l1, e1, ⟨i, rfl, i0, i1⟩, k1⟩ := deal_yl (m := 2 * w + 1) (by omega) (by omega) n l (h.dn (by omega))
    refine ⟨.int (i - w), l1, ?_, ⟨_, rfl, by omega, by omega⟩, k1⟩
    simp [F_law_about, runL, m_law_about, enOf, dSeq, dIfS, dTest, dOp, dVar, dC, Res.bind, p5, gLt, g2B, p, dRet, dCallL, dCons, dNil, gAdd, gMul, gMulI, g2I, g2IC, c1, e1, gSub]
  · obtain ⟨_, l1, e1, ⟨i, rfl, i0, i1⟩, k1⟩ := deal_yl (m := 64007) (by omega) (by omega) (n + 1) l (h.dn (by omega))
    obtain ⟨_, l2, e2, ⟨j, rfl, j0, j1⟩, k2⟩ := deal_yl (m := 64007) (by omega) (by omega) n l1 (k1.dn (by omega))
    have b2 : Bd 32 i := bd_of 64007 (by omega) (by omega) (by decide)
    have c2 : cMul i 64007 = true := cMul_ok b2 (m := 32) (by unfold Bd; decide) (by decide) (by decide) (by decide)
    have d3 : ∀ x, cMod x (2 * w + 1) = true := fun _ => decide_eq_true (by omega)
    have q0 : 0 ≤ (i * 64007 + j).fmod (2 * w + 1) := Int.fmod_nonneg_of_pos _ (by omega)
    have q1 : (i * 64007 + j).fmod (2 * w + 1) < 2 * w + 1 := Int.fmod_lt_of_pos _ (by omega)
    refine ⟨.int ((i * 64007 + j).fmod (2 * w + 1) - w), l2, ?_, ⟨_, rfl, by omega, by omega⟩, k2⟩
    simp [F_law_about, runL, m_law_about, enOf, dSeq, dIfS, dTest, dOp, dVar, dC, Res.bind, p5, gLt, g2B, p, dRet, dCallL, dCons, dNil, gAdd, gMul, gMulI, g2I, g2IC, c1, c2, e1, e2, gSub, dNext, dSet, dCB, gInt, gMod, d3]
theorem any_yl {w : Int} (h0 : 1 ≤ w) (h1 : w ≤ 1000000000) : Yl 4 (F_law_any_part [.int w]) fun d => ∃ p, d = fr p ∧ Cn p ∧ Fd 64 p := by
  intro n l h
  obtain ⟨_, l1, e1, ⟨i, rfl, i0, i1⟩, k1⟩ := about_yl h0 h1 (n + 2) l h
  have hmin : gMin [.int w, .int 10000] = some (.int (if 10000 < w then 10000 else w)) := rfl
  obtain ⟨d, l2, e2, hd, k2⟩ := some_yl (ds := [.int 1, .int 1, .int 2, .int 3, .int 7, .int (if 10000 < w then 10000 else w)]) (by simp) (by simp) (n + 1) l1 k1
  obtain ⟨m, rfl, m0, m1⟩ : ∃ m, d = .int m ∧ 1 ≤ m ∧ m ≤ 10000 := by
    simp at hd
    rcases hd with rfl | rfl | rfl | rfl | rfl
    · exact ⟨_, rfl, by decide, by decide⟩
    · exact ⟨_, rfl, by decide, by decide⟩
    · exact ⟨_, rfl, by decide, by decide⟩
    · exact ⟨_, rfl, by decide, by decide⟩
    · exact ⟨_, rfl, by split <;> omega, by split <;> omega⟩
  obtain ⟨_, l3, e3, ⟨j, rfl, j0, j1⟩, k3⟩ := deal_yl (m := m) (by omega) (by omega) n l2 k2
  have bj : Bd 64 (1 + j) := bd_of 10002 (by omega) (by omega) (by decide)
  have bi : Bd 64 i := by
    unfold Bd
    have : i.natAbs ≤ 1000000000 := by omega
    exact Nat.lt_of_le_of_lt this (by decide)
  have e4 := F_part_eq (t := i) (b := 1 + j) (by omega) (bj.up (by decide))
  have p4 : gPow (.int 10) (.int 4) = some (.int 10000) := rfl
  refine ⟨fr (red i (1 + j)), l3, ?_, ⟨_, rfl, red_cn (by omega), red_fd (by omega) bi bj⟩, k3⟩
  simp only [F_law_any_part, runL, m_law_any_part, enOf, dRet, dCall, dCallL, dCons, dNil, dOp, dC, dVar, Res.bind, dLst, dCB, p4]
  simp [e1, hmin, e2, e3, gAdd, g2I, e4]
theorem over_yl : Yl 4 (F_law_over [.int 9]) fun d => ∃ p, d = fr p ∧ Cn p ∧ Fd 64 p ∧ 0 < p.1 := by
  intro n l h
  obtain ⟨_, l1, e1, ⟨i, rfl, i0, i1⟩, k1⟩ := about_yl (w := 9) (by decide) (by decide) (n + 2) l h
  obtain ⟨d, l2, e2, hd, k2⟩ := some_yl (ds := [.int 1, .int 1, .int 2, .int 3, .int 7]) (by simp) (by simp) (n + 1) l1 k1
  obtain ⟨m, rfl, m0, m1⟩ : ∃ m, d = .int m ∧ 1 ≤ m ∧ m ≤ 10000 := by
    simp at hd
    rcases hd with rfl | rfl | rfl | rfl <;> exact ⟨_, rfl, by decide, by decide⟩
  obtain ⟨_, l3, e3, ⟨j, rfl, j0, j1⟩, k3⟩ := deal_yl (m := m) (by omega) (by omega) n l2 k2
  have bj : Bd 64 (1 + j) := bd_of 10002 (by omega) (by omega) (by decide)
  have habs : gAbs [.int i] = some (.int (if i < 0 then -i else i)) := rfl
  obtain ⟨a, ha⟩ : ∃ a, (if i < 0 then -i else i) = a := ⟨_, rfl⟩
  have a0 : 0 ≤ a ∧ a ≤ 9 := by
    rw [← ha]
    split <;> omega
  rw [ha] at habs
  have bi : Bd 64 (1 + a) := bd_of 11 (by omega) (by omega) (by decide)
  have e4 := F_part_eq (t := 1 + a) (b := 1 + j) (by omega) (bj.up (by decide))
  have pos : 0 < (red (1 + a) (1 + j)).1 := by
    have c := red_cross (t := 1 + a) (b := 1 + j) (by omega)
    have p := (red_cn (t := 1 + a) (b := 1 + j) (by omega)).b
    have q := Int.mul_pos (show 0 < 1 + a by omega) p
    rw [← c] at q
    exact Int.pos_of_mul_pos_left q (by omega)
  refine ⟨fr (red (1 + a) (1 + j)), l3, ?_, ⟨_, rfl, red_cn (by omega), red_fd (by omega) bi bj, pos⟩, k3⟩
  simp only [F_law_over, runL, m_law_over, enOf, dRet, dCall, dCallL, dCons, dNil, dOp, dC, dVar, Res.bind, dLst, dCB]
  simp [e1, habs, e2, e3, gAdd, g2I, e4]
theorem square_yl : Yl 6 (F_law_some_square []) fun d => ∃ p, d = fr p ∧ Cn p ∧ Fd 128 p ∧ 0 ≤ p.1 := by
  intro n l h
  obtain ⟨_, l1, e1, ⟨i, rfl, i0, i1⟩, k1⟩ := deal_yl (m := 6) (by decide) (by decide) (n + 5) l h
  by_cases p : i = 0
  · subst p
    obtain ⟨_, l2, e2, ⟨q, rfl, cq, fq⟩, k2⟩ := any_yl (w := 9) (by decide) (by decide) n l1 (k1.dn (by omega))
    have e3 := F_law_mul_eq (fdUp fq (by decide : 64 ≤ 4000)) (fdUp fq (by decide))
    have pos : 0 ≤ (mul q q).1 := red_nonneg (by
      rcases Int.le_total 0 q.1 with z | z
      · exact Int.mul_nonneg z z
      · exact Int.mul_nonneg_of_nonpos_of_nonpos z z) (Int.mul_pos fq.p fq.p)
    refine ⟨fr (mul q q), l2, ?_, ⟨_, rfl, mul_cn fq fq, mul_fd fq fq, pos⟩, k2⟩
    simp [F_law_some_square, runL, m_law_some_square, enOf, dSeq, dSet, dCallL, dCons, dNil, dC, Res.bind, e1, dIfS, dTest, dOp, dVar, gEqA_int, e2, dRet, dCall, e3]
  · by_cases p4 : i < 4
    · obtain ⟨_, l2, e2, ⟨j, rfl, j0, j1⟩, k2⟩ := deal_yl (m := 13) (by decide) (by decide) n l1 (k1.dn (by omega))
      refine ⟨fr (j, 1), l2, ?_, ⟨_, rfl, ⟨by show (0 : Int) < 1; decide, by show Int.gcd j 1 = 1; simp⟩, ⟨bd_of 13 j0 j1 (by decide), Nat.one_lt_two_pow (by decide), by show (0 : Int) < 1; decide⟩, j0⟩, k2⟩
      simp [F_law_some_square, runL, m_law_some_square, enOf, dSeq, dSet, dCallL, dCons, dNil, dC, Res.bind, e1, dIfS, dTest, dOp, dVar, gEqA_int, p, dNext, gLt, g2B, p4, e2, dRet, dTup, fr]
    · obtain ⟨d, l2, e2, hd, k2⟩ := some_yl (ds := [.int 9, .int 99, .int 1000000]) (by simp) (by simp) (n + 4) l1 k1
      obtain ⟨m, rfl, m0, m1⟩ : ∃ m, d = .int m ∧ 1 ≤ m ∧ m ≤ 1000000 := by
        simp at hd
        rcases hd with rfl | rfl | rfl <;> exact ⟨_, rfl, by decide, by decide⟩
      obtain ⟨_, l3, e3, ⟨j, rfl, j0, j1⟩, k3⟩ := deal_yl (m := m) (by omega) (by omega) (n + 3) l2 k2
      obtain ⟨_, l4, e4, ⟨x, rfl, x0, x1⟩, k4⟩ := deal_yl (m := 9) (by omega) (by omega) (n + 2) l3 k3
      have bx : Bd 128 (1 + x) := bd_of 11 (by omega) (by omega) (by decide)
      have bj : Bd 128 j := bd_of 1000001 (by omega) (by omega) (by decide)
      have e5 := F_part_eq (t := j) (b := 1 + x) (by omega) (bx.up (by decide))
      have p6 : gPow (.int 10) (.int 6) = some (.int 1000000) := rfl
      refine ⟨fr (red j (1 + x)), l4, ?_, ⟨_, rfl, red_cn (by omega), red_fd (by omega) bj bx, red_nonneg j0 (by omega)⟩, k4.dn (by omega)⟩
      simp [F_law_some_square, runL, m_law_some_square, enOf, dSeq, dSet, dCallL, dCons, dNil, dC, Res.bind, e1, dIfS, dTest, dOp, dVar, gEqA_int, p, dNext, gLt, g2B, p4, dLst, p6, e2, e3, e4, gAdd, g2I, dRet, dCall, e5]
end K02
end
section
set_option Elab.async false
set_option linter.all false
set_option maxRecDepth 100000
set_option maxHeartbeats 1000000
namespace K02
open PySem Dx Fc
def T1 (a b : Int) : Dx.D := .tuple [.int a, .int b]
def oddP : List Dx.D := [.none, .int 1, .int 0, .str "1", .tuple [], .tuple [.int 1], T1 2 4, T1 1 0, T1 1 (-2), T1 0 3, T1 (-3) (-1), .list [.int 1, .int 2], .tuple [.bool true, .int 2], .tuple [.int 1, .bool true], .tuple [.int 1, .int 2, .int 3], .dict [], .tuple [.none, .int 1], .tuple [.str "1", .int 2], .tuple [T1 1 2, .int 1], .bool true, T1 0 0]
theorem oddP_eq : F_law_odd_parts [] = some (.list oddP) := rfl
theorem oddP_no : ∀ d ∈ oddP, F_is_fraction [d] = some (.bool false) ∧ F_is_surd [.tuple [d, .int 0, T1 0 1]] = some (.bool false) := by
  intro d hd
  unfold oddP at hd
  simp only [List.mem_cons, List.not_mem_nil, or_false] at hd
  rcases hd with rfl | rfl | rfl | rfl | rfl | rfl | rfl | rfl | rfl | rfl | rfl | rfl | rfl | rfl | rfl | rfl | rfl | rfl | rfl | rfl | rfl
  all_goals exact ⟨by rfl, by rfl⟩
def h0 : Dx.D := T1 1 2
def h2 : Dx.D := T1 2 1
def h1 : Dx.D := T1 0 1
def s3 (a : Dx.D) (b : Dx.D) (c : Dx.D) : Dx.D := .tuple [a, b, c]
def oddS : List Dx.D := [.none, .int 5, .str "abc", .tuple [], h0, .tuple [h0, .int 0], .tuple [h0, .int 0, h1, h1], .list [h0, .int 0, h1], s3 h0 (.int 0) h2, s3 h0 (.int 1) h1,
  s3 h0 (.int 1) (T1 4 1), s3 h0 (.int (-1)) (T1 9 4), s3 h0 (.int 1) (T1 (-2) 1), s3 h0 (.int 2) h2, s3 h0 (.bool true) h2,
  s3 h0 (.bool false) h1, s3 h0 .none h1, s3 (T1 2 4) (.int 0) h1, s3 h0 (.int 1) (T1 4 2), s3 (.int 1) (.int 0) h1,
  s3 h0 (.int 0) (.int 0), s3 h0 (.int 0) (T1 0 2), s3 (T1 1 0) (.int 1) h2, .dict [], s3 h0 (T1 1 1) h2]
theorem oddS_eq : F_law_odd_surds [] = some (.list oddS) := rfl
theorem oddS_no : ∀ d ∈ oddS, F_is_surd [d] = some (.bool false) := by
  intro d hd
  unfold oddS at hd
  simp only [List.mem_cons, List.not_mem_nil, or_false] at hd
  rcases hd with rfl | rfl | rfl | rfl | rfl | rfl | rfl | rfl | rfl | rfl | rfl | rfl | rfl | rfl | rfl | rfl | rfl | rfl | rfl | rfl | rfl | rfl | rfl | rfl | rfl
  all_goals first | rfl | skip
theorem fr_no (p : Int × Int) : F_is_surd [fr p] = some (.bool false) := by
  simp [F_is_surd, runD, m_is_surd, fr, enOf, dSeq, dIfS, dOr, dNot, dTest, dIsi, dVar, Res.bind, tyN, kb0, dOp, dCB, gLen, dCons, dNil, dC, gNeA_int, dRet]
end K02
end
section
set_option Elab.async false
set_option linter.all false
set_option maxRecDepth 100000
set_option maxHeartbeats 4000000
set_option exponentiation.threshold 100
namespace K02
open PySem Dx Fc
theorem seq_nx {a b : DS} {en en' : En} {l l' : Ld} (h : a en l = .nx en' l') : dSeq a b en l = b en' l' := by
  unfold dSeq
  rw [h]
theorem surd_form {p q : Int × Int} (x : Int) (hp : Fd 64 p) (hq : Fd 256 q) (h0 : 0 ≤ q.1) : ∃ (a b : Int × Int) (s : Int), surdD p (sgn x) q = surd3 a s b ∧ Bd 1000 a.1 ∧ Bd 1000 a.2 ∧ Bd 1000 s ∧ Bd 1000 b.1 ∧ Bd 1000 b.2 := by
  unfold surdD
  cases e : sq q with
  | none => exact ⟨p, q, sgn x, rfl, hp.t.up (by decide), hp.b.up (by decide), by rcases sgn_cases x with z | z | z <;> rw [z] <;> first | exact Nat.one_lt_two_pow (by decide) | exact Nat.pow_pos (by decide), hq.t.up (by decide), hq.b.up (by decide)⟩
  | some r =>
    have a := add_fd hp (sgn_fd x (sq_fd e hq h0))
    exact ⟨_, _, _, rfl, a.t.up (by decide), a.b.up (by decide), Nat.pow_pos (by decide), Nat.pow_pos (by decide), Nat.one_lt_two_pow (by decide)⟩
abbrev dd (d : Dx.D) : Option Sl := some (.dat d)
abbrev oo : Option Sl := none
theorem hR (l : Ld) (hl : 0 ≤ l.s ∧ l.s < 2147483477 ∧ l.k = 0) : ∃ l', F_law_right [] l = .ok (.bool true) l' := by
  have k0 : Lk 1000 l := ⟨hl.1, hl.2.1, by omega, by omega⟩
  obtain ⟨_, l1, e1, ⟨w1, rfl, w10, w11⟩, k1⟩ := wide_yl 999 l k0
  obtain ⟨_, l2, e2, ⟨p, rfl, cp, fp⟩, k2⟩ := any_yl w10 w11 995 l1 k1
  obtain ⟨_, l3, e3, ⟨w2, rfl, w20, w21⟩, k3⟩ := wide_yl 994 l2 k2
  obtain ⟨_, l4, e4, ⟨f, rfl, cf, ff⟩, k4⟩ := any_yl w20 w21 990 l3 k3
  obtain ⟨_, l5, e5, ⟨q, rfl, cq, fq, q0⟩, k5⟩ := square_yl 984 l4 k4
  obtain ⟨_, l6, e6, ⟨t, rfl, ct, ft, t0⟩, k6⟩ := over_yl 980 l5 k5
  obtain ⟨_, l7, e7, ⟨a1, rfl, a10, a11⟩, k7⟩ := about_yl w10 w11 978 l6 k6
  obtain ⟨_, l8, e8, ⟨a2, rfl, a20, a21⟩, k8⟩ := about_yl (w := 3) (by decide) (by decide) 976 l7 k7
  obtain ⟨_, l9, e9, ⟨m, rfl, m0, m1⟩, k9⟩ := about_yl (w := 2) (by decide) (by decide) 974 l8 k8
  obtain ⟨u, l10, e10, hu, k10⟩ := some_yl (ds := oddP) (by unfold oddP; simp) (by unfold oddP; simp) 973 l9 k9
  obtain ⟨v, l11, e11, hv, k11⟩ := some_yl (ds := oddS) (by unfold oddS; simp) (by unfold oddS; simp) 972 l10 k10
  refine ⟨l11, ?_⟩
  -- the surd
  have fp9 := fdUp fp (by decide : 64 ≤ 900)
  have ff9 := fdUp ff (by decide : 64 ≤ 900)
  have fq9 := fdUp fq (by decide : 128 ≤ 900)
  have s1 := F_law_surd_eq fp9 ff9 fq9 q0
  have s2 := F_surd_of_eq cp cf cq fp9 ff9 fq9 q0
  have fq1 := mul_fd ff ff
  have cq2 := mul_cn fq1 fq
  have fq2 := mul_fd fq1 fq
  have q20 := inner_nonneg (fdUp ff (by decide : 64 ≤ 128)) fq q0
  have hz : f.1 = 0 → (mul (mul f f) q).1 = 0 := fun z => mul_zero1 (Int.mul_pos fq1.p fq.p) (by rw [mul_zero1 (Int.mul_pos ff.p ff.p) (by rw [z]; rfl)]; exact Int.zero_mul _)
  have s3 := surd_is cp fp cq2 fq2 q20 hz
  obtain ⟨A, B, S, eX, bA1, bA2, bS, bB1, bB2⟩ := surd_form f.1 fp fq2 q20
  have i1 := F_law_mul_eq (fdUp ff (by decide : 64 ≤ 4000)) (fdUp ff (by decide))
  have i2 := F_law_mul_eq (fdUp fq1 (by decide : 64 + 64 ≤ 4000)) (fdUp fq (by decide))
  -- way 2
  have fs1 : Fd 900 (sgn f.1, 1) := ⟨by show Bd 900 (sgn f.1); rcases sgn_cases f.1 with z | z | z <;> rw [z] <;> first | exact Nat.one_lt_two_pow (by decide) | exact Nat.pow_pos (by decide), Nat.one_lt_two_pow (by decide), by show (0 : Int) < 1; decide⟩
  have cs1 : Cn (sgn f.1, 1) := ⟨by show (0 : Int) < 1; decide, by show Int.gcd (sgn f.1) 1 = 1; simp⟩
  have y1 := F_surd_of_eq cp cs1 cq2 fp9 fs1 (fdUp fq2 (by decide)) q20
  rw [way2 (fdUp ff (by decide : 64 ≤ 128)) fq q0] at y1
  have y1' : F_surd_of [fr p, .tuple [.int (sgn f.1), .int 1], fr (mul (mul f f) q)] = some (surdD p (sgn f.1) (mul (mul f f) q)) := by
    have := y1
    rw [show sgn (sgn f.1, (1 : Int)).1 = sgn f.1 from sgn_sgn _] at this
    exact this
  -- way 3
  have j1 := F_law_div_eq (fdUp ff (by decide : 64 ≤ 4000)) (fdUp ft (by decide)) t0
  have j2 := F_law_mul_eq (fdUp ft (by decide : 64 ≤ 4000)) (fdUp ft (by decide))
  have ftt := mul_fd ft ft
  have j3 := F_law_mul_eq (fdUp fq (by decide : 128 ≤ 4000)) (fdUp ftt (by decide))
  have fdv := dv_fd ff ft t0
  have fqt := mul_fd fq ftt
  have y2 := F_surd_of_eq cp (dv_cn ff ft t0) (mul_cn fq ftt) fp9 (fdUp fdv (by decide)) (fdUp fqt (by decide)) (red_nonneg (Int.mul_nonneg q0 (red_nonneg (Int.le_of_lt (Int.mul_pos t0 t0)) (Int.mul_pos ft.p ft.p))) (Int.mul_pos fq.p ftt.p))
  rw [way3 (fdUp ff (by decide : 64 ≤ 128)) fq (fdUp ft (by decide)) t0, way3s ff ft t0] at y2
  rw [eX] at s1 s2 s3 y1' y2
  obtain ⟨rx, hrx⟩ := repr_surd2 bA1 bA2 bS bB1 bB2
  have nrx := gNeA_str rx
  have nX := gNeA_surd A B S
  generalize surd3 A S B = X at *
  -- the pairs
  have f1 := F_is_fraction_eq (a1, a2)
  have f2 := F_is_fraction_eq p
  have f3 := F_law_is_part_eq (a1, a2)
  rw [cp.B] at f2
  have hm : Mk m := by
    unfold Mk
    omega
  have z1 := F_is_surd_eq (p := (a1, a2)) hm cq (fdUp fq (by decide)) q0
  have z2 := F_law_is_surd_eq (p := (a1, a2)) hm cq (fdUp fq (by decide)) q0
  have z3 := F_is_surd_eq (p := p) hm cq (fdUp fq (by decide)) q0
  have z4 := F_law_is_surd_eq (p := p) hm cq (fdUp fq (by decide)) q0
  unfold surd3 at z1 z3
  generalize suB (a1, a2) m q = b1 at *
  generalize suB p m q = b2 at *
  generalize cnB (a1, a2) = b3 at *
  have pr : (PyData.tuple [.int a1, .int a2]) = fr (a1, a2) := rfl
  obtain ⟨r5, hr5⟩ := gRepr5 b3 true true b1 b2
  have nr5 := gNeA_str r5
  -- the odd ones
  have o1 := oddP_no u hu
  have o2 := oddS_no v hv
  have o3 := fr_no p
  obtain ⟨r4, hr4⟩ := gRepr4 false false false false
  have nr4 := gEqA_str r4
  have rep : gMul (.list [.bool false]) (.int 4) = some (.list [.bool false, .bool false, .bool false, .bool false]) := rfl
  unfold F_law_right runL m_law_right
  have st : ∀ (r : SRes), r = .rt (.bool true) l11 → (match r with
    | .rt d l' => Res.ok d l'
    | .nx _ l' => Res.ok PyData.none l'
    | _ => Res.no) = Res.ok (PyData.bool true) l11 := fun r h => by rw [h]
  refine st _ ?_
  show dSeq _ _ [some .lode, oo, oo, oo, oo, oo, oo, oo, oo, oo, oo, oo, oo, oo] l = _
  rw [seq_nx (show _ = SRes.nx [some .lode, dd (.int w1), oo, oo, oo, oo, oo, oo, oo, oo, oo, oo, oo, oo] l1 from by
    simp [dSet, dCallL, dNil, Res.bind, e1])]
  rw [seq_nx (show _ = SRes.nx [some .lode, dd (.int w1), dd (fr p), dd (fr f), oo, oo, oo, oo, oo, oo, oo, oo, oo, oo] l4 from by
    simp [dPar, dCons, dCallL, dVar, dNil, Res.bind, e2, e3, e4])]
  rw [seq_nx (show _ = SRes.nx [some .lode, dd (.int w1), dd (fr p), dd (fr f), dd (fr q), oo, oo, oo, oo, oo, oo, oo, oo, oo] l5 from by
    simp [dSet, dCallL, dNil, Res.bind, e5])]
  rw [seq_nx (show _ = SRes.nx [some .lode, dd (.int w1), dd (fr p), dd (fr f), dd (fr q), dd X, oo, oo, oo, oo, oo, oo, oo, oo] l5 from by
    simp [dSet, dCall, dCons, dVar, dNil, Res.bind, s1])]
  rw [seq_nx (show _ = SRes.nx [some .lode, dd (.int w1), dd (fr p), dd (fr f), dd (fr q), dd X, oo, oo, oo, oo, oo, oo, oo, oo] l5 from by
    simp [dIfS, dTest, dOp, dCB, dLst, dCall, dCallK, perm, dCons, dVar, dNil, Res.bind, s2, hrx, nrx, dNext])]
  rw [seq_nx (show _ = SRes.nx [some .lode, dd (.int w1), dd (fr p), dd (fr f), dd (fr q), dd X, dd (fr (mul (mul f f) q)), dd (fr t), oo, oo, oo, oo, oo, oo] l6 from by
    simp [dPar, dCons, dCall, dCallL, dVar, dNil, dC, Res.bind, i1, i2, e6])]
  have sg1 := F_law_sign_eq f.1
  rw [seq_nx (show _ = SRes.nx [some .lode, dd (.int w1), dd (fr p), dd (fr f), dd (fr q), dd X, dd (fr (mul (mul f f) q)), dd (fr t), oo, oo, oo, oo, oo, oo] l6 from by
    simp [dIfS, dTest, dOp, dTup, dC, gIx0, dCall, dCons, dVar, dNil, Res.bind, sg1, y1', nX, dNext])]
  rw [seq_nx (show _ = SRes.nx [some .lode, dd (.int w1), dd (fr p), dd (fr f), dd (fr q), dd X, dd (fr (mul (mul f f) q)), dd (fr t), oo, oo, oo, oo, oo, oo] l6 from by
    simp [dIfS, dTest, dOp, dCall, dCons, dVar, dNil, Res.bind, j1, j2, j3, y2, nX, dNext])]
  rw [seq_nx (show _ = SRes.nx [some .lode, dd (.int w1), dd (fr p), dd (fr f), dd (fr q), dd X, dd (fr (mul (mul f f) q)), dd (fr t), dd (fr (a1, a2)), dd (.int m), oo, oo, oo, oo] l9 from by
    simp [dPar, dTup, dC, dCons, dCallL, dVar, dNil, Res.bind, e7, e8, e9, pr])]
  rw [seq_nx (show _ = SRes.nx [some .lode, dd (.int w1), dd (fr p), dd (fr f), dd (fr q), dd X, dd (fr (mul (mul f f) q)), dd (fr t), dd (fr (a1, a2)), dd (.int m), some (.own [.bool b3, .bool true, .bool true, .bool b1]), oo, oo, oo] l9 from by
    simp [dSetOwn, dNew, dCons, dCall, dCallK, perm, dTup, dVar, dNil, Res.bind, f1, f2, s3, z1])]
  rw [seq_nx (show _ = SRes.nx [some .lode, dd (.int w1), dd (fr p), dd (fr f), dd (fr q), dd X, dd (fr (mul (mul f f) q)), dd (fr t), dd (fr (a1, a2)), dd (.int m), some (.own [.bool b3, .bool true, .bool true, .bool b1, .bool b2]), oo, oo, oo] l9 from by
    simp [dApp, dCons, dCall, dCallK, perm, dTup, dVar, dNil, Res.bind, z3])]
  rw [seq_nx (show _ = SRes.nx [some .lode, dd (.int w1), dd (fr p), dd (fr f), dd (fr q), dd X, dd (fr (mul (mul f f) q)), dd (fr t), dd (fr (a1, a2)), dd (.int m), some (.own [.bool b3, .bool true, .bool true, .bool b1, .bool b2]), dd (.list [.bool b3, .bool true, .bool true, .bool b1, .bool b2]), oo, oo] l9 from by
    simp [dSet, dLst, dC, dCons, dCall, dVar, dNil, Res.bind, f3, z2, z4])]
  rw [seq_nx (show _ = SRes.nx [some .lode, dd (.int w1), dd (fr p), dd (fr f), dd (fr q), dd X, dd (fr (mul (mul f f) q)), dd (fr t), dd (fr (a1, a2)), dd (.int m), dd (.list [.bool b3, .bool true, .bool true, .bool b1, .bool b2]), dd (.list [.bool b3, .bool true, .bool true, .bool b1, .bool b2]), oo, oo] l9 from by
    simp [dFrz, dIfS, dTest, dOp, dCB, dCons, dVar, dNil, Res.bind, hr5, nr5, dNext])]
  rw [seq_nx (show _ = SRes.nx [some .lode, dd (.int w1), dd (fr p), dd (fr f), dd (fr q), dd X, dd (fr (mul (mul f f) q)), dd (fr t), dd (fr (a1, a2)), dd (.int m), dd (.list [.bool b3, .bool true, .bool true, .bool b1, .bool b2]), dd (.list [.bool b3, .bool true, .bool true, .bool b1, .bool b2]), dd u, dd v] l11 from by
    simp [dPar, dCall, dCallL, dCons, dVar, dNil, Res.bind, oddP_eq, oddS_eq, e10, e11])]
  have o1a := o1.1
  have o1b := o1.2
  unfold T1 at o1b
  simp [dRet, dOp, dCB, dLst, dTup, dC, dCall, dCallK, perm, dCons, dVar, dNil, Res.bind, o1a, o1b, o2, o3, rep, hr4, nr4]
end K02
end
section
set_option Elab.async false
set_option linter.all false
set_option maxRecDepth 100000
set_option maxHeartbeats 4000000
namespace K02
open PySem PySem.Spec PyProof.Rows L2 Dx
theorem kw_surd_of_2_1_0 {K : PySem.W.Frag} {f : Addr} {fd : FuncData} (F : Fun K "surd_of" "surd_of" s_surd_of f fd) : KwB K fd p_surd_of ["fraction", "factor", "part"] [2, 1, 0] := by
  obtain ⟨oc, od, kV, doc, pm, an, cdv, ct, osl, rfl, lk, hcd⟩ := F.ex
  exact fun s ws _ hl => match ws, hl with
    | [_, _, _], _ => .of_eq rfl
theorem kw_is_fraction_0 {K : PySem.W.Frag} {f : Addr} {fd : FuncData} (F : Fun K "is_fraction" "is_fraction" s_is_fraction f fd) : KwB K fd p_is_fraction ["value"] [0] := by
  obtain ⟨oc, od, kV, doc, pm, an, cdv, ct, osl, rfl, lk, hcd⟩ := F.ex
  exact fun s ws _ hl => match ws, hl with
    | [_], _ => .of_eq rfl
theorem kw_is_surd_0 {K : PySem.W.Frag} {f : Addr} {fd : FuncData} (F : Fun K "is_surd" "is_surd" s_is_surd f fd) : KwB K fd p_is_surd ["value"] [0] := by
  obtain ⟨oc, od, kV, doc, pm, an, cdv, ct, osl, rfl, lk, hcd⟩ := F.ex
  exact fun s ws _ hl => match ws, hl with
    | [_], _ => .of_eq rfl
theorem txt_mk {K : PySem.W.Frag} {h : Heap} {mg : Str → Option Value} {f0 f1 f2 f3 f4 f5 f6 f7 f8 f9 f10 f11 f12 f13 f14 f15 f16 f17 f18 f19 f20 f21 f22 f23 f24 f25 f26 f27 f28 f29 f30 f31 f32 f33 f34 f35 : Addr} (X : K.In h) (G : h.Ns mainGlobals mg) {od0 an0 : Option Addr} {sl0 : Array (Option Value)} {oc0 kV0 dc0 pm0 cd0 ct0 : Value} {od1 an1 : Option Addr} {sl1 : Array (Option Value)} {oc1 kV1 dc1 pm1 cd1 ct1 : Value} {od2 an2 : Option Addr} {sl2 : Array (Option Value)} {oc2 kV2 dc2 pm2 cd2 ct2 : Value} {od3 an3 : Option Addr} {sl3 : Array (Option Value)} {oc3 kV3 dc3 pm3 cd3 ct3 : Value} {od4 an4 : Option Addr} {sl4 : Array (Option Value)} {oc4 kV4 dc4 pm4 cd4 ct4 : Value} {od5 an5 : Option Addr} {sl5 : Array (Option Value)} {oc5 kV5 dc5 pm5 cd5 ct5 : Value} {od6 an6 : Option Addr} {sl6 : Array (Option Value)} {oc6 kV6 dc6 pm6 cd6 ct6 : Value} {od7 an7 : Option Addr} {sl7 : Array (Option Value)} {oc7 kV7 dc7 pm7 cd7 ct7 : Value} {od8 an8 : Option Addr} {sl8 : Array (Option Value)} {oc8 kV8 dc8 pm8 cd8 ct8 : Value} {od9 an9 : Option Addr} {sl9 : Array (Option Value)} {oc9 kV9 dc9 pm9 cd9 ct9 : Value} {od10 an10 : Option Addr} {sl10 : Array (Option Value)} {oc10 kV10 dc10 pm10 cd10 ct10 : Value} {od11 an11 : Option Addr} {sl11 : Array (Option Value)} {oc11 kV11 dc11 pm11 cd11 ct11 : Value} {od12 an12 : Option Addr} {sl12 : Array (Option Value)} {oc12 kV12 dc12 pm12 cd12 ct12 : Value} {od13 an13 : Option Addr} {sl13 : Array (Option Value)} {oc13 kV13 dc13 pm13 cd13 ct13 : Value} {od14 an14 : Option Addr} {sl14 : Array (Option Value)} {oc14 kV14 dc14 pm14 cd14 ct14 : Value} {od15 an15 : Option Addr} {sl15 : Array (Option Value)} {oc15 kV15 dc15 pm15 cd15 ct15 : Value} {od16 an16 : Option Addr} {sl16 : Array (Option Value)} {oc16 kV16 dc16 pm16 cd16 ct16 : Value} {od17 an17 : Option Addr} {sl17 : Array (Option Value)} {oc17 kV17 dc17 pm17 cd17 ct17 : Value} {od18 an18 : Option Addr} {sl18 : Array (Option Value)} {oc18 kV18 dc18 pm18 cd18 ct18 : Value} {od19 an19 : Option Addr} {sl19 : Array (Option Value)} {oc19 kV19 dc19 pm19 cd19 ct19 : Value} {od20 an20 : Option Addr} {sl20 : Array (Option Value)} {oc20 kV20 dc20 pm20 cd20 ct20 : Value} {od21 an21 : Option Addr} {sl21 : Array (Option Value)} {oc21 kV21 dc21 pm21 cd21 ct21 : Value} {od22 an22 : Option Addr} {sl22 : Array (Option Value)} {oc22 kV22 dc22 pm22 cd22 ct22 : Value} {od23 an23 : Option Addr} {sl23 : Array (Option Value)} {oc23 kV23 dc23 pm23 cd23 ct23 : Value} {od24 an24 : Option Addr} {sl24 : Array (Option Value)} {oc24 kV24 dc24 pm24 cd24 ct24 : Value} {od25 an25 : Option Addr} {sl25 : Array (Option Value)} {oc25 kV25 dc25 pm25 cd25 ct25 : Value} {od26 an26 : Option Addr} {sl26 : Array (Option Value)} {oc26 kV26 dc26 pm26 cd26 ct26 : Value} {od27 an27 : Option Addr} {sl27 : Array (Option Value)} {oc27 kV27 dc27 pm27 cd27 ct27 : Value} {od28 an28 : Option Addr} {sl28 : Array (Option Value)} {oc28 kV28 dc28 pm28 cd28 ct28 : Value} {od29 an29 : Option Addr} {sl29 : Array (Option Value)} {oc29 kV29 dc29 pm29 cd29 ct29 : Value} {od30 an30 : Option Addr} {sl30 : Array (Option Value)} {oc30 kV30 dc30 pm30 cd30 ct30 : Value} {od31 an31 : Option Addr} {sl31 : Array (Option Value)} {oc31 kV31 dc31 pm31 cd31 ct31 : Value} {od32 an32 : Option Addr} {sl32 : Array (Option Value)} {oc32 kV32 dc32 pm32 cd32 ct32 : Value} {od33 an33 : Option Addr} {sl33 : Array (Option Value)} {oc33 kV33 dc33 pm33 cd33 ct33 : Value} {od34 an34 : Option Addr} {sl34 : Array (Option Value)} {oc34 kV34 dc34 pm34 cd34 ct34 : Value} {od35 an35 : Option Addr} {sl35 : Array (Option Value)} {oc35 kV35 dc35 pm35 cd35 ct35 : Value} {tk1 : Tok} {tk2 : Tok} {ca0 : Addr} {ca0d : Option Addr} {ca0n : Nat} {ca0s : Array (Option Value)}
    (a0 : PySem.W.nsIn K mainGlobals "is_whole" = some (some (.ref f0)))
    (l0 : K.lookup f0 = some ⟨oc0, od0, .func (PySem.W.fnOf "is_whole" "is_whole" (defArgs s_is_whole) (defBody s_is_whole) (defScope s_is_whole) .none kV0 dc0 pm0 an0 cd0 ct0), sl0⟩)
    (c0 : PySem.W.codeIn K cd0 "is_whole" = true)
    (k0 : PySem.W.keepIn K (.ref f0) = true)
    (a1 : PySem.W.nsIn K mainGlobals "reduced" = some (some (.ref f1)))
    (l1 : K.lookup f1 = some ⟨oc1, od1, .func (PySem.W.fnOf "reduced" "reduced" (defArgs s_reduced) (defBody s_reduced) (defScope s_reduced) .none kV1 dc1 pm1 an1 cd1 ct1), sl1⟩)
    (c1 : PySem.W.codeIn K cd1 "reduced" = true)
    (k1 : PySem.W.keepIn K (.ref f1) = true)
    (a2 : PySem.W.nsIn K mainGlobals "plus" = some (some (.ref f2)))
    (l2 : K.lookup f2 = some ⟨oc2, od2, .func (PySem.W.fnOf "plus" "plus" (defArgs s_plus) (defBody s_plus) (defScope s_plus) .none kV2 dc2 pm2 an2 cd2 ct2), sl2⟩)
    (c2 : PySem.W.codeIn K cd2 "plus" = true)
    (k2 : PySem.W.keepIn K (.ref f2) = true)
    (a3 : PySem.W.nsIn K mainGlobals "times" = some (some (.ref f3)))
    (l3 : K.lookup f3 = some ⟨oc3, od3, .func (PySem.W.fnOf "times" "times" (defArgs s_times) (defBody s_times) (defScope s_times) .none kV3 dc3 pm3 an3 cd3 ct3), sl3⟩)
    (c3 : PySem.W.codeIn K cd3 "times" = true)
    (k3 : PySem.W.keepIn K (.ref f3) = true)
    (a4 : PySem.W.nsIn K mainGlobals "sign_of" = some (some (.ref f4)))
    (l4 : K.lookup f4 = some ⟨oc4, od4, .func (PySem.W.fnOf "sign_of" "sign_of" (defArgs s_sign_of) (defBody s_sign_of) (defScope s_sign_of) .none kV4 dc4 pm4 an4 cd4 ct4), sl4⟩)
    (c4 : PySem.W.codeIn K cd4 "sign_of" = true)
    (k4 : PySem.W.keepIn K (.ref f4) = true)
    (a5 : PySem.W.nsIn K mainGlobals "whole_sign" = some (some (.ref f5)))
    (l5 : K.lookup f5 = some ⟨oc5, od5, .func (PySem.W.fnOf "whole_sign" "whole_sign" (defArgs s_whole_sign) (defBody s_whole_sign) (defScope s_whole_sign) .none kV5 dc5 pm5 an5 cd5 ct5), sl5⟩)
    (c5 : PySem.W.codeIn K cd5 "whole_sign" = true)
    (k5 : PySem.W.keepIn K (.ref f5) = true)
    (a6 : PySem.W.nsIn K mainGlobals "is_fraction" = some (some (.ref f6)))
    (l6 : K.lookup f6 = some ⟨oc6, od6, .func (PySem.W.fnOf "is_fraction" "is_fraction" (defArgs s_is_fraction) (defBody s_is_fraction) (defScope s_is_fraction) .none kV6 dc6 pm6 an6 cd6 ct6), sl6⟩)
    (c6 : PySem.W.codeIn K cd6 "is_fraction" = true)
    (k6 : PySem.W.keepIn K (.ref f6) = true)
    (a7 : PySem.W.nsIn K mainGlobals "is_surd" = some (some (.ref f7)))
    (l7 : K.lookup f7 = some ⟨oc7, od7, .func (PySem.W.fnOf "is_surd" "is_surd" (defArgs s_is_surd) (defBody s_is_surd) (defScope s_is_surd) .none kV7 dc7 pm7 an7 cd7 ct7), sl7⟩)
    (c7 : PySem.W.codeIn K cd7 "is_surd" = true)
    (k7 : PySem.W.keepIn K (.ref f7) = true)
    (a8 : PySem.W.nsIn K mainGlobals "surd_of" = some (some (.ref f8)))
    (l8 : K.lookup f8 = some ⟨oc8, od8, .func (PySem.W.fnOf "surd_of" "surd_of" (defArgs s_surd_of) (defBody s_surd_of) (defScope s_surd_of) .none kV8 dc8 pm8 an8 cd8 ct8), sl8⟩)
    (c8 : PySem.W.codeIn K cd8 "surd_of" = true)
    (k8 : PySem.W.keepIn K (.ref f8) = true)
    (a9 : PySem.W.nsIn K mainGlobals "check_fraction" = some (some (.ref f9)))
    (l9 : K.lookup f9 = some ⟨oc9, od9, .func (PySem.W.fnOf "check_fraction" "check_fraction" (defArgs s_check_fraction) (defBody s_check_fraction) (defScope s_check_fraction) .none kV9 dc9 pm9 an9 cd9 ct9), sl9⟩)
    (c9 : PySem.W.codeIn K cd9 "check_fraction" = true)
    (k9 : PySem.W.keepIn K (.ref f9) = true)
    (a10 : PySem.W.nsIn K mainGlobals "_root_of" = some (some (.ref f10)))
    (l10 : K.lookup f10 = some ⟨oc10, od10, .func (PySem.W.fnOf "_root_of" "_root_of" (defArgs s_root_of) (defBody s_root_of) (defScope s_root_of) .none kV10 dc10 pm10 an10 cd10 ct10), sl10⟩)
    (c10 : PySem.W.codeIn K cd10 "_root_of" = true)
    (k10 : PySem.W.keepIn K (.ref f10) = true)
    (a11 : PySem.W.nsIn K mainGlobals "_law_lode" = some (some (.ref f11)))
    (l11 : K.lookup f11 = some ⟨oc11, od11, .func (PySem.W.fnOf "_law_lode" "_law_lode" (defArgs s_law_lode) (defBody s_law_lode) (defScope s_law_lode) .none kV11 dc11 pm11 an11 cd11 ct11), sl11⟩)
    (c11 : PySem.W.codeIn K cd11 "_law_lode" = true)
    (k11 : PySem.W.keepIn K (.ref f11) = true)
    (a12 : PySem.W.nsIn K mainGlobals "_law_deal" = some (some (.ref f12)))
    (l12 : K.lookup f12 = some ⟨oc12, od12, .func (PySem.W.fnOf "_law_deal" "_law_deal" (defArgs s_law_deal) (defBody s_law_deal) (defScope s_law_deal) .none kV12 dc12 pm12 an12 cd12 ct12), sl12⟩)
    (c12 : PySem.W.codeIn K cd12 "_law_deal" = true)
    (k12 : PySem.W.keepIn K (.ref f12) = true)
    (a13 : PySem.W.nsIn K mainGlobals "_law_some" = some (some (.ref f13)))
    (l13 : K.lookup f13 = some ⟨oc13, od13, .func (PySem.W.fnOf "_law_some" "_law_some" (defArgs s_law_some) (defBody s_law_some) (defScope s_law_some) .none kV13 dc13 pm13 an13 cd13 ct13), sl13⟩)
    (c13 : PySem.W.codeIn K cd13 "_law_some" = true)
    (k13 : PySem.W.keepIn K (.ref f13) = true)
    (a14 : PySem.W.nsIn K mainGlobals "_law_about" = some (some (.ref f14)))
    (l14 : K.lookup f14 = some ⟨oc14, od14, .func (PySem.W.fnOf "_law_about" "_law_about" (defArgs s_law_about) (defBody s_law_about) (defScope s_law_about) .none kV14 dc14 pm14 an14 cd14 ct14), sl14⟩)
    (c14 : PySem.W.codeIn K cd14 "_law_about" = true)
    (k14 : PySem.W.keepIn K (.ref f14) = true)
    (a15 : PySem.W.nsIn K mainGlobals "_law_gcd" = some (some (.ref f15)))
    (l15 : K.lookup f15 = some ⟨oc15, od15, .func (PySem.W.fnOf "_law_gcd" "_law_gcd" (defArgs s_law_gcd) (defBody s_law_gcd) (defScope s_law_gcd) .none kV15 dc15 pm15 an15 cd15 ct15), sl15⟩)
    (c15 : PySem.W.codeIn K cd15 "_law_gcd" = true)
    (k15 : PySem.W.keepIn K (.ref f15) = true)
    (a16 : PySem.W.nsIn K mainGlobals "_law_low" = some (some (.ref f16)))
    (l16 : K.lookup f16 = some ⟨oc16, od16, .func (PySem.W.fnOf "_law_low" "_law_low" (defArgs s_law_low) (defBody s_law_low) (defScope s_law_low) .none kV16 dc16 pm16 an16 cd16 ct16), sl16⟩)
    (c16 : PySem.W.codeIn K cd16 "_law_low" = true)
    (k16 : PySem.W.keepIn K (.ref f16) = true)
    (a17 : PySem.W.nsIn K mainGlobals "_law_part" = some (some (.ref f17)))
    (l17 : K.lookup f17 = some ⟨oc17, od17, .func (PySem.W.fnOf "_law_part" "_law_part" (defArgs s_law_part) (defBody s_law_part) (defScope s_law_part) .none kV17 dc17 pm17 an17 cd17 ct17), sl17⟩)
    (c17 : PySem.W.codeIn K cd17 "_law_part" = true)
    (k17 : PySem.W.keepIn K (.ref f17) = true)
    (a18 : PySem.W.nsIn K mainGlobals "_law_add" = some (some (.ref f18)))
    (l18 : K.lookup f18 = some ⟨oc18, od18, .func (PySem.W.fnOf "_law_add" "_law_add" (defArgs s_law_add) (defBody s_law_add) (defScope s_law_add) .none kV18 dc18 pm18 an18 cd18 ct18), sl18⟩)
    (c18 : PySem.W.codeIn K cd18 "_law_add" = true)
    (k18 : PySem.W.keepIn K (.ref f18) = true)
    (a19 : PySem.W.nsIn K mainGlobals "_law_mul" = some (some (.ref f19)))
    (l19 : K.lookup f19 = some ⟨oc19, od19, .func (PySem.W.fnOf "_law_mul" "_law_mul" (defArgs s_law_mul) (defBody s_law_mul) (defScope s_law_mul) .none kV19 dc19 pm19 an19 cd19 ct19), sl19⟩)
    (c19 : PySem.W.codeIn K cd19 "_law_mul" = true)
    (k19 : PySem.W.keepIn K (.ref f19) = true)
    (a20 : PySem.W.nsIn K mainGlobals "_law_div" = some (some (.ref f20)))
    (l20 : K.lookup f20 = some ⟨oc20, od20, .func (PySem.W.fnOf "_law_div" "_law_div" (defArgs s_law_div) (defBody s_law_div) (defScope s_law_div) .none kV20 dc20 pm20 an20 cd20 ct20), sl20⟩)
    (c20 : PySem.W.codeIn K cd20 "_law_div" = true)
    (k20 : PySem.W.keepIn K (.ref f20) = true)
    (a21 : PySem.W.nsIn K mainGlobals "_law_back" = some (some (.ref f21)))
    (l21 : K.lookup f21 = some ⟨oc21, od21, .func (PySem.W.fnOf "_law_back" "_law_back" (defArgs s_law_back) (defBody s_law_back) (defScope s_law_back) .none kV21 dc21 pm21 an21 cd21 ct21), sl21⟩)
    (c21 : PySem.W.codeIn K cd21 "_law_back" = true)
    (k21 : PySem.W.keepIn K (.ref f21) = true)
    (a22 : PySem.W.nsIn K mainGlobals "_law_sign" = some (some (.ref f22)))
    (l22 : K.lookup f22 = some ⟨oc22, od22, .func (PySem.W.fnOf "_law_sign" "_law_sign" (defArgs s_law_sign) (defBody s_law_sign) (defScope s_law_sign) .none kV22 dc22 pm22 an22 cd22 ct22), sl22⟩)
    (c22 : PySem.W.codeIn K cd22 "_law_sign" = true)
    (k22 : PySem.W.keepIn K (.ref f22) = true)
    (a23 : PySem.W.nsIn K mainGlobals "_law_any_part" = some (some (.ref f23)))
    (l23 : K.lookup f23 = some ⟨oc23, od23, .func (PySem.W.fnOf "_law_any_part" "_law_any_part" (defArgs s_law_any_part) (defBody s_law_any_part) (defScope s_law_any_part) .none kV23 dc23 pm23 an23 cd23 ct23), sl23⟩)
    (c23 : PySem.W.codeIn K cd23 "_law_any_part" = true)
    (k23 : PySem.W.keepIn K (.ref f23) = true)
    (a24 : PySem.W.nsIn K mainGlobals "_law_over" = some (some (.ref f24)))
    (l24 : K.lookup f24 = some ⟨oc24, od24, .func (PySem.W.fnOf "_law_over" "_law_over" (defArgs s_law_over) (defBody s_law_over) (defScope s_law_over) .none kV24 dc24 pm24 an24 cd24 ct24), sl24⟩)
    (c24 : PySem.W.codeIn K cd24 "_law_over" = true)
    (k24 : PySem.W.keepIn K (.ref f24) = true)
    (a25 : PySem.W.nsIn K mainGlobals "_law_root" = some (some (.ref f25)))
    (l25 : K.lookup f25 = some ⟨oc25, od25, .func (PySem.W.fnOf "_law_root" "_law_root" (defArgs s_law_root) (defBody s_law_root) (defScope s_law_root) .none kV25 dc25 pm25 an25 cd25 ct25), sl25⟩)
    (c25 : PySem.W.codeIn K cd25 "_law_root" = true)
    (k25 : PySem.W.keepIn K (.ref f25) = true)
    (a26 : PySem.W.nsIn K mainGlobals "_law_square_of" = some (some (.ref f26)))
    (l26 : K.lookup f26 = some ⟨oc26, od26, .func (PySem.W.fnOf "_law_square_of" "_law_square_of" (defArgs s_law_square_of) (defBody s_law_square_of) (defScope s_law_square_of) .none kV26 dc26 pm26 an26 cd26 ct26), sl26⟩)
    (c26 : PySem.W.codeIn K cd26 "_law_square_of" = true)
    (k26 : PySem.W.keepIn K (.ref f26) = true)
    (a27 : PySem.W.nsIn K mainGlobals "_law_surd" = some (some (.ref f27)))
    (l27 : K.lookup f27 = some ⟨oc27, od27, .func (PySem.W.fnOf "_law_surd" "_law_surd" (defArgs s_law_surd) (defBody s_law_surd) (defScope s_law_surd) .none kV27 dc27 pm27 an27 cd27 ct27), sl27⟩)
    (c27 : PySem.W.codeIn K cd27 "_law_surd" = true)
    (k27 : PySem.W.keepIn K (.ref f27) = true)
    (a28 : PySem.W.nsIn K mainGlobals "_law_some_square" = some (some (.ref f28)))
    (l28 : K.lookup f28 = some ⟨oc28, od28, .func (PySem.W.fnOf "_law_some_square" "_law_some_square" (defArgs s_law_some_square) (defBody s_law_some_square) (defScope s_law_some_square) .none kV28 dc28 pm28 an28 cd28 ct28), sl28⟩)
    (c28 : PySem.W.codeIn K cd28 "_law_some_square" = true)
    (k28 : PySem.W.keepIn K (.ref f28) = true)
    (a29 : PySem.W.nsIn K mainGlobals "_law_wide" = some (some (.ref f29)))
    (l29 : K.lookup f29 = some ⟨oc29, od29, .func (PySem.W.fnOf "_law_wide" "_law_wide" (defArgs s_law_wide) (defBody s_law_wide) (defScope s_law_wide) .none kV29 dc29 pm29 an29 cd29 ct29), sl29⟩)
    (c29 : PySem.W.codeIn K cd29 "_law_wide" = true)
    (k29 : PySem.W.keepIn K (.ref f29) = true)
    (a30 : PySem.W.nsIn K mainGlobals "_law_odd_parts" = some (some (.ref f30)))
    (l30 : K.lookup f30 = some ⟨oc30, od30, .func (PySem.W.fnOf "_law_odd_parts" "_law_odd_parts" (defArgs s_law_odd_parts) (defBody s_law_odd_parts) (defScope s_law_odd_parts) .none kV30 dc30 pm30 an30 cd30 ct30), sl30⟩)
    (c30 : PySem.W.codeIn K cd30 "_law_odd_parts" = true)
    (k30 : PySem.W.keepIn K (.ref f30) = true)
    (a31 : PySem.W.nsIn K mainGlobals "_law_odd_surds" = some (some (.ref f31)))
    (l31 : K.lookup f31 = some ⟨oc31, od31, .func (PySem.W.fnOf "_law_odd_surds" "_law_odd_surds" (defArgs s_law_odd_surds) (defBody s_law_odd_surds) (defScope s_law_odd_surds) .none kV31 dc31 pm31 an31 cd31 ct31), sl31⟩)
    (c31 : PySem.W.codeIn K cd31 "_law_odd_surds" = true)
    (k31 : PySem.W.keepIn K (.ref f31) = true)
    (a32 : PySem.W.nsIn K mainGlobals "_law_is_part" = some (some (.ref f32)))
    (l32 : K.lookup f32 = some ⟨oc32, od32, .func (PySem.W.fnOf "_law_is_part" "_law_is_part" (defArgs s_law_is_part) (defBody s_law_is_part) (defScope s_law_is_part) .none kV32 dc32 pm32 an32 cd32 ct32), sl32⟩)
    (c32 : PySem.W.codeIn K cd32 "_law_is_part" = true)
    (k32 : PySem.W.keepIn K (.ref f32) = true)
    (a33 : PySem.W.nsIn K mainGlobals "_law_is_surd" = some (some (.ref f33)))
    (l33 : K.lookup f33 = some ⟨oc33, od33, .func (PySem.W.fnOf "_law_is_surd" "_law_is_surd" (defArgs s_law_is_surd) (defBody s_law_is_surd) (defScope s_law_is_surd) .none kV33 dc33 pm33 an33 cd33 ct33), sl33⟩)
    (c33 : PySem.W.codeIn K cd33 "_law_is_surd" = true)
    (k33 : PySem.W.keepIn K (.ref f33) = true)
    (a34 : PySem.W.nsIn K mainGlobals "_law_right" = some (some (.ref f34)))
    (l34 : K.lookup f34 = some ⟨oc34, od34, .func (PySem.W.fnOf "_law_right" "_law_right" (defArgs s_law_right) (defBody s_law_right) (defScope s_law_right) .none kV34 dc34 pm34 an34 cd34 ct34), sl34⟩)
    (c34 : PySem.W.codeIn K cd34 "_law_right" = true)
    (k34 : PySem.W.keepIn K (.ref f34) = true)
    (a35 : PySem.W.nsIn K mainGlobals "law" = some (some (.ref f35)))
    (l35 : K.lookup f35 = some ⟨oc35, od35, .func (PySem.W.fnOf "law" "law" (defArgs s_law) (defBody s_law) (defScope s_law) .none kV35 dc35 pm35 an35 cd35 ct35), sl35⟩)
    (c35 : PySem.W.codeIn K cd35 "law" = true)
    (k35 : PySem.W.keepIn K (.ref f35) = true)
    (z_isinstance : PySem.W.nsIn K mainGlobals "isinstance" = some none)
    (z_int : PySem.W.nsIn K mainGlobals "int" = some none)
    (z_bool : PySem.W.nsIn K mainGlobals "bool" = some none)
    (z_tuple : PySem.W.nsIn K mainGlobals "tuple" = some none)
    (z_len : PySem.W.nsIn K mainGlobals "len" = some none)
    (z_sum : PySem.W.nsIn K mainGlobals "sum" = some none)
    (z_abs : PySem.W.nsIn K mainGlobals "abs" = some none)
    (z_divmod : PySem.W.nsIn K mainGlobals "divmod" = some none)
    (z_min : PySem.W.nsIn K mainGlobals "min" = some none)
    (z_repr : PySem.W.nsIn K mainGlobals "repr" = some none)
    (z_all : PySem.W.nsIn K mainGlobals "all" = some none)
    (z_range : PySem.W.nsIn K mainGlobals "range" = some none)
    (z_max : PySem.W.nsIn K mainGlobals "max" = some none)
    (y_gcd : PySem.W.nsIn K mainGlobals "gcd" = some (some (.builtin "math.gcd")))
    (y_isqrt : PySem.W.nsIn K mainGlobals "isqrt" = some (some (.builtin "math.isqrt")))
    (ca0l : K.lookup ca0 = some ⟨.type "tuple", ca0d, .seq ([.int 0 tk1, .int 1 tk2] : List Value).toArray ca0n, ca0s⟩)
    (x_NOUGHT : PySem.W.nsIn K mainGlobals "NOUGHT" = some (some (.ref ca0))) : ∃ (A : Nat → Addr) (Fd : Nat → FuncData), Txt K mg A Fd ∧ Bn mg ∧ ∀ (s : Shared) (u : Value), BindsTo s (Fd 35) ⟨[u], []⟩ [("_law_script", u)] := by
  have F0 := fun_mk (st := s_is_whole) l0 c0 k0
  have F1 := fun_mk (st := s_reduced) l1 c1 k1
  have F2 := fun_mk (st := s_plus) l2 c2 k2
  have F3 := fun_mk (st := s_times) l3 c3 k3
  have F4 := fun_mk (st := s_sign_of) l4 c4 k4
  have F5 := fun_mk (st := s_whole_sign) l5 c5 k5
  have F6 := fun_mk (st := s_is_fraction) l6 c6 k6
  have F7 := fun_mk (st := s_is_surd) l7 c7 k7
  have F8 := fun_mk (st := s_surd_of) l8 c8 k8
  have F9 := fun_mk (st := s_check_fraction) l9 c9 k9
  have F10 := fun_mk (st := s_root_of) l10 c10 k10
  have F11 := fun_mk (st := s_law_lode) l11 c11 k11
  have F12 := fun_mk (st := s_law_deal) l12 c12 k12
  have F13 := fun_mk (st := s_law_some) l13 c13 k13
  have F14 := fun_mk (st := s_law_about) l14 c14 k14
  have F15 := fun_mk (st := s_law_gcd) l15 c15 k15
  have F16 := fun_mk (st := s_law_low) l16 c16 k16
  have F17 := fun_mk (st := s_law_part) l17 c17 k17
  have F18 := fun_mk (st := s_law_add) l18 c18 k18
  have F19 := fun_mk (st := s_law_mul) l19 c19 k19
  have F20 := fun_mk (st := s_law_div) l20 c20 k20
  have F21 := fun_mk (st := s_law_back) l21 c21 k21
  have F22 := fun_mk (st := s_law_sign) l22 c22 k22
  have F23 := fun_mk (st := s_law_any_part) l23 c23 k23
  have F24 := fun_mk (st := s_law_over) l24 c24 k24
  have F25 := fun_mk (st := s_law_root) l25 c25 k25
  have F26 := fun_mk (st := s_law_square_of) l26 c26 k26
  have F27 := fun_mk (st := s_law_surd) l27 c27 k27
  have F28 := fun_mk (st := s_law_some_square) l28 c28 k28
  have F29 := fun_mk (st := s_law_wide) l29 c29 k29
  have F30 := fun_mk (st := s_law_odd_parts) l30 c30 k30
  have F31 := fun_mk (st := s_law_odd_surds) l31 c31 k31
  have F32 := fun_mk (st := s_law_is_part) l32 c32 k32
  have F33 := fun_mk (st := s_law_is_surd) l33 c33 k33
  have F34 := fun_mk (st := s_law_right) l34 c34 k34
  have F35 := fun_mk (st := s_law) l35 c35 k35
  refine ⟨fun i => [f0, f1, f2, f3, f4, f5, f6, f7, f8, f9, f10, f11, f12, f13, f14, f15, f16, f17, f18, f19, f20, f21, f22, f23, f24, f25, f26, f27, f28, f29, f30, f31, f32, f33, f34, f35].getD i 0, fun i => [PySem.W.fnOf "is_whole" "is_whole" (defArgs s_is_whole) (defBody s_is_whole) (defScope s_is_whole) .none kV0 dc0 pm0 an0 cd0 ct0, PySem.W.fnOf "reduced" "reduced" (defArgs s_reduced) (defBody s_reduced) (defScope s_reduced) .none kV1 dc1 pm1 an1 cd1 ct1, PySem.W.fnOf "plus" "plus" (defArgs s_plus) (defBody s_plus) (defScope s_plus) .none kV2 dc2 pm2 an2 cd2 ct2, PySem.W.fnOf "times" "times" (defArgs s_times) (defBody s_times) (defScope s_times) .none kV3 dc3 pm3 an3 cd3 ct3, PySem.W.fnOf "sign_of" "sign_of" (defArgs s_sign_of) (defBody s_sign_of) (defScope s_sign_of) .none kV4 dc4 pm4 an4 cd4 ct4, PySem.W.fnOf "whole_sign" "whole_sign" (defArgs s_whole_sign) (defBody s_whole_sign) (defScope s_whole_sign) .none kV5 dc5 pm5 an5 cd5 ct5, PySem.W.fnOf "is_fraction" "is_fraction" (defArgs s_is_fraction) (defBody s_is_fraction) (defScope s_is_fraction) .none kV6 dc6 pm6 an6 cd6 ct6, PySem.W.fnOf "is_surd" "is_surd" (defArgs s_is_surd) (defBody s_is_surd) (defScope s_is_surd) .none kV7 dc7 pm7 an7 cd7 ct7, PySem.W.fnOf "surd_of" "surd_of" (defArgs s_surd_of) (defBody s_surd_of) (defScope s_surd_of) .none kV8 dc8 pm8 an8 cd8 ct8, PySem.W.fnOf "check_fraction" "check_fraction" (defArgs s_check_fraction) (defBody s_check_fraction) (defScope s_check_fraction) .none kV9 dc9 pm9 an9 cd9 ct9, PySem.W.fnOf "_root_of" "_root_of" (defArgs s_root_of) (defBody s_root_of) (defScope s_root_of) .none kV10 dc10 pm10 an10 cd10 ct10, PySem.W.fnOf "_law_lode" "_law_lode" (defArgs s_law_lode) (defBody s_law_lode) (defScope s_law_lode) .none kV11 dc11 pm11 an11 cd11 ct11, PySem.W.fnOf "_law_deal" "_law_deal" (defArgs s_law_deal) (defBody s_law_deal) (defScope s_law_deal) .none kV12 dc12 pm12 an12 cd12 ct12, PySem.W.fnOf "_law_some" "_law_some" (defArgs s_law_some) (defBody s_law_some) (defScope s_law_some) .none kV13 dc13 pm13 an13 cd13 ct13, PySem.W.fnOf "_law_about" "_law_about" (defArgs s_law_about) (defBody s_law_about) (defScope s_law_about) .none kV14 dc14 pm14 an14 cd14 ct14, PySem.W.fnOf "_law_gcd" "_law_gcd" (defArgs s_law_gcd) (defBody s_law_gcd) (defScope s_law_gcd) .none kV15 dc15 pm15 an15 cd15 ct15, PySem.W.fnOf "_law_low" "_law_low" (defArgs s_law_low) (defBody s_law_low) (defScope s_law_low) .none kV16 dc16 pm16 an16 cd16 ct16, PySem.W.fnOf "_law_part" "_law_part" (defArgs s_law_part) (defBody s_law_part) (defScope s_law_part) .none kV17 dc17 pm17 an17 cd17 ct17, PySem.W.fnOf "_law_add" "_law_add" (defArgs s_law_add) (defBody s_law_add) (defScope s_law_add) .none kV18 dc18 pm18 an18 cd18 ct18, PySem.W.fnOf "_law_mul" "_law_mul" (defArgs s_law_mul) (defBody s_law_mul) (defScope s_law_mul) .none kV19 dc19 pm19 an19 cd19 ct19, PySem.W.fnOf "_law_div" "_law_div" (defArgs s_law_div) (defBody s_law_div) (defScope s_law_div) .none kV20 dc20 pm20 an20 cd20 ct20, PySem.W.fnOf "_law_back" "_law_back" (defArgs s_law_back) (defBody s_law_back) (defScope s_law_back) .none kV21 dc21 pm21 an21 cd21 ct21, PySem.W.fnOf "_law_sign" "_law_sign" (defArgs s_law_sign) (defBody s_law_sign) (defScope s_law_sign) .none kV22 dc22 pm22 an22 cd22 ct22, PySem.W.fnOf "_law_any_part" "_law_any_part" (defArgs s_law_any_part) (defBody s_law_any_part) (defScope s_law_any_part) .none kV23 dc23 pm23 an23 cd23 ct23, PySem.W.fnOf "_law_over" "_law_over" (defArgs s_law_over) (defBody s_law_over) (defScope s_law_over) .none kV24 dc24 pm24 an24 cd24 ct24, PySem.W.fnOf "_law_root" "_law_root" (defArgs s_law_root) (defBody s_law_root) (defScope s_law_root) .none kV25 dc25 pm25 an25 cd25 ct25, PySem.W.fnOf "_law_square_of" "_law_square_of" (defArgs s_law_square_of) (defBody s_law_square_of) (defScope s_law_square_of) .none kV26 dc26 pm26 an26 cd26 ct26, PySem.W.fnOf "_law_surd" "_law_surd" (defArgs s_law_surd) (defBody s_law_surd) (defScope s_law_surd) .none kV27 dc27 pm27 an27 cd27 ct27, PySem.W.fnOf "_law_some_square" "_law_some_square" (defArgs s_law_some_square) (defBody s_law_some_square) (defScope s_law_some_square) .none kV28 dc28 pm28 an28 cd28 ct28, PySem.W.fnOf "_law_wide" "_law_wide" (defArgs s_law_wide) (defBody s_law_wide) (defScope s_law_wide) .none kV29 dc29 pm29 an29 cd29 ct29, PySem.W.fnOf "_law_odd_parts" "_law_odd_parts" (defArgs s_law_odd_parts) (defBody s_law_odd_parts) (defScope s_law_odd_parts) .none kV30 dc30 pm30 an30 cd30 ct30, PySem.W.fnOf "_law_odd_surds" "_law_odd_surds" (defArgs s_law_odd_surds) (defBody s_law_odd_surds) (defScope s_law_odd_surds) .none kV31 dc31 pm31 an31 cd31 ct31, PySem.W.fnOf "_law_is_part" "_law_is_part" (defArgs s_law_is_part) (defBody s_law_is_part) (defScope s_law_is_part) .none kV32 dc32 pm32 an32 cd32 ct32, PySem.W.fnOf "_law_is_surd" "_law_is_surd" (defArgs s_law_is_surd) (defBody s_law_is_surd) (defScope s_law_is_surd) .none kV33 dc33 pm33 an33 cd33 ct33, PySem.W.fnOf "_law_right" "_law_right" (defArgs s_law_right) (defBody s_law_right) (defScope s_law_right) .none kV34 dc34 pm34 an34 cd34 ct34, PySem.W.fnOf "law" "law" (defArgs s_law) (defBody s_law) (defScope s_law) .none kV35 dc35 pm35 an35 cd35 ct35].getD i (PySem.W.fnOf "law" "law" (defArgs s_law) (defBody s_law) (defScope s_law) .none kV35 dc35 pm35 an35 cd35 ct35), ?_, ?_, fun s u => .of_eq rfl⟩
  · exact {
      f_is_whole := F0, g_is_whole := PySem.W.mg_of X G a0, kp_is_whole := k0
      t_is_whole := F0.binds (ps := p_is_whole) fun _ _ _ _ _ _ us hl => match us, hl with | [_], _ => rfl
      f_reduced := F1, g_reduced := PySem.W.mg_of X G a1, kp_reduced := k1
      t_reduced := F1.binds (ps := p_reduced) fun _ _ _ _ _ _ us hl => match us, hl with | [_, _], _ => rfl
      f_plus := F2, g_plus := PySem.W.mg_of X G a2, kp_plus := k2
      t_plus := F2.binds (ps := p_plus) fun _ _ _ _ _ _ us hl => match us, hl with | [_, _], _ => rfl
      f_times := F3, g_times := PySem.W.mg_of X G a3, kp_times := k3
      t_times := F3.binds (ps := p_times) fun _ _ _ _ _ _ us hl => match us, hl with | [_, _], _ => rfl
      f_sign_of := F4, g_sign_of := PySem.W.mg_of X G a4, kp_sign_of := k4
      t_sign_of := F4.binds (ps := p_sign_of) fun _ _ _ _ _ _ us hl => match us, hl with | [_], _ => rfl
      f_whole_sign := F5, g_whole_sign := PySem.W.mg_of X G a5, kp_whole_sign := k5
      t_whole_sign := F5.binds (ps := p_whole_sign) fun _ _ _ _ _ _ us hl => match us, hl with | [_], _ => rfl
      f_is_fraction := F6, g_is_fraction := PySem.W.mg_of X G a6, kp_is_fraction := k6
      t_is_fraction := F6.binds (ps := p_is_fraction) fun _ _ _ _ _ _ us hl => match us, hl with | [_], _ => rfl
      f_is_surd := F7, g_is_surd := PySem.W.mg_of X G a7, kp_is_surd := k7
      t_is_surd := F7.binds (ps := p_is_surd) fun _ _ _ _ _ _ us hl => match us, hl with | [_], _ => rfl
      f_surd_of := F8, g_surd_of := PySem.W.mg_of X G a8, kp_surd_of := k8
      t_surd_of := F8.binds (ps := p_surd_of) fun _ _ _ _ _ _ us hl => match us, hl with | [_, _, _], _ => rfl
      f_check_fraction := F9, g_check_fraction := PySem.W.mg_of X G a9, kp_check_fraction := k9
      t_check_fraction := F9.binds (ps := p_check_fraction) fun _ _ _ _ _ _ us hl => match us, hl with | [_], _ => rfl
      f_root_of := F10, g_root_of := PySem.W.mg_of X G a10, kp_root_of := k10
      t_root_of := F10.binds (ps := p_root_of) fun _ _ _ _ _ _ us hl => match us, hl with | [_], _ => rfl
      f_law_lode := F11, g_law_lode := PySem.W.mg_of X G a11, kp_law_lode := k11
      t_law_lode := F11.binds (ps := p_law_lode) fun _ _ _ _ _ _ us hl => match us, hl with | [_, _], _ => rfl
      f_law_deal := F12, g_law_deal := PySem.W.mg_of X G a12, kp_law_deal := k12
      t_law_deal := F12.binds (ps := p_law_deal) fun _ _ _ _ _ _ us hl => match us, hl with | [_, _], _ => rfl
      f_law_some := F13, g_law_some := PySem.W.mg_of X G a13, kp_law_some := k13
      t_law_some := F13.binds (ps := p_law_some) fun _ _ _ _ _ _ us hl => match us, hl with | [_, _], _ => rfl
      f_law_about := F14, g_law_about := PySem.W.mg_of X G a14, kp_law_about := k14
      t_law_about := F14.binds (ps := p_law_about) fun _ _ _ _ _ _ us hl => match us, hl with | [_, _], _ => rfl
      f_law_gcd := F15, g_law_gcd := PySem.W.mg_of X G a15, kp_law_gcd := k15
      t_law_gcd := F15.binds (ps := p_law_gcd) fun _ _ _ _ _ _ us hl => match us, hl with | [_, _], _ => rfl
      f_law_low := F16, g_law_low := PySem.W.mg_of X G a16, kp_law_low := k16
      t_law_low := F16.binds (ps := p_law_low) fun _ _ _ _ _ _ us hl => match us, hl with | [_], _ => rfl
      f_law_part := F17, g_law_part := PySem.W.mg_of X G a17, kp_law_part := k17
      t_law_part := F17.binds (ps := p_law_part) fun _ _ _ _ _ _ us hl => match us, hl with | [_, _], _ => rfl
      f_law_add := F18, g_law_add := PySem.W.mg_of X G a18, kp_law_add := k18
      t_law_add := F18.binds (ps := p_law_add) fun _ _ _ _ _ _ us hl => match us, hl with | [_, _], _ => rfl
      f_law_mul := F19, g_law_mul := PySem.W.mg_of X G a19, kp_law_mul := k19
      t_law_mul := F19.binds (ps := p_law_mul) fun _ _ _ _ _ _ us hl => match us, hl with | [_, _], _ => rfl
      f_law_div := F20, g_law_div := PySem.W.mg_of X G a20, kp_law_div := k20
      t_law_div := F20.binds (ps := p_law_div) fun _ _ _ _ _ _ us hl => match us, hl with | [_, _], _ => rfl
      f_law_back := F21, g_law_back := PySem.W.mg_of X G a21, kp_law_back := k21
      t_law_back := F21.binds (ps := p_law_back) fun _ _ _ _ _ _ us hl => match us, hl with | [_], _ => rfl
      f_law_sign := F22, g_law_sign := PySem.W.mg_of X G a22, kp_law_sign := k22
      t_law_sign := F22.binds (ps := p_law_sign) fun _ _ _ _ _ _ us hl => match us, hl with | [_], _ => rfl
      f_law_any_part := F23, g_law_any_part := PySem.W.mg_of X G a23, kp_law_any_part := k23
      t_law_any_part := F23.binds (ps := p_law_any_part) fun _ _ _ _ _ _ us hl => match us, hl with | [_, _], _ => rfl
      f_law_over := F24, g_law_over := PySem.W.mg_of X G a24, kp_law_over := k24
      t_law_over := F24.binds (ps := p_law_over) fun _ _ _ _ _ _ us hl => match us, hl with | [_, _], _ => rfl
      f_law_root := F25, g_law_root := PySem.W.mg_of X G a25, kp_law_root := k25
      t_law_root := F25.binds (ps := p_law_root) fun _ _ _ _ _ _ us hl => match us, hl with | [_], _ => rfl
      f_law_square_of := F26, g_law_square_of := PySem.W.mg_of X G a26, kp_law_square_of := k26
      t_law_square_of := F26.binds (ps := p_law_square_of) fun _ _ _ _ _ _ us hl => match us, hl with | [_], _ => rfl
      f_law_surd := F27, g_law_surd := PySem.W.mg_of X G a27, kp_law_surd := k27
      t_law_surd := F27.binds (ps := p_law_surd) fun _ _ _ _ _ _ us hl => match us, hl with | [_, _, _], _ => rfl
      f_law_some_square := F28, g_law_some_square := PySem.W.mg_of X G a28, kp_law_some_square := k28
      t_law_some_square := F28.binds (ps := p_law_some_square) fun _ _ _ _ _ _ us hl => match us, hl with | [_], _ => rfl
      f_law_wide := F29, g_law_wide := PySem.W.mg_of X G a29, kp_law_wide := k29
      t_law_wide := F29.binds (ps := p_law_wide) fun _ _ _ _ _ _ us hl => match us, hl with | [_], _ => rfl
      f_law_odd_parts := F30, g_law_odd_parts := PySem.W.mg_of X G a30, kp_law_odd_parts := k30
      t_law_odd_parts := F30.binds (ps := p_law_odd_parts) fun _ _ _ _ _ _ us hl => match us, hl with | [], _ => rfl
      f_law_odd_surds := F31, g_law_odd_surds := PySem.W.mg_of X G a31, kp_law_odd_surds := k31
      t_law_odd_surds := F31.binds (ps := p_law_odd_surds) fun _ _ _ _ _ _ us hl => match us, hl with | [], _ => rfl
      f_law_is_part := F32, g_law_is_part := PySem.W.mg_of X G a32, kp_law_is_part := k32
      t_law_is_part := F32.binds (ps := p_law_is_part) fun _ _ _ _ _ _ us hl => match us, hl with | [_], _ => rfl
      f_law_is_surd := F33, g_law_is_surd := PySem.W.mg_of X G a33, kp_law_is_surd := k33
      t_law_is_surd := F33.binds (ps := p_law_is_surd) fun _ _ _ _ _ _ us hl => match us, hl with | [_, _, _], _ => rfl
      f_law_right := F34, g_law_right := PySem.W.mg_of X G a34, kp_law_right := k34
      t_law_right := F34.binds (ps := p_law_right) fun _ _ _ _ _ _ us hl => match us, hl with | [_], _ => rfl
      f_law := F35, g_law := PySem.W.mg_of X G a35, kp_law := k35
      t_law := F35.binds (ps := p_law) fun _ _ _ _ _ _ us hl => match us, hl with | [_], _ => rfl
      w_surd_of_2_1_0 := kw_surd_of_2_1_0 F8
      w_is_fraction_0 := kw_is_fraction_0 F6
      w_is_surd_0 := kw_is_surd_0 F7
      b_isinstance := PySem.W.mg_none_of X G z_isinstance
      b_int := PySem.W.mg_none_of X G z_int
      b_bool := PySem.W.mg_none_of X G z_bool
      b_tuple := PySem.W.mg_none_of X G z_tuple
      b_len := PySem.W.mg_none_of X G z_len
      b_sum := PySem.W.mg_none_of X G z_sum
      b_abs := PySem.W.mg_none_of X G z_abs
      b_divmod := PySem.W.mg_none_of X G z_divmod
      b_min := PySem.W.mg_none_of X G z_min
      b_repr := PySem.W.mg_none_of X G z_repr
      b_all := PySem.W.mg_none_of X G z_all
      b_range := PySem.W.mg_none_of X G z_range
      b_max := PySem.W.mg_none_of X G z_max
      m_gcd := PySem.W.mg_of X G y_gcd
      m_isqrt := PySem.W.mg_of X G y_isqrt
      u_NOUGHT := ⟨_, PySem.W.mg_of X G x_NOUGHT, (krp_tup ca0l ⟨krp_int, ⟨krp_int, True.intro⟩⟩ (Nat.le_of_ble_eq_true rfl))⟩
    }
  · exact ⟨PySem.W.mg_none_of X G z_len, PySem.W.mg_none_of X G z_sum, PySem.W.mg_none_of X G z_int, PySem.W.mg_none_of X G z_abs, PySem.W.mg_none_of X G z_all, PySem.W.mg_none_of X G z_min, PySem.W.mg_none_of X G z_max, PySem.W.mg_none_of X G z_range⟩
end K02

open PySem PySem.W PyProof.Rows in
set_option maxRecDepth 100000 in
set_option maxHeartbeats 0 in
theorem PySem.Challenge.cw_ironships_k02_whole_fractions_and_surds_holds : PySem.Challenge.rw_ironships_k02_whole_fractions_and_surds.Holds := by
  w_on; o_law; k_head; (case hw => w_witness2)
  k_fill
  refine Dx.lawG (l := PySem.Challenge.rw_ironships_k02_whole_fractions_and_surds) (n := 63) (k := 7) (x := "_law_script") (CX := L2.CX0) (sp := K02.spLaw) rfl (by decide) rfl ⟨rfl, by decide, by decide⟩ (fun w h Y => PySem.W.kIn_of Y) ?F (fun K H a ns hl hO hS => ⟨a, ns, rfl, hS, hl, fun _ => rfl⟩) (fun _ _ _ _ z => z)
  case F =>
    intro w mg fa h KX G hmg
    have Z : ∃ (A : Nat → Addr) (Fd : Nat → FuncData), K02.Txt (L2.KOf KX) mg A Fd ∧ K02.Bn mg ∧ ∀ (s : Shared) (u : Value), BindsTo s (Fd 35) ⟨[u], []⟩ [("_law_script", u)] := by
      refine' (K02.txt_mk KX G ?a0 ?l0 ?c0 ?k0 ?a1 ?l1 ?c1 ?k1 ?a2 ?l2 ?c2 ?k2 ?a3 ?l3 ?c3 ?k3 ?a4 ?l4 ?c4 ?k4 ?a5 ?l5 ?c5 ?k5 ?a6 ?l6 ?c6 ?k6 ?a7 ?l7 ?c7 ?k7 ?a8 ?l8 ?c8 ?k8 ?a9 ?l9 ?c9 ?k9 ?a10 ?l10 ?c10 ?k10 ?a11 ?l11 ?c11 ?k11 ?a12 ?l12 ?c12 ?k12 ?a13 ?l13 ?c13 ?k13 ?a14 ?l14 ?c14 ?k14 ?a15 ?l15 ?c15 ?k15 ?a16 ?l16 ?c16 ?k16 ?a17 ?l17 ?c17 ?k17 ?a18 ?l18 ?c18 ?k18 ?a19 ?l19 ?c19 ?k19 ?a20 ?l20 ?c20 ?k20 ?a21 ?l21 ?c21 ?k21 ?a22 ?l22 ?c22 ?k22 ?a23 ?l23 ?c23 ?k23 ?a24 ?l24 ?c24 ?k24 ?a25 ?l25 ?c25 ?k25 ?a26 ?l26 ?c26 ?k26 ?a27 ?l27 ?c27 ?k27 ?a28 ?l28 ?c28 ?k28 ?a29 ?l29 ?c29 ?k29 ?a30 ?l30 ?c30 ?k30 ?a31 ?l31 ?c31 ?k31 ?a32 ?l32 ?c32 ?k32 ?a33 ?l33 ?c33 ?k33 ?a34 ?l34 ?c34 ?k34 ?a35 ?l35 ?c35 ?k35 ?z_isinstance ?z_int ?z_bool ?z_tuple ?z_len ?z_sum ?z_abs ?z_divmod ?z_min ?z_repr ?z_all ?z_range ?z_max ?y_gcd ?y_isqrt ?ca0l ?x_NOUGHT : _)
      (case a0 => k_is)
      (case l0 => k_is)
      (case c0 => k_is)
      (case k0 => k_is)
      (case a1 => k_is)
      (case l1 => k_is)
      (case c1 => k_is)
      (case k1 => k_is)
      (case a2 => k_is)
      (case l2 => k_is)
      (case c2 => k_is)
      (case k2 => k_is)
      (case a3 => k_is)
      (case l3 => k_is)
      (case c3 => k_is)
      (case k3 => k_is)
      (case a4 => k_is)
      (case l4 => k_is)
      (case c4 => k_is)
      (case k4 => k_is)
      (case a5 => k_is)
      (case l5 => k_is)
      (case c5 => k_is)
      (case k5 => k_is)
      (case a6 => k_is)
      (case l6 => k_is)
      (case c6 => k_is)
      (case k6 => k_is)
      (case a7 => k_is)
      (case l7 => k_is)
      (case c7 => k_is)
      (case k7 => k_is)
      (case a8 => k_is)
      (case l8 => k_is)
      (case c8 => k_is)
      (case k8 => k_is)
      (case a9 => k_is)
      (case l9 => k_is)
      (case c9 => k_is)
      (case k9 => k_is)
      (case a10 => k_is)
      (case l10 => k_is)
      (case c10 => k_is)
      (case k10 => k_is)
      (case a11 => k_is)
      (case l11 => k_is)
      (case c11 => k_is)
      (case k11 => k_is)
      (case a12 => k_is)
      (case l12 => k_is)
      (case c12 => k_is)
      (case k12 => k_is)
      (case a13 => k_is)
      (case l13 => k_is)
      (case c13 => k_is)
      (case k13 => k_is)
      (case a14 => k_is)
      (case l14 => k_is)
      (case c14 => k_is)
      (case k14 => k_is)
      (case a15 => k_is)
      (case l15 => k_is)
      (case c15 => k_is)
      (case k15 => k_is)
      (case a16 => k_is)
      (case l16 => k_is)
      (case c16 => k_is)
      (case k16 => k_is)
      (case a17 => k_is)
      (case l17 => k_is)
      (case c17 => k_is)
      (case k17 => k_is)
      (case a18 => k_is)
      (case l18 => k_is)
      (case c18 => k_is)
      (case k18 => k_is)
      (case a19 => k_is)
      (case l19 => k_is)
      (case c19 => k_is)
      (case k19 => k_is)
      (case a20 => k_is)
      (case l20 => k_is)
      (case c20 => k_is)
      (case k20 => k_is)
      (case a21 => k_is)
      (case l21 => k_is)
      (case c21 => k_is)
      (case k21 => k_is)
      (case a22 => k_is)
      (case l22 => k_is)
      (case c22 => k_is)
      (case k22 => k_is)
      (case a23 => k_is)
      (case l23 => k_is)
      (case c23 => k_is)
      (case k23 => k_is)
      (case a24 => k_is)
      (case l24 => k_is)
      (case c24 => k_is)
      (case k24 => k_is)
      (case a25 => k_is)
      (case l25 => k_is)
      (case c25 => k_is)
      (case k25 => k_is)
      (case a26 => k_is)
      (case l26 => k_is)
      (case c26 => k_is)
      (case k26 => k_is)
      (case a27 => k_is)
      (case l27 => k_is)
      (case c27 => k_is)
      (case k27 => k_is)
      (case a28 => k_is)
      (case l28 => k_is)
      (case c28 => k_is)
      (case k28 => k_is)
      (case a29 => k_is)
      (case l29 => k_is)
      (case c29 => k_is)
      (case k29 => k_is)
      (case a30 => k_is)
      (case l30 => k_is)
      (case c30 => k_is)
      (case k30 => k_is)
      (case a31 => k_is)
      (case l31 => k_is)
      (case c31 => k_is)
      (case k31 => k_is)
      (case a32 => k_is)
      (case l32 => k_is)
      (case c32 => k_is)
      (case k32 => k_is)
      (case a33 => k_is)
      (case l33 => k_is)
      (case c33 => k_is)
      (case k33 => k_is)
      (case a34 => k_is)
      (case l34 => k_is)
      (case c34 => k_is)
      (case k34 => k_is)
      (case a35 => k_is)
      (case l35 => k_is)
      (case c35 => k_is)
      (case k35 => k_is)
      (case z_isinstance => k_is)
      (case z_int => k_is)
      (case z_bool => k_is)
      (case z_tuple => k_is)
      (case z_len => k_is)
      (case z_sum => k_is)
      (case z_abs => k_is)
      (case z_divmod => k_is)
      (case z_min => k_is)
      (case z_repr => k_is)
      (case z_all => k_is)
      (case z_range => k_is)
      (case z_max => k_is)
      (case y_gcd => k_is)
      (case y_isqrt => k_is)
      (case x_NOUGHT => k_is)
      (case ca0l => k_is)
    obtain ⟨A, Fd, T, B, b⟩ := Z
    have e := Value.ref.inj (Option.some.inj (T.g_law.symm.trans hmg))
    subst e
    exact ⟨Fd 35, b, fun base _ _ => K02.ok_law T B K02.hR T.f_law⟩
end
