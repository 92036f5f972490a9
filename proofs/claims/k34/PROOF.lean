import PyProof.Rows.All
import Wide.All
import OpenK.AllK
import Wide.FinOn
import HandS.ForMost
import HandS.Wide
import HandS.WideBits
import HandS.Gcd
import HandS.TupAny
import HandS.IsInst
import HandS.Zip
import HandS.Conv
import HandS.Deep
import HandS.TupMul
import KE.KMathG
import HandS.Style
import HandS.TupLe
import HandS.TryOnly
import Flt.RightSqrt
import KE.KDictZip
import HandS.ExcOwn
import HandS.ExcIs
import HandS.Text
import PySem.Challenge.RW_ironships_k34_waves_known_and_worth
section
set_option Elab.async false
set_option linter.all false
set_option maxRecDepth 100000
/-! Dx: data in, data out: what a def does, told over plain data (no addresses). -/
namespace Dx
open PySem L2

abbrev D := PyData
/-- the draws' store: three ints -/
structure Ld where
  c : Int
  s : Int
  k : Int
def Ld.ho (l : Ld) : HO := .lst [.int l.c, .int l.s, .int l.k]
inductive Res (α : Type) where
  | ok (a : α) (l : Ld)
  | no
def Res.bind {α β : Type} (r : Res α) (f : α → Ld → Res β) : Res β := match r with
  | .ok a l => f a l
  | .no => .no
theorem Res.bind_ok {α β : Type} {r : Res α} {f : α → Ld → Res β} {b : β} {l : Ld} (h : r.bind f = .ok b l) : ∃ a l1, r = .ok a l1 ∧ f a l1 = .ok b l := by
  cases r with
  | ok a l1 => exact ⟨a, l1, rfl, h⟩
  | no => cases h
/-- a name's content -/
inductive Sl where
  | dat (d : D)
  | own (xs : List D)
  | lode
abbrev En := List (Option Sl)

def Ex (H H' : Hp) : Prop := ∀ a o, H a = some o → H' a = some o
theorem Ex.refl (H : Hp) : Ex H H := fun _ _ h => h
theorem Ex.trans {H H1 H2 : Hp} (a : Ex H H1) (b : Ex H1 H2) : Ex H H2 := fun x o h => b x o (a x o h)
theorem Ex.rd {H H' : Hp} {a : Addr} {u : HO} (e : Ex H H') (h : Rd H a u) : Rd H' a u := by
  rcases h with h | ⟨o, h⟩
  · exact .inl (e a _ h)
  · exact .inr ⟨o, e a _ h⟩
theorem Ex.l {K : PySem.W.Frag} {H H' : Hp} {a : Addr} {xs : List V} (e : Ex H H') (h : SqL K H a xs) : SqL K H' a xs := by
  rcases h with h | h
  · exact .inl (e.rd h)
  · exact .inr h
theorem Ex.t {K : PySem.W.Frag} {H H' : Hp} {a : Addr} {xs : List V} (e : Ex H H') (h : SqT K H a xs) : SqT K H' a xs := by
  rcases h with h | h
  · exact .inl (e.rd h)
  · exact .inr h

/-! ### what stands for what -/
def kD : Key → D
  | .inl i => .int i
  | .inr x => .str x
mutual
inductive Rp (K : PySem.W.Frag) (H : Hp) : V → D → Prop
  | non : Rp K H .non .none
  | bl (b : Bool) : Rp K H (.bl b) (.bool b)
  | int (i : Int) : Rp K H (.int i) (.int i)
  | str (x : Str) : Rp K H (.str x) (.str x)
  | lst {a : Addr} {xs : List V} {ds : List D} : H a = some (.lst xs) → RpAll K H xs ds → Rp K H (.ref a) (.list ds)
  | tup {a : Addr} {xs : List V} {ds : List D} : SqT K H a xs → RpAll K H xs ds → Rp K H (.ref a) (.tuple ds)
  | dic {a : Addr} {kvs : List (Key × V)} {ds : List D} : H a = some (.dK kvs) → RpAll K H (kvs.map (·.2)) ds → Rp K H (.ref a) (.dict ((kvs.map fun kv => kD kv.1).zip ds))
inductive RpAll (K : PySem.W.Frag) (H : Hp) : List V → List D → Prop
  | nil : RpAll K H [] []
  | cons {v : V} {vs : List V} {d : D} {ds : List D} : Rp K H v d → RpAll K H vs ds → RpAll K H (v :: vs) (d :: ds)
end
section
variable {K : PySem.W.Frag} {H H' : Hp}
mutual
theorem Rp.mono (e : Ex H H') : ∀ {v : V} {d : D}, Rp K H v d → Rp K H' v d
  | _, _, .non => .non
  | _, _, .bl b => .bl b
  | _, _, .int i => .int i
  | _, _, .str x => .str x
  | _, _, .lst h r => .lst (e _ _ h) (RpAll.mono e r)
  | _, _, .tup h r => .tup (e.t h) (RpAll.mono e r)
  | _, _, .dic h r => .dic (e _ _ h) (RpAll.mono e r)
theorem RpAll.mono (e : Ex H H') : ∀ {vs : List V} {ds : List D}, RpAll K H vs ds → RpAll K H' vs ds
  | _, _, .nil => .nil
  | _, _, .cons h r => .cons (Rp.mono e h) (RpAll.mono e r)
end
theorem RpAll.length : ∀ {vs : List V} {ds : List D}, RpAll K H vs ds → vs.length = ds.length
  | _, _, .nil => rfl
  | _, _, .cons _ r => congrArg (· + 1) r.length
theorem RpAll.get : ∀ {vs : List V} {ds : List D} {i : Nat} {d : D}, RpAll K H vs ds → ds[i]? = some d → ∃ v, vs[i]? = some v ∧ Rp K H v d
  | _, _, _, _, .nil, e => by simp at e
  | _, _, 0, _, .cons r _, e => by simp at e; subst e; exact ⟨_, rfl, r⟩
  | _, _, i + 1, d, .cons _ t, e => by
    obtain ⟨v, h1, h2⟩ := RpAll.get (i := i) (d := d) t (by simpa using e)
    exact ⟨v, by simpa using h1, h2⟩
theorem RpAll.getV : ∀ {vs : List V} {ds : List D} {i : Nat} {v : V}, RpAll K H vs ds → vs[i]? = some v → ∃ d, ds[i]? = some d ∧ Rp K H v d
  | _, _, _, _, .nil, e => by simp at e
  | _, _, 0, _, .cons r _, e => by simp at e; subst e; exact ⟨_, rfl, r⟩
  | _, _, i + 1, v, .cons _ t, e => by
    obtain ⟨d, h1, h2⟩ := RpAll.getV (i := i) (v := v) t (by simpa using e)
    exact ⟨d, by simpa using h1, h2⟩
theorem RpAll.append : ∀ {vs ws : List V} {ds es : List D}, RpAll K H vs ds → RpAll K H ws es → RpAll K H (vs ++ ws) (ds ++ es)
  | _, _, _, _, .nil, s => s
  | _, _, _, _, .cons r t, s => .cons r (t.append s)
theorem RpAll.take : ∀ {vs : List V} {ds : List D} (n : Nat), RpAll K H vs ds → RpAll K H (vs.take n) (ds.take n)
  | _, _, 0, _ => .nil
  | _, _, _ + 1, .nil => .nil
  | _, _, n + 1, .cons r t => .cons r (t.take n)
theorem RpAll.drop : ∀ {vs : List V} {ds : List D} (n : Nat), RpAll K H vs ds → RpAll K H (vs.drop n) (ds.drop n)
  | _, _, 0, r => r
  | _, _, _ + 1, .nil => .nil
  | _, _, n + 1, .cons _ t => t.drop n
theorem RpAll.set {v : V} {d : D} (r : Rp K H v d) : ∀ {vs : List V} {ds : List D} (i : Nat), RpAll K H vs ds → RpAll K H (vs.set i v) (ds.set i d)
  | _, _, _, .nil => .nil
  | _, _, 0, .cons _ t => .cons r t
  | _, _, i + 1, .cons q t => .cons q (t.set r i)
theorem RpAll.replicate {v : V} {d : D} (r : Rp K H v d) : ∀ n : Nat, RpAll K H (List.replicate n v) (List.replicate n d)
  | 0 => .nil
  | n + 1 => .cons r (RpAll.replicate r n)
end

/-! ### the state -/
def LodeAt (L : Option Addr) (l : Ld) (H : Hp) : Prop := ∀ a, L = some a → H a = some l.ho
structure Rep (K : PySem.W.Frag) (L : Option Addr) (σ : St) (H P M : Hp) (en : En) (l : Ld) : Prop where
  pin : Ex P H
  min : Ex M H
  dis : ∀ a o, M a = some o → P a = none
  lod : LodeAt L l H
  lop : ∀ a, L = some a → P a = none ∧ M a = none
  dat : ∀ (i : Nat) (d : D), en[i]? = some (some (.dat d)) → ∃ v, σ[i]? = some (some v) ∧ Rp K P v d
  own : ∀ (i : Nat) (xs : List D), en[i]? = some (some (.own xs)) → ∃ p vs, σ[i]? = some (some (.ref p)) ∧ M p = some (.lst vs) ∧ RpAll K P vs xs
  inj : ∀ (i j : Nat) (xs ys : List D) (p : Addr), i ≠ j → en[i]? = some (some (.own xs)) → en[j]? = some (some (.own ys)) → σ[i]? = some (some (.ref p)) → σ[j]? ≠ some (some (.ref p))
  lo : ∀ (i : Nat), en[i]? = some (some .lode) → ∃ a, L = some a ∧ σ[i]? = some (some (.ref a))
  len : σ.length = en.length
/-- the heap has grown: the store may have turned, all else stands -/
structure Grow (L : Option Addr) (l' : Ld) (H P H' P' : Hp) : Prop where
  keep : ∀ a o, L ≠ some a → H a = some o → H' a = some o
  lod : LodeAt L l' H'
  pp : Ex P P'
  ph : Ex P' H'
  new : ∀ a o, P' a = some o → P a = none → H a = none
section
variable {K : PySem.W.Frag} {L : Option Addr} {σ : St} {H P M H' P' H1 P1 H2 P2 : Hp} {en : En} {l l' l1 l2 : Ld}
theorem Grow.refl (pin : Ex P H) (lod : LodeAt L l H) : Grow L l H P H P := ⟨fun _ _ _ h => h, lod, Ex.refl _, pin, fun a o h n => by rw [n] at h; cases h⟩
theorem Rep.refl (R : Rep K L σ H P M en l) : Grow L l H P H P := Grow.refl R.pin R.lod
theorem Grow.trans (a : Grow L l1 H P H1 P1) (b : Grow L l2 H1 P1 H2 P2) : Grow L l2 H P H2 P2 where
  keep := fun x o n h => b.keep x o n (a.keep x o n h)
  lod := b.lod
  pp := a.pp.trans b.pp
  ph := b.ph
  new := fun x o h n => by
    cases h1 : P1 x with
    | some u => exact a.new x u h1 n
    | none =>
      have z := b.new x o h h1
      cases h0 : H x with
      | none => rfl
      | some u =>
        by_cases hl : L = some x
        · have q := a.lod x hl
          rw [z] at q
          cases q
        · have q := a.keep x u hl h0
          rw [z] at q
          cases q
theorem Rep.grow (R : Rep K L σ H P M en l) (G : Grow L l' H P H' P') : Rep K L σ H' P' M en l' where
  pin := G.ph
  min := fun a o h => G.keep a o (fun e => by rw [(R.lop a e).2] at h; cases h) (R.min a o h)
  dis := fun a o h => by
    cases e : P' a with
    | none => rfl
    | some u =>
      have z := G.new a u e (R.dis a o h)
      rw [R.min a o h] at z
      cases z
  lod := G.lod
  lop := fun a e => ⟨by
    cases h : P' a with
    | none => rfl
    | some u =>
      have z := G.new a u h (R.lop a e).1
      rw [R.lod a e] at z
      exact (by cases z), (R.lop a e).2⟩
  dat := fun i d h => by
    obtain ⟨v, h1, h2⟩ := R.dat i d h
    exact ⟨v, h1, h2.mono G.pp⟩
  own := fun i xs h => by
    obtain ⟨p, vs, h1, h2, h3⟩ := R.own i xs h
    exact ⟨p, vs, h1, h2, h3.mono G.pp⟩
  inj := R.inj
  lo := R.lo
  len := R.len
/-- a new object -/
theorem Grow.laid {p : Addr} {o : HO} (pin : Ex P H) (lod : LodeAt L l H) (hp : H p = none) : Grow L l H P (upd H p o) (upd P p o) where
  keep := fun a u _ h => by rw [upd_ne (ne_of_none h hp)]; exact h
  lod := fun a e => by rw [upd_ne (ne_of_none (lod a e) hp)]; exact lod a e
  pp := fun a u h => by rw [upd_ne (ne_of_none (pin a u h) hp)]; exact h
  ph := fun a u h => by
    by_cases e : a = p
    · subst e
      rw [upd_same] at h ⊢
      exact h
    · rw [upd_ne e] at h ⊢
      exact pin a u h
  new := fun a u h n => by
    by_cases e : a = p
    · subst e
      exact hp
    · rw [upd_ne e, n] at h
      cases h
end

/-! ### the judgements -/
abbrev DE := En → Ld → Res D
abbrev DT := En → Ld → Res Bool
abbrev DA := En → Ld → Res (List D)
def Snd (K : PySem.W.Frag) (te : TE) (de : DE) : Prop := ∀ (L : Option Addr) (σ : St) (H P M : Hp) (en : En) (l : Ld), Rep K L σ H P M en l → ∀ d l', de en l = .ok d l' → ∀ Q : VK, (∀ v H' P', Grow L l' H P H' P' → Rp K P' v d → Q v H') → te σ H Q
def SndT (K : PySem.W.Frag) (tt : TT) (dt : DT) : Prop := ∀ (L : Option Addr) (σ : St) (H P M : Hp) (en : En) (l : Ld), Rep K L σ H P M en l → ∀ b l', dt en l = .ok b l' → ∀ Q : Bool → Hp → Prop, (∀ H' P', Grow L l' H P H' P' → Q b H') → tt σ H Q
def SndA (K : PySem.W.Frag) (ta : TA) (da : DA) : Prop := ∀ (L : Option Addr) (σ : St) (H P M : Hp) (en : En) (l : Ld), Rep K L σ H P M en l → ∀ ds l', da en l = .ok ds l' → ∀ Q : List V → Hp → Prop, (∀ vs H' P', Grow L l' H P H' P' → RpAll K P' vs ds → Q vs H') → ta σ H Q
def PD (X : Cx) (e : Expr) (de : DE) : Prop := ∃ te, PE X e te ∧ Snd X.K te de
def PDT (X : Cx) (e : Expr) (dt : DT) : Prop := ∃ tt, PT X e tt ∧ SndT X.K tt dt
def PDW (X : Cx) (e : Expr) (dt : DT) : Prop := ∃ tt, PW X e tt ∧ SndT X.K tt dt
def PDA (X : Cx) (es : List Expr) (da : DA) : Prop := ∃ ta, PA X es ta ∧ SndA X.K ta da

/-! ### values -/
def dVar (i : Nat) : DE := fun en l => match en[i]? with
  | some (some (.dat d)) => .ok d l
  | _ => .no
def dC (d : D) : DE := fun _ l => .ok d l
def dOp (g : D → D → Option D) (a b : DE) : DE := fun en l => (a en l).bind fun x l1 => (b en l1).bind fun y l2 => match g x y with
  | some z => .ok z l2
  | none => .no
def dUn (g : D → Option D) (a : DE) : DE := fun en l => (a en l).bind fun x l1 => match g x with
  | some z => .ok z l1
  | none => .no
def dNil : DA := fun _ l => .ok [] l
def dCons (a : DE) (b : DA) : DA := fun en l => (a en l).bind fun x l1 => (b en l1).bind fun xs l2 => .ok (x :: xs) l2
def dTup (a : DA) : DE := fun en l => (a en l).bind fun xs l1 => if xs.length ≤ 10000 then .ok (.tuple xs) l1 else .no
def dLst (a : DA) : DE := fun en l => (a en l).bind fun xs l1 => if xs.length ≤ 10000 then .ok (.list xs) l1 else .no
def dIf (t : DT) (a b : DE) : DE := fun en l => (t en l).bind fun c l1 => match c with
  | true => a en l1
  | false => b en l1
def dTest (a : DE) : DT := fun en l => (a en l).bind fun x l1 => match x with
  | .bool b => .ok b l1
  | _ => .no
def dVal (a : DT) : DE := fun en l => (a en l).bind fun x l1 => .ok (.bool x) l1
def dAnd (a b : DT) : DT := fun en l => (a en l).bind fun c l1 => match c with
  | true => b en l1
  | false => .ok false l1
def dOr (a b : DT) : DT := fun en l => (a en l).bind fun c l1 => match c with
  | true => .ok true l1
  | false => b en l1
def dNot (a : DT) : DT := fun en l => (a en l).bind fun c l1 => .ok (!c) l1
/-- an operation on values that Python's values follow -/
def OpS (K : PySem.W.Frag) (r : R2) (g : D → D → Option D) : Prop := ∀ (L : Option Addr) (l : Ld) (H P : Hp) (x y : V) (dx dy d : D), Ex P H → LodeAt L l H → Rp K P x dx → Rp K P y dy → g dx dy = some d →
  ∀ Q : VK, (∀ v H' P', Grow L l H P H' P' → Rp K P' v d → Q v H') → r x y H Q
def UnS (K : PySem.W.Frag) (r : V → Hp → VK → Prop) (g : D → Option D) : Prop := ∀ (L : Option Addr) (l : Ld) (H P : Hp) (x : V) (dx d : D), Ex P H → LodeAt L l H → Rp K P x dx → g dx = some d →
  ∀ Q : VK, (∀ v H' P', Grow L l H P H' P' → Rp K P' v d → Q v H') → r x H Q
def CallS (K : PySem.W.Frag) (r : List V → Hp → VK → Prop) (g : List D → Option D) : Prop := ∀ (L : Option Addr) (l : Ld) (H P : Hp) (xs : List V) (ds : List D) (d : D), Ex P H → LodeAt L l H → RpAll K P xs ds → g ds = some d →
  ∀ Q : VK, (∀ v H' P', Grow L l H P H' P' → Rp K P' v d → Q v H') → r xs H Q
section
variable {X : Cx} {K : PySem.W.Frag} {e a b c : Expr} {es : List Expr} {de da db : DE} {dt du : DT} {ds : DA} {pos : Pos}
theorem pd_var (i : Nat) {x : Str} {pos : Pos} (hN : X.N[i]? = some x := by rfl) (hv : Vis X.env.scope x := by first | exact Or.inl rfl | exact Or.inr (Or.inl rfl) | exact Or.inr (Or.inr rfl)) (hd : (x == ("__debug__" : Str)) = false := by decide)
    (hcd : (x == ("__classdict__" : Str)) = false := by decide) : PD X (.Name x pos) (dVar i) := ⟨tVar i, pe_var hN hv hd hcd, fun L σ H P M en l R d l' h Q q => by
  unfold dVar at h
  split at h
  · rename_i d0 he
    cases h
    obtain ⟨v, h1, h2⟩ := R.dat i _ he
    exact ⟨v, h1, q v H P R.refl h2⟩
  · cases h⟩
theorem pd_int {i : Int} {j pos} : PD X (.Constant (.int i) j pos) (dC (.int i)) := ⟨_, pe_int, fun L σ H P M en l R d l' h Q q => by cases h; exact q _ _ _ R.refl (.int i)⟩
theorem pd_bl {b : Bool} {j pos} : PD X (.Constant (.bool b) j pos) (dC (.bool b)) := ⟨_, pe_bl, fun L σ H P M en l R d l' h Q q => by cases h; exact q _ _ _ R.refl (.bl b)⟩
theorem pd_non {j pos} : PD X (.Constant .none j pos) (dC .none) := ⟨_, pe_non, fun L σ H P M en l R d l' h Q q => by cases h; exact q _ _ _ R.refl .non⟩
theorem pd_str {x : Str} {j pos} : PD X (.Constant (.str x) j pos) (dC (.str x)) := ⟨_, pe_str, fun L σ H P M en l R d l' h Q q => by cases h; exact q _ _ _ R.refl (.str x)⟩
theorem snd_op {r : R2} {g : D → D → Option D} {ta tb : TE} (hr : OpS K r g) (ha : Snd K ta da) (hb : Snd K tb db) : Snd K (tOp r ta tb) (dOp g da db) := fun L σ H P M en l R d l' h Q q => by
  obtain ⟨x, l1, h1, h⟩ := Res.bind_ok h
  obtain ⟨y, l2, h2, h⟩ := Res.bind_ok h
  split at h
  · rename_i z hz
    cases h
    refine ha L σ H P M en l R x l1 h1 _ fun v H1 P1 G1 r1 => ?_
    have R1 := R.grow G1
    refine hb L σ H1 P1 M en l1 R1 y _ h2 _ fun u H2 P2 G2 r2 => ?_
    have R2 := R1.grow G2
    exact hr L _ H2 P2 v u x y d R2.pin R2.lod (r1.mono G2.pp) r2 hz Q fun w H3 P3 G3 r3 => q w H3 P3 ((G1.trans G2).trans G3) r3
  · cases h
theorem pd_op {op : Operator} {r : R2} {g : D → D → Option D} (ho : OpR X (binaryOp op) r) (hr : OpS X.K r g) (ha : PD X a da) (hb : PD X b db) : PD X (.BinOp a op b pos) (dOp g da db) := by
  obtain ⟨ta, a1, a2⟩ := ha
  obtain ⟨tb, b1, b2⟩ := hb
  exact ⟨_, pe_op ho a1 b1, snd_op hr a2 b2⟩
theorem pd_cmp {op : CmpOp} {r : R2} {g : D → D → Option D} (ho : OpR X (compareOp op) r) (hr : OpS X.K r g) (ha : PD X a da) (hb : PD X b db) (hm : behindInMarks op b = false) : PD X (.Compare a [op] [b] pos) (dOp g da db) := by
  obtain ⟨ta, a1, a2⟩ := ha
  obtain ⟨tb, b1, b2⟩ := hb
  exact ⟨_, pe_cmpR ho a1 b1 hm, snd_op hr a2 b2⟩
theorem pd_ix {r : R2} {g : D → D → Option D} (ho : IxR X r) (hr : OpS X.K r g) (ha : PD X a da) (hb : PD X b db) (hs : PlainIx b) : PD X (.Subscript a b pos) (dOp g da db) := by
  obtain ⟨ta, a1, a2⟩ := ha
  obtain ⟨tb, b1, b2⟩ := hb
  exact ⟨_, pe_ix ho a1 b1 hs, snd_op hr a2 b2⟩
theorem pd_un {op : UnaryOp} {r : V → Hp → VK → Prop} {g : D → Option D} (ho : UnR X (unaryOp op) r) (hr : UnS X.K r g) (ha : PD X a da) : PD X (.UnaryOp op a pos) (dUn g da) := by
  obtain ⟨ta, a1, a2⟩ := ha
  refine ⟨_, pe_un ho a1, fun L σ H P M en l R d l' h Q q => ?_⟩
  obtain ⟨x, l1, h1, h⟩ := Res.bind_ok h
  split at h
  · rename_i z hz
    cases h
    refine a2 L σ H P M en l R x _ h1 _ fun v H1 P1 G1 r1 => ?_
    have R1 := R.grow G1
    exact hr L _ H1 P1 v x d R1.pin R1.lod r1 hz Q fun w H3 P3 G3 r3 => q w H3 P3 (G1.trans G3) r3
  · cases h
theorem pda_nil : PDA X [] dNil := ⟨_, pa_nil, fun L σ H P M en l R d l' h Q q => by cases h; exact q _ _ _ R.refl .nil⟩
theorem pda_cons (ha : PD X e de) (hs : PDA X es ds) (he : starEach (e :: es) X.env = (false, eval e X.env) :: starEach es X.env := by rfl) : PDA X (e :: es) (dCons de ds) := by
  obtain ⟨ta, a1, a2⟩ := ha
  obtain ⟨tb, b1, b2⟩ := hs
  refine ⟨_, pa_cons a1 b1 he, fun L σ H P M en l R d l' h Q q => ?_⟩
  obtain ⟨x, l1, h1, h⟩ := Res.bind_ok h
  obtain ⟨xs, l2, h2, h⟩ := Res.bind_ok h
  cases h
  refine a2 L σ H P M en l R x l1 h1 _ fun v H1 P1 G1 r1 => ?_
  have R1 := R.grow G1
  refine b2 L σ H1 P1 M en l1 R1 xs _ h2 _ fun us H2 P2 G2 r2 => ?_
  exact q _ H2 P2 (G1.trans G2) (.cons (r1.mono G2.pp) r2)
theorem sz_of {n : Nat} (h : n ≤ 10000) : n ≤ sizeLine := Nat.le_trans h (by decide)
theorem pd_tup {x1} (h : PDA X es ds) : PD X (.Tuple es x1 pos) (dTup ds) := by
  obtain ⟨ta, a1, a2⟩ := h
  refine ⟨_, pe_tup a1, fun L σ H P M en l R d l' h Q q => ?_⟩
  obtain ⟨xs, l1, h1, h⟩ := Res.bind_ok h
  split at h
  · rename_i hz
    cases h
    refine a2 L σ H P M en l R xs _ h1 _ fun vs H1 P1 G1 r1 => ⟨by rw [r1.length]; exact sz_of hz, fun p hp => ?_⟩
    have R1 := R.grow G1
    have G2 := Grow.laid (o := .tup vs) R1.pin R1.lod hp
    exact q _ _ _ (G1.trans G2) (.tup (.inl (.inl upd_same)) (r1.mono G2.pp))
  · cases h
theorem pd_lst (h : PDA X es ds) : PD X (.List es pos) (dLst ds) := by
  obtain ⟨ta, a1, a2⟩ := h
  refine ⟨_, pe_lst a1, fun L σ H P M en l R d l' h Q q => ?_⟩
  obtain ⟨xs, l1, h1, h⟩ := Res.bind_ok h
  split at h
  · rename_i hz
    cases h
    refine a2 L σ H P M en l R xs _ h1 _ fun vs H1 P1 G1 r1 => ⟨by rw [r1.length]; exact sz_of hz, fun p hp => ?_⟩
    have R1 := R.grow G1
    have G2 := Grow.laid (o := .lst vs) R1.pin R1.lod hp
    exact q _ _ _ (G1.trans G2) (.lst upd_same (r1.mono G2.pp))
  · cases h
/-! tests -/
theorem pdt_cmp {op : CmpOp} {r : R2} {g : D → D → Option D} (ho : OpR X (compareOp op) r) (hr : OpS X.K r g) (ha : PD X a da) (hb : PD X b db) (hm : behindInMarks op b = false) : PDT X (.Compare a [op] [b] pos) (dTest (dOp g da db)) := by
  obtain ⟨ta, a1, a2⟩ := ha
  obtain ⟨tb, b1, b2⟩ := hb
  refine ⟨_, pt_cmpR ho a1 b1 hm, fun L σ H P M en l R d l' h Q q => ?_⟩
  obtain ⟨x, l1, h1, h⟩ := Res.bind_ok h
  refine snd_op hr a2 b2 L σ H P M en l R x l1 h1 _ fun v H1 P1 G1 r1 => ?_
  cases r1 with
  | bl bb => cases h; exact ⟨_, rfl, q _ _ G1⟩
  | _ => cases h
theorem pdt_ofVal (h : PD X e de) (hp : ∀ te, PE X e te → PT X e (tB te)) : PDT X e (dTest de) := by
  obtain ⟨ta, a1, a2⟩ := h
  refine ⟨_, hp _ a1, fun L σ H P M en l R d l' h Q q => ?_⟩
  obtain ⟨x, l1, h1, h⟩ := Res.bind_ok h
  refine a2 L σ H P M en l R x l1 h1 _ fun v H1 P1 G1 r1 => ?_
  cases r1 with
  | bl bb => cases h; exact ⟨_, rfl, q _ _ G1⟩
  | _ => cases h
theorem pdt_not (h : PDT X e dt) : PDT X (.UnaryOp .Not e pos) (dNot dt) := by
  obtain ⟨ta, a1, a2⟩ := h
  refine ⟨_, pt_not a1, fun L σ H P M en l R d l' h Q q => ?_⟩
  obtain ⟨x, l1, h1, h⟩ := Res.bind_ok h
  cases h
  exact a2 L σ H P M en l R x _ h1 _ fun H1 P1 G1 => q _ _ G1
end
end Dx
end
section
set_option Elab.async false
set_option linter.all false
set_option maxRecDepth 100000
/-! Dx2: defs called while no repr is under way (so that repr of a list is known); the law's call from the claim's caller. -/
namespace Dx
open PySem PySem.Spec PyProof.Rows L2

/-- a def's promise, where no guard stands -/
structure FnG (P : Program) (w : World) (K : PySem.W.Frag) (mg : Str → Option Value) (base : Heap) (CX : CXT) (k : Nat) (f : Addr) (fd : FuncData) (ps : List Str) (sp : Sp) : Prop where
  size : ∀ (vs : List V) (H : Hp) (Q : VK) (E : XK), sp vs H Q E → vs.length = ps.length
  does : ∀ (A : Around), A.guards = some [] → Room k A → ∀ (outer : List Env) (s : Shared) (H : Hp), Env0 P w K mg base A outer s H →
    ∀ (args : Args) (us : List Value) (vs : List V), BindsTo s fd args (ps.zip us) → Vals vs us → ∀ (Q : VK) (E : XK), sp vs H Q E →
      codeAny (model P w) A (.call (.ref f) args) (CR CX outer P w H s Q E) s
theorem FnG.up {P : Program} {w : World} {K : PySem.W.Frag} {mg : Str → Option Value} {base : Heap} {CX : CXT} {j k : Nat} {f : Addr} {fd : FuncData} {ps : List Str} {sp : Sp} (G : FnG P w K mg base CX j f fd ps sp) (h : j ≤ k) : FnG P w K mg base CX k f fd ps sp :=
  ⟨G.size, fun A hg hr => G.does A hg (hr.mono h)⟩

/-- a def of the text, by its body, where no guard stands -/
theorem fnG_body {CX : CXT} {P : Program} {w : World} {K : PySem.W.Frag} {mg : Str → Option Value} {base : Heap} {x qual : Str} {st : Stmt} {f : Addr} {fd : FuncData} {N ps : List Str} {k : Nat} {sp : Sp}
    (F : Fun K x qual st f fd) (S : FnScope N ps (defScope st)) (len : ∀ (vs : List V) (H : Hp) (Q : VK) (E : XK), sp vs H Q E → vs.length = ps.length)
    (body : ∀ (cdv : Value) (A : Around) (outer : List Env) (s : Shared) (H : Hp) (vs : List V) (Q : VK) (E : XK), A.guards = some [] → Room k (A.deeper (envOfC qual (defScope st) s.heap.objs.size f cdv)) → sp vs H Q E →
      ∃ t, PSs (cxOf CX P w K mg base N qual (defScope st) f cdv A outer s H E) (defBody st) t ∧ t { nx := fun _ H' => Q .non H', rt := Q } (start N vs) H) : FnG P w K mg base CX (k + 1) f fd ps sp := by
  obtain ⟨oc, od, kV, doc, pm, an, cdv, ct, osl, rfl, lk, hcd⟩ := F.ex
  refine ⟨len, fun A hg hr outer s H e0 args us vs hb rv Q E hq => ?_⟩
  have kin : K.In s.heap := e0.mod.kin.keeps fun b o e => (e0.bs b o e).1
  have kinds : ∀ y ∈ ps.zip us, (defScope st).names.lookup y.1 = some .local ∨ ((defScope st).names.lookup y.1 = some .cell ∧ ((cellsFrom (s.heap.objs.size + 1) (defScope st).names []).lookup y.1).isSome = true) := by
    rintro ⟨n, v⟩ hy
    cases S.par n (List.of_mem_zip hy).1 with
    | inl q => exact Or.inl q
    | inr q => exact Or.inr ⟨q, PySem.W.cellsFrom_some _ _ _ (Or.inl q)⟩
  apply codeAny_call_function hr.depth (kin _ _ lk) rfl S.co S.gen rfl (PySem.W.codeRec_of kin hcd)
  apply hb
  apply wpAny_newFunctionEnv_cells S.kind kinds
  intro env he s1 inc
  subst he
  obtain ⟨t, ht, hd⟩ := body cdv A outer s H vs Q E hg (hr.deeper _) hq
  have I := inv_start (CX := CX) (E := E) S hr.hd e0 (len _ _ _ _ hq) rv inc
  refine ⟨(e0.mod.nolimit.keeps fun b o e => (e0.bs b o e).1).keeps inc.toInCall.keep, codeAny_func ?_⟩
  refine wpAny_mono (ht.run [] s1 (start N vs) H _ I hd) (fun fl s' hs => ?_) fun _ _ z => z
  match fl, hs with
  | .ret u, ⟨v, σ', H', J, r, q⟩ => exact ⟨v, H', J.os, J.bare, J.base, J.hok, r, q⟩
  | .next, ⟨σ', H', J, q⟩ => exact ⟨.non, H', J.os, J.bare, J.base, J.hok, rfl, q⟩
  | .brk, ⟨_, _, _, q⟩ => exact q.elim
  | .cont, ⟨_, _, _, q⟩ => exact q.elim

section
variable {X : Cx} {CX : CXT} {k : Nat} {f : Addr} {fd : FuncData} {ps : List Str} {sp : Sp} {E : XK}
/-- the callee's run, in a body -/
theorem runG {pins : List (Addr × Obj)} {σ : L2.St} {H : Hp} {s : Shared} {Q : VK} {us : List Value} {kw : List (Str × Value)} {ws : List Value} {zs : List V} (G : FnG X.prog X.w X.K X.mg X.base CX k f fd ps sp) (hg : X.A.guards = some []) (hr : Room k X.A) (hx : Passes CX X E)
    (I : Inv X pins σ H s) (hb : BindsTo s fd ⟨us, kw⟩ (ps.zip ws)) (rz : Vals zs ws) (h : sp zs H Q E) : wpAny (model X.prog X.w) X.A (call (.ref f) us kw) (EP X pins σ Q) X.xe s := by
  apply wpAny_call
  refine codeAny_mono (G.does X.A hg hr X.stack s H I.env0 ⟨us, kw⟩ ws zs hb rz Q E h) fun r s' hq => ?_
  match r, hq with
  | .ok (.ret u), hq => exact I.after hq
  | .ok .next, hq => exact hq.elim
  | .ok .brk, hq => exact hq.elim
  | .ok .cont, hq => exact hq.elim
  | .error e, hq => exact hx pins σ H s e s' I hq
/-- f(e, ..) -/
theorem pe_callG {x : Str} {p pos : Pos} {e : Expr} {es : List Expr} {t : TA} (G : FnG X.prog X.w X.K X.mg X.base CX k f fd ps sp) (hg : X.A.guards = some []) (hr : Room k X.A) (hl : Gl X x) (hm : X.mg x = some (.ref f)) (hk : PySem.W.keepIn X.K (.ref f) = true)
    (hb : Binds X.K fd ps []) (hx : Passes CX X E) (ha : PA X (e :: es) t) (h1 : (x == ("__debug__" : Str)) = false := by decide) (h2 : starEach (e :: es) X.env = (false, eval e X.env) :: starEach es X.env := by rfl)
    (h3 : (backTo pos (starEach es X.env)).any (·.1) = false := by rfl) : PE X (.Call (.Name x p) (e :: es) [] pos) (tCall sp [] E t) := by
  constructor
  intro pins s σ H Q I h
  refine wpAny_Call_Name_kw (ld_glob I hl hm ?_ h1)
  apply PySem.W.callWith_K (h₀ := X.base) I.ok.mod.kin hk _ h2 h3
  refine thn (ha.run pos pins s σ H _ I h) ?_
  rintro us s1 ⟨vs, H1, I1, r, q⟩
  have q' : sp vs H1 Q E := by simpa using q
  refine ⟨I1.kIn, runG G hg hr hx I1 (ws := us) ?_ r q'⟩
  have z := hb s1 us I1.kIn (by rw [List.append_nil, ← r.length]; exact G.size _ _ _ _ q')
  rw [List.append_nil] at z
  exact z
theorem pe_callG0 {x : Str} {p pos : Pos} (G : FnG X.prog X.w X.K X.mg X.base CX k f fd ps sp) (hg : X.A.guards = some []) (hr : Room k X.A) (hl : Gl X x) (hm : X.mg x = some (.ref f)) (hk : PySem.W.keepIn X.K (.ref f) = true)
    (hb : Binds X.K fd ps []) (hx : Passes CX X E) (h1 : (x == ("__debug__" : Str)) = false := by decide) : PE X (.Call (.Name x p) [] [] pos) (tCall sp [] E tNil) := by
  constructor
  intro pins s σ H Q I h
  refine wpAny_Call_Name_kw (ld_glob I hl hm ?_ h1)
  have q' : sp [] H Q E := h
  refine PySem.W.callWith_K0 I.kIn hk (runG G hg hr hx I (ws := []) ?_ .nil q')
  have z := hb s [] I.kIn (by rw [List.append_nil]; exact G.size _ _ _ _ q')
  exact z
/-- f(e, .., k = v, ..) -/
theorem pe_callGK {x : Str} {p pos : Pos} {e : Expr} {es : List Expr} {kws : List Keyword} {ks : List Str} {g : List Value → List Value → List Value} {gV : List V → List V → List V} {t tk : TA} (G : FnG X.prog X.w X.K X.mg X.base CX k f fd ps sp) (hg : X.A.guards = some []) (hr : Room k X.A)
    (hl : Gl X x) (hm : X.mg x = some (.ref f)) (hk : PySem.W.keepIn X.K (.ref f) = true) (hb : KBinds X.K fd ps ks g gV) (hx : Passes CX X E) (ha : PA X (e :: es) t) (hw : PK X kws tk)
    (h4 : (backToKw pos (keywordEach kws X.env)).all (·.1.isSome) = true := by rfl) (h5 : (backToKw pos (keywordEach kws X.env)).filterMap (·.1) = ks := by rfl)
    (h1 : (x == ("__debug__" : Str)) = false := by decide) (h2 : starEach (e :: es) X.env = (false, eval e X.env) :: starEach es X.env := by rfl)
    (h3 : ((backTo pos (starEach (e :: es) X.env)).any (·.1) || (backToKw pos (keywordEach kws X.env)).any (·.1.isNone)) = false := by rfl) : PE X (.Call (.Name x p) (e :: es) kws pos) (tCallK sp gV E t tk) := by
  constructor
  intro pins s σ H Q I h
  refine wpAny_Call_Name_kw (ld_glob I hl hm ?_ h1)
  apply PySem.W.callWith_KW (h₀ := X.base) I.ok.mod.kin hk h4 _ h3 h2
  refine thn (ha.run pos pins s σ H _ I h) ?_
  rintro us s1 ⟨vs, H1, I1, r, q⟩
  refine thn (hw.run pos pins s1 σ H1 _ I1 q) ?_
  rintro ws s2 ⟨zs, H2, I2, rz, q2⟩
  rw [h5]
  have r2 := hb.rel r rz
  exact ⟨I2.kIn, runG G hg hr hx I2 (hb.to s2 us ws I2.kIn (by rw [← r2.length]; exact G.size _ _ _ _ q2)) r2 q2⟩
end
end Dx
end
section
set_option Elab.async false
set_option linter.all false
set_option maxRecDepth 100000
/-! Dx3: the law's own call. -/
namespace Dx
open PySem PySem.Spec PyProof.Rows L2

/-- what is tracked at the law's call: the script alone, unless the text's top holds it -/
def Hs (K : PySem.W.Frag) (a : Addr) (ob : Obj) (xs : List V) : Hp := fun b => if b = a then (match K.lookup a with
  | some _ => none
  | none => some (.frz ob (.lst xs))) else none
theorem lawG {l : PySem.W.OpenLaw} {n k : Nat} {q : Program} {loose : List Str} {XP : (Str → Option Value) → Heap → Prop} {YP : World → Heap → Prop} {d : DefRec} {K : Params → PySem.W.Frag} {CX : CXT} {sp : PySem.W.Frag → Sp} {x : Str}
    (hn : l.most = some n) (n2 : n ≤ sizeLine) (df : d.params.defaults = []) (room : Room k callerA) (hY : ∀ (w : World) (h : Heap), YP w h → (K w.params).In h)
    (F : ∀ (w : World) (mg : Str → Option Value) (fa : Addr) (h : Heap), (K w.params).In h → h.Ns mainGlobals mg → mg d.name = some (.ref fa) →
      ∃ fd : FuncData, (∀ (s : Shared) (u : Value), BindsTo s fd ⟨[u], []⟩ [(x, u)]) ∧
        ∀ base : Heap, (K w.params).In base → base.Ns mainGlobals mg → FnG l.prog w (K w.params) mg base CX k fa fd [x] (sp (K w.params)))
    (law : ∀ (K : PySem.W.Frag) (H : Hp) (a : Addr) (ns : List Int), ns.length ≤ n → (∀ b, b ≠ a → H b = none) → SqL K H a (ns.map V.int) → sp K [.ref a] H (fun v _ => v = .bl true) fun _ _ _ => False)
    (noX : ∀ (H : Hp) (s : Shared) (e : Value) (s' : Shared), CX [] H s (fun _ _ _ => False) e s' → False) : PySem.W.WalkO q loose XP YP l.row.toRowW d [] (fun f vs => PySem.call f vs) := by
  refine Att.attach_call hn df ?_
  intro w s₀ s₁ mg mb fa o pm cd doc a vs ns G Y ho hd hcd hmg hobj hints hlen hgen
  have kin := hY w _ Y
  obtain ⟨fd, bind, hF⟩ := F w mg fa _ kin G.T.g hmg
  generalize hK : K w.params = K' at kin hF
  generalize hH : Hs K' a { cls := .type "list", data := .seq vs.toArray } (ns.map V.int) = H
  have rv : Vals (ns.map V.int) vs := vals_ints hints
  have off : ∀ b, b ≠ a → H b = none := fun b hb => by rw [← hH]; exact if_neg hb
  have atA : H a ≠ none → K'.lookup a = none := fun z => by
    cases e : K'.lookup a with
    | none => rfl
    | some u =>
      refine absurd ?_ z
      rw [← hH]
      unfold Hs
      rw [if_pos rfl, e]
  have hsq : SqL K' H a (ns.map V.int) := by
    cases e : K'.lookup a with
    | none =>
      refine Or.inl (Or.inr ⟨{ cls := .type "list", data := .seq vs.toArray }, ?_⟩)
      rw [← hH]
      unfold Hs
      rw [if_pos rfl, e]
    | some u =>
      have e2 := kin a u e
      rw [hobj] at e2
      cases e2
      exact Or.inr ⟨_, vs.toArray, _, e, rfl, rfl, rfl, by rw [List.size_toArray, hints.length]; exact Nat.le_trans hlen n2, rv⟩
  have hok : HOk l.prog w H s₁.heap := fun b u z => by
    by_cases hb : b = a
    · subst hb
      have e := atA (by rw [z]; exact fun q => nomatch q)
      rw [← hH] at z
      unfold Hs at z
      rw [if_pos rfl, e] at z
      cases z
      exact ⟨hobj, by rw [List.length_map]; exact Nat.le_trans hlen n2, vs, _, rv, hobj⟩
    · rw [off b hb] at z
      cases z
  have noD : ∀ {b : Addr} {ob : Obj} {es : Array DictEntry} {ep : Nat}, s₁.heap.get? b = some ob → ob.data = .dict es ep → b ≠ a := by
    rintro b ob es ep e dd rfl
    rw [hobj] at e
    cases e
    cases dd
  have ns' : ∀ {b : Addr} {m : Str → Option Value}, s₁.heap.Ns b m → (hidT s₁.heap H).Ns b m := by
    rintro b m ⟨ob, es, ep, e, dd, r⟩
    exact ⟨ob, es, ep, hidT_get e (off b (noD e dd)), dd, r⟩
  have kin' : K'.In (hidT s₁.heap H) := fun b ob e => hidT_get (kin b ob e) (by
    by_cases hb : b = a
    · subst hb
      cases z : H b with
      | none => rfl
      | some u =>
        have e2 := atA (by rw [z]; exact fun q => nomatch q)
        rw [e2] at e
        cases e
    · exact off b hb)
  have e0 : Env0 l.prog w K' mg (hidT s₁.heap H) callerA [] s₁ H := by
    constructor
    · rfl
    · obtain ⟨hb1, hb2⟩ := (⟨G.T.b, G.T.builtins⟩ : _ ∧ _)
      obtain ⟨mc, c1, c2⟩ := G.T.nolimit
      exact ⟨kin', ns' G.T.g, ⟨mb, ns' hb1, hb2⟩, ⟨mc, ns' c1, c2⟩⟩
    · exact fun b ob e => of_hidT e
    · exact Nat.le_of_eq (hidT_size _ _)
    · trivial
    · exact fun b hb => absurd hb (by show b ∉ ([] : List Addr); simp)
    · exact hok
    · exact .of_eq hgen
  refine codeAny_mono ((hF _ kin' (ns' G.T.g)).does callerA rfl room [] s₁ H e0 ⟨[.ref a], []⟩ [.ref a] [.ref a] (bind s₁ (.ref a)) (.cons rfl .nil) _ _ (law K' H a ns hlen off hsq)) ?_
  intro r s' h
  match r, h with
  | .error e, h => exact (noX H s₁ e s' h).elim
  | .ok .next, h => exact h.elim
  | .ok .brk, h => exact h.elim
  | .ok .cont, h => exact h.elim
  | .ok (.ret u), ⟨v, H', os, bare, un, hok', r', q⟩ =>
    have q' : v = .bl true := q
    subst q'
    have r2 : u = Value.bool true := r'
    subst r2
    refine ⟨rfl, OldK.of_keep fun b ob e => ?_, os, bare⟩
    by_cases hb : b = a
    · subst hb
      cases z : H b with
      | none => exact un.keep b ob e z (fun w => nomatch w) (fun w => nomatch w)
      | some u =>
        have e3 := atA (by rw [z]; exact fun q => nomatch q)
        have z1 := z
        rw [← hH] at z1
        unfold Hs at z1
        rw [if_pos rfl, e3] at z1
        cases z1
        have z2 := un.frzs b _ _ z
        have e4 := (hok' b _ z2).1
        rw [e] at hobj
        cases hobj
        exact e4
    · exact un.keep b ob e (off b hb) (fun w => nomatch w) (fun w => nomatch w)
end Dx
end
section
set_option Elab.async false
set_option linter.all false
set_option maxRecDepth 100000
/-! Dx4: operations and built-in functions over data. -/
namespace Dx
open PySem PySem.Spec PyProof.Rows L2

section
variable {K : PySem.W.Frag} {H P : Hp}
mutual
theorem Rp.dp : ∀ {d : D} {v : V}, d.canLay0 = true → Rp K H v d → Dp K H v d
  | _, _, _, .non => .non
  | _, _, _, .bl b => .bl b
  | _, _, _, .int i => .int i
  | _, _, _, .str x => .str x
  | _, _, h, .lst s r => .lst (SqL.of s) (RpAll.dp (by simpa [PyData.canLay0] using h) r)
  | _, _, h, .tup s r => .tup s (RpAll.dp (by simpa [PyData.canLay0] using h) r)
  | _, _, h, .dic _ _ => by simp [PyData.canLay0] at h
theorem RpAll.dp : ∀ {ds : List D} {vs : List V}, PyData.canLayAll0 ds = true → RpAll K H vs ds → DpAll K H vs ds
  | _, _, _, .nil => .nil
  | _, _, h, .cons a b => by
    simp only [PyData.canLayAll0, Bool.and_eq_true] at h
    exact .cons (Rp.dp h.1 a) (RpAll.dp h.2 b)
end
theorem Rp.isInt {v : V} {i : Int} (h : Rp K H v (.int i)) : v = .int i := by cases h; rfl
theorem Rp.isBl {v : V} {i : Bool} (h : Rp K H v (.bool i)) : v = .bl i := by cases h; rfl
theorem Rp.isStr {v : V} {i : Str} (h : Rp K H v (.str i)) : v = .str i := by cases h; rfl
theorem Rp.isLst {v : V} {ds : List D} (h : Rp K H v (.list ds)) : ∃ a xs, v = .ref a ∧ H a = some (.lst xs) ∧ RpAll K H xs ds := by cases h with | lst s r => exact ⟨_, _, rfl, s, r⟩
theorem Rp.isTup {v : V} {ds : List D} (h : Rp K H v (.tuple ds)) : ∃ a xs, v = .ref a ∧ SqT K H a xs ∧ RpAll K H xs ds := by cases h with | tup s r => exact ⟨_, _, rfl, s, r⟩
theorem ints_of : ∀ {ns : List Int} {vs : List V}, RpAll K H vs (ns.map PyData.int) → vs = ns.map V.int
  | [], _, h => by cases h; rfl
  | n :: ns, _, h => by
    cases h with
    | cons a b => rw [a.isInt, ints_of b]; rfl
theorem bls_of : ∀ {ns : List Bool} {vs : List V}, RpAll K H vs (ns.map PyData.bool) → vs = ns.map V.bl
  | [], _, h => by cases h; rfl
  | n :: ns, _, h => by
    cases h with
    | cons a b => rw [a.isBl, bls_of b]; rfl

theorem OpS.or {r r' : R2} {g g' : D → D → Option D} (h : OpS K r g) (h' : OpS K r' g') : OpS K (fun x y H Q => r x y H Q ∨ r' x y H Q) (fun a b => match g a b with
    | some d => some d
    | none => g' a b) := fun L l H P x y dx dy d e hl rx ry hg Q q => by
  dsimp only at hg
  split at hg
  · rename_i z hz
    cases hg
    exact Or.inl (h L l H P x y dx dy _ e hl rx ry hz Q q)
  · exact Or.inr (h' L l H P x y dx dy d e hl rx ry hg Q q)
theorem OpS.out {r : R2} {g g' : D → D → Option D} (h : OpS K r g) (hg : ∀ a b d, g' a b = some d → g a b = some d) : OpS K r g' := fun L l H P x y dx dy d e hl rx ry q => h L l H P x y dx dy d e hl rx ry (hg _ _ _ q)

/-! ### arithmetic -/
def g2I (g : Int → Int → Int) : D → D → Option D
  | .int i, .int j => some (.int (g i j))
  | _, _ => none
def g2IC (c : Int → Int → Bool) (g : Int → Int → Int) : D → D → Option D
  | .int i, .int j => if c i j = true then some (.int (g i j)) else none
  | _, _ => none
def g2B (g : Int → Int → Bool) : D → D → Option D
  | .int i, .int j => some (.bool (g i j))
  | _, _ => none
theorem os_I {g : Int → Int → Int} : OpS K (rI0 fun i j => .int (g i j)) (g2I g) := fun L l H P x y dx dy d e hl rx ry hg Q q => by
  unfold g2I at hg
  split at hg
  · cases hg
    exact ⟨_, _, rx.isInt, ry.isInt, q _ _ _ (.refl e hl) (.int _)⟩
  · cases hg
theorem os_IC {C : Int → Int → Prop} {c : Int → Int → Bool} {g : Int → Int → Int} (hc : ∀ i j, c i j = true → C i j) : OpS K (rI C fun i j => .int (g i j)) (g2IC c g) := fun L l H P x y dx dy d e hl rx ry hg Q q => by
  unfold g2IC at hg
  split at hg
  · split at hg
    · rename_i z
      cases hg
      exact ⟨_, _, rx.isInt, ry.isInt, hc _ _ z, q _ _ _ (.refl e hl) (.int _)⟩
    · cases hg
  · cases hg
theorem os_B {g : Int → Int → Bool} : OpS K (rI0 fun i j => .bl (g i j)) (g2B g) := fun L l H P x y dx dy d e hl rx ry hg Q q => by
  unfold g2B at hg
  split at hg
  · cases hg
    exact ⟨_, _, rx.isInt, ry.isInt, q _ _ _ (.refl e hl) (.bl _)⟩
  · cases hg
def cMul (i j : Int) : Bool := decide (i.natAbs.log2 + j.natAbs.log2 < 1000000)
def cDiv (i j : Int) : Bool := decide (j ≠ 0 ∧ j.natAbs.log2 < 9000)
def cMod (i j : Int) : Bool := decide (j ≠ 0)
def CDivA (_ j : Int) : Prop := j ≠ 0 ∧ j.natAbs.log2 < 9000
end
section
variable {X : Cx}
theorem op_fdivA : OpR X (binaryOp .FloorDiv) (rI CDivA fun i j => .int (i.fdiv j)) := opI fun i j _ _ _ _ _ hc q => floordiv_int hc.1 q (.inl (PyProof.noPylong_of_log2 hc.2))
end
section
variable {K : PySem.W.Frag}
def gSub : D → D → Option D := g2I fun i j => i - j
def gMulI : D → D → Option D := g2IC cMul fun i j => i * j
def gDiv : D → D → Option D := g2IC cDiv fun i j => i.fdiv j
def gMod : D → D → Option D := g2IC cMod fun i j => i.fmod j
theorem os_sub : OpS K (rI0 fun i j => .int (i - j)) gSub := os_I
theorem os_mulI : OpS K (rI CMulW fun i j => .int (i * j)) gMulI := os_IC fun i j h => by unfold CMulW; exact of_decide_eq_true h
theorem os_div : OpS K (rI CDivA fun i j => .int (i.fdiv j)) gDiv := os_IC fun i j h => by unfold CDivA; exact of_decide_eq_true h
theorem os_mod : OpS K (rI (fun _ j => j ≠ 0) fun i j => .int (i.fmod j)) gMod := os_IC fun i j h => by exact of_decide_eq_true h
/-! + -/
def gCatT : D → D → Option D
  | .tuple a, .tuple b => if a.length + b.length ≤ 10000 then some (.tuple (a ++ b)) else none
  | _, _ => none
def gCatL : D → D → Option D
  | .list a, .list b => if a.length + b.length ≤ 10000 then some (.list (a ++ b)) else none
  | _, _ => none
def gCatS : D → D → Option D
  | .str a, .str b => if a.length + b.length ≤ 10000 then some (.str (a ++ b)) else none
  | _, _ => none
theorem os_catT : OpS K (rCatA K) gCatT := fun L l H P x y dx dy d e hl rx ry hg Q q => by
  unfold gCatT at hg
  split at hg
  · split at hg
    · rename_i a b z
      cases hg
      obtain ⟨p1, xs, rfl, s1, r1⟩ := rx.isTup
      obtain ⟨p2, ys, rfl, s2, r2⟩ := ry.isTup
      refine ⟨p1, p2, xs, ys, rfl, rfl, e.t s1, e.t s2, by rw [r1.length, r2.length]; exact sz_of z, fun h0 => ?_, fun h0 h1 => ?_, fun h0 h1 p hp => ?_⟩
      · subst h0
        cases r1
        exact q _ _ _ (.refl e hl) (.tup s2 r2)
      · subst h1
        cases r2
        rw [List.append_nil] at q
        exact q _ _ _ (.refl e hl) (.tup s1 r1)
      · have G := Grow.laid (o := .tup (xs ++ ys)) e hl hp
        exact q _ _ _ G (.tup (.inl (.inl upd_same)) ((r1.append r2).mono G.pp))
    · cases hg
  · cases hg
end
section
variable {K : PySem.W.Frag}
theorem os_catL : OpS K rCat gCatL := fun L l H P x y dx dy d e hl rx ry hg Q q => by
  unfold gCatL at hg
  split at hg
  · split at hg
    · rename_i a b z
      cases hg
      obtain ⟨p1, xs, rfl, s1, r1⟩ := rx.isLst
      obtain ⟨p2, ys, rfl, s2, r2⟩ := ry.isLst
      refine ⟨p1, p2, xs, ys, rfl, rfl, e _ _ s1, e _ _ s2, by rw [r1.length, r2.length]; exact sz_of z, fun p hp => ?_⟩
      have G := Grow.laid (o := .lst (xs ++ ys)) e hl hp
      exact q _ _ _ G (.lst upd_same ((r1.append r2).mono G.pp))
    · cases hg
  · cases hg
theorem os_catS : OpS K (fun x y H Q => ∃ i j, x = .str i ∧ y = .str j ∧ i.length + j.length ≤ sizeLine ∧ Q (.str (i ++ j)) H) gCatS := fun L l H P x y dx dy d e hl rx ry hg Q q => by
  unfold gCatS at hg
  split at hg
  · split at hg
    · rename_i a b z
      cases hg
      exact ⟨_, _, rx.isStr, ry.isStr, sz_of z, q _ _ _ (.refl e hl) (.str _)⟩
    · cases hg
  · cases hg
/-- + -/
def gAdd : D → D → Option D
  | .int i, .int j => some (.int (i + j))
  | .tuple a, .tuple b => if a.length + b.length ≤ 10000 then some (.tuple (a ++ b)) else none
  | .list a, .list b => if a.length + b.length ≤ 10000 then some (.list (a ++ b)) else none
  | .str a, .str b => if a.length + b.length ≤ 10000 then some (.str (a ++ b)) else none
  | _, _ => none
abbrev rAddA (K : PySem.W.Frag) : R2 := fun x y H Q => rI0 (fun i j => .int (i + j)) x y H Q ∨ rCatA K x y H Q ∨ rCat x y H Q ∨ (fun x y H Q => ∃ i j, x = V.str i ∧ y = V.str j ∧ i.length + j.length ≤ sizeLine ∧ Q (.str (i ++ j)) H) x y H Q
theorem os_add : OpS K (rAddA K) gAdd := (os_I.or (os_catT.or (os_catL.or os_catS))).out fun a b d h => by
  unfold gAdd at h
  split at h
  · exact h
  · split at h
    · rename_i z
      cases h
      simp [g2I, gCatT, z]
    · cases h
  · split at h
    · rename_i z
      cases h
      simp [g2I, gCatT, gCatL, z]
    · cases h
  · exact h
  · cases h
end
section
variable {X : Cx}
theorem op_addA : OpR X (binaryOp .Add) (rAddA X.K) := op_add.or (op_catA.or (op_cat.or op_add_str))
end
section
variable {K : PySem.W.Frag}
/-! * -/
def gRepL : D → D → Option D
  | .list a, .int k => if 0 ≤ k ∧ k ≤ 1000 ∧ a.length ≤ 1000 then some (.list (List.replicate k.toNat a).flatten) else none
  | _, _ => none
def gRepT : D → D → Option D
  | .tuple a, .int k => if 2 ≤ k ∧ k ≤ 1000 ∧ a.length ≤ 1000 ∧ a ≠ [] then some (.tuple (List.replicate k.toNat a).flatten) else none
  | _, _ => none
theorem RpAll.flat {vs : List V} {ds : List D} {H : Hp} (r : RpAll K H vs ds) : ∀ n : Nat, RpAll K H (List.replicate n vs).flatten (List.replicate n ds).flatten
  | 0 => .nil
  | n + 1 => by
    rw [List.replicate_succ, List.replicate_succ, List.flatten_cons, List.flatten_cons]
    exact r.append (r.flat n)
theorem os_repL : OpS K rRep gRepL := fun L l H P x y dx dy d e hl rx ry hg Q q => by
  unfold gRepL at hg
  split at hg
  · split at hg
    · rename_i a k z
      cases hg
      obtain ⟨p1, xs, rfl, s1, r1⟩ := rx.isLst
      have h1 : xs.length * k.toNat ≤ 1000 * 1000 := Nat.mul_le_mul (by rw [r1.length]; exact z.2.2) (by omega)
      refine ⟨p1, k, xs, rfl, ry.isInt, e _ _ s1, by omega, by omega, Nat.le_trans h1 (by decide), fun p hp => ?_⟩
      have G := Grow.laid (o := .lst (List.replicate k.toNat xs).flatten) e hl hp
      exact q _ _ _ G (.lst upd_same ((r1.flat _).mono G.pp))
    · cases hg
  · cases hg
theorem os_repT : OpS K (rRepT K) gRepT := fun L l H P x y dx dy d e hl rx ry hg Q q => by
  unfold gRepT at hg
  split at hg
  · split at hg
    · rename_i a k z
      cases hg
      obtain ⟨p1, xs, rfl, s1, r1⟩ := rx.isTup
      refine ⟨p1, k, xs, rfl, ry.isInt, e.t s1, fun h0 => ?_, z.1, z.2.1, by rw [r1.length]; exact z.2.2.1, fun p hp => ?_⟩
      · subst h0
        cases r1
        exact z.2.2.2 rfl
      · have G := Grow.laid (o := .tup (List.replicate k.toNat xs).flatten) e hl hp
        exact q _ _ _ G (.tup (.inl (.inl upd_same)) ((r1.flat _).mono G.pp))
    · cases hg
  · cases hg
def gMul : D → D → Option D
  | .int i, .int j => if cMul i j = true then some (.int (i * j)) else none
  | .list a, .int k => if 0 ≤ k ∧ k ≤ 1000 ∧ a.length ≤ 1000 then some (.list (List.replicate k.toNat a).flatten) else none
  | .tuple a, .int k => if 2 ≤ k ∧ k ≤ 1000 ∧ a.length ≤ 1000 ∧ a ≠ [] then some (.tuple (List.replicate k.toNat a).flatten) else none
  | _, _ => none
abbrev rMulA (K : PySem.W.Frag) : R2 := fun x y H Q => rI CMulW (fun i j => .int (i * j)) x y H Q ∨ rRep x y H Q ∨ rRepT K x y H Q
theorem os_mul : OpS K (rMulA K) gMul := (os_mulI.or (os_repL.or os_repT)).out fun a b d h => by
  unfold gMul at h
  split at h
  · split at h
    · rename_i z
      cases h
      simp [gMulI, g2IC, z]
    · cases h
  · split at h
    · rename_i z
      cases h
      simp [gMulI, g2IC, gRepL, z]
    · cases h
  · exact h
  · cases h
end
section
variable {X : Cx}
theorem op_mulA : OpR X (binaryOp .Mult) (rMulA X.K) := op_mulW.or (op_rep.or op_repT)
end
end Dx
end
section
set_option Elab.async false
set_option linter.all false
set_option maxRecDepth 100000
/-! Dx5: comparisons, places, slices, built-in functions. -/
namespace Dx
open PySem PySem.Spec PyProof.Rows L2
section
variable {K : PySem.W.Frag}
/-! == and its kin -/
def gEq : D → D → Option D := fun a b => if SeqAt.shaped a = true ∧ SeqAt.shaped b = true then some (.bool (PyData.eqv a b)) else none
def gNe : D → D → Option D := fun a b => if SeqAt.shaped a = true ∧ SeqAt.shaped b = true then some (.bool (!PyData.eqv a b)) else none
theorem os_eq : OpS K (rEqD K) gEq := fun L l H P x y dx dy d e hl rx ry hg Q q => by
  unfold gEq at hg
  split at hg
  · rename_i z
    cases hg
    exact ⟨_, _, (rx.mono e).dp (SeqAt.canLay_of_shaped z.1), (ry.mono e).dp (SeqAt.canLay_of_shaped z.2), z.1, z.2, q _ _ _ (.refl e hl) (.bl _)⟩
  · cases hg
theorem os_ne : OpS K (rNeD K) gNe := fun L l H P x y dx dy d e hl rx ry hg Q q => by
  unfold gNe at hg
  split at hg
  · rename_i z
    cases hg
    exact ⟨_, _, (rx.mono e).dp (SeqAt.canLay_of_shaped z.1), (ry.mono e).dp (SeqAt.canLay_of_shaped z.2), z.1, z.2, q _ _ _ (.refl e hl) (.bl _)⟩
  · cases hg
/-! texts are told apart whatever they hold -/
def gEqS : D → D → Option D
  | .str a, .str b => some (.bool (decide (a = b)))
  | _, _ => none
def gNeS : D → D → Option D
  | .str a, .str b => some (.bool (!decide (a = b)))
  | _, _ => none
theorem dec_strV {a b : Str} : decide (V.str a = V.str b) = decide (a = b) := by
  by_cases e : a = b
  · subst e
    rw [decide_eq_true rfl, decide_eq_true rfl]
  · rw [decide_eq_false e, decide_eq_false (fun z => e (V.str.inj z))]
theorem os_eqS : OpS K rEq gEqS := fun L l H P x y dx dy d e hl rx ry hg Q q => by
  unfold gEqS at hg
  split at hg
  · cases hg
    rw [rx.isStr, ry.isStr]
    refine ⟨rfl, ?_⟩
    rw [dec_strV]
    exact q _ _ _ (.refl e hl) (.bl _)
  · cases hg
theorem os_neS : OpS K rNe gNeS := fun L l H P x y dx dy d e hl rx ry hg Q q => by
  unfold gNeS at hg
  split at hg
  · cases hg
    rw [rx.isStr, ry.isStr]
    refine ⟨rfl, ?_⟩
    rw [dec_strV]
    exact q _ _ _ (.refl e hl) (.bl _)
  · cases hg
def gEqA : D → D → Option D := fun a b => match gEqS a b with
  | some d => some d
  | none => gEq a b
def gNeA : D → D → Option D := fun a b => match gNeS a b with
  | some d => some d
  | none => gNe a b
abbrev rEqA (K : PySem.W.Frag) : R2 := fun x y H Q => rEq x y H Q ∨ rEqD K x y H Q
abbrev rNeA (K : PySem.W.Frag) : R2 := fun x y H Q => rNe x y H Q ∨ rNeD K x y H Q
theorem or_ok {r r' : R2} {g g' : D → D → Option D} (h : OpS K r g) (h' : OpS K r' g') : OpS K (fun x y H Q => r x y H Q ∨ r' x y H Q) (fun a b => match g a b with
    | some d => some d
    | none => g' a b) := h.or h'
theorem os_eqA : OpS K (rEqA K) gEqA := or_ok os_eqS os_eq
theorem os_neA : OpS K (rNeA K) gNeA := or_ok os_neS os_ne
def gLt : D → D → Option D := g2B fun i j => decide (i < j)
def gLe : D → D → Option D := g2B fun i j => decide (i ≤ j)
def gGt : D → D → Option D := g2B fun i j => decide (j < i)
def gGe : D → D → Option D := g2B fun i j => decide (j ≤ i)
theorem os_lt : OpS K (rI0 fun i j => .bl (decide (i < j))) gLt := os_B
theorem os_le : OpS K (rI0 fun i j => .bl (decide (i ≤ j))) gLe := os_B
theorem os_gt : OpS K (rI0 fun i j => .bl (decide (j < i))) gGt := os_B
theorem os_ge : OpS K (rI0 fun i j => .bl (decide (j ≤ i))) gGe := os_B
/-! x is None -/
def isNon : D → Bool
  | .none => true
  | _ => false
def gIsN : D → D → Option D
  | a, .none => some (.bool (isNon a))
  | _, _ => none
def gNotN : D → D → Option D
  | a, .none => some (.bool (!isNon a))
  | _, _ => none
theorem isNon_V {H : Hp} {x : V} {d : D} (r : Rp K H x d) : decide (x = V.non) = isNon d := by cases r <;> rfl
theorem os_isN : OpS K (fun x y H Q => y = V.non ∧ Q (.bl (decide (x = .non))) H) gIsN := fun L l H P x y dx dy d e hl rx ry hg Q q => by
  unfold gIsN at hg
  split at hg
  · cases hg
    cases ry
    refine ⟨rfl, ?_⟩
    rw [isNon_V rx]
    exact q _ _ _ (.refl e hl) (.bl _)
  · cases hg
theorem os_notN : OpS K (fun x y H Q => y = V.non ∧ Q (.bl (!decide (x = .non))) H) gNotN := fun L l H P x y dx dy d e hl rx ry hg Q q => by
  unfold gNotN at hg
  split at hg
  · cases hg
    cases ry
    refine ⟨rfl, ?_⟩
    rw [isNon_V rx]
    exact q _ _ _ (.refl e hl) (.bl _)
  · cases hg
/-! x in xs, of a list; of a tuple of flat things -/
def gInL : D → D → Option D
  | a, .list ds => if SeqAt.shaped a = true ∧ SeqAt.shaped (.list ds) = true then some (.bool (ds.any fun z => PyData.eqv z a)) else none
  | _, _ => none
def gNotInL : D → D → Option D
  | a, .list ds => if SeqAt.shaped a = true ∧ SeqAt.shaped (.list ds) = true then some (.bool (!ds.any fun z => PyData.eqv z a)) else none
  | _, _ => none
theorem os_inL : OpS K (rInD K) gInL := fun L l H P x y dx dy d e hl rx ry hg Q q => by
  unfold gInL at hg
  split at hg
  · split at hg
    · rename_i z
      cases hg
      exact ⟨_, _, (rx.mono e).dp (SeqAt.canLay_of_shaped z.1), (ry.mono e).dp (SeqAt.canLay_of_shaped z.2), z.1, z.2, q _ _ _ (.refl e hl) (.bl _)⟩
    · cases hg
  · cases hg
theorem os_notInL : OpS K (rNotInD K) gNotInL := fun L l H P x y dx dy d e hl rx ry hg Q q => by
  unfold gNotInL at hg
  split at hg
  · split at hg
    · rename_i z
      cases hg
      exact ⟨_, _, (rx.mono e).dp (SeqAt.canLay_of_shaped z.1), (ry.mono e).dp (SeqAt.canLay_of_shaped z.2), z.1, z.2, q _ _ _ (.refl e hl) (.bl _)⟩
    · cases hg
  · cases hg
def flatD : D → Option V
  | .none => some .non
  | .bool b => some (.bl b)
  | .int i => some (.int i)
  | .str x => if x.length ≤ 1000 then some (.str x) else none
  | _ => none
theorem flatD_V {H : Hp} {x v : V} {d : D} (r : Rp K H x d) (h : flatD d = some v) : x = v := by
  cases r <;> simp only [flatD] at h <;> first | (cases h; rfl) | (split at h <;> cases h; rfl) | cases h
def flatAll : List D → Option (List V)
  | [] => some []
  | d :: ds => match flatD d, flatAll ds with
    | some v, some vs => some (v :: vs)
    | _, _ => none
theorem flatAll_V {H : Hp} : ∀ {ds : List D} {xs vs : List V}, RpAll K H xs ds → flatAll ds = some vs → xs = vs
  | [], _, _, r, h => by cases r; cases h; rfl
  | d :: ds, _, vs, .cons r t, h => by
    unfold flatAll at h
    split at h
    · rename_i v ws h1 h2
      cases h
      rw [flatD_V r h1, flatAll_V t h2]
    · cases h
def gInT (neg : Bool) : D → D → Option D
  | a, .tuple ds => match flatD a, flatAll ds with
    | some x, some xs => if flatV x = true ∧ xs.all flatV = true then some (.bool (if neg then !inV x xs else inV x xs)) else none
    | _, _ => none
  | _, _ => none
theorem os_inT {neg : Bool} : OpS K (rIn K neg) (gInT neg) := fun L l H P x y dx dy d e hl rx ry hg Q q => by
  unfold gInT at hg
  split at hg
  · split at hg
    · split at hg
      · rename_i ds _ _ v vs h1 h2 z
        cases hg
        obtain ⟨a, xs, rfl, s1, r1⟩ := ry.isTup
        have e1 := flatD_V rx h1
        have e2 := flatAll_V r1 h2
        subst e1 e2
        exact ⟨a, xs, rfl, .inr (e.t s1), z.1, z.2, q _ _ _ (.refl e hl) (.bl _)⟩
      · cases hg
    · cases hg
  · cases hg
def gIn : D → D → Option D := fun a b => match gInL a b with
  | some d => some d
  | none => gInT false a b
def gNotIn : D → D → Option D := fun a b => match gNotInL a b with
  | some d => some d
  | none => gInT true a b
abbrev rInA (K : PySem.W.Frag) : R2 := fun x y H Q => rInD K x y H Q ∨ rIn K false x y H Q
abbrev rNotInA (K : PySem.W.Frag) : R2 := fun x y H Q => rNotInD K x y H Q ∨ rIn K true x y H Q
theorem os_in : OpS K (rInA K) gIn := os_inL.or os_inT
theorem os_notIn : OpS K (rNotInA K) gNotIn := os_notInL.or os_inT
/-! places -/
def gIx : D → D → Option D
  | .tuple xs, .int i => atI xs i
  | .list xs, .int i => atI xs i
  | _, _ => none
theorem atI_rp {H : Hp} {xs : List V} {ds : List D} {i : Int} {d : D} (r : RpAll K H xs ds) (h : atI ds i = some d) : ∃ v, atI xs i = some v ∧ Rp K H v d := by
  unfold atI at h ⊢
  rw [r.length]
  cases e : ixN ds.length i with
  | none => rw [e] at h; cases h
  | some j =>
    rw [e] at h
    exact r.get (show ds[j]? = some d from h)
theorem os_ix : OpS K (rIx K) gIx := fun L l H P x y dx dy d e hl rx ry hg Q q => by
  unfold gIx at hg
  split at hg
  · obtain ⟨p, xs, rfl, s1, r1⟩ := rx.isTup
    obtain ⟨v, h1, h2⟩ := atI_rp r1 hg
    exact Or.inr (Or.inl ⟨p, xs, _, v, rfl, ry.isInt, e.t s1, h1, q _ _ _ (.refl e hl) h2⟩)
  · obtain ⟨p, xs, rfl, s1, r1⟩ := rx.isLst
    obtain ⟨v, h1, h2⟩ := atI_rp r1 hg
    exact Or.inl ⟨p, xs, _, v, rfl, ry.isInt, SqL.of (e _ _ s1), h1, q _ _ _ (.refl e hl) h2⟩
  · cases hg
/-! slices -/
abbrev DO := En → Ld → Res (Option Int)
def SndO (K : PySem.W.Frag) (to : TO) (dO : DO) : Prop := ∀ (L : Option Addr) (σ : L2.St) (H P M : Hp) (en : En) (l : Ld), Rep K L σ H P M en l → ∀ o l', dO en l = .ok o l' → ∀ Q : Option Int → Hp → Prop, (∀ H' P', Grow L l' H P H' P' → Q o H') → to σ H Q
def dONone : DO := fun _ l => .ok none l
def dOSome (a : DE) : DO := fun en l => (a en l).bind fun x l1 => match x with
  | .int i => .ok (some i) l1
  | _ => .no
def cutD (xs : List D) (lo hi : Option Int) : List D := (xs.drop (HT.sIx xs.length 0 lo)).take (HT.sIx xs.length xs.length hi - HT.sIx xs.length 0 lo)
def gSl : D → Option Int → Option Int → Option D
  | .tuple xs, lo, hi => some (.tuple (cutD xs lo hi))
  | .list xs, lo, hi => some (.list (cutD xs lo hi))
  | _, _, _ => none
def dSl (a : DE) (lo hi : DO) : DE := fun en l => (a en l).bind fun x l1 => (lo en l1).bind fun u l2 => (hi en l2).bind fun v l3 => match gSl x u v with
  | some z => .ok z l3
  | none => .no
theorem cut_rp {H : Hp} {xs : List V} {ds : List D} {lo hi : Option Int} (r : RpAll K H xs ds) : RpAll K H (cutV xs lo hi) (cutD ds lo hi) := by
  unfold cutV cutD
  rw [r.length]
  exact (r.drop _).take _
abbrev rSlA2 (K : PySem.W.Frag) : V → Option Int → Option Int → Hp → VK → Prop := fun x lo hi H Q => rSlA K x lo hi H Q ∨ rSlL K x lo hi H Q
theorem ss_sl (L : Option Addr) (l : Ld) (H P : Hp) (x : V) (lo hi : Option Int) (dx d : D) (e : Ex P H) (hl : LodeAt L l H) (rx : Rp K P x dx) (hg : gSl dx lo hi = some d) (Q : VK) (q : ∀ v H' P', Grow L l H P H' P' → Rp K P' v d → Q v H') : rSlA2 K x lo hi H Q := by
  unfold gSl at hg
  split at hg
  · cases hg
    obtain ⟨p, xs, rfl, s1, r1⟩ := rx.isTup
    refine Or.inl ⟨p, xs, rfl, e.t s1, fun z => ?_, fun _ p' hp => ?_⟩
    · have c : cutV xs lo hi = xs := by
        unfold cutV
        rw [z.1, z.2]
        simp
      have h2 := cut_rp (lo := lo) (hi := hi) r1
      rw [c] at h2
      exact q _ _ _ (.refl e hl) (.tup s1 h2)
    · have G := Grow.laid (o := .tup (cutV xs lo hi)) e hl hp
      exact q _ _ _ G (.tup (.inl (.inl upd_same)) ((cut_rp r1).mono G.pp))
  · cases hg
    obtain ⟨p, xs, rfl, s1, r1⟩ := rx.isLst
    refine Or.inr ⟨p, xs, rfl, SqL.of (e _ _ s1), fun p' hp => ?_⟩
    have G := Grow.laid (o := .lst (cutV xs lo hi)) e hl hp
    exact q _ _ _ G (.lst upd_same ((cut_rp r1).mono G.pp))
  · cases hg
end
def PDO (X : Cx) (e : Option Expr) (dO : DO) : Prop := ∃ to, PO X e to ∧ SndO X.K to dO
section
variable {X : Cx} {e a b c : Expr} {es : List Expr} {de da db : DE} {dt du : DT} {ds : DA} {pos p p2 : Pos} {x : Str} {id T : String}
theorem op_eqA (hu : X.A.units + 64 < cLine) : OpR X (compareOp .Eq) (rEqA X.K) := op_eq.or (op_eqD hu)
theorem op_neA (hu : X.A.units + 64 < cLine) : OpR X (compareOp .NotEq) (rNeA X.K) := op_ne.or (op_neD hu)
theorem op_inA (hu : X.A.units + 65 < cLine) : OpR X (compareOp .In) (rInA X.K) := (op_inD hu).or op_in_seq
theorem op_notInA (hu : X.A.units + 65 < cLine) : OpR X (compareOp .NotIn) (rNotInA X.K) := (op_notInD hu).or op_notIn_seq
theorem pdo_none : PDO X none dONone := ⟨_, po_none, fun L σ H P M en l R o l' h Q q => by cases h; exact q _ _ R.refl⟩
theorem pdo_some (h : PD X e de) : PDO X (some e) (dOSome de) := by
  obtain ⟨te, a1, a2⟩ := h
  refine ⟨_, po_some a1, fun L σ H P M en l R o l' h Q q => ?_⟩
  obtain ⟨y, l1, h1, h⟩ := Res.bind_ok h
  refine a2 L σ H P M en l R y l1 h1 _ fun v H1 P1 G1 r1 => ?_
  cases r1 with
  | int i => cases h; exact ⟨i, rfl, q _ _ G1⟩
  | _ => cases h
theorem pd_sl {lo hi : Option Expr} {d1 d2 : DO} (he : PD X e de) (hl : PDO X lo d1) (hh : PDO X hi d2) : PD X (.Subscript e (.Slice lo hi none p2) pos) (dSl de d1 d2) := by
  obtain ⟨te, a1, a2⟩ := he
  obtain ⟨tl, b1, b2⟩ := hl
  obtain ⟨th, c1, c2⟩ := hh
  refine ⟨_, pe_slice (sl_tupA.or sl_list) a1 b1 c1, fun L σ H P M en l R d l' h Q q => ?_⟩
  obtain ⟨y, l1, h1, h⟩ := Res.bind_ok h
  obtain ⟨u, l2, h2, h⟩ := Res.bind_ok h
  obtain ⟨w, l3, h3, h⟩ := Res.bind_ok h
  split at h
  · rename_i z hz
    cases h
    refine a2 L σ H P M en l R y l1 h1 _ fun v H1 P1 G1 r1 => ?_
    have R1 := R.grow G1
    refine b2 L σ H1 P1 M en l1 R1 u l2 h2 _ fun H2 P2 G2 => ?_
    have R2 := R1.grow G2
    refine c2 L σ H2 P2 M en l2 R2 w _ h3 _ fun H3 P3 G3 => ?_
    have R3 := R2.grow G3
    exact ss_sl L _ H3 P3 v u w y d R3.pin R3.lod ((r1.mono G2.pp).mono G3.pp) hz Q fun v' H4 P4 G4 r4 => q v' H4 P4 (((G1.trans G2).trans G3).trans G4) r4
  · cases h
/-! built-in functions by values -/
def dCB (g : List D → Option D) (a : DA) : DE := fun en l => (a en l).bind fun xs l1 => match g xs with
  | some z => .ok z l1
  | none => .no
theorem snd_cb {K : PySem.W.Frag} {r : List V → Hp → VK → Prop} {g : List D → Option D} {ta : TA} (hr : CallS K r g) (ha : SndA K ta ds) : Snd K (tCB r ta) (dCB g ds) := fun L σ H P M en l R d l' h Q q => by
  obtain ⟨xs, l1, h1, h⟩ := Res.bind_ok h
  split at h
  · rename_i z hz
    cases h
    refine ha L σ H P M en l R xs _ h1 _ fun vs H1 P1 G1 r1 => ?_
    have R1 := R.grow G1
    exact hr L _ H1 P1 vs xs d R1.pin R1.lod r1 hz Q fun w H3 P3 G3 r3 => q w H3 P3 (G1.trans G3) r3
  · cases h
theorem pd_callB {r : List V → Hp → VK → Prop} {g : List D → Option D} (hc : CallR X (.builtin id) r) (hs : CallS X.K r g) (hg : Gl X x) (hm : X.mg x = none) (hv : bootBuiltins x = some (.builtin id)) (ha : PDA X (e :: es) ds) (h1 : x ≠ "__name__" := by decide) (h2 : (x == ("__debug__" : Str)) = false := by decide)
    (h3 : starEach (e :: es) X.env = (false, eval e X.env) :: starEach es X.env := by rfl) (h4 : (backTo pos (starEach es X.env)).any (·.1) = false := by rfl) : PD X (.Call (.Name x p) (e :: es) [] pos) (dCB g ds) := by
  obtain ⟨ta, a1, a2⟩ := ha
  exact ⟨_, pe_callB hc hg hm hv a1 h1 h2 h3 h4, snd_cb hs a2⟩
theorem pd_callTy {r : List V → Hp → VK → Prop} {g : List D → Option D} (hc : CallR X (.type T) r) (hs : CallS X.K r g) (hg : Gl X x) (hm : X.mg x = none) (hv : bootBuiltins x = some (.type T)) (ha : PDA X (e :: es) ds) (h1 : x ≠ "__name__" := by decide) (h2 : (x == ("__debug__" : Str)) = false := by decide)
    (h3 : starEach (e :: es) X.env = (false, eval e X.env) :: starEach es X.env := by rfl) (h4 : (backTo pos (starEach es X.env)).any (·.1) = false := by rfl) : PD X (.Call (.Name x p) (e :: es) [] pos) (dCB g ds) := by
  obtain ⟨ta, a1, a2⟩ := ha
  exact ⟨_, pe_callTy hc hg hm hv a1 h1 h2 h3 h4, snd_cb hs a2⟩
theorem pd_callM {r : List V → Hp → VK → Prop} {g : List D → Option D} (hc : CallR X (.builtin id) r) (hs : CallS X.K r g) (hg : Gl X x) (hm : X.mg x = some (.builtin id)) (ha : PDA X (e :: es) ds) (h2 : (x == ("__debug__" : Str)) = false := by decide)
    (h3 : starEach (e :: es) X.env = (false, eval e X.env) :: starEach es X.env := by rfl) (h4 : (backTo pos (starEach es X.env)).any (·.1) = false := by rfl) : PD X (.Call (.Name x p) (e :: es) [] pos) (dCB g ds) := by
  obtain ⟨ta, a1, a2⟩ := ha
  exact ⟨_, pe_callBfun hc hg hm a1 h2 h3 h4, snd_cb hs a2⟩
end
section
variable {K : PySem.W.Frag}
def gLen : List D → Option D
  | [.tuple xs] => some (.int xs.length)
  | [.list xs] => some (.int xs.length)
  | _ => none
theorem cs_len : CallS K (fun xs H Q => ∃ x n, xs = [x] ∧ LenV K x H n ∧ Q (.int n) H) gLen := fun L l H P xs ds d e hl r hg Q q => by
  unfold gLen at hg
  split at hg
  · cases hg
    cases r with
    | cons r1 rr =>
      cases rr
      obtain ⟨p, xs, rfl, s1, r1⟩ := r1.isTup
      exact ⟨_, _, rfl, .inr ⟨xs, e.t s1, r1.length.symm⟩, q _ _ _ (.refl e hl) (.int _)⟩
  · cases hg
    cases r with
    | cons r1 rr =>
      cases rr
      obtain ⟨p, xs, rfl, s1, r1⟩ := r1.isLst
      exact ⟨_, _, rfl, .inl ⟨xs, SqL.of (e _ _ s1), r1.length.symm⟩, q _ _ _ (.refl e hl) (.int _)⟩
  · cases hg
def g1I (g : Int → Int) : List D → Option D
  | [.int i] => some (.int (g i))
  | _ => none
def g2L (g : Int → Int → Int) : List D → Option D
  | [.int i, .int j] => some (.int (g i j))
  | _ => none
theorem cs_1I {g : Int → Int} : CallS K (fun xs H Q => ∃ i, xs = [.int i] ∧ Q (.int (g i)) H) (g1I g) := fun L l H P xs ds d e hl r hg Q q => by
  unfold g1I at hg
  split at hg
  · cases hg
    cases r with
    | cons r1 rr => cases rr; rw [r1.isInt]; exact ⟨_, rfl, q _ _ _ (.refl e hl) (.int _)⟩
  · cases hg
theorem cs_2L {g : Int → Int → Int} : CallS K (fun xs H Q => ∃ i j, xs = [.int i, .int j] ∧ Q (.int (g i j)) H) (g2L g) := fun L l H P xs ds d e hl r hg Q q => by
  unfold g2L at hg
  split at hg
  · cases hg
    cases r with
    | cons r1 rr =>
      cases rr with
      | cons r2 rr => cases rr; rw [r1.isInt, r2.isInt]; exact ⟨_, _, rfl, q _ _ _ (.refl e hl) (.int _)⟩
  · cases hg
def gAbs : List D → Option D := g1I fun i => if i < 0 then -i else i
theorem cs_abs : CallS K (fun xs H Q => ∃ i, xs = [.int i] ∧ Q (.int (if i < 0 then -i else i)) H) gAbs := cs_1I
def gMin : List D → Option D := g2L fun i j => if j < i then j else i
def gMax : List D → Option D := g2L fun i j => if j > i then j else i
theorem cs_min : CallS K (fun xs H Q => ∃ i j, xs = [.int i, .int j] ∧ Q (.int (if j < i then j else i)) H) gMin := cs_2L
theorem cs_max : CallS K (fun xs H Q => ∃ i j, xs = [.int i, .int j] ∧ Q (.int (if j > i then j else i)) H) gMax := cs_2L
def gGcd : List D → Option D := g2L fun i j => ((Nat.gcd i.natAbs j.natAbs : Nat) : Int)
theorem cs_gcd : CallS K rGcd gGcd := cs_2L
def gInt : List D → Option D
  | [.int i] => some (.int i)
  | [.bool b] => some (.int (if b then 1 else 0))
  | _ => none
theorem cs_int : CallS K (fun xs H Q => (∃ i, xs = [.int i] ∧ Q (.int i) H) ∨ ∃ k, xs = [.bl k] ∧ Q (.int (if k then 1 else 0)) H) gInt := fun L l H P xs ds d e hl r hg Q q => by
  unfold gInt at hg
  split at hg
  · cases hg
    cases r with
    | cons r1 rr => cases rr; rw [r1.isInt]; exact Or.inl ⟨_, rfl, q _ _ _ (.refl e hl) (.int _)⟩
  · cases hg
    cases r with
    | cons r1 rr => cases rr; rw [r1.isBl]; exact Or.inr ⟨_, rfl, q _ _ _ (.refl e hl) (.int _)⟩
  · cases hg
def intsD : List D → Option (List Int)
  | [] => some []
  | .int i :: ds => (intsD ds).map (i :: ·)
  | _ => none
theorem intsD_map : ∀ {ds : List D} {ns : List Int}, intsD ds = some ns → ds = ns.map PyData.int
  | [], _, h => by cases h; rfl
  | .int i :: ds, ns, h => by
    unfold intsD at h
    cases e : intsD ds with
    | none => rw [e] at h; cases h
    | some ms => rw [e] at h; cases h; rw [intsD_map e]; rfl
  | .none :: _, _, h => by cases h
  | .bool _ :: _, _, h => by cases h
  | .str _ :: _, _, h => by cases h
  | .list _ :: _, _, h => by cases h
  | .tuple _ :: _, _, h => by cases h
  | .dict _ :: _, _, h => by cases h
def blsD : List D → Option (List Bool)
  | [] => some []
  | .bool i :: ds => (blsD ds).map (i :: ·)
  | _ => none
theorem blsD_map : ∀ {ds : List D} {ns : List Bool}, blsD ds = some ns → ds = ns.map PyData.bool
  | [], _, h => by cases h; rfl
  | .bool i :: ds, ns, h => by
    unfold blsD at h
    cases e : blsD ds with
    | none => rw [e] at h; cases h
    | some ms => rw [e] at h; cases h; rw [blsD_map e]; rfl
  | .none :: _, _, h => by cases h
  | .int _ :: _, _, h => by cases h
  | .str _ :: _, _, h => by cases h
  | .list _ :: _, _, h => by cases h
  | .tuple _ :: _, _, h => by cases h
  | .dict _ :: _, _, h => by cases h
def gAll : List D → Option D
  | [.list xs] => (blsD xs).map fun bs => .bool (bs.all id)
  | _ => none
def gAny : List D → Option D
  | [.list xs] => (blsD xs).map fun bs => .bool (bs.any id)
  | _ => none
theorem cs_all : CallS K (rAll K) gAll := fun L l H P xs ds d e hl r hg Q q => by
  unfold gAll at hg
  split at hg
  · rename_i ys
    cases h : blsD ys with
    | none => rw [h] at hg; cases hg
    | some bs =>
      rw [h] at hg
      cases hg
      cases r with
      | cons r1 rr =>
        cases rr
        obtain ⟨p, zs, rfl, s1, r2⟩ := r1.isLst
        rw [blsD_map h] at r2
        rw [bls_of r2] at s1
        exact ⟨p, bs, rfl, SqL.of (e _ _ s1), q _ _ _ (.refl e hl) (.bl _)⟩
  · cases hg
theorem cs_any : CallS K (rAny K) gAny := fun L l H P xs ds d e hl r hg Q q => by
  unfold gAny at hg
  split at hg
  · rename_i ys
    cases h : blsD ys with
    | none => rw [h] at hg; cases hg
    | some bs =>
      rw [h] at hg
      cases hg
      cases r with
      | cons r1 rr =>
        cases rr
        obtain ⟨p, zs, rfl, s1, r2⟩ := r1.isLst
        rw [blsD_map h] at r2
        rw [bls_of r2] at s1
        exact ⟨p, bs, rfl, SqL.of (e _ _ s1), q _ _ _ (.refl e hl) (.bl _)⟩
  · cases hg
/-! tuple(x), list(x) -/
def gTuple : List D → Option D
  | [.list xs] => some (.tuple xs)
  | [.tuple xs] => some (.tuple xs)
  | _ => none
def gList : List D → Option D
  | [.list xs] => some (.list xs)
  | [.tuple xs] => some (.list xs)
  | _ => none
def rTupC (K : PySem.W.Frag) : List V → Hp → VK → Prop := fun vs H Q => ∃ x, vs = [x] ∧ kTup K x H Q
theorem cs_tuple : CallS K (rTupC K) gTuple := fun L l H P xs ds d e hl r hg Q q => by
  unfold gTuple at hg
  split at hg
  · cases hg
    cases r with
    | cons r1 rr =>
      cases rr
      obtain ⟨p, zs, rfl, s1, r2⟩ := r1.isLst
      refine ⟨_, rfl, .inl ⟨p, zs, rfl, SqL.of (e _ _ s1), fun a ha => ?_⟩⟩
      have G := Grow.laid (o := .tup zs) e hl ha
      exact q _ _ _ G (.tup (.inl (.inl upd_same)) (r2.mono G.pp))
  · cases hg
    cases r with
    | cons r1 rr =>
      cases rr
      obtain ⟨p, zs, rfl, s1, r2⟩ := r1.isTup
      exact ⟨_, rfl, .inr ⟨p, zs, rfl, e.t s1, q _ _ _ (.refl e hl) (.tup s1 r2)⟩⟩
  · cases hg
theorem cs_list : CallS K (fun xs H Q => ∃ p ys, xs = [.ref p] ∧ (SqL K H p ys ∨ SqT K H p ys) ∧ ∀ l, H l = none → Q (.ref l) (upd H l (.lst ys))) gList := fun L l H P xs ds d e hl r hg Q q => by
  unfold gList at hg
  split at hg
  · cases hg
    cases r with
    | cons r1 rr =>
      cases rr
      obtain ⟨p, zs, rfl, s1, r2⟩ := r1.isLst
      refine ⟨p, zs, rfl, .inl (SqL.of (e _ _ s1)), fun a ha => ?_⟩
      have G := Grow.laid (o := .lst zs) e hl ha
      exact q _ _ _ G (.lst upd_same (r2.mono G.pp))
  · cases hg
    cases r with
    | cons r1 rr =>
      cases rr
      obtain ⟨p, zs, rfl, s1, r2⟩ := r1.isTup
      refine ⟨p, zs, rfl, .inr (e.t s1), fun a ha => ?_⟩
      have G := Grow.laid (o := .lst zs) e hl ha
      exact q _ _ _ G (.lst upd_same (r2.mono G.pp))
  · cases hg
/-! isqrt -/
def gIsqrt : List D → Option D
  | [.int i] => if 0 ≤ i ∧ i.toNat.log2 < 13000 then some (.int ((Float64.isqrt i.toNat : Nat) : Int)) else none
  | _ => none
def rIsqrt : List V → Hp → VK → Prop := fun vs H Q => ∃ i, vs = [.int i] ∧ 0 ≤ i ∧ i.toNat.log2 < 13000 ∧ Q (.int ((Float64.isqrt i.toNat : Nat) : Int)) H
theorem cs_isqrt : CallS K rIsqrt gIsqrt := fun L l H P xs ds d e hl r hg Q q => by
  unfold gIsqrt at hg
  split at hg
  · split at hg
    · rename_i z
      cases hg
      cases r with
      | cons r1 rr => cases rr; rw [r1.isInt]; exact ⟨_, rfl, z.1, z.2, q _ _ _ (.refl e hl) (.int _)⟩
    · cases hg
  · cases hg
/-! repr -/
def gRepr : List D → Option D
  | [d] => if d.canLay0 = true ∧ d.showable = true ∧ d.depth ≤ 60 ∧ d.shown.length ≤ 1000000 then some (.str d.shown) else none
  | _ => none
def rReprD (K : PySem.W.Frag) : List V → Hp → VK → Prop := fun vs H Q => ∃ x d, vs = [x] ∧ Dp K H x d ∧ d.canLay0 = true ∧ d.showable = true ∧ d.depth ≤ 60 ∧ d.shown.length ≤ 1000000 ∧ Q (.str d.shown) H
theorem cs_repr : CallS K (rReprD K) gRepr := fun L l H P xs ds d e hl r hg Q q => by
  unfold gRepr at hg
  split at hg
  · split at hg
    · rename_i z
      cases hg
      cases r with
      | cons r1 rr => cases rr; exact ⟨_, _, rfl, (r1.mono e).dp z.1, z.1, z.2.1, z.2.2.1, z.2.2.2, q _ _ _ (.refl e hl) (.str _)⟩
    · cases hg
  · cases hg
end
section
variable {X : Cx}
theorem cr_isqrt : CallR X (.builtin "math.isqrt") rIsqrt := by
  intro pins s σ H vs us Q I r h
  obtain ⟨i, rfl, h0, h1, q⟩ := h
  cases r with
  | cons r1 rr =>
    cases rr
    obtain ⟨t, rfl⟩ := r1
    exact call_function_meets PySem.W.MGF.kind_isqrt PySem.W.MGF.plain_isqrt PySem.W.MGF.entry_isqrt (PySem.W.MGF.args_isqrt _) (PySem.W.mg_run_isqrt i t (by omega) (by omega) (by omega)).meets ⟨.int _, H, I.tok _, ⟨_, rfl⟩, q⟩
theorem cr_tupC : CallR X (.type "tuple") (rTupC X.K) := by
  intro pins s σ H vs us Q I r h
  obtain ⟨x, rfl, h⟩ := h
  cases r with
  | cons r1 rr =>
    cases rr
    exact rl_tuple pins s σ H x _ Q I r1 h
theorem cr_repr (hg : X.A.guards = some []) (hu : X.A.units + 70 < cLine) : CallR X (.builtin "repr") (rReprD X.K) := by
  intro pins s σ H vs us Q I r h
  obtain ⟨x, d, rfl, hd, hc, hs, hdep, hz, q⟩ := h
  cases r with
  | cons r1 rr =>
    cases rr
    obtain ⟨as, rd⟩ := Dp.reads I d x _ hd r1
    have hz' : d.shown.length ≤ sizeLine := Nat.le_trans hz (by decide)
    have ok : ∀ h' u tk, (∀ b o, s.heap.get? b = some o → h'.get? b = some o) → EP X pins σ Q (.str d.shown u) { s with heap := h', toks := tk } := fun h' u tk k => ⟨.str d.shown, H, I.kept k, ⟨u, rfl⟩, q⟩
    cases rd with
    | none => exact PySem.P.repr_of_none (ok s.heap _ _ fun _ _ e => e)
    | bool b => exact PySem.P.repr_of_bool (by have z := ok s.heap s.toks (s.toks + 1) fun _ _ e => e; simp only [PyData.shown] at z; exact z)
    | int i t => exact PySem.P.repr_of_int (by simpa [PyData.showable] using hs) (by have z := ok s.heap s.toks (s.toks + 1) fun _ _ e => e; simp only [PyData.shown] at z; exact z)
    | str y t => exact PySem.P.repr_of_str (by have z := ok s.heap s.toks (s.toks + 1) fun _ _ e => e; simp only [PyData.shown] at z; exact z) (by simpa [PyData.shown] using hz')
    | list h1 h2 h3 h4 => exact repr_of_reads' (.list h1 h2 h3 h4) hs (PyData.noDict_hsm (PyData.hasDict_of_canLay _ hc)) hg (by omega) (fun _ _ e => e) ok hz'
    | tuple h1 h2 h3 h4 => exact repr_of_reads' (.tuple h1 h2 h3 h4) hs (PyData.noDict_hsm (PyData.hasDict_of_canLay _ hc)) hg (by omega) (fun _ _ e => e) ok hz'
    | dict h1 h2 h3 h4 h5 => exact nomatch hc
end
end Dx
end
section
set_option Elab.async false
set_option linter.all false
set_option maxRecDepth 100000
/-! Dx6: tests, truth values, isinstance, calls of the text's own defs. -/
namespace Dx
open PySem PySem.Spec PyProof.Rows L2
section
variable {X : Cx} {e a b c : Expr} {es rest : List Expr} {de da db : DE} {dt du : DT} {ds dk : DA} {pos p p2 : Pos} {x : Str}
theorem pdt_v (h : PD X e de) (he : ∀ whole, isTrue e X.env whole = (do let v ← whole; standAt e.pos; holding [v] (truthy v)) := by intro _; rfl) : PDT X e (dTest de) := pdt_ofVal h fun te z => pt_val z he
theorem snd_and {K : PySem.W.Frag} {t u : TT} (h1 : SndT K t dt) (h2 : SndT K u du) : SndT K (tAnd t u) (dAnd dt du) := fun L σ H P M en l R d l' h Q q => by
  obtain ⟨x, l1, e1, h⟩ := Res.bind_ok h
  refine h1 L σ H P M en l R x l1 e1 _ fun H1 P1 G1 => ?_
  cases x with
  | true => exact iteT (h2 L σ H1 P1 M en l1 (R.grow G1) d l' h Q fun H2 P2 G2 => q H2 P2 (G1.trans G2))
  | false => cases h; exact iteF (q H1 P1 G1)
theorem snd_or {K : PySem.W.Frag} {t u : TT} (h1 : SndT K t dt) (h2 : SndT K u du) : SndT K (tOr t u) (dOr dt du) := fun L σ H P M en l R d l' h Q q => by
  obtain ⟨x, l1, e1, h⟩ := Res.bind_ok h
  refine h1 L σ H P M en l R x l1 e1 _ fun H1 P1 G1 => ?_
  cases x with
  | true => cases h; exact iteT (q H1 P1 G1)
  | false => exact iteF (h2 L σ H1 P1 M en l1 (R.grow G1) d l' h Q fun H2 P2 G2 => q H2 P2 (G1.trans G2))
theorem pdw_and1 (h : PDT X a dt) : PDW X (.BoolOp .And [a] pos) dt := by
  obtain ⟨t, h1, h2⟩ := h
  exact ⟨t, pw_and1 h1, h2⟩
theorem pdw_or1 (h : PDT X a dt) : PDW X (.BoolOp .Or [a] pos) dt := by
  obtain ⟨t, h1, h2⟩ := h
  exact ⟨t, pw_or1 h1, h2⟩
theorem pdw_and (h : PDT X a dt) (k : PDW X (.BoolOp .And (b :: rest) pos) du) : PDW X (.BoolOp .And (a :: b :: rest) pos) (dAnd dt du) := by
  obtain ⟨t, h1, h2⟩ := h
  obtain ⟨u, k1, k2⟩ := k
  exact ⟨_, pw_and h1 k1, snd_and h2 k2⟩
theorem pdw_or (h : PDT X a dt) (k : PDW X (.BoolOp .Or (b :: rest) pos) du) : PDW X (.BoolOp .Or (a :: b :: rest) pos) (dOr dt du) := by
  obtain ⟨t, h1, h2⟩ := h
  obtain ⟨u, k1, k2⟩ := k
  exact ⟨_, pw_or h1 k1, snd_or h2 k2⟩
theorem pdt_w (h : PDW X e dt) : PDT X e dt := by
  obtain ⟨t, h1, h2⟩ := h
  exact ⟨t, h1.pt, h2⟩
/-! the same as values -/
def dAndV (a b : DE) : DE := fun en l => (dTest a en l).bind fun c l1 => match c with
  | true => b en l1
  | false => .ok (.bool false) l1
def dOrV (a b : DE) : DE := fun en l => (dTest a en l).bind fun c l1 => match c with
  | true => .ok (.bool true) l1
  | false => b en l1
def dNotV (a : DE) : DE := fun en l => (dTest a en l).bind fun c l1 => .ok (.bool (!c)) l1
theorem test_ok {en : En} {l l1 : Ld} {c : Bool} (h : dTest da en l = .ok c l1) : da en l = .ok (.bool c) l1 := by
  obtain ⟨x, l2, e1, h⟩ := Res.bind_ok h
  split at h
  · cases h
    exact e1
  · cases h
theorem pd_bone {op : BoolOp} (h : PD X a da) : PD X (.BoolOp op [a] pos) da := by
  obtain ⟨t, h1, h2⟩ := h
  exact ⟨t, pe_one h1, h2⟩
theorem pd_and (h : PD X a da) (k : PD X (.BoolOp .And (b :: rest) pos) db) : PD X (.BoolOp .And (a :: b :: rest) pos) (dAndV da db) := by
  obtain ⟨t, h1, h2⟩ := h
  obtain ⟨u, k1, k2⟩ := k
  refine ⟨_, pe_and h1 k1, fun L σ H P M en l R d l' h Q q => ?_⟩
  obtain ⟨c, l1, e1, h⟩ := Res.bind_ok h
  refine h2 L σ H P M en l R _ l1 (test_ok e1) _ fun v H1 P1 G1 r1 => ⟨c, r1.isBl, ?_⟩
  cases c with
  | true => exact iteT (k2 L σ H1 P1 M en l1 (R.grow G1) d l' h Q fun w H2 P2 G2 r2 => q w H2 P2 (G1.trans G2) r2)
  | false => cases h; exact iteF (q _ H1 P1 G1 (.bl false))
theorem pd_or (h : PD X a da) (k : PD X (.BoolOp .Or (b :: rest) pos) db) : PD X (.BoolOp .Or (a :: b :: rest) pos) (dOrV da db) := by
  obtain ⟨t, h1, h2⟩ := h
  obtain ⟨u, k1, k2⟩ := k
  refine ⟨_, pe_or h1 k1, fun L σ H P M en l R d l' h Q q => ?_⟩
  obtain ⟨c, l1, e1, h⟩ := Res.bind_ok h
  refine h2 L σ H P M en l R _ l1 (test_ok e1) _ fun v H1 P1 G1 r1 => ⟨c, r1.isBl, ?_⟩
  cases c with
  | true => cases h; exact iteT (q _ H1 P1 G1 (.bl true))
  | false => exact iteF (k2 L σ H1 P1 M en l1 (R.grow G1) d l' h Q fun w H2 P2 G2 r2 => q w H2 P2 (G1.trans G2) r2)
theorem pd_not (h : PD X a da) : PD X (.UnaryOp .Not a pos) (dNotV da) := by
  obtain ⟨t, h1, h2⟩ := h
  refine ⟨_, pe_not h1, fun L σ H P M en l R d l' h Q q => ?_⟩
  obtain ⟨c, l1, e1, h⟩ := Res.bind_ok h
  cases h
  exact h2 L σ H P M en l R _ _ (test_ok e1) _ fun v H1 P1 G1 r1 => ⟨c, r1.isBl, q _ H1 P1 G1 (.bl _)⟩
theorem pd_ite (hc : PDT X c dt) (h : PD X a da) (k : PD X b db) : PD X (.IfExp c a b pos) (dIf dt da db) := by
  obtain ⟨t, h1, h2⟩ := hc
  obtain ⟨ta, a1, a2⟩ := h
  obtain ⟨tb, b1, b2⟩ := k
  refine ⟨_, pe_ifExp h1 a1 b1, fun L σ H P M en l R d l' h Q q => ?_⟩
  obtain ⟨c, l1, e1, h⟩ := Res.bind_ok h
  refine h2 L σ H P M en l R c l1 e1 _ fun H1 P1 G1 => ?_
  cases c with
  | true => exact iteT (a2 L σ H1 P1 M en l1 (R.grow G1) d l' h Q fun w H2 P2 G2 r2 => q w H2 P2 (G1.trans G2) r2)
  | false => exact iteF (b2 L σ H1 P1 M en l1 (R.grow G1) d l' h Q fun w H2 P2 G2 r2 => q w H2 P2 (G1.trans G2) r2)
/-! isinstance -/
def tyN : D → String
  | .none => "NoneType"
  | .bool _ => "bool"
  | .int _ => "int"
  | .str _ => "str"
  | .list _ => "list"
  | .tuple _ => "tuple"
  | .dict _ => "dict"
theorem tyX_of {K : PySem.W.Frag} {H : Hp} {v : V} {d : D} (r : Rp K H v d) : TyX K H v (.type (tyN d)) := by
  cases r with
  | non => exact .base .non
  | bl b => exact .base (.bl b)
  | int i => exact .base (.int i)
  | str y => exact .base (.str y)
  | lst h _ => exact .base (.lst h)
  | dic h _ => exact .base (.dK h)
  | tup h _ =>
    rcases h with (h | ⟨o, h⟩) | ⟨o, its, n, h1, h2, _⟩
    · exact .base (.tup h)
    · exact .fTuple h
    · exact .kTuple h1 h2
def dIsi (T : String) (a : DE) : DE := fun en l => (a en l).bind fun x l1 => match kitB (tyN x) T with
  | some b => .ok (.bool b) l1
  | none => .no
theorem pd_isi {T : Str} {TT : String} {px : Pos} (hg : Gl X "isinstance") (hm : X.mg "isinstance" = none) (hT : Gl X T) (hmT : X.mg T = none) (hv : bootBuiltins T = some (.type TT)) (h : PD X e de) (nT : T ≠ "__name__" := by decide) (dT : (T == ("__debug__" : Str)) = false := by decide)
    (hb : bootBuiltins "isinstance" = some (.builtin "isinstance") := by decide +kernel)
    (s1 : starEach [e, .Name T px] X.env = (false, eval e X.env) :: starEach [.Name T px] X.env := by rfl) (s2 : (backTo pos (starEach [.Name T px] X.env)).any (·.1) = false := by rfl) (s3 : starEach [.Name T px] X.env = (false, eval (.Name T px) X.env) :: starEach [] X.env := by rfl) :
    PD X (.Call (.Name "isinstance" p) [e, .Name T px] [] pos) (dIsi TT de) := by
  obtain ⟨te, h1, h2⟩ := h
  refine ⟨_, pe_callB call_isi hg hm hb (pa_cons h1 (pa_cons (pe_bltn (v := .ty TT) hT hmT hv rfl nT dT) pa_nil s3) s1) (by decide) (by decide) s1 s2, fun L σ H P M en l R d l' h Q q => ?_⟩
  obtain ⟨x, l1, e1, h⟩ := Res.bind_ok h
  split at h
  · rename_i bb hb
    cases h
    refine h2 L σ H P M en l R x _ e1 _ fun v H1 P1 G1 r1 => ?_
    exact ⟨v, .ty TT, .type (tyN x), .type TT, bb, rfl, .ty TT, tyX_of (r1.mono (R.grow G1).pin), kit_ty hb, q _ _ _ G1 (.bl bb)⟩
  · cases h
/-! ### calls -/
theorem Grow.weak {L : Option Addr} {l l0 : Ld} {H P H' P' : Hp} (G : Grow none l0 H P H' P') (h : LodeAt L l H) : Grow L l H P H' P' := ⟨fun a o _ => G.keep a o (fun z => nomatch z), fun a z => G.keep a _ (fun z => nomatch z) (h a z), G.pp, G.ph, G.new⟩
/-- a def without draws: F its value -/
def spD (K : PySem.W.Frag) (n : Nat) (F : List D → Option D) : Sp := fun vs H Q _ => ∃ (P : Hp) (ds : List D) (d : D), vs.length = n ∧ Ex P H ∧ RpAll K P vs ds ∧ F ds = some d ∧ ∀ v H' P', Grow none ⟨0, 0, 0⟩ H P H' P' → Rp K P' v d → Q v H'
/-- a def whose first argument is the store -/
def spL (K : PySem.W.Frag) (n : Nat) (F : List D → Ld → Res D) : Sp := fun vs H Q _ => ∃ (P : Hp) (vs' : List V) (ds : List D) (d : D) (a : Addr) (l l' : Ld), vs = .ref a :: vs' ∧ vs'.length = n ∧ Ex P H ∧ P a = none ∧ H a = some l.ho ∧ RpAll K P vs' ds ∧ F ds l = .ok d l' ∧ ∀ v H' P', Grow (some a) l' H P H' P' → Rp K P' v d → Q v H'
def dCall (n : Nat) (F : List D → Option D) (a : DA) : DE := fun en l => (a en l).bind fun xs l1 => if xs.length = n then (match F xs with
  | some z => .ok z l1
  | none => .no) else .no
theorem snd_call {K : PySem.W.Frag} {n : Nat} {F : List D → Option D} {ta : TA} {E : XK} (ha : SndA K ta ds) : Snd K (tCall (spD K n F) [] E ta) (dCall n F ds) := fun L σ H P M en l R d l' h Q q => by
  obtain ⟨xs, l1, h1, h⟩ := Res.bind_ok h
  split at h
  · split at h
    · rename_i hn _ z hz
      cases h
      refine ha L σ H P M en l R xs _ h1 _ fun vs H1 P1 G1 r1 => ?_
      have R1 := R.grow G1
      have e : vs ++ [] = vs := List.append_nil vs
      rw [e]
      exact ⟨P1, xs, d, r1.length.trans hn, R1.pin, r1, hz, fun v H2 P2 G2 r2 => q v H2 P2 (G1.trans (G2.weak R1.lod)) r2⟩
    · cases h
  · cases h
variable {k n : Nat} {f : Addr} {fd : FuncData} {ps ks : List Str} {F : List D → Option D} {FL : List D → Ld → Res D}
theorem pd_call (G : FnG X.prog X.w X.K X.mg X.base CX0 k f fd ps (spD X.K n F)) (hg : X.A.guards = some []) (hr : Room k X.A) (hl : Gl X x) (hm : X.mg x = some (.ref f)) (hk : PySem.W.keepIn X.K (.ref f) = true) (hb : Binds X.K fd ps []) (ha : PDA X (e :: es) ds)
    (h1 : (x == ("__debug__" : Str)) = false := by decide) (h2 : starEach (e :: es) X.env = (false, eval e X.env) :: starEach es X.env := by rfl) (h3 : (backTo pos (starEach es X.env)).any (·.1) = false := by rfl) : PD X (.Call (.Name x p) (e :: es) [] pos) (dCall n F ds) := by
  obtain ⟨ta, a1, a2⟩ := ha
  exact ⟨_, pe_callG G hg hr hl hm hk hb pass0 a1 h1 h2 h3, snd_call a2⟩
theorem pd_call0 (G : FnG X.prog X.w X.K X.mg X.base CX0 k f fd ps (spD X.K n F)) (hg : X.A.guards = some []) (hr : Room k X.A) (hl : Gl X x) (hm : X.mg x = some (.ref f)) (hk : PySem.W.keepIn X.K (.ref f) = true) (hb : Binds X.K fd ps [])
    (h1 : (x == ("__debug__" : Str)) = false := by decide) : PD X (.Call (.Name x p) [] [] pos) (dCall n F dNil) := by
  obtain ⟨ta, a1, a2⟩ := (pda_nil : PDA X [] dNil)
  exact ⟨_, pe_callG0 G hg hr hl hm hk hb pass0 h1, snd_call (fun L σ H P M en l R d l' h Q q => by cases h; exact q _ _ _ R.refl .nil)⟩
/-- the store's name, then the rest -/
def dCallL (i n : Nat) (F : List D → Ld → Res D) (a : DA) : DE := fun en l => match en[i]? with
  | some (some .lode) => (a en l).bind fun xs l1 => if xs.length = n then F xs l1 else .no
  | _ => .no
theorem pd_callL {i : Nat} {y : Str} {px : Pos} (G : FnG X.prog X.w X.K X.mg X.base CX0 k f fd ps (spL X.K n FL)) (hg : X.A.guards = some []) (hr : Room k X.A) (hl : Gl X x) (hm : X.mg x = some (.ref f)) (hk : PySem.W.keepIn X.K (.ref f) = true) (hb : Binds X.K fd ps [])
    (hy : PE X (.Name y px) (tVar i)) (ha : PDA X es ds)
    (h1 : (x == ("__debug__" : Str)) = false := by decide) (h2 : starEach (.Name y px :: es) X.env = (false, eval (.Name y px) X.env) :: starEach es X.env := by rfl) (h3 : (backTo pos (starEach es X.env)).any (·.1) = false := by rfl) : PD X (.Call (.Name x p) (.Name y px :: es) [] pos) (dCallL i n FL ds) := by
  obtain ⟨ta, a1, a2⟩ := ha
  refine ⟨_, pe_callG G hg hr hl hm hk hb pass0 (pa_cons hy a1 h2) h1 h2 h3, fun L σ H P M en l R d l' h Q q => ?_⟩
  unfold dCallL at h
  split at h
  · rename_i hi
    obtain ⟨xs, l1, e1, h⟩ := Res.bind_ok h
    split at h
    · rename_i hn
      obtain ⟨a, rfl, hs⟩ := R.lo i hi
      refine ⟨.ref a, hs, a2 (some a) σ H P M en l R xs l1 e1 _ fun vs H1 P1 G1 r1 => ?_⟩
      have R1 := R.grow G1
      refine ⟨P1, vs, xs, d, a, l1, l', by simp, r1.length.trans hn, R1.pin, (R1.lop a rfl).1, R1.lod a rfl, r1, h, fun v H2 P2 G2 r2 => q v H2 P2 (G1.trans G2) r2⟩
    · cases h
  · cases h
/-! keywords -/
def PDK (X : Cx) (kws : List Keyword) (da : DA) : Prop := ∃ ta, PK X kws ta ∧ SndA X.K ta da
theorem pdk_nil : PDK X [] dNil := ⟨_, pk_nil, fun L σ H P M en l R d l' h Q q => by cases h; exact q _ _ _ R.refl .nil⟩
theorem pdk_cons {nm : Option Str} {kpos : Pos} {kws : List Keyword} (h : PD X e de) (k : PDK X kws ds) : PDK X (⟨nm, e, kpos⟩ :: kws) (dCons de ds) := by
  obtain ⟨ta, a1, a2⟩ := h
  obtain ⟨tb, b1, b2⟩ := k
  refine ⟨_, pk_cons a1 b1, fun L σ H P M en l R d l' h Q q => ?_⟩
  obtain ⟨x, l1, h1, h⟩ := Res.bind_ok h
  obtain ⟨xs, l2, h2, h⟩ := Res.bind_ok h
  cases h
  refine a2 L σ H P M en l R x l1 h1 _ fun v H1 P1 G1 r1 => ?_
  exact b2 L σ H1 P1 M en l1 (R.grow G1) xs _ h2 _ fun us H2 P2 G2 r2 => q _ H2 P2 (G1.trans G2) (.cons (r1.mono G2.pp) r2)
end
end Dx
end
section
set_option Elab.async false
set_option linter.all false
set_option maxRecDepth 100000
/-! Dx7: keyword calls; statements. -/
namespace Dx
open PySem PySem.Spec PyProof.Rows L2
section
variable {X : Cx} {CX : CXT} {e : Expr} {es : List Expr} {kws : List Keyword} {ds dk : DA} {pos p : Pos} {x : Str} {k n : Nat} {f : Addr} {fd : FuncData} {ps ks : List Str} {sp : Sp} {E : XK} {g : List Value → List Value → List Value} {gV : List V → List V → List V} {tk : TA}
/-- all by name: f(k = v, ..) -/
theorem pe_callG0K (G : FnG X.prog X.w X.K X.mg X.base CX k f fd ps sp) (hg : X.A.guards = some []) (hr : Room k X.A)
    (hl : Gl X x) (hm : X.mg x = some (.ref f)) (hk : PySem.W.keepIn X.K (.ref f) = true) (hb : KBinds X.K fd ps ks g gV) (hx : Passes CX X E) (hw : PK X kws tk)
    (h4 : (backToKw pos (keywordEach kws X.env)).all (·.1.isSome) = true := by rfl) (h5 : (backToKw pos (keywordEach kws X.env)).filterMap (·.1) = ks := by rfl)
    (h1 : (x == ("__debug__" : Str)) = false := by decide) (h3 : ((backTo pos (starEach [] X.env)).any (·.1) || (backToKw pos (keywordEach kws X.env)).any (·.1.isNone)) = false := by rfl) : PE X (.Call (.Name x p) [] kws pos) (tCallK sp gV E tNil tk) := by
  constructor
  intro pins s σ H Q I h
  refine wpAny_Call_Name_kw (ld_glob I hl hm ?_ h1)
  apply PySem.W.callWith_KW0 (h₀ := X.base) I.ok.mod.kin hk h4 _ h3
  refine thn (hw.run pos pins s σ H _ I h) ?_
  rintro ws s2 ⟨zs, H2, I2, rz, q2⟩
  rw [h5]
  have r2 := hb.rel .nil rz
  exact ⟨I2.kIn, runG G hg hr hx I2 (hb.to s2 [] ws I2.kIn (by rw [← r2.length]; exact G.size _ _ _ _ q2)) r2 q2⟩
/-- the keywords' values in the parameters' order: which place each parameter takes -/
def perm {α : Type} (js : List Nat) (xs : List α) : List α := js.filterMap fun j => xs[j]?
theorem perm_vals {vs : List V} {us : List Value} (r : Vals vs us) : ∀ js : List Nat, Vals (perm js vs) (perm js us)
  | [] => .nil
  | j :: js => by
    unfold perm
    rw [List.filterMap_cons, List.filterMap_cons]
    cases h : vs[j]? with
    | none =>
      rw [Vals.none_of r h]
      exact perm_vals r js
    | some v =>
      obtain ⟨u, h1, h2⟩ := Vals.get r h
      rw [h1]
      exact .cons h2 (perm_vals r js)
theorem perm_rp {K : PySem.W.Frag} {H : Hp} {vs : List V} {ds : List D} (r : RpAll K H vs ds) : ∀ js : List Nat, RpAll K H (perm js vs) (perm js ds)
  | [] => .nil
  | j :: js => by
    unfold perm
    rw [List.filterMap_cons, List.filterMap_cons]
    cases h : vs[j]? with
    | none =>
      have h2 : ds[j]? = none := by
        rw [List.getElem?_eq_none_iff] at h ⊢
        rw [← r.length]
        exact h
      rw [h2]
      exact perm_rp r js
    | some v =>
      obtain ⟨u, h1, h2⟩ := r.getV h
      rw [h1]
      exact .cons h2 (perm_rp r js)
/-- how keywords bind: js tells for each parameter the place of its keyword -/
def KwB (K : PySem.W.Frag) (fd : FuncData) (ps ks : List Str) (js : List Nat) : Prop := ∀ (s : Shared) (ws : List Value), K.In s.heap → ws.length = ks.length → BindsTo s fd ⟨[], ks.zip ws⟩ (ps.zip (perm js ws))
theorem perm_map {α β : Type} (f : α → β) (js : List Nat) (xs : List α) : perm js (xs.map f) = (perm js xs).map f := by
  unfold perm
  rw [List.map_filterMap]
  congr 1
  funext j
  rw [List.getElem?_map]
def dCallK (n m : Nat) (js : List Nat) (F : List D → Option D) (a : DA) : DE := fun en l => (a en l).bind fun xs l1 => if xs.length = m ∧ (perm js xs).length = n then (match F (perm js xs) with
  | some z => .ok z l1
  | none => .no) else .no
end
section
variable {X : Cx} {kws : List Keyword} {ds : DA} {pos p : Pos} {x : Str} {k n : Nat} {f : Addr} {fd : FuncData} {ps ks : List Str} {F : List D → Option D} {js : List Nat}
theorem pd_callK {m : Nat} (G : FnG X.prog X.w X.K X.mg X.base CX0 k f fd ps (spD X.K n F)) (hg : X.A.guards = some []) (hr : Room k X.A) (hl : Gl X x) (hm : X.mg x = some (.ref f)) (hk : PySem.W.keepIn X.K (.ref f) = true) (hb : KwB X.K fd ps ks js) (ha : PDK X kws ds)
    (h4 : (backToKw pos (keywordEach kws X.env)).all (·.1.isSome) = true := by rfl) (h5 : (backToKw pos (keywordEach kws X.env)).filterMap (·.1) = ks := by rfl)
    (h1 : (x == ("__debug__" : Str)) = false := by decide) (h3 : ((backTo pos (starEach [] X.env)).any (·.1) || (backToKw pos (keywordEach kws X.env)).any (·.1.isNone)) = false := by rfl) (hml : ks.length = m := by rfl) : PD X (.Call (.Name x p) [] kws pos) (dCallK n m js F ds) := by
  subst hml
  obtain ⟨tk, a1, a2⟩ := ha
  refine ⟨fun σ H Q => tk σ H fun zs H2 => zs.length = ks.length ∧ spD X.K n F (perm js zs) H2 Q E0, ⟨fun pins s σ H Q I h => ?_⟩, fun L σ H P M en l R d l' h Q q => ?_⟩
  · refine wpAny_Call_Name_kw (ld_glob I hl hm ?_ h1)
    apply PySem.W.callWith_KW0 (h₀ := X.base) I.ok.mod.kin hk h4 _ h3
    refine thn (a1.run pos pins s σ H _ I h) ?_
    rintro ws s2 ⟨zs, H2, I2, rz, hz, q2⟩
    rw [h5]
    exact ⟨I2.kIn, runG G hg hr pass0 I2 (hb s2 ws I2.kIn (by rw [← rz.length]; exact hz)) (perm_vals rz js) q2⟩
  · obtain ⟨xs, l1, e1, h⟩ := Res.bind_ok h
    split at h
    · split at h
      · rename_i hn _ z hz
        cases h
        refine a2 L σ H P M en l R xs _ e1 _ fun vs H1 P1 G1 r1 => ⟨r1.length.trans hn.1, ?_⟩
        have R1 := R.grow G1
        have r2 := perm_rp r1 js
        exact ⟨P1, perm js xs, d, r2.length.trans hn.2, R1.pin, r2, hz, fun v H2 P2 G2 r2 => q v H2 P2 (G1.trans (G2.weak R1.lod)) r2⟩
      · cases h
    · cases h
end

/-! ### statements -/
inductive SRes where
  | nx (en : En) (l : Ld)
  | rt (d : D) (l : Ld)
  | bk (en : En) (l : Ld)
  | ct (en : En) (l : Ld)
  | no
abbrev DS := En → Ld → SRes
structure Step (L : Option Addr) (l' : Ld) (H P M H' P' M' : Hp) : Prop where
  keep : ∀ a o, L ≠ some a → M a = none → H a = some o → H' a = some o
  lod : LodeAt L l' H'
  pp : Ex P P'
  ph : Ex P' H'
  new : ∀ a o, P' a = some o → P a = none → H a = none ∨ ∃ u, M a = some u
  newM : ∀ a o, M' a = some o → M a = none → H a = none
section
variable {K : PySem.W.Frag} {L : Option Addr} {σ : L2.St} {H P M H' P' M' H1 P1 M1 H2 P2 M2 : Hp} {en : En} {l l' l1 l2 : Ld}
theorem Grow.step (G : Grow L l' H P H' P') : Step L l' H P M H' P' M where
  keep := fun a o n _ h => G.keep a o n h
  lod := G.lod
  pp := G.pp
  ph := G.ph
  new := fun a o h n => .inl (G.new a o h n)
  newM := fun a o h n => by rw [n] at h; cases h
theorem Step.trans (a : Step L l1 H P M H1 P1 M1) (b : Step L l2 H1 P1 M1 H2 P2 M2) : Step L l2 H P M H2 P2 M2 := by
  have back : ∀ x, H1 x = none → H x = none ∨ ∃ u, M x = some u := fun x h1 => by
    cases h0 : H x with
    | none => exact .inl rfl
    | some u =>
      cases m0 : M x with
      | some w => exact .inr ⟨w, rfl⟩
      | none =>
        by_cases hl : L = some x
        · have q := a.lod x hl
          rw [h1] at q
          cases q
        · have q := a.keep x u hl m0 h0
          rw [h1] at q
          cases q
  have up : ∀ x u, M1 x = some u → H x = none ∨ ∃ u, M x = some u := fun x u h1 => by
    cases m0 : M x with
    | some w => exact .inr ⟨w, rfl⟩
    | none => exact .inl (a.newM x u h1 m0)
  refine ⟨fun x o n m h => ?_, b.lod, a.pp.trans b.pp, b.ph, fun x o h n => ?_, fun x o h m => ?_⟩
  · have h1 := a.keep x o n m h
    cases m1 : M1 x with
    | none => exact b.keep x o n m1 h1
    | some u =>
      have z := a.newM x u m1 m
      rw [h] at z
      cases z
  · cases p1 : P1 x with
    | some u => exact a.new x u p1 n
    | none =>
      rcases b.new x o h p1 with z | ⟨u, z⟩
      · exact back x z
      · exact up x u z
  · cases m1 : M1 x with
    | some u => exact a.newM x u m1 m
    | none =>
      have z := b.newM x o h m1
      rcases back x z with q | ⟨u, q⟩
      · exact q
      · rw [m] at q
        cases q
/-- what is wanted behind a statement, told by what it gives -/
def Then (K : PySem.W.Frag) (L : Option Addr) (H P M : Hp) (D : Ends) : SRes → Prop
  | .nx en' l' => ∀ σ' H' P' M', Step L l' H P M H' P' M' → Rep K L σ' H' P' M' en' l' → D.nx σ' H'
  | .rt d l' => ∀ v H' P' M', Step L l' H P M H' P' M' → Rp K P' v d → D.rt v H'
  | .bk en' l' => ∀ σ' H' P' M', Step L l' H P M H' P' M' → Rep K L σ' H' P' M' en' l' → D.bk σ' H'
  | .ct en' l' => ∀ σ' H' P' M', Step L l' H P M H' P' M' → Rep K L σ' H' P' M' en' l' → D.ct σ' H'
  | .no => False
theorem Then.step {D : Ends} (a : Step L l1 H P M H1 P1 M1) : ∀ {r : SRes}, Then K L H P M D r → Then K L H1 P1 M1 D r
  | .nx _ _, h => fun σ' H' P' M' b => h σ' H' P' M' (a.trans b)
  | .rt _ _, h => fun v H' P' M' b => h v H' P' M' (a.trans b)
  | .bk _ _, h => fun σ' H' P' M' b => h σ' H' P' M' (a.trans b)
  | .ct _ _, h => fun σ' H' P' M' b => h σ' H' P' M' (a.trans b)
  | .no, h => h
def SndS (K : PySem.W.Frag) (ts : TS) (ds : DS) : Prop := ∀ (L : Option Addr) (σ : L2.St) (H P M : Hp) (en : En) (l : Ld), Rep K L σ H P M en l → ∀ D : Ends, Then K L H P M D (ds en l) → ts D σ H
end
def PDS (X : Cx) (st : Stmt) (ds : DS) : Prop := ∃ ts, PS X st ts ∧ SndS X.K ts ds
def PDSs (X : Cx) (st : List Stmt) (ds : DS) : Prop := ∃ ts, PSs X st ts ∧ SndS X.K ts ds
def dNext : DS := fun en l => .nx en l
def dSeq (a b : DS) : DS := fun en l => match a en l with
  | .nx en' l' => b en' l'
  | r => r
def dSet (i : Nat) (a : DE) : DS := fun en l => match a en l with
  | .ok d l' => .nx (en.set i (some (.dat d))) l'
  | .no => .no
def dRet (a : DE) : DS := fun en l => match a en l with
  | .ok d l' => .rt d l'
  | .no => .no
def dDrop (a : DE) : DS := fun en l => match a en l with
  | .ok _ l' => .nx en l'
  | .no => .no
def dIfS (t : DT) (a b : DS) : DS := fun en l => match t en l with
  | .ok true l1 => a en l1
  | .ok false l1 => b en l1
  | .no => .no
def dBreak : DS := fun en l => .bk en l
def dCont : DS := fun en l => .ct en l
def dNever : DS := fun _ _ => .no
section
variable {K : PySem.W.Frag} {L : Option Addr} {σ : L2.St} {H P M H' P' M' : Hp} {en : En} {l l' : Ld}
theorem Rep.self (R : Rep K L σ H P M en l) : Step L l H P M H P M := R.refl.step
/-- a name gets a value -/
theorem Rep.put {i : Nat} {v : V} {d : D} (R : Rep K L σ H P M en l) (r : Rp K P v d) : Rep K L (σ.set i (some v)) H P M (en.set i (some (.dat d))) l where
  pin := R.pin
  min := R.min
  dis := R.dis
  lod := R.lod
  lop := R.lop
  dat := fun j d' h => by
    rw [List.getElem?_set] at h ⊢
    by_cases e : i = j
    · subst e
      rw [if_pos rfl] at h ⊢
      by_cases hl : i < en.length
      · rw [if_pos hl] at h
        rw [if_pos (by rw [R.len]; exact hl)]
        cases h
        exact ⟨v, rfl, r⟩
      · rw [if_neg hl] at h
        cases h
    · rw [if_neg e] at h ⊢
      exact R.dat j d' h
  own := fun j xs h => by
    rw [List.getElem?_set] at h
    by_cases e : i = j
    · subst e
      rw [if_pos rfl] at h
      split at h <;> cases h
    · rw [if_neg e] at h
      obtain ⟨p, vs, h1, h2, h3⟩ := R.own j xs h
      exact ⟨p, vs, by rw [List.getElem?_set, if_neg e]; exact h1, h2, h3⟩
  inj := fun j k xs ys p n h1 h2 h3 => by
    rw [List.getElem?_set] at h1 h2
    have ej : i ≠ j := fun e => by
      subst e
      rw [if_pos rfl] at h1
      split at h1 <;> cases h1
    have ek : i ≠ k := fun e => by
      subst e
      rw [if_pos rfl] at h2
      split at h2 <;> cases h2
    rw [if_neg ej] at h1
    rw [if_neg ek] at h2
    rw [List.getElem?_set, if_neg ej] at h3
    rw [List.getElem?_set, if_neg ek]
    exact R.inj j k xs ys p n h1 h2 h3
  lo := fun j h => by
    rw [List.getElem?_set] at h
    by_cases e : i = j
    · subst e
      rw [if_pos rfl] at h
      split at h <;> cases h
    · rw [if_neg e] at h
      obtain ⟨a, h1, h2⟩ := R.lo j h
      exact ⟨a, h1, by rw [List.getElem?_set, if_neg e]; exact h2⟩
  len := by rw [List.length_set, List.length_set]; exact R.len
end
section
variable {X : Cx} {st : Stmt} {rest a b : List Stmt} {du dw : DS} {c e : Expr} {de : DE} {dt : DT} {pos : Pos}
theorem pds_nil : PDSs X [] dNext := ⟨_, pss_nil, fun L σ H P M en l R D h => h σ H P M R.self R⟩
theorem pds_cons (h : PDS X st du) (k : PDSs X rest dw) : PDSs X (st :: rest) (dSeq du dw) := by
  obtain ⟨t, h1, h2⟩ := h
  obtain ⟨u, k1, k2⟩ := k
  refine ⟨_, pss_cons h1 k1, fun L σ H P M en l R D h => h2 L σ H P M en l R _ ?_⟩
  unfold dSeq at h
  split at h
  · rename_i en' l' e1
    rw [e1]
    intro σ' H' P' M' S R'
    exact k2 L σ' H' P' M' en' l' R' D (h.step S)
  · rename_i r hr
    cases e1 : du en l with
    | nx en' l' => exact (hr en' l' e1).elim
    | rt d l' => rw [e1] at h; exact h
    | bk en' l' => rw [e1] at h; exact h
    | ct en' l' => rw [e1] at h; exact h
    | no => rw [e1] at h; exact h
theorem pds_one (h : PDS X st du) : PDSs X [st] du := by
  obtain ⟨t, h1, h2⟩ := h
  exact ⟨t, pss_one h1, h2⟩
theorem pds_set {i : Nat} {x : Str} {p2 : Pos} (hN : X.N.Nodup) (h : PD X e de) (hi : X.N[i]? = some x := by rfl) (hx : Loc X.env.scope x := by first | exact Or.inl rfl | exact Or.inr rfl) (hs : swapsWith e (some (.Name x p2)) pos.line X.env = pure false := by rfl)
    (hf : X.fn x = true ∨ X.env.scope.names.lookup x = some .local := by first | exact Or.inl rfl | exact Or.inr rfl) : PDS X (.Assign [.Name x p2] e pos) (dSet i de) := by
  obtain ⟨t, h1, h2⟩ := h
  refine ⟨_, ps_set hN hi hx h1 hs hf, fun L σ H P M en l R D h => ?_⟩
  unfold dSet at h
  split at h
  · rename_i d l' e1
    exact h2 L σ H P M en l R d l' e1 _ fun v H1 P1 G1 r1 => h _ _ _ _ G1.step ((R.grow G1).put r1)
  · exact h.elim
theorem pds_ret (h : PD X e de) : PDS X (.Return (some e) pos) (dRet de) := by
  obtain ⟨t, h1, h2⟩ := h
  refine ⟨_, ps_ret h1, fun L σ H P M en l R D h => ?_⟩
  unfold dRet at h
  split at h
  · rename_i d l' e1
    exact h2 L σ H P M en l R d l' e1 _ fun v H1 P1 G1 r1 => h v H1 P1 M G1.step r1
  · exact h.elim
theorem pds_if (hc : PDT X c dt) (h : PDSs X a du) (k : PDSs X b dw) : PDS X (.If c a b pos) (dIfS dt du dw) := by
  obtain ⟨t, h1, h2⟩ := hc
  obtain ⟨u, u1, u2⟩ := h
  obtain ⟨w, w1, w2⟩ := k
  refine ⟨_, ps_if h1 u1 w1, fun L σ H P M en l R D h => ?_⟩
  unfold dIfS at h
  split at h
  · rename_i l1 e1
    exact h2 L σ H P M en l R true l1 e1 _ fun H1 P1 G1 => iteT (u2 L σ H1 P1 M en l1 (R.grow G1) D (h.step G1.step))
  · rename_i l1 e1
    exact h2 L σ H P M en l R false l1 e1 _ fun H1 P1 G1 => iteF (w2 L σ H1 P1 M en l1 (R.grow G1) D (h.step G1.step))
  · exact h.elim
theorem pds_never : PDS X st dNever := ⟨_, ps_never, fun L σ H P M en l R D h => h.elim⟩
theorem pds_pass : PDS X (.Pass pos) dNext := ⟨_, ps_pass, fun L σ H P M en l R D h => h σ H P M R.self R⟩
theorem pds_break : PDS X (.Break pos) dBreak := ⟨_, ps_break, fun L σ H P M en l R D h => h σ H P M R.self R⟩
theorem pds_cont : PDS X (.Continue pos) dCont := ⟨_, ps_continue, fun L σ H P M en l R D h => h σ H P M R.self R⟩
theorem pds_drop (h : PD X e de) (hs : swapsWith e none pos.line X.env = pure false := by rfl) : PDS X (.Expr e pos) (dDrop de) := by
  obtain ⟨t, h1, h2⟩ := h
  refine ⟨_, ps_expr h1 hs, fun L σ H P M en l R D h => ?_⟩
  unfold dDrop at h
  split at h
  · rename_i d l' e1
    exact h2 L σ H P M en l R d l' e1 _ fun v H1 P1 G1 r1 => h _ _ _ _ G1.step (R.grow G1)
  · exact h.elim
end
end Dx
end
section
set_option Elab.async false
set_option linter.all false
set_option maxRecDepth 100000
/-! Dx8: targets, walks, loops, comprehensions. -/
namespace Dx
open PySem PySem.Spec PyProof.Rows L2

/-! ### targets: dg tells the names' content behind, is the places that are stored -/
abbrev DG := D → En → Option En
abbrev DGs := List D → En → Option En
def SndG (K : PySem.W.Frag) (g : TG) (dg : DG) (is : List Nat) : Prop := ∀ (L : Option Addr) (σ : L2.St) (H P M : Hp) (en : En) (l : Ld), Rep K L σ H P M en l → ∀ v d en', Rp K P v d → dg d en = some en' → ∀ Q : L2.St → Hp → Prop,
  (∀ σ', Rep K L σ' H P M en' l → (∀ vs, (∀ i ∈ is, i ∈ vs) → wipe σ' vs = wipe σ vs) → Q σ' H) → g v σ H Q
def SndGs (K : PySem.W.Frag) (g : TGs) (dg : DGs) (is : List Nat) : Prop := ∀ (L : Option Addr) (σ : L2.St) (H P M : Hp) (en : En) (l : Ld), Rep K L σ H P M en l → ∀ ws ds en', RpAll K P ws ds → dg ds en = some en' → ∀ Q : L2.St → Hp → Prop,
  (∀ σ', Rep K L σ' H P M en' l → (∀ vs, (∀ i ∈ is, i ∈ vs) → wipe σ' vs = wipe σ vs) → Q σ' H) → g ws σ H Q
def PDG (X : Cx) (tg : Expr) (dg : DG) (is : List Nat) : Prop := ∃ g, PG X tg g ∧ SndG X.K g dg is
def PDGs (X : Cx) (tgs : List Expr) (dg : DGs) (is : List Nat) : Prop := ∃ g, PGs X tgs g ∧ SndGs X.K g dg is
def dName (i : Nat) : DG := fun d en => some (en.set i (some (.dat d)))
def dGNil : DGs := fun ds en => match ds with
  | [] => some en
  | _ => none
def dGCons (g : DG) (gs : DGs) : DGs := fun ds en => match ds with
  | d :: r => match g d en with
    | some en1 => gs r en1
    | none => none
  | [] => none
def dGTup (n : Nat) (gs : DGs) : DG := fun d en => match d with
  | .tuple ds => if ds.length = n then gs ds en else none
  | _ => none
theorem wipe_set {σ : L2.St} {i : Nat} {o : Option V} : ∀ {vs : List Nat}, i ∈ vs → wipe (σ.set i o) vs = wipe σ vs
  | v :: vs, h => by
    unfold wipe
    by_cases e : i = v
    · subst e
      by_cases m : i ∈ vs
      · rw [wipe_set m]
      · have z : ∀ (ws : List Nat), i ∉ ws → wipe (σ.set i o) ws = (wipe σ ws).set i o := by
          intro ws
          induction ws with
          | nil => intro _; rfl
          | cons w ws ih =>
            intro hw
            simp only [List.mem_cons, not_or] at hw
            unfold wipe
            rw [ih hw.2, List.set_comm _ _ hw.1]
        rw [z vs m, List.set_set]
    · rw [wipe_set (by simpa [e] using h)]
section
variable {X : Cx} {e : Expr} {es : List Expr} {pos : Pos} {dg : DG} {dgs : DGs} {is js : List Nat}
theorem pdg_name {i : Nat} {x : Str} (hN : X.N.Nodup) (hi : X.N[i]? = some x := by rfl) (hx : Loc X.env.scope x := by first | exact Or.inl rfl | exact Or.inr rfl) (hf : X.fn x = true ∨ X.env.scope.names.lookup x = some .local := by first | exact Or.inl rfl | exact Or.inr rfl) :
    PDG X (.Name x pos) (dName i) [i] := ⟨_, pg_name hN hi hx hf, fun L σ H P M en l R v d en' r h Q q => by
  cases h
  exact q _ (R.put r) fun vs h => wipe_set (h i (List.mem_cons_self ..))⟩
theorem pdg_nil : PDGs X [] dGNil [] := ⟨_, pgs_nil, fun L σ H P M en l R ws ds en' r h Q q => by
  unfold dGNil at h
  split at h
  · cases h
    cases r
    exact ⟨rfl, q σ R fun _ _ => rfl⟩
  · cases h⟩
theorem pdg_cons (h : PDG X e dg is) (k : PDGs X es dgs js) (hs : (assignEach (e :: es) X.env).map (·.2) = assign e X.env :: (assignEach es X.env).map (·.2) := by rfl) : PDGs X (e :: es) (dGCons dg dgs) (is ++ js) := by
  obtain ⟨g, g1, g2⟩ := h
  obtain ⟨u, u1, u2⟩ := k
  refine ⟨_, pgs_cons g1 u1 hs, fun L σ H P M en l R ws ds en' r h Q q => ?_⟩
  unfold dGCons at h
  cases r with
  | nil => cases h
  | cons ra rb =>
    dsimp only at h
    split at h
    · rename_i en1 e1
      refine ⟨_, _, rfl, g2 L σ H P M en l R _ _ en1 ra e1 _ fun σ1 R1 w1 => ?_⟩
      exact u2 L σ1 H P M en1 l R1 _ _ en' rb h _ fun σ2 R2 w2 => q σ2 R2 fun vs hv => (w2 vs fun i hi => hv i (List.mem_append_right _ hi)).trans (w1 vs fun i hi => hv i (List.mem_append_left _ hi))
    · cases h
theorem pdg_tup {k n : Nat} (hc : X.calm = true) (h : PDGs X es dgs is) (hn : (assignEach es X.env).length = n := by rfl) (hst : (assignEach es X.env).findIdx? (·.1) = none := by rfl) : PDG X (.Tuple es k pos) (dGTup n dgs) is := by
  obtain ⟨g, g1, g2⟩ := h
  refine ⟨_, pg_tup hc g1 hn hst, fun L σ H P M en l R v d en' r h Q q => ?_⟩
  unfold dGTup at h
  split at h
  · split at h
    · rename_i ds hl
      obtain ⟨a, xs, rfl, s1, r1⟩ := r.isTup
      exact ⟨a, xs, rfl, R.pin.t s1, r1.length.trans hl, g2 L σ H P M en l R _ _ en' r1 h Q q⟩
    · cases h
  · cases h
/-- targets = e -/
def dAsg (g : DG) (a : DE) : DS := fun en l => match a en l with
  | .ok d l' => match g d en with
    | some en' => .nx en' l'
    | none => .no
  | .no => .no
theorem pds_asg {tg : Expr} {de : DE} (h : PD X e de) (k : PDG X tg dg is) (hs : swapsWithSole [tg] e pos.line X.env = pure false := by rfl) (hw : swappedStores [tg] e X.env = pure none := by rfl)
    (h1 : (assignEach [tg] X.env).map (·.2) = [assign tg X.env] := by rfl) : PDS X (.Assign [tg] e pos) (dAsg dg de) := by
  obtain ⟨t, a1, a2⟩ := h
  obtain ⟨g, g1, g2⟩ := k
  refine ⟨_, ps_asg a1 g1 hs hw h1, fun L σ H P M en l R D h => ?_⟩
  unfold dAsg at h
  split at h
  · rename_i d l' e1
    split at h
    · rename_i en' e2
      exact a2 L σ H P M en l R d l' e1 _ fun v H1 P1 G1 r1 => g2 L σ H1 P1 M en l' (R.grow G1) v d en' r1 e2 _ fun σ2 R2 _ => h _ _ _ _ G1.step R2
    · exact h.elim
  · exact h.elim
/-- a, b = x, y | a, b, c = x, y, z -/
def dPar (is : List Nat) (a : DA) : DS := fun en l => match a en l with
  | .ok ds l' => if ds.length = is.length then .nx ((is.zip ds).foldl (fun en p => en.set p.1 (some (.dat p.2))) en) l' else .no
  | .no => .no
theorem pds_par {i j : Nat} {x y : Str} {a b : Expr} {px py pt : Pos} {kt k2 pt2} {ds : DA} (hc : X.calm = true) (hN : X.N.Nodup) (h : PDA X [a, b] ds) (hi : X.N[i]? = some x := by rfl) (hj : X.N[j]? = some y := by rfl) (hij : i ≠ j := by decide)
    (hx : X.env.scope.names.lookup x = some .local := by rfl) (hy : X.env.scope.names.lookup y = some .local := by rfl) (hw : swappedStores [.Tuple [.Name x px, .Name y py] kt pt] (.Tuple [a, b] k2 pt2) X.env = pure (some [x, y]) := by rfl)
    (hs : swapsWithSole [.Tuple [.Name x px, .Name y py] kt pt] (.Tuple [a, b] k2 pt2) pos.line X.env = pure false := by rfl) : PDS X (.Assign [.Tuple [.Name x px, .Name y py] kt pt] (.Tuple [a, b] k2 pt2) pos) (dPar [i, j] ds) := by
  obtain ⟨t, a1, a2⟩ := h
  refine ⟨_, ps_par hc hN hi hj hij hx hy a1 hw hs, fun L σ H P M en l R D h => ?_⟩
  unfold dPar at h
  split at h
  · rename_i xs l' e1
    split at h
    · rename_i hl
      refine a2 L σ H P M en l R xs l' e1 _ fun vs H1 P1 G1 r1 => ?_
      match xs, vs, r1, hl with
      | [_, _], [v, w], .cons ra (.cons rb .nil), _ => exact ⟨v, w, rfl, h _ _ _ _ G1.step (((R.grow G1).put ra).put rb)⟩
    · exact h.elim
  · exact h.elim
theorem pds_par3 {i j k : Nat} {x y z : Str} {a b c : Expr} {px py pz pt : Pos} {kt k2 pt2} {ds : DA} (hc : X.calm = true) (hN : X.N.Nodup) (h : PDA X [a, b, c] ds) (hi : X.N[i]? = some x := by rfl) (hj : X.N[j]? = some y := by rfl) (hk : X.N[k]? = some z := by rfl) (hij : i ≠ j := by decide) (hik : i ≠ k := by decide) (hjk : j ≠ k := by decide)
    (hx : X.env.scope.names.lookup x = some .local := by rfl) (hy : X.env.scope.names.lookup y = some .local := by rfl) (hz : X.env.scope.names.lookup z = some .local := by rfl)
    (hw : swappedStores [.Tuple [.Name x px, .Name y py, .Name z pz] kt pt] (.Tuple [a, b, c] k2 pt2) X.env = pure (some [x, y, z]) := by rfl)
    (hs : swapsWithSole [.Tuple [.Name x px, .Name y py, .Name z pz] kt pt] (.Tuple [a, b, c] k2 pt2) pos.line X.env = pure false := by rfl) : PDS X (.Assign [.Tuple [.Name x px, .Name y py, .Name z pz] kt pt] (.Tuple [a, b, c] k2 pt2) pos) (dPar [i, j, k] ds) := by
  obtain ⟨t, a1, a2⟩ := h
  refine ⟨_, ps_par3 hc hN hi hj hk hij hik hjk hx hy hz a1 hw hs, fun L σ H P M en l R D h => ?_⟩
  unfold dPar at h
  split at h
  · rename_i xs l' e1
    split at h
    · rename_i hl
      refine a2 L σ H P M en l R xs l' e1 _ fun vs H1 P1 G1 r1 => ?_
      match xs, vs, r1, hl with
      | [_, _, _], [v, w, u], .cons ra (.cons rb (.cons rc .nil)), _ => exact ⟨v, w, u, rfl, h _ _ _ _ G1.step ((((R.grow G1).put ra).put rb).put rc)⟩
    · exact h.elim
  · exact h.elim
end

/-! ### what is walked -/
structure Walks (K : PySem.W.Frag) (J : It) (L : Option Addr) (items : List D) (P0 : Hp) : Prop where
  go : ∀ (i : Nat) (H P : Hp) (l : Ld), Ex P0 P → Ex P H → LodeAt L l H → i < items.length → J.go i H
  yld : ∀ (i : Nat) (x : V) (d : D) (H P H' : Hp) (l : Ld), Ex P0 P → Ex P H → LodeAt L l H → J.yld i H x H' → items[i]? = some d → ∃ P', Grow L l H P H' P' ∧ Rp K P' x d
  stop : ∀ (i : Nat) (H P : Hp), Ex P0 P → Ex P H → items.length ≤ i → J.stop i H
abbrev DI := En → Ld → Res (List D)
def SndI (K : PySem.W.Frag) (wi : TI) (di : DI) : Prop := ∀ (L : Option Addr) (σ : L2.St) (H P M : Hp) (en : En) (l : Ld), Rep K L σ H P M en l → ∀ xs l', di en l = .ok xs l' → ∀ R : It → Hp → Prop, (∀ J H' P', Grow L l' H P H' P' → Walks K J L xs P' → R J H') → wi σ H R
def PDI (X : Cx) (tg it : Expr) (di : DI) : Prop := ∃ wi, PI X tg it wi ∧ SndI X.K wi di
theorem pi_or {X : Cx} {tg it : Expr} {w1 w2 : TI} (h1 : PI X tg it w1) (h2 : PI X tg it w2) : PI X tg it (fun σ H R => w1 σ H R ∨ w2 σ H R) := ⟨fun pins s σ H R I h => by
  rcases h with h | h
  · exact h1.run pins s σ H R I h
  · exact h2.run pins s σ H R I h⟩
theorem walks_l {K : PySem.W.Frag} {L : Option Addr} {a : Addr} {vs : List V} {ds : List D} {P : Hp} (h : P a = some (.lst vs)) (r : RpAll K P vs ds) : Walks K (Itl K a) L ds P where
  go := fun i H P1 l e1 e2 _ hi => by
    obtain ⟨v, h1, _⟩ := r.get (i := i) (d := ds[i]) (by simp [hi])
    exact ⟨vs, v, SqL.of (e2 _ _ (e1 _ _ h)), h1⟩
  yld := fun i x d H P1 H' l e1 e2 hl y hd => by
    obtain ⟨rfl, y⟩ := y
    obtain ⟨v, h1, h2⟩ := r.get hd
    have z := y vs (SqL.of (e2 _ _ (e1 _ _ h)))
    rw [h1] at z
    cases z
    exact ⟨P1, .refl e2 hl, h2.mono e1⟩
  stop := fun i H P1 e1 e2 hi => ⟨vs, SqL.of (e2 _ _ (e1 _ _ h)), by rw [r.length]; exact hi⟩
theorem walks_t {K : PySem.W.Frag} {L : Option Addr} {a : Addr} {vs : List V} {ds : List D} {P : Hp} (h : SqT K P a vs) (r : RpAll K P vs ds) : Walks K (Itt K a) L ds P where
  go := fun i H P1 l e1 e2 _ hi => by
    obtain ⟨v, h1, _⟩ := r.get (i := i) (d := ds[i]) (by simp [hi])
    exact ⟨vs, v, e2.t (e1.t h), h1⟩
  yld := fun i x d H P1 H' l e1 e2 hl y hd => by
    obtain ⟨rfl, y⟩ := y
    obtain ⟨v, h1, h2⟩ := r.get hd
    have z := y vs (e2.t (e1.t h))
    rw [h1] at z
    cases z
    exact ⟨P1, .refl e2 hl, h2.mono e1⟩
  stop := fun i H P1 e1 e2 hi => ⟨vs, e2.t (e1.t h), by rw [r.length]; exact hi⟩
def rngD (lo : Int) (n : Nat) : List D := (List.range n).map fun i => .int (lo + (i : Nat))
theorem walks_r {K : PySem.W.Frag} {L : Option Addr} {lo : Int} {n : Nat} {P : Hp} : Walks K (Itr lo n) L (rngD lo n) P where
  go := fun i H P1 l e1 e2 _ hi => by
    simp only [rngD, List.length_map, List.length_range] at hi
    exact hi
  yld := fun i x d H P1 H' l e1 e2 hl y hd => by
    obtain ⟨rfl, rfl⟩ := y
    refine ⟨P1, .refl e2 hl, ?_⟩
    unfold rngD at hd
    rw [List.getElem?_map] at hd
    cases h : (List.range n)[i]? with
    | none => rw [h] at hd; cases hd
    | some j =>
      rw [h] at hd
      cases hd
      have z := List.getElem?_eq_some_iff.mp h
      obtain ⟨z1, z2⟩ := z
      rw [List.getElem_range] at z2
      subst z2
      exact .int _
  stop := fun i H P1 e1 e2 hi => by
    simp only [rngD, List.length_map, List.length_range] at hi
    exact hi
def zipD (xs ys : List D) : List D := (xs.zip ys).map fun p => .tuple [p.1, p.2]
theorem zipD_get {xs ys : List D} {i : Nat} {d : D} (h : (zipD xs ys)[i]? = some d) : ∃ x y, xs[i]? = some x ∧ ys[i]? = some y ∧ d = .tuple [x, y] := by
  unfold zipD at h
  rw [List.getElem?_map] at h
  cases e : (xs.zip ys)[i]? with
  | none => rw [e] at h; cases h
  | some p =>
    rw [e] at h
    cases h
    obtain ⟨a, b⟩ := p
    rw [List.getElem?_zip_eq_some] at e
    exact ⟨a, b, e.1, e.2, rfl⟩
theorem zipD_len (xs ys : List D) : (zipD xs ys).length = min xs.length ys.length := by simp [zipD]
theorem pair_new {K : PySem.W.Frag} {L : Option Addr} {l : Ld} {H P : Hp} {T : Addr} {x y : V} {dx dy : D} (e2 : Ex P H) (hl : LodeAt L l H) (hT : H T = none) (r1 : Rp K P x dx) (r2 : Rp K P y dy) :
    ∃ P', Grow L l H P (upd H T (.tup [x, y])) P' ∧ Rp K P' (.ref T) (.tuple [dx, dy]) := by
  have G := Grow.laid (o := .tup [x, y]) e2 hl hT
  exact ⟨_, G, .tup (.inl (.inl upd_same)) (.cons (r1.mono G.pp) (.cons (r2.mono G.pp) .nil))⟩
theorem walks_zl {K : PySem.W.Frag} {L : Option Addr} {a b : Addr} {vs ws : List V} {ds es : List D} {P : Hp} (h : P a = some (.lst vs)) (k : P b = some (.lst ws)) (r : RpAll K P vs ds) (s : RpAll K P ws es) : Walks K (Itz K a b) L (zipD ds es) P where
  go := fun i H P1 l e1 e2 _ hi => by
    rw [zipD_len] at hi
    obtain ⟨v, h1, _⟩ := r.get (i := i) (d := ds[i]'(by omega)) (by simp)
    obtain ⟨w, h2, _⟩ := s.get (i := i) (d := es[i]'(by omega)) (by simp)
    exact ⟨vs, ws, v, w, SqL.of (e2 _ _ (e1 _ _ h)), SqL.of (e2 _ _ (e1 _ _ k)), h1, h2⟩
  yld := fun i x d H P1 H' l e1 e2 hl y hd => by
    obtain ⟨T, v, w, rfl, hT, rfl, y1, y2⟩ := y
    obtain ⟨dx, dy, h1, h2, rfl⟩ := zipD_get hd
    obtain ⟨v', g1, g2⟩ := r.get h1
    obtain ⟨w', g3, g4⟩ := s.get h2
    have z1 := y1 vs (SqL.of (e2 _ _ (e1 _ _ h)))
    have z2 := y2 ws (SqL.of (e2 _ _ (e1 _ _ k)))
    rw [g1] at z1
    rw [g3] at z2
    cases z1
    cases z2
    exact pair_new e2 hl hT (g2.mono e1) (g4.mono e1)
  stop := fun i H P1 e1 e2 hi => by
    rw [zipD_len] at hi
    refine ⟨vs, ws, SqL.of (e2 _ _ (e1 _ _ h)), SqL.of (e2 _ _ (e1 _ _ k)), ?_⟩
    rw [r.length, s.length]
    omega
theorem walks_zt {K : PySem.W.Frag} {L : Option Addr} {a b : Addr} {vs ws : List V} {ds es : List D} {P : Hp} (h : SqT K P a vs) (k : SqT K P b ws) (r : RpAll K P vs ds) (s : RpAll K P ws es) : Walks K (RZ.ItzT K a b) L (zipD ds es) P where
  go := fun i H P1 l e1 e2 _ hi => by
    rw [zipD_len] at hi
    obtain ⟨v, h1, _⟩ := r.get (i := i) (d := ds[i]'(by omega)) (by simp)
    obtain ⟨w, h2, _⟩ := s.get (i := i) (d := es[i]'(by omega)) (by simp)
    exact ⟨vs, ws, v, w, e2.t (e1.t h), e2.t (e1.t k), h1, h2⟩
  yld := fun i x d H P1 H' l e1 e2 hl y hd => by
    obtain ⟨T, v, w, rfl, hT, rfl, y1, y2⟩ := y
    obtain ⟨dx, dy, h1, h2, rfl⟩ := zipD_get hd
    obtain ⟨v', g1, g2⟩ := r.get h1
    obtain ⟨w', g3, g4⟩ := s.get h2
    have z1 := y1 vs (e2.t (e1.t h))
    have z2 := y2 ws (e2.t (e1.t k))
    rw [g1] at z1
    rw [g3] at z2
    cases z1
    cases z2
    exact pair_new e2 hl hT (g2.mono e1) (g4.mono e1)
  stop := fun i H P1 e1 e2 hi => by
    rw [zipD_len] at hi
    refine ⟨vs, ws, e2.t (e1.t h), e2.t (e1.t k), ?_⟩
    rw [r.length, s.length]
    omega
def dIt (a : DE) : DI := fun en l => (a en l).bind fun d l1 => match d with
  | .tuple xs => .ok xs l1
  | .list xs => .ok xs l1
  | _ => .no
def dRng1 (a : DA) : DI := fun en l => (a en l).bind fun ds l1 => match ds with
  | [.int n] => if n ≤ 1000000 ∧ -1000000 ≤ n then .ok (rngD 0 n.toNat) l1 else .no
  | _ => .no
def dRng2 (a : DA) : DI := fun en l => (a en l).bind fun ds l1 => match ds with
  | [.int i, .int j] => if j ≤ 1000000 ∧ -1000000 ≤ j ∧ i ≤ 1000000 ∧ -1000000 ≤ i then .ok (rngD i (j - i).toNat) l1 else .no
  | _ => .no
def dZip (a : DA) : DI := fun en l => (a en l).bind fun ds l1 => match ds with
  | [.tuple xs, .tuple ys] => .ok (zipD xs ys) l1
  | [.list xs, .list ys] => .ok (zipD xs ys) l1
  | _ => .no
section
variable {X : Cx} {tg e e2 : Expr} {de : DE} {ds : DA} {p pos : Pos}
theorem pdi_seq (h : PD X e de) : PDI X tg e (dIt de) := by
  obtain ⟨t, h1, h2⟩ := h
  refine ⟨_, pi_or (pi_list h1) (pi_tup h1), fun L σ H P M en l R xs l' h Rr q => ?_⟩
  obtain ⟨d, l1, e1, h⟩ := Res.bind_ok h
  split at h
  · cases h
    refine Or.inr (h2 L σ H P M en l R _ _ e1 _ fun v H1 P1 G1 r1 => ?_)
    obtain ⟨a, vs, rfl, s1, r2⟩ := r1.isTup
    exact ⟨a, rfl, ⟨vs, G1.ph.t s1⟩, q _ _ _ G1 (walks_t s1 r2)⟩
  · cases h
    refine Or.inl (h2 L σ H P M en l R _ _ e1 _ fun v H1 P1 G1 r1 => ?_)
    obtain ⟨a, vs, rfl, s1, r2⟩ := r1.isLst
    exact ⟨a, rfl, ⟨vs, SqL.of (G1.ph _ _ s1)⟩, q _ _ _ G1 (walks_l s1 r2)⟩
  · cases h
theorem pdi_range1 {a : Expr} (hg : Gl X "range") (hm : X.mg "range" = none) (h : PDA X [a] ds) (hs : starEach [a] X.env = [(false, eval a X.env)] := by rfl) : PDI X tg (.Call (.Name "range" p) [a] [] pos) (dRng1 ds) := by
  obtain ⟨t, h1, h2⟩ := h
  refine ⟨_, pi_range1 hg hm h1 hs, fun L σ H P M en l R xs l' h Rr q => ?_⟩
  obtain ⟨d, l1, e1, h⟩ := Res.bind_ok h
  split at h
  · split at h
    · rename_i n hn
      cases h
      refine h2 L σ H P M en l R _ _ e1 _ fun vs H1 P1 G1 r1 => ?_
      cases r1 with
      | cons ra rb =>
        cases rb
        rw [ra.isInt]
        exact ⟨n, rfl, by omega, by omega, q _ _ _ G1 walks_r⟩
    · cases h
  · cases h
theorem pdi_range2 {a b : Expr} (hg : Gl X "range") (hm : X.mg "range" = none) (h : PDA X [a, b] ds) (hs : starEach [a, b] X.env = [(false, eval a X.env), (false, eval b X.env)] := by rfl) (hs2 : starEach [b] X.env = [(false, eval b X.env)] := by rfl) : PDI X tg (.Call (.Name "range" p) [a, b] [] pos) (dRng2 ds) := by
  obtain ⟨t, h1, h2⟩ := h
  refine ⟨_, pi_range2 hg hm h1 hs hs2, fun L σ H P M en l R xs l' h Rr q => ?_⟩
  obtain ⟨d, l1, e1, h⟩ := Res.bind_ok h
  split at h
  · split at h
    · rename_i i j hn
      cases h
      refine h2 L σ H P M en l R _ _ e1 _ fun vs H1 P1 G1 r1 => ?_
      cases r1 with
      | cons ra rb =>
        cases rb with
        | cons rb rc =>
          cases rc
          rw [ra.isInt, rb.isInt]
          exact ⟨i, j, rfl, ⟨by omega, by omega, by omega, by omega⟩, q _ _ _ G1 walks_r⟩
    · cases h
  · cases h
theorem pdi_zip {elts : List Expr} {kk : Nat} {tpos : Pos} (hg : Gl X "zip") (hm : X.mg "zip" = none) (h : PDA X [e, e2] ds) (hs : starEach [e, e2] X.env = (false, eval e X.env) :: starEach [e2] X.env := by rfl) (hpl : (backTo pos (starEach [e2] X.env)).any (·.1) = false := by rfl) :
    PDI X (.Tuple elts kk tpos) (.Call (.Name "zip" p) [e, e2] [] pos) (dZip ds) := by
  obtain ⟨t, h1, h2⟩ := h
  refine ⟨_, RZ.pi_zipA hg hm h1 hs hpl, fun L σ H P M en l R xs l' h Rr q => ?_⟩
  obtain ⟨d, l1, e1, h⟩ := Res.bind_ok h
  split at h
  · cases h
    refine h2 L σ H P M en l R _ _ e1 _ fun vs H1 P1 G1 r1 => ?_
    cases r1 with
    | cons ra rb =>
      cases rb with
      | cons rb rc =>
        cases rc
        obtain ⟨a, vs, rfl, s1, r2⟩ := ra.isTup
        obtain ⟨b, ws, rfl, s2, r3⟩ := rb.isTup
        exact ⟨a, b, vs, ws, rfl, .inr ⟨G1.ph.t s1, G1.ph.t s2, q _ _ _ G1 (walks_zt s1 s2 r2 r3)⟩⟩
  · cases h
    refine h2 L σ H P M en l R _ _ e1 _ fun vs H1 P1 G1 r1 => ?_
    cases r1 with
    | cons ra rb =>
      cases rb with
      | cons rb rc =>
        cases rc
        obtain ⟨a, vs, rfl, s1, r2⟩ := ra.isLst
        obtain ⟨b, ws, rfl, s2, r3⟩ := rb.isLst
        exact ⟨a, b, vs, ws, rfl, .inl ⟨SqL.of (G1.ph _ _ s1), SqL.of (G1.ph _ _ s2), q _ _ _ G1 (walks_zl s1 s2 r2 r3)⟩⟩
  · cases h
end

/-! ### for, while -/
def forL (g : DG) (b : DS) : List D → En → Ld → SRes
  | [], en, l => .nx en l
  | d :: ds, en, l => match g d en with
    | none => .no
    | some en1 => match b en1 l with
      | .nx en' l' => forL g b ds en' l'
      | .ct en' l' => forL g b ds en' l'
      | .bk en' l' => .nx en' l'
      | .rt d l' => .rt d l'
      | .no => .no
def dFor (di : DI) (g : DG) (b : DS) : DS := fun en l => match di en l with
  | .ok xs l' => forL g b xs en l'
  | .no => .no
def loopW (c : DT) (b : DS) : Nat → En → Ld → SRes
  | 0, _, _ => .no
  | n + 1, en, l => match c en l with
    | .no => .no
    | .ok false l1 => .nx en l1
    | .ok true l1 => match b en l1 with
      | .nx en' l' => loopW c b n en' l'
      | .ct en' l' => loopW c b n en' l'
      | .bk en' l' => .nx en' l'
      | .rt d l' => .rt d l'
      | .no => .no
open Classical in
noncomputable def dWhile (c : DT) (b : DS) : DS := fun en l => if h : ∃ n, loopW c b n en l ≠ .no then loopW c b h.choose en l else .no
theorem loopW_up {c : DT} {b : DS} : ∀ {n : Nat} {en : En} {l : Ld} (k : Nat), loopW c b n en l ≠ .no → loopW c b (n + k) en l = loopW c b n en l
  | 0, _, _, _, h => absurd rfl h
  | n + 1, en, l, k, h => by
    have e : n + 1 + k = (n + k) + 1 := by omega
    rw [e]
    unfold loopW at h ⊢
    cases hc : c en l with
    | no => rfl
    | ok t l1 =>
      cases t with
      | false => rfl
      | true =>
        rw [hc] at h
        dsimp only at h ⊢
        cases hb : b en l1 with
        | nx en' l' =>
          rw [hb] at h
          dsimp only at h ⊢
          exact loopW_up k h
        | ct en' l' =>
          rw [hb] at h
          dsimp only at h ⊢
          exact loopW_up k h
        | bk _ _ => rfl
        | rt _ _ => rfl
        | no => rfl
theorem dWhile_eq {c : DT} {b : DS} {n : Nat} {en : En} {l : Ld} {r : SRes} (h : loopW c b n en l = r) (hr : r ≠ .no) : dWhile c b en l = r := by
  have hx : ∃ n, loopW c b n en l ≠ .no := ⟨n, by rw [h]; exact hr⟩
  unfold dWhile
  rw [dif_pos hx]
  have h2 := hx.choose_spec
  generalize hx.choose = m at h2
  have a1 := loopW_up n h2
  have a2 := loopW_up (n := n) m (by rw [h]; exact hr)
  rw [Nat.add_comm] at a2
  rw [← a1, a2, h]
section
variable {X : Cx} {tg it c : Expr} {body : List Stmt} {di : DI} {dg : DG} {is : List Nat} {db : DS} {dt : DT} {pos : Pos}
theorem pds_for (hc : X.calm = true) (hi : PDI X tg it di) (hg : PDG X tg dg is) (hb : PDSs X body db) (hp : PassesOwn (model X.prog X.w) X.A X.env X.xe) (hs : ∀ x, foldedSetIterable it X.env x = pure x := by intro _; rfl) : PDS X (.For tg it body [] pos) (dFor di dg db) := by
  obtain ⟨wi, i1, i2⟩ := hi
  obtain ⟨g, g1, g2⟩ := hg
  obtain ⟨tb, b1, b2⟩ := hb
  refine ⟨_, ps_for hp hc i1 g1 b1 hs, fun L σ H P M en l R D h => ?_⟩
  unfold dFor at h
  split at h
  · rename_i xs l' e1
    refine i2 L σ H P M en l R xs l' e1 _ fun J H1 P1 G1 W1 => ?_
    refine ⟨fun i m σ' H' => ∃ P' M' en' l'', m = xs.length - i ∧ i ≤ xs.length ∧ Rep X.K L σ' H' P' M' en' l'' ∧ Ex P1 P' ∧ Then X.K L H' P' M' D (forL dg db (xs.drop i) en' l''), ⟨_, P1, M, en, l', rfl, Nat.zero_le _, R.grow G1, .refl _, by rw [List.drop_zero]; exact h.step G1.step⟩, ?_⟩
    rintro i m σ2 H2 ⟨P2, M2, en2, l2, rfl, hi, R2, e2, h2⟩
    by_cases hlt : i < xs.length
    · refine Or.inr ⟨W1.go i H2 P2 l2 e2 R2.pin R2.lod hlt, fun σ' H' => ∃ P' M' en' l'', Rep X.K L σ' H' P' M' en' l'' ∧ Ex P1 P' ∧ Then X.K L H' P' M' D (forL dg db (xs.drop (i + 1)) en' l''), ?_, ?_⟩
      · rintro σ' H' ⟨P', M', en', l'', R', e', h'⟩
        exact ⟨xs.length - (i + 1), by omega, P', M', en', l'', rfl, by omega, R', e', h'⟩
      · intro x H3 y
        have hd : xs[i]? = some xs[i] := by simp
        obtain ⟨P3, G3, r3⟩ := W1.yld i x xs[i] H2 P2 H3 l2 e2 R2.pin R2.lod y hd
        have R3 := R2.grow G3
        have h3 : Then X.K L H3 P3 M2 D (forL dg db (xs.drop i) en2 l2) := h2.step G3.step
        rw [List.drop_eq_getElem_cons hlt] at h3
        unfold forL at h3
        cases e4 : dg xs[i] en2 with
        | none => rw [e4] at h3; exact h3.elim
        | some en4 =>
          rw [e4] at h3
          dsimp only at h3
          refine g2 L σ2 H3 P3 M2 en2 l2 R3 x xs[i] en4 r3 e4 _ fun σ4 R4 _ => ?_
          refine b2 L σ4 H3 P3 M2 en4 l2 R4 _ ?_
          cases e5 : db en4 l2 with
          | nx en' l' =>
            rw [e5] at h3
            exact fun σ' H' P' M' S R' => ⟨P', M', en', l', R', (e2.trans G3.pp).trans S.pp, h3.step S⟩
          | ct en' l' =>
            rw [e5] at h3
            exact fun σ' H' P' M' S R' => ⟨P', M', en', l', R', (e2.trans G3.pp).trans S.pp, h3.step S⟩
          | bk en' l' =>
            rw [e5] at h3
            exact h3
          | rt d l' =>
            rw [e5] at h3
            exact h3
          | no =>
            rw [e5] at h3
            exact h3.elim
    · have e : i = xs.length := by omega
      subst e
      rw [List.drop_length] at h2
      exact Or.inl ⟨W1.stop _ H2 P2 e2 R2.pin (Nat.le_refl _), h2 σ2 H2 P2 M2 R2.self R2⟩
  · exact h.elim
theorem snd_while {K : PySem.W.Frag} {tc : TT} {tb : TS} (h1 : SndT K tc dt) (h2 : SndS K tb db) (n : Nat) : SndS K (tWhile tc tb) (loopW dt db n) := fun L σ H P M en l R D h => by
  refine ⟨fun m σ' H' => ∃ P' M' en' l', Rep K L σ' H' P' M' en' l' ∧ Then K L H' P' M' D (loopW dt db m en' l'), ⟨n, P, M, en, l, R, h⟩, ?_⟩
  rintro m σ2 H2 ⟨P2, M2, en2, l2, R2, h2'⟩
  cases m with
  | zero => exact h2'.elim
  | succ m =>
    unfold loopW at h2'
    cases e1 : dt en2 l2 with
    | no => rw [e1] at h2'; exact h2'.elim
    | ok t l3 =>
      rw [e1] at h2'
      refine h1 L σ2 H2 P2 M2 en2 l2 R2 t l3 e1 _ fun H3 P3 G3 => ?_
      cases t with
      | false => exact iteF (h2' σ2 H3 P3 M2 G3.step (R2.grow G3))
      | true =>
        refine iteT ⟨fun σ' H' => ∃ P' M' en' l', Rep K L σ' H' P' M' en' l' ∧ Then K L H' P' M' D (loopW dt db m en' l'), fun σ' H' ⟨P', M', en', l', R', h'⟩ => ⟨m, Nat.lt_succ_self m, P', M', en', l', R', h'⟩, ?_⟩
        have h3 := h2'.step G3.step
        refine h2 L σ2 H3 P3 M2 en2 l3 (R2.grow G3) _ ?_
        dsimp only at h3
        cases e5 : db en2 l3 with
        | nx en' l' =>
          rw [e5] at h3
          exact fun σ' H' P' M' S R' => ⟨P', M', en', l', R', h3.step S⟩
        | ct en' l' =>
          rw [e5] at h3
          exact fun σ' H' P' M' S R' => ⟨P', M', en', l', R', h3.step S⟩
        | bk en' l' =>
          rw [e5] at h3
          exact h3
        | rt d l' =>
          rw [e5] at h3
          exact h3
        | no =>
          rw [e5] at h3
          exact h3.elim
theorem pds_while (hc : PDT X c dt) (hb : PDSs X body db) (hp : PassesOwn (model X.prog X.w) X.A X.env X.xe) : PDS X (.While c body [] pos) (dWhile dt db) := by
  obtain ⟨tc, c1, c2⟩ := hc
  obtain ⟨tb, b1, b2⟩ := hb
  refine ⟨_, ps_while hp c1 b1, fun L σ H P M en l R D h => ?_⟩
  unfold dWhile at h
  split at h
  · exact snd_while c2 b2 _ L σ H P M en l R D h
  · exact h.elim
end
end Dx
end
section
set_option Elab.async false
set_option linter.all false
set_option maxRecDepth 100000
/-! Dx9: comprehensions, lists that grow, defs. -/
namespace Dx
open PySem PySem.Spec PyProof.Rows L2

section
variable {K : PySem.W.Frag} {L : Option Addr} {σ : L2.St} {H P M H' P' M' : Hp} {en : En} {l l' : Ld}
/-- a place that nothing leans on may change -/
theorem Rep.off {p : Addr} {o : HO} (R : Rep K L σ H P M en l) (hp : P p = none) (hm : M p = none) (hl : L ≠ some p) : Rep K L σ (upd H p o) P M en l where
  pin := fun a u h => by rw [upd_ne (ne_of_none h hp)]; exact R.pin a u h
  min := fun a u h => by rw [upd_ne (ne_of_none h hm)]; exact R.min a u h
  dis := R.dis
  lod := fun a e => by rw [upd_ne (fun z => hl (by rw [e, z]))]; exact R.lod a e
  lop := R.lop
  dat := R.dat
  own := R.own
  inj := R.inj
  lo := R.lo
  len := R.len
def wipeE (en : En) : List Nat → En
  | [] => en
  | v :: vs => (wipeE en vs).set v none
theorem wipeE_length (en : En) : ∀ vs : List Nat, (wipeE en vs).length = en.length
  | [] => rfl
  | v :: vs => by unfold wipeE; rw [List.length_set, wipeE_length en vs]
theorem wipe_get (σ : L2.St) (i : Nat) : ∀ vs : List Nat, i ∉ vs → (wipe σ vs)[i]? = σ[i]?
  | [], _ => rfl
  | v :: vs, h => by
    simp only [List.mem_cons, not_or] at h
    unfold wipe
    rw [List.getElem?_set_ne (fun e => h.1 e.symm), wipe_get σ i vs h.2]
theorem wipeE_get {en : En} {i : Nat} {o : Sl} : ∀ {vs : List Nat}, (wipeE en vs)[i]? = some (some o) → en[i]? = some (some o) ∧ i ∉ vs
  | [], h => ⟨h, by simp⟩
  | v :: vs, h => by
    unfold wipeE at h
    by_cases e : v = i
    · subst e
      rw [List.getElem?_set] at h
      rw [if_pos rfl] at h
      split at h <;> cases h
    · rw [List.getElem?_set_ne e] at h
      obtain ⟨h1, h2⟩ := wipeE_get h
      exact ⟨h1, by simp only [List.mem_cons, not_or]; exact ⟨fun z => e z.symm, h2⟩⟩
theorem Rep.wiped (R : Rep K L σ H P M en l) (vs : List Nat) : Rep K L (wipe σ vs) H P M (wipeE en vs) l where
  pin := R.pin
  min := R.min
  dis := R.dis
  lod := R.lod
  lop := R.lop
  dat := fun i d h => by
    obtain ⟨h1, h2⟩ := wipeE_get h
    rw [wipe_get σ i vs h2]
    exact R.dat i d h1
  own := fun i xs h => by
    obtain ⟨h1, h2⟩ := wipeE_get h
    rw [wipe_get σ i vs h2]
    exact R.own i xs h1
  inj := fun i j xs ys p n h k => by
    obtain ⟨h1, h2⟩ := wipeE_get h
    obtain ⟨k1, k2⟩ := wipeE_get k
    rw [wipe_get σ i vs h2, wipe_get σ j vs k2]
    exact R.inj i j xs ys p n h1 k1
  lo := fun i h => by
    obtain ⟨h1, h2⟩ := wipeE_get h
    rw [wipe_get σ i vs h2]
    exact R.lo i h1
  len := by rw [wipe_length, wipeE_length]; exact R.len
end
/-! ### comprehensions -/
def lcL (g : DG) (t : DT) (e : DE) (en0 : En) : List D → Ld → Res (List D)
  | [], l => .ok [] l
  | d :: ds, l => match g d en0 with
    | none => .no
    | some en1 => (t en1 l).bind fun c l1 => match c with
      | true => (e en1 l1).bind fun y l2 => (lcL g t e en0 ds l2).bind fun ys l3 => .ok (y :: ys) l3
      | false => lcL g t e en0 ds l1
def dYes : DT := fun _ l => .ok true l
def dLc (own : List Nat) (di : DI) (g : DG) (t : DT) (e : DE) : DE := fun en l => (di en l).bind fun xs l1 => if xs.length ≤ 10000 then (lcL g t e (wipeE en own) xs l1).bind fun ys l2 => .ok (.list ys) l2 else .no
section
variable {X : Cx}
theorem wipe_twice {σ : L2.St} {vs : List Nat} : ∀ {us : List Nat}, (∀ u ∈ us, u ∈ vs) → wipe (wipe σ us) vs = wipe σ vs
  | [], _ => rfl
  | u :: us, h => by
    show wipe ((wipe σ us).set u none) vs = _
    rw [wipe_set (h u (List.mem_cons_self ..))]
    exact wipe_twice fun w hw => h w (List.mem_cons_of_mem _ hw)
theorem snd_lc {K : PySem.W.Frag} {wi : TI} {g : TG} {tt : TT} {te : TE} {di : DI} {dg : DG} {dt : DT} {de : DE} {own is : List Nat} (hi : SndI K wi di) (hg : SndG K g dg is) (his : ∀ i ∈ is, i ∈ own) (ht : SndT K tt dt) (he : Snd K te de) : Snd K (tLc wi g tt te own) (dLc own di dg dt de) := fun L σ H P M en l R d l' h Q q => by
  obtain ⟨xs, l1, e1, h⟩ := Res.bind_ok h
  split at h
  · rename_i hz
    obtain ⟨ys, l2, e2, h⟩ := Res.bind_ok h
    cases h
    refine hi L σ H P M en l R xs l1 e1 _ fun J H1 P1 G1 W1 => ?_
    intro DL hD
    have R1 := R.grow G1
    have pD : P1 DL = none := by
      cases z : P1 DL with
      | none => rfl
      | some u =>
        have z2 := G1.ph _ _ z
        rw [hD] at z2
        cases z2
    have mD : M DL = none := by
      cases z : M DL with
      | none => rfl
      | some u =>
        have z2 := R1.min _ _ z
        rw [hD] at z2
        cases z2
    have lD : L ≠ some DL := fun z => by
      have z2 := R1.lod DL z
      rw [hD] at z2
      cases z2
    refine ⟨fun i m H' => ∃ (P' : Hp) (l3 : Ld) (acc : List V) (done rest : List D), m = xs.length - i ∧ i ≤ xs.length ∧ Rep K L (wipe σ own) H' P' M (wipeE en own) l3 ∧ H' DL = some (.lst acc) ∧ P' DL = none ∧ Ex P1 P' ∧
      (∀ a o, L ≠ some a → H1 a = some o → H' a = some o) ∧ (∀ a o, P' a = some o → P1 a = none → H1 a = none) ∧ RpAll K P' acc done ∧ acc.length ≤ i ∧ lcL dg dt de (wipeE en own) (xs.drop i) l3 = .ok rest l' ∧ done ++ rest = ys, ?_, ?_⟩
    · exact ⟨_, P1, l1, [], [], ys, rfl, Nat.zero_le _, (R1.wiped own).off pD mD lD, upd_same, pD, .refl _, fun a o _ h => by rw [upd_ne (ne_of_none h hD)]; exact h, fun a o h n => (by rw [n] at h; cases h), .nil, Nat.zero_le _, by rw [List.drop_zero]; exact e2, rfl⟩
    rintro i m H2 ⟨P2, l3, acc, done, rest, rfl, hi2, R2, d2, p2, x2, k2, n2, r2, c2, f2, y2⟩
    by_cases hlt : i < xs.length
    · refine Or.inr ⟨W1.go i H2 P2 l3 x2 R2.pin R2.lod hlt, fun H' => ∃ (P' : Hp) (l3 : Ld) (acc : List V) (done rest : List D), Rep K L (wipe σ own) H' P' M (wipeE en own) l3 ∧ H' DL = some (.lst acc) ∧ P' DL = none ∧ Ex P1 P' ∧
        (∀ a o, L ≠ some a → H1 a = some o → H' a = some o) ∧ (∀ a o, P' a = some o → P1 a = none → H1 a = none) ∧ RpAll K P' acc done ∧ acc.length ≤ i + 1 ∧ lcL dg dt de (wipeE en own) (xs.drop (i + 1)) l3 = .ok rest l' ∧ done ++ rest = ys, ?_, ?_⟩
      · rintro H' ⟨P', l4, acc', done', rest', z⟩
        exact ⟨xs.length - (i + 1), by omega, P', l4, acc', done', rest', rfl, by omega, z⟩
      intro x H3 y
      obtain ⟨P3, G3, r3⟩ := W1.yld i x xs[i] H2 P2 H3 l3 x2 R2.pin R2.lod y (by simp)
      have R3 := R2.grow G3
      rw [List.drop_eq_getElem_cons hlt] at f2
      unfold lcL at f2
      cases e4 : dg xs[i] (wipeE en own) with
      | none => rw [e4] at f2; cases f2
      | some en4 =>
        rw [e4] at f2
        dsimp only at f2
        obtain ⟨c, l5, e5, f2⟩ := Res.bind_ok f2
        refine hg L (wipe σ own) H3 P3 M (wipeE en own) l3 R3 x xs[i] en4 r3 e4 _ fun σ4 R4 w4 => ⟨(w4 own his).trans (wipe_twice fun i h => h), ?_⟩
        refine ht L σ4 H3 P3 M en4 l3 R4 c l5 e5 _ fun H5 P5 G5 => ?_
        -- what holds behind any growth from H2
        have grow : ∀ {H6 P6 : Hp} {l6 : Ld}, Grow L l6 H2 P2 H6 P6 → Rep K L (wipe σ own) H6 P6 M (wipeE en own) l6 ∧ H6 DL = some (.lst acc) ∧ P6 DL = none ∧ Ex P1 P6 ∧ (∀ a o, L ≠ some a → H1 a = some o → H6 a = some o) ∧ (∀ a o, P6 a = some o → P1 a = none → H1 a = none) ∧ RpAll K P6 acc done := fun {H6 P6 l6} G => by
          have d6 := G.keep DL _ lD d2
          refine ⟨R2.grow G, d6, ?_, x2.trans G.pp, fun a o n h => G.keep a o n (k2 a o n h), fun a o h n => ?_, r2.mono G.pp⟩
          · cases z : P6 DL with
            | none => rfl
            | some u =>
              have z2 := G.new DL u z p2
              rw [d2] at z2
              cases z2
          · cases z : P2 a with
            | some u => exact n2 a u z n
            | none =>
              have z2 := G.new a o h z
              cases z3 : H1 a with
              | none => rfl
              | some u =>
                by_cases la : L = some a
                · have z4 := R2.lod a la
                  rw [z2] at z4
                  cases z4
                · have z4 := k2 a u la z3
                  rw [z2] at z4
                  cases z4
        cases c with
        | false =>
          obtain ⟨a1, a2, a3, a4, a5, a6, a7⟩ := grow (G3.trans G5)
          exact iteF ⟨P5, l5, acc, done, rest, a1, a2, a3, a4, a5, a6, a7, Nat.le_succ_of_le c2, f2, y2⟩
        | true =>
          obtain ⟨yd, l6, e6, f2⟩ := Res.bind_ok f2
          obtain ⟨ys', l7, e7, f2⟩ := Res.bind_ok f2
          cases f2
          refine iteT (he L σ4 H5 P5 M en4 l5 (R4.grow G5) yd l6 e6 _ fun v H6 P6 G6 r6 => ?_)
          obtain ⟨a1, a2, a3, a4, a5, a6, a7⟩ := grow ((G3.trans G5).trans G6)
          refine ⟨acc, a2, Nat.lt_of_le_of_lt (Nat.le_trans c2 (Nat.le_trans hi2 hz)) (by decide), P6, l6, acc ++ [v], done ++ [yd], ys', a1.off a3 mD lD, upd_same, a3, a4, fun a o n h => ?_, a6, a7.append (.cons r6 .nil), ?_, e7, by rw [List.append_assoc]; exact y2⟩
          · rw [upd_ne (ne_of_none h hD)]
            exact a5 a o n h
          · rw [List.length_append]
            exact Nat.succ_le_succ c2
    · have e : i = xs.length := by omega
      subst e
      rw [List.drop_length] at f2
      cases f2
      rw [List.append_nil] at y2
      subst y2
      have G2 : Grow L l' H1 P1 H2 (upd P2 DL (.lst acc)) := ⟨k2, R2.lod, fun a o h => by rw [upd_ne (fun z => by rw [z, pD] at h; cases h)]; exact x2 a o h, fun a o h => by
        by_cases z : a = DL
        · subst z
          rw [upd_same] at h
          cases h
          exact d2
        · rw [upd_ne z] at h
          exact R2.pin a o h, fun a o h n => by
        by_cases z : a = DL
        · rw [z]
          exact hD
        · rw [upd_ne z] at h
          exact n2 a o h n⟩
      refine Or.inl ⟨W1.stop _ H2 P2 x2 R2.pin (Nat.le_refl _), q _ H2 _ (G1.trans G2) (.lst upd_same (r2.mono fun a o h => ?_))⟩
      rw [upd_ne (fun z => by rw [z, p2] at h; cases h)]
      exact h
  · cases h
/-- one reading for all blocks -/
theorem uni {α : Type} {K : PySem.W.Frag} {Pr : α → TE → Prop} {de : DE} (h : ∀ a, ∃ te, Pr a te ∧ Snd K te de) (hp : ∀ a (t u : TE), (∀ σ H Q, u σ H Q → t σ H Q) → Pr a t → Pr a u) : ∃ te, (∀ a, Pr a te) ∧ Snd K te de := by
  refine ⟨fun σ H Q => ∀ a, (h a).choose σ H Q, fun a => hp a _ _ (fun σ H Q z => z a) (h a).choose_spec.1, fun L σ H P M en l R d l' e Q q a => (h a).choose_spec.2 L σ H P M en l R d l' e Q q⟩
theorem uniT {α : Type} {K : PySem.W.Frag} {Pr : α → TT → Prop} {de : DT} (h : ∀ a, ∃ te, Pr a te ∧ SndT K te de) (hp : ∀ a (t u : TT), (∀ σ H Q, u σ H Q → t σ H Q) → Pr a t → Pr a u) : ∃ te, (∀ a, Pr a te) ∧ SndT K te de := by
  refine ⟨fun σ H Q => ∀ a, (h a).choose σ H Q, fun a => hp a _ _ (fun σ H Q z => z a) (h a).choose_spec.1, fun L σ H P M en l R d l' e Q q a => (h a).choose_spec.2 L σ H P M en l R d l' e Q q⟩
theorem uniG {α : Type} {K : PySem.W.Frag} {Pr : α → TG → Prop} {dg : DG} {is : List Nat} (h : ∀ a, ∃ te, Pr a te ∧ SndG K te dg is) (hp : ∀ a (t u : TG), (∀ v σ H Q, u v σ H Q → t v σ H Q) → Pr a t → Pr a u) : ∃ te, (∀ a, Pr a te) ∧ SndG K te dg is := by
  refine ⟨fun v σ H Q => ∀ a, (h a).choose v σ H Q, fun a => hp a _ _ (fun v σ H Q z => z a) (h a).choose_spec.1, fun L σ H P M en l R v d en' r e Q q a => (h a).choose_spec.2 L σ H P M en l R v d en' r e Q q⟩
/-- the block's data -/
structure Bk where
  s : Shared
  H : Hp
  C : Addr
  cl : List (Str × Addr)
  fp : List Addr
abbrev Bk.cx (b : Bk) (X : Cx) (scope : Scope) : Cx := X.blk b.s b.H scope (compEnvC scope b.cl b.C X.env) b.fp
def PDTs (X : Cx) (ifs : List Expr) (dt : DT) : Prop := ∃ t, PTs X ifs t ∧ SndT X.K t dt
theorem pdts_nil : PDTs X [] dYes := ⟨_, pts_nil, fun L σ H P M en l R d l' h Q q => by cases h; exact q _ _ R.refl⟩
theorem pdts_one {c : Expr} {dt : DT} (h : PDT X c dt) : PDTs X [c] dt := by
  obtain ⟨t, h1, h2⟩ := h
  exact ⟨t, pts_one h1, h2⟩
variable {elt tg iter : Expr} {ifs : List Expr} {scope : Scope} {own : List (Str × Nat)} {pos : Pos} {di : DI} {dg : DG} {dt : DT} {de : DE} {is : List Nat}
theorem lc_parts (hg : ∀ b : Bk, PDG (b.cx X scope) tg dg is) (ht : ∀ b : Bk, PDTs (b.cx X scope) ifs dt) (he : ∀ b : Bk, PD (b.cx X scope) elt de) :
    (∃ g, (∀ b : Bk, PG (b.cx X scope) tg g) ∧ SndG X.K g dg is) ∧ (∃ t, (∀ b : Bk, PTs (b.cx X scope) ifs t) ∧ SndT X.K t dt) ∧ ∃ t, (∀ b : Bk, PE (b.cx X scope) elt t) ∧ Snd X.K t de :=
  ⟨uniG (Pr := fun b g => PG (Bk.cx b X scope) tg g) hg fun b t u z h => ⟨fun pins s σ H v w Q I r q => h.run pins s σ H v w Q I r (z _ _ _ _ q)⟩,
   uniT (Pr := fun b g => PTs (Bk.cx b X scope) ifs g) ht fun b t u z h => ⟨fun pins s σ H Q I q => h.run pins s σ H Q I (z _ _ _ q)⟩,
   uni (Pr := fun b g => PE (Bk.cx b X scope) elt g) he fun b t u z h => ⟨fun pins s σ H Q I q => h.run pins s σ H Q I (z _ _ _ q)⟩⟩
theorem pd_lc (hc : X.calm = true) (hN : X.N.Nodup) (hi : PDI X tg iter di) (ok : BlkOk X.N X.env.scope scope own) (hg : ∀ b : Bk, PDG (b.cx X scope) tg dg is) (ht : ∀ b : Bk, PDTs (b.cx X scope) ifs dt) (he : ∀ b : Bk, PD (b.cx X scope) elt de)
    (his : ∀ i ∈ is, i ∈ own.map (·.2) := by decide) (hs : ∀ x, foldedSetIterable iter X.env x = pure x := by intro _; rfl) : PD X (.ListComp elt [⟨tg, iter, ifs, 0⟩] scope pos) (dLc (own.map (·.2)) di dg dt de) := by
  obtain ⟨wi, i1, i2⟩ := hi
  obtain ⟨⟨g, g1, g2⟩, ⟨t, t1, t2⟩, ⟨e, e1, e2⟩⟩ := lc_parts hg ht he
  exact ⟨_, pe_lc hc hN i1 ok (fun s H C cl fp => g1 ⟨s, H, C, cl, fp⟩) (fun s H C cl fp => t1 ⟨s, H, C, cl, fp⟩) (fun s H C cl fp => e1 ⟨s, H, C, cl, fp⟩) hs, snd_lc i2 g2 his t2 e2⟩
/-- y = [..] -/
theorem pds_setLc {i : Nat} {y : Str} {py spos : Pos} (hc : X.calm = true) (hN : X.N.Nodup) (hi : PDI X tg iter di) (ok : BlkOk X.N X.env.scope scope own) (hg : ∀ b : Bk, PDG (b.cx X scope) tg dg is) (ht : ∀ b : Bk, PDTs (b.cx X scope) ifs dt) (he : ∀ b : Bk, PD (b.cx X scope) elt de)
    (hsw : swapsWith (.ListComp elt [⟨tg, iter, ifs, 0⟩] scope pos) (some (.Name y py)) spos.line X.env = pure true) (hy : X.N[i]? = some y := by rfl) (hyl : X.env.scope.names.lookup y = some .local := by rfl)
    (his : ∀ i ∈ is, i ∈ own.map (·.2) := by decide) (hs : ∀ x, foldedSetIterable iter X.env x = pure x := by intro _; rfl) : PDS X (.Assign [.Name y py] (.ListComp elt [⟨tg, iter, ifs, 0⟩] scope pos) spos) (dSet i (dLc (own.map (·.2)) di dg dt de)) := by
  obtain ⟨wi, i1, i2⟩ := hi
  obtain ⟨⟨g, g1, g2⟩, ⟨t, t1, t2⟩, ⟨e, e1, e2⟩⟩ := lc_parts hg ht he
  refine ⟨_, ps_setLc hc hN hy hyl hsw i1 ok (fun s H C cl fp => g1 ⟨s, H, C, cl, fp⟩) (fun s H C cl fp => t1 ⟨s, H, C, cl, fp⟩) (fun s H C cl fp => e1 ⟨s, H, C, cl, fp⟩) hs, fun L σ H P M en l R D h => ?_⟩
  unfold dSet at h
  split at h
  · rename_i d l' z1
    exact snd_lc i2 g2 his t2 e2 L σ H P M en l R d l' z1 _ fun v H1 P1 G1 r1 => h _ _ _ _ G1.step ((R.grow G1).put r1)
  · exact h.elim
end

/-! ### defs -/
def enOf (n : Nat) (ds : List D) : En := ds.map (fun d => some (.dat d)) ++ List.replicate (n - ds.length) none
def runD (n : Nat) (b : DS) : List D → Option D := fun ds => match b (enOf n ds) ⟨0, 0, 0⟩ with
  | .rt d _ => some d
  | .nx _ _ => some .none
  | _ => none
def runL (n : Nat) (b : DS) : List D → Ld → Res D := fun ds l => match b (some .lode :: enOf (n - 1) ds) l with
  | .rt d l' => .ok d l'
  | .nx _ l' => .ok .none l'
  | _ => .no
theorem enOf_get {n : Nat} {ds : List D} {i : Nat} {o : Sl} (h : (enOf n ds)[i]? = some (some o)) : ∃ d, ds[i]? = some d ∧ o = .dat d := by
  unfold enOf at h
  by_cases hi : i < ds.length
  · rw [List.getElem?_append_left (by simpa using hi), List.getElem?_map] at h
    cases e : ds[i]? with
    | none => rw [e] at h; cases h
    | some d => rw [e] at h; cases h; exact ⟨d, rfl, rfl⟩
  · rw [List.getElem?_append_right (by simpa using hi), List.getElem?_replicate] at h
    split at h <;> cases h
theorem start_get {N : List Str} {vs : List V} {i : Nat} {v : V} (h : vs[i]? = some v) : (start N vs)[i]? = some (some v) := by
  have hi : i < vs.length := (List.getElem?_eq_some_iff.mp h).1
  unfold L2.start
  rw [List.getElem?_append_left (by simpa using hi), List.getElem?_map, h]
  rfl
theorem rep_start {K : PySem.W.Frag} {N : List Str} {vs : List V} {ds : List D} {H P : Hp} {l : Ld} (e : Ex P H) (r : RpAll K P vs ds) : Rep K none (start N vs) H P (fun _ => none) (enOf N.length ds) l where
  pin := e
  min := fun a o h => nomatch h
  dis := fun a o h => nomatch h
  lod := fun a h => nomatch h
  lop := fun a h => nomatch h
  dat := fun i d h => by
    obtain ⟨d', h1, h2⟩ := enOf_get h
    cases h2
    obtain ⟨v, h3, h4⟩ := r.get h1
    exact ⟨v, start_get h3, h4⟩
  own := fun i xs h => by
    obtain ⟨d', h1, h2⟩ := enOf_get h
    cases h2
  inj := fun i j xs ys p n h => by
    obtain ⟨d', h1, h2⟩ := enOf_get h
    cases h2
  lo := fun i h => by
    obtain ⟨d', h1, h2⟩ := enOf_get h
    cases h2
  len := by
    unfold L2.start enOf
    rw [List.length_append, List.length_map, List.length_replicate, List.length_append, List.length_map, List.length_replicate, r.length]
section
variable {P : Program} {w : World} {K : PySem.W.Frag} {mg : Str → Option Value} {base : Heap} {x qual : Str} {st : Stmt} {f : Addr} {fd : FuncData} {N ps : List Str} {k : Nat}
theorem fnD (F : Fun K x qual st f fd) (S : FnScope N ps (defScope st)) {ds : DS}
    (body : ∀ (cdv : Value) (A : Around) (outer : List Env) (s : Shared) (H : Hp) (E : XK), A.guards = some [] → Room k (A.deeper (envOfC qual (defScope st) s.heap.objs.size f cdv)) → PDSs (cxOf CX0 P w K mg base N qual (defScope st) f cdv A outer s H E).nox (defBody st) ds) :
    FnG P w K mg base CX0 (k + 1) f fd ps (spD K ps.length (runD N.length ds)) := by
  refine fnG_body F S (fun vs H Q E h => ?_) fun cdv A outer s H vs Q E hg hr h => ?_
  · obtain ⟨_, _, _, h, _⟩ := h
    exact h
  · obtain ⟨P0, xs, d, hl, e, r, hF, q⟩ := h
    obtain ⟨ts, t1, t2⟩ := body cdv A outer s H E hg hr
    refine ⟨ts, t1.nox, t2 none (start N vs) H P0 (fun _ => none) (enOf N.length xs) ⟨0, 0, 0⟩ (rep_start e r) _ ?_⟩
    unfold runD at hF
    have gr : ∀ {H' P' M' : Hp} {l' : Ld}, Step none l' H P0 (fun _ => none) H' P' M' → Grow none ⟨0, 0, 0⟩ H P0 H' P' := fun {H' P' M' l'} S => ⟨fun a o n h => S.keep a o n rfl h, (fun a z => nomatch z), S.pp, S.ph, fun a o h n => by
      rcases S.new a o h n with z | ⟨u, z⟩
      · exact z
      · cases z⟩
    split at hF
    · rename_i d' l' e1
      cases hF
      rw [e1]
      exact fun v H' P' M' S r' => q v H' P' (gr S) r'
    · rename_i en' l' e1
      cases hF
      rw [e1]
      exact fun σ' H' P' M' S R' => q .non H' P' (gr S) .non
    · cases hF
theorem fnL (F : Fun K x qual st f fd) (S : FnScope N ps (defScope st)) {ds : DS} (hp : 0 < ps.length) (hN : 0 < N.length)
    (body : ∀ (cdv : Value) (A : Around) (outer : List Env) (s : Shared) (H : Hp) (E : XK), A.guards = some [] → Room k (A.deeper (envOfC qual (defScope st) s.heap.objs.size f cdv)) → PDSs (cxOf CX0 P w K mg base N qual (defScope st) f cdv A outer s H E).nox (defBody st) ds) :
    FnG P w K mg base CX0 (k + 1) f fd ps (spL K (ps.length - 1) (runL N.length ds)) := by
  refine fnG_body F S (fun vs H Q E h => ?_) fun cdv A outer s H vs Q E hg hr h => ?_
  · obtain ⟨_, vs', _, _, _, _, _, rfl, h, _⟩ := h
    rw [List.length_cons, h]
    omega
  · obtain ⟨P0, vs', xs, d, a, l, l', rfl, hl, e, pa, ha, r, hF, q⟩ := h
    obtain ⟨ts, t1, t2⟩ := body cdv A outer s H E hg hr
    obtain ⟨n0, N0, hN0⟩ : ∃ n0 N0, N = n0 :: N0 := by
      cases N with
      | nil => cases hN
      | cons n0 N0 => exact ⟨n0, N0, rfl⟩
    have R0 : Rep K none (start N0 vs') H P0 (fun _ => none) (enOf N0.length xs) l := rep_start e r
    have hs : start N (.ref a :: vs') = some (.ref a) :: start N0 vs' := by
      rw [hN0]
      unfold L2.start
      simp
    have R1 : Rep K (some a) (start N (.ref a :: vs')) H P0 (fun _ => none) (some .lode :: enOf N0.length xs) l := by
      rw [hs]
      refine ⟨e, (fun b o h => nomatch h), (fun b o h => nomatch h), fun b z => ?_, fun b z => ?_, fun i d h => ?_, fun i xs h => ?_, fun i j xs ys p n h => ?_, fun i h => ?_, ?_⟩
      · cases z
        exact ha
      · cases z
        exact ⟨pa, rfl⟩
      · cases i with
        | zero => cases h
        | succ i => exact R0.dat i d h
      · cases i with
        | zero => cases h
        | succ i => exact absurd (R0.own i xs h) (by rintro ⟨p, vs, _, z, _⟩; cases z)
      · cases i with
        | zero => cases h
        | succ i => exact absurd (R0.own i xs h) (by rintro ⟨p, vs, _, z, _⟩; cases z)
      · cases i with
        | zero => exact ⟨a, rfl, rfl⟩
        | succ i =>
          obtain ⟨b, z, _⟩ := R0.lo i h
          cases z
      · rw [List.length_cons, List.length_cons, R0.len]
    have hn : N.length - 1 = N0.length := by rw [hN0]; rfl
    refine ⟨ts, t1.nox, t2 (some a) _ H P0 (fun _ => none) _ l R1 _ ?_⟩
    unfold runL at hF
    rw [hn] at hF
    have gr : ∀ {H' P' M' : Hp} {l' : Ld}, Step (some a) l' H P0 (fun _ => none) H' P' M' → Grow (some a) l' H P0 H' P' := fun {H' P' M' l'} S => ⟨fun b o n h => S.keep b o n rfl h, S.lod, S.pp, S.ph, fun b o h n => by
      rcases S.new b o h n with z | ⟨u, z⟩
      · exact z
      · cases z⟩
    split at hF
    · rename_i d' l2 e1
      cases hF
      rw [e1]
      exact fun v H' P' M' S r' => q v H' P' (gr S) r'
    · rename_i en' l2 e1
      cases hF
      rw [e1]
      exact fun σ' H' P' M' S R' => q .non H' P' (gr S) .non
    · cases hF
end
end Dx
end
section
set_option Elab.async false
set_option linter.all false
set_option maxRecDepth 100000
/-! Dx10: the draws' store read and stored; lists that grow; constants of the text. -/
namespace Dx
open PySem PySem.Spec PyProof.Rows L2

/-! ### the store -/
def Ld.at (l : Ld) : Nat → Int
  | 0 => l.c
  | 1 => l.s
  | _ => l.k
def Ld.set (l : Ld) (j : Nat) (v : Int) : Ld := match j with
  | 0 => ⟨v, l.s, l.k⟩
  | 1 => ⟨l.c, v, l.k⟩
  | _ => ⟨l.c, l.s, v⟩
def dLo (i j : Nat) : DE := fun en l => match en[i]? with
  | some (some .lode) => if j < 3 then .ok (.int (l.at j)) l else .no
  | _ => .no
theorem ld_at (l : Ld) {j : Nat} (h : j < 3) : atI [V.int l.c, .int l.s, .int l.k] ((j : Nat) : Int) = some (.int (l.at j)) := by
  refine atI_nat ?_
  match j, h with
  | 0, _ => rfl
  | 1, _ => rfl
  | 2, _ => rfl
theorem ld_set (l : Ld) {j : Nat} (v : Int) (h : j < 3) : ([V.int l.c, .int l.s, .int l.k].set j (.int v)) = [V.int (l.set j v).c, .int (l.set j v).s, .int (l.set j v).k] := by
  match j, h with
  | 0, _ => rfl
  | 1, _ => rfl
  | 2, _ => rfl
theorem ix_nat {n j : Nat} (h : j < n) : ixN n ((j : Nat) : Int) = some j := by
  unfold ixN
  rw [if_pos (by omega), if_pos (by omega)]
  simp
section
variable {K : PySem.W.Frag} {σ : L2.St} {H P M : Hp} {en : En} {l : Ld} {a : Addr}
theorem Rep.lodeSet (R : Rep K (some a) σ H P M en l) (l' : Ld) : Rep K (some a) σ (upd H a l'.ho) P M en l' := by
  have h0 := R.lop a rfl
  exact ⟨fun b u h => by rw [upd_ne (ne_of_none h h0.1)]; exact R.pin b u h, fun b u h => by rw [upd_ne (ne_of_none h h0.2)]; exact R.min b u h, R.dis, fun b e => by cases e; exact upd_same, R.lop, R.dat, R.own, R.inj, R.lo, R.len⟩
theorem Rep.lodeStep (R : Rep K (some a) σ H P M en l) (l' : Ld) : Step (some a) l' H P M (upd H a l'.ho) P M := by
  have h0 := R.lop a rfl
  refine ⟨fun b o n m h => ?_, fun b e => by cases e; exact upd_same, Ex.refl _, (R.lodeSet l').pin, fun b o h n => (by rw [n] at h; cases h), fun b o h n => (by rw [n] at h; cases h)⟩
  rw [upd_ne (fun z => n (by rw [z]))]
  exact h
end
section
variable {X : Cx} {e : Expr} {de : DE} {pos p2 p3 : Pos} {j0 : Nat}
theorem pd_lo (i j : Nat) {y : Str} (hy : PE X (.Name y p2) (tVar i)) (hs : PlainIx (.Constant (.int ((j : Nat) : Int)) j0 p3) := by intro _ _; rfl) : PD X (.Subscript (.Name y p2) (.Constant (.int ((j : Nat) : Int)) j0 p3) pos) (dLo i j) := by
  refine ⟨_, pe_ix ix_list hy pe_int hs, fun L σ H P M en l R d l' h Q q => ?_⟩
  unfold dLo at h
  split at h
  · rename_i hi
    split at h
    · rename_i hj
      cases h
      obtain ⟨a, rfl, h1⟩ := R.lo i hi
      exact ⟨.ref a, h1, a, _, ((j : Nat) : Int), _, rfl, rfl, SqL.of (R.lod a rfl), ld_at l hj, q _ _ _ R.refl (.int _)⟩
    · cases h
  · cases h
def dSetLo (i j : Nat) (a : DE) : DS := fun en l => match a en l with
  | .ok (.int v) l' => (match en[i]? with
    | some (some .lode) => if j < 3 then .nx en (l'.set j v) else .no
    | _ => .no)
  | _ => .no
theorem pds_setLo (i j : Nat) {y : Str} (hy : PE X (.Name y p2) (tVar i)) (he : PD X e de) (hs : swapsWithSole [.Subscript (.Name y p2) (.Constant (.int ((j : Nat) : Int)) j0 p3) pos] e pos.line X.env = pure false := by rfl) (hw : swappedStores [.Subscript (.Name y p2) (.Constant (.int ((j : Nat) : Int)) j0 p3) pos] e X.env = pure none := by rfl)
    (h1 : (assignEach [.Subscript (.Name y p2) (.Constant (.int ((j : Nat) : Int)) j0 p3) pos] X.env).map (·.2) = [assign (.Subscript (.Name y p2) (.Constant (.int ((j : Nat) : Int)) j0 p3) pos) X.env] := by rfl) {spos : Pos}
    (hs' : swapsWithSole [.Subscript (.Name y p2) (.Constant (.int ((j : Nat) : Int)) j0 p3) pos] e spos.line X.env = pure false := by rfl) : PDS X (.Assign [.Subscript (.Name y p2) (.Constant (.int ((j : Nat) : Int)) j0 p3) pos] e spos) (dSetLo i j de) := by
  obtain ⟨t, a1, a2⟩ := he
  refine ⟨_, ps_asg a1 (pg_sub hy pe_int set_list) hs' hw h1, fun L σ H P M en l R D h => ?_⟩
  unfold dSetLo at h
  split at h
  · rename_i v l' e1
    split at h
    · rename_i hi
      split at h
      · rename_i hj
        refine a2 L σ H P M en l R _ l' e1 _ fun x H1 P1 G1 r1 => ?_
        obtain ⟨a, rfl, h2⟩ := R.lo i hi
        have R1 := R.grow G1
        refine ⟨.ref a, h2, a, _, ((j : Nat) : Int), j, rfl, rfl, R1.lod a rfl, ix_nat hj, ?_⟩
        rw [r1.isInt, ld_set l' v hj]
        exact h _ _ _ _ (G1.step.trans (R1.lodeStep (l'.set j v))) (R1.lodeSet (l'.set j v))
      · exact h.elim
    · exact h.elim
  · exact h.elim
/-- store[0], x = divmod(store[0], y) -/
def dDivLo (i x : Nat) (y : Nat) : DS := fun en l => match en[i]?, en[y]? with
  | some (some .lode), some (some (.dat (.int m))) => if 0 < m ∧ m < 1073741824 then .nx (en.set x (some (.dat (.int (l.c % m))))) (l.set 0 (l.c / m)) else .no
  | _, _ => .no
theorem pds_divLo {i x y k0 : Nat} {nl nx ny : Str} {p1 p4 p5 p6 p7 p8 spos tpos dpos : Pos} {j1 j2 : Nat} (hN : X.N.Nodup) (hc : X.calm = true) (hl : PE X (.Name nl p1) (tVar i)) (hl2 : PE X (.Name nl p4) (tVar i)) (hy : PE X (.Name ny p5) (tVar y)) (hg : Gl X "divmod") (hm : X.mg "divmod" = none)
    (hx : X.N[x]? = some nx := by rfl) (hlx : Loc X.env.scope nx := by first | exact Or.inl rfl | exact Or.inr rfl) (hf : X.fn nx = true ∨ X.env.scope.names.lookup nx = some .local := by first | exact Or.inl rfl | exact Or.inr rfl)
    (hb : bootBuiltins "divmod" = some (.builtin "divmod") := by decide +kernel)
    (s0 : PlainIx (.Constant (.int 0) j2 p6) := by intro _ _; rfl)
    (s1 : starEach [.Subscript (.Name nl p4) (.Constant (.int 0) j2 p6) p7, .Name ny p5] X.env = (false, eval (.Subscript (.Name nl p4) (.Constant (.int 0) j2 p6) p7) X.env) :: starEach [.Name ny p5] X.env := by rfl) (s2 : starEach [.Name ny p5] X.env = (false, eval (.Name ny p5) X.env) :: starEach [] X.env := by rfl)
    (s3 : (backTo dpos (starEach [.Name ny p5] X.env)).any (·.1) = false := by rfl)
    (h1 : (assignEach [.Subscript (.Name nl p1) (.Constant (.int 0) j1 p2) p3, .Name nx p8] X.env).map (·.2) = assign (.Subscript (.Name nl p1) (.Constant (.int 0) j1 p2) p3) X.env :: (assignEach [.Name nx p8] X.env).map (·.2) := by rfl)
    (h2 : (assignEach [.Name nx p8] X.env).map (·.2) = assign (.Name nx p8) X.env :: (assignEach [] X.env).map (·.2) := by rfl)
    (h3 : (assignEach [.Subscript (.Name nl p1) (.Constant (.int 0) j1 p2) p3, .Name nx p8] X.env).length = 2 := by rfl) (h4 : (assignEach [.Subscript (.Name nl p1) (.Constant (.int 0) j1 p2) p3, .Name nx p8] X.env).findIdx? (·.1) = none := by rfl) {pq : Pos}
    (h5 : swapsWithSole [.Tuple [.Subscript (.Name nl p1) (.Constant (.int 0) j1 p2) p3, .Name nx p8] k0 tpos] (.Call (.Name "divmod" pq) [.Subscript (.Name nl p4) (.Constant (.int 0) j2 p6) p7, .Name ny p5] [] dpos) spos.line X.env = pure false := by rfl)
    (h6 : swappedStores [.Tuple [.Subscript (.Name nl p1) (.Constant (.int 0) j1 p2) p3, .Name nx p8] k0 tpos] (.Call (.Name "divmod" pq) [.Subscript (.Name nl p4) (.Constant (.int 0) j2 p6) p7, .Name ny p5] [] dpos) X.env = pure none := by rfl)
    (h7 : (assignEach [.Tuple [.Subscript (.Name nl p1) (.Constant (.int 0) j1 p2) p3, .Name nx p8] k0 tpos] X.env).map (·.2) = [assign (.Tuple [.Subscript (.Name nl p1) (.Constant (.int 0) j1 p2) p3, .Name nx p8] k0 tpos) X.env] := by rfl) :
    PDS X (.Assign [.Tuple [.Subscript (.Name nl p1) (.Constant (.int 0) j1 p2) p3, .Name nx p8] k0 tpos] (.Call (.Name "divmod" pq) [.Subscript (.Name nl p4) (.Constant (.int 0) j2 p6) p7, .Name ny p5] [] dpos) spos) (dDivLo i x y) := by
  refine ⟨_, ps_asg (pe_callB call_divmodW hg hm hb (pa_cons (pe_ix ix_list hl2 pe_int s0) (pa_cons hy pa_nil s2) s1) (by decide) (by decide) s1 s3) (pg_tup hc (pgs_cons (pg_sub hl pe_int set_list) (pgs_cons (pg_name hN hx hlx hf) pgs_nil h2) h1) h3 h4) h5 h6 h7, fun L σ H P M en l R D h => ?_⟩
  unfold dDivLo at h
  split at h
  · rename_i m hi hy2
    split at h
    · rename_i hm2
      obtain ⟨a, rfl, z1⟩ := R.lo i hi
      obtain ⟨v, z2, z3⟩ := R.dat y _ hy2
      have z4 := z3.isInt
      subst z4
      refine ⟨.ref a, z1, a, _, 0, _, rfl, rfl, SqL.of (R.lod a rfl), ld_at l (j := 0) (by omega), .int m, z2, l.c, m, rfl, ⟨hm2.1, PyProof.noPylong_small (by omega)⟩, fun p hp => ?_⟩
      have G1 : Grow (some a) l H P (upd H p (.tup [.int (l.c / m), .int (l.c % m)])) P := ⟨fun b o n h => by rw [upd_ne (ne_of_none h hp)]; exact h, fun b e => by rw [upd_ne (ne_of_none (R.lod b e) hp)]; exact R.lod b e, Ex.refl _, fun b o h => by rw [upd_ne (ne_of_none (R.pin b o h) hp)]; exact R.pin b o h, fun b o h n => by rw [n] at h; cases h⟩
      have R1 := R.grow G1
      refine ⟨p, _, rfl, SqT.of upd_same, rfl, _, _, rfl, .ref a, z1, a, _, 0, 0, rfl, rfl, R1.lod a rfl, ix_nat (j := 0) (by show 0 < 3; omega), _, _, rfl, ?_⟩
      refine ⟨rfl, ?_⟩
      have e9 := ld_set l (j := 0) (l.c / m) (by omega)
      rw [e9]
      exact h _ _ _ _ (G1.step.trans (R1.lodeStep (l.set 0 (l.c / m)))) ((R1.lodeSet (l.set 0 (l.c / m))).put (.int _))
    · exact h.elim
  · exact h.elim
end

/-! ### more operations -/
section
variable {K : PySem.W.Frag}
def cPow (i j : Int) : Bool := decide (0 ≤ j ∧ j ≤ 1000000 ∧ i.natAbs < 2 ^ 64)
def gPow : D → D → Option D := g2IC cPow fun i j => i ^ j.toNat
theorem os_pow : OpS K (rI CPow fun i j => .int (i ^ j.toNat)) gPow := os_IC fun i j h => by unfold CPow; exact of_decide_eq_true h
def gNeg : D → Option D
  | .int i => some (.int (-i))
  | _ => none
theorem us_neg : UnS K (rU fun i => .int (-i)) gNeg := fun L l H P x dx d e hl rx hg Q q => by
  unfold gNeg at hg
  split at hg
  · cases hg
    exact ⟨_, rx.isInt, q _ _ _ (.refl e hl) (.int _)⟩
  · cases hg
def gSum : List D → Option D
  | [.list xs] => (intsD xs).map fun ns => .int ns.sum
  | _ => none
theorem cs_sum : CallS K (rSum K) gSum := fun L l H P xs ds d e hl r hg Q q => by
  unfold gSum at hg
  split at hg
  · rename_i ys
    cases h : intsD ys with
    | none => rw [h] at hg; cases hg
    | some ns =>
      rw [h] at hg
      cases hg
      cases r with
      | cons r1 rr =>
        cases rr
        obtain ⟨p, zs, rfl, s1, r2⟩ := r1.isLst
        rw [intsD_map h] at r2
        rw [ints_of r2] at s1
        exact ⟨p, ns, rfl, SqL.of (e _ _ s1), q _ _ _ (.refl e hl) (.int _)⟩
  · cases hg
end
/-! ### constants of the text -/
/-- a value of the written part is told by data, whatever the heap -/
def KRp (K : PySem.W.Frag) (u : Value) (d : D) : Prop := ∃ v, RelV v u ∧ ∀ H, Rp K H v d
theorem krp_int {K : PySem.W.Frag} {i : Int} {t : Tok} : KRp K (.int i t) (.int i) := ⟨.int i, ⟨t, rfl⟩, fun _ => .int i⟩
theorem krp_str {K : PySem.W.Frag} {i : Str} {t : Tok} : KRp K (.str i t) (.str i) := ⟨.str i, ⟨t, rfl⟩, fun _ => .str i⟩
theorem krp_non {K : PySem.W.Frag} : KRp K .none .none := ⟨.non, rfl, fun _ => .non⟩
def KRpAll (K : PySem.W.Frag) : List Value → List D → Prop
  | [], [] => True
  | u :: us, d :: ds => KRp K u d ∧ KRpAll K us ds
  | _, _ => False
theorem krpAll {K : PySem.W.Frag} : ∀ {us : List Value} {ds : List D}, KRpAll K us ds → ∃ vs, Vals vs us ∧ ∀ H, RpAll K H vs ds
  | [], [], _ => ⟨[], .nil, fun _ => .nil⟩
  | u :: us, d :: ds, h => by
    obtain ⟨⟨v, r, q⟩, h2⟩ := h
    obtain ⟨vs, rs, qs⟩ := krpAll h2
    exact ⟨v :: vs, .cons r rs, fun H => .cons (q H) (qs H)⟩
  | [], _ :: _, h => h.elim
  | _ :: _, [], h => h.elim
theorem krp_tup {K : PySem.W.Frag} {a : Addr} {dd : Option Addr} {us : List Value} {n : Nat} {sl : Array (Option Value)} {ds : List D} (l : K.lookup a = some ⟨.type "tuple", dd, .seq us.toArray n, sl⟩) (h : KRpAll K us ds) (hz : us.length ≤ 10000) : KRp K (.ref a) (.tuple ds) := by
  obtain ⟨vs, rs, qs⟩ := krpAll h
  exact ⟨.ref a, rfl, fun H => .tup (.inr ⟨_, us.toArray, n, l, rfl, rfl, by rw [List.size_toArray]; exact sz_of hz, by simpa using rs⟩) (qs H)⟩
section
variable {X : Cx}
theorem pd_konst {x : Str} {u : Value} {d : D} {pos : Pos} (hg : Gl X x) (hm : X.mg x = some u) (h : KRp X.K u d) (h2 : (x == ("__debug__" : Str)) = false := by decide) : PD X (.Name x pos) (dC d) := by
  obtain ⟨v, r, q0⟩ := h
  exact ⟨_, pe_glob hg hm r h2, fun L σ H P M en l R d l' h Q q => by cases h; exact q _ _ _ R.refl (q0 P)⟩
end

/-! ### lists that grow -/
/-- an expression that makes a new list -/
def SndN (K : PySem.W.Frag) (te : TE) (da : DA) : Prop := ∀ (L : Option Addr) (σ : L2.St) (H P M : Hp) (en : En) (l : Ld), Rep K L σ H P M en l → ∀ xs l', da en l = .ok xs l' → ∀ Q : VK, (∀ p vs H' P', Grow L l' H P H' P' → H p = none → P' p = none → H' p = some (.lst vs) → RpAll K P' vs xs → Q (.ref p) H') → te σ H Q
def PDN (X : Cx) (e : Expr) (da : DA) : Prop := ∃ te, PE X e te ∧ SndN X.K te da
def dNew (a : DA) : DA := fun en l => (a en l).bind fun xs l1 => if xs.length ≤ 10000 then .ok xs l1 else .no
def dSetOwn (i : Nat) (a : DA) : DS := fun en l => match a en l with
  | .ok xs l' => .nx (en.set i (some (.own xs))) l'
  | .no => .no
def dApp (i : Nat) (a : DE) : DS := fun en l => match en[i]? with
  | some (some (.own xs)) => (match a en l with
    | .ok d l' => if xs.length ≤ 10000 then .nx (en.set i (some (.own (xs ++ [d])))) l' else .no
    | .no => .no)
  | _ => .no
/-- the list at the i-th name is given out: it is data from here on -/
def dFrz (i : Nat) (b : DS) : DS := fun en l => match en[i]? with
  | some (some (.own xs)) => b (en.set i (some (.dat (.list xs)))) l
  | _ => b en l
section
variable {K : PySem.W.Frag} {L : Option Addr} {σ : L2.St} {H P M : Hp} {en : En} {l : Ld}
theorem set_get {en : En} {i j : Nat} {o : Sl} {u : Sl} (h : (en.set i (some o))[j]? = some (some u)) : (i = j ∧ u = o) ∨ (i ≠ j ∧ en[j]? = some (some u)) := by
  rw [List.getElem?_set] at h
  by_cases e : i = j
  · rw [if_pos e] at h
    split at h
    · cases h
      exact .inl ⟨e, rfl⟩
    · cases h
  · rw [if_neg e] at h
    exact .inr ⟨e, h⟩
theorem set_in {en : En} {i : Nat} {o u : Sl} (h : (en.set i (some o))[i]? = some (some u)) : i < en.length := by
  have z := (List.getElem?_eq_some_iff.mp h).1
  rw [List.length_set] at z
  exact z
/-- a new list gets a name -/
theorem Rep.putOwn {i : Nat} {p : Addr} {vs : List V} {xs : List D} (R : Rep K L σ H P M en l) (hp : H p = some (.lst vs)) (pp : P p = none) (pm : M p = none) (pl : L ≠ some p) (r : RpAll K P vs xs) : Rep K L (σ.set i (some (.ref p))) H P (upd M p (.lst vs)) (en.set i (some (.own xs))) l where
  pin := R.pin
  min := fun a u h => by
    by_cases e : a = p
    · subst e
      rw [upd_same] at h
      cases h
      exact hp
    · rw [upd_ne e] at h
      exact R.min a u h
  dis := fun a u h => by
    by_cases e : a = p
    · subst e
      exact pp
    · rw [upd_ne e] at h
      exact R.dis a u h
  lod := R.lod
  lop := fun a e => ⟨(R.lop a e).1, by rw [upd_ne (fun z => pl (by rw [e, z]))]; exact (R.lop a e).2⟩
  dat := fun j d h => by
    rcases set_get h with ⟨_, z⟩ | ⟨n, z⟩
    · cases z
    · rw [List.getElem?_set_ne n]
      exact R.dat j d z
  own := fun j ys h => by
    rcases set_get h with ⟨e, z⟩ | ⟨n, z⟩
    · subst e
      cases z
      have hi := set_in h
      refine ⟨p, vs, ?_, upd_same, r⟩
      rw [List.getElem?_set_self (by rw [R.len]; exact hi)]
    · obtain ⟨q, ws, h1, h2, h3⟩ := R.own j ys z
      exact ⟨q, ws, by rw [List.getElem?_set_ne n]; exact h1, by rw [upd_ne (fun e => by rw [e, pm] at h2; cases h2)]; exact h2, h3⟩
  inj := fun j k ys zs q n h1 h2 h3 h4 => by
    rcases set_get h1 with ⟨e1, z1⟩ | ⟨n1, z1⟩
    · rcases set_get h2 with ⟨e2, z2⟩ | ⟨n2, z2⟩
      · exact n (e1.symm.trans e2)
      · subst e1
        have hi := set_in h1
        rw [List.getElem?_set_self (by rw [R.len]; exact hi)] at h3
        cases h3
        rw [List.getElem?_set_ne n2] at h4
        obtain ⟨q, ws, k1, k2, _⟩ := R.own k zs z2
        rw [h4] at k1
        cases k1
        rw [pm] at k2
        cases k2
    · rw [List.getElem?_set_ne n1] at h3
      rcases set_get h2 with ⟨e2, z2⟩ | ⟨n2, z2⟩
      · subst e2
        have hi := set_in h2
        rw [List.getElem?_set_self (by rw [R.len]; exact hi)] at h4
        cases h4
        obtain ⟨q, ws, k1, k2, _⟩ := R.own j ys z1
        rw [h3] at k1
        cases k1
        rw [pm] at k2
        cases k2
      · rw [List.getElem?_set_ne n2] at h4
        exact R.inj j k ys zs q n z1 z2 h3 h4
  lo := fun j h => by
    rcases set_get h with ⟨_, z⟩ | ⟨n, z⟩
    · cases z
    · obtain ⟨a, h1, h2⟩ := R.lo j z
      exact ⟨a, h1, by rw [List.getElem?_set_ne n]; exact h2⟩
  len := by rw [List.length_set, List.length_set]; exact R.len
/-- the list of a name has another content -/
theorem Rep.turnOwn {i : Nat} {p : Addr} {vs vs' : List V} {xs xs' : List D} (R : Rep K L σ H P M en l) (hi : en[i]? = some (some (.own xs))) (hs : σ[i]? = some (some (.ref p))) (hm : M p = some (.lst vs)) (r : RpAll K P vs' xs') : Rep K L σ (upd H p (.lst vs')) P (upd M p (.lst vs')) (en.set i (some (.own xs'))) l where
  pin := fun a u h => by
    rw [upd_ne (fun z => by rw [z, R.dis p _ hm] at h; cases h)]
    exact R.pin a u h
  min := fun a u h => by
    by_cases e : a = p
    · subst e
      rw [upd_same] at h ⊢
      exact h
    · rw [upd_ne e] at h ⊢
      exact R.min a u h
  dis := fun a u h => by
    by_cases e : a = p
    · subst e
      exact R.dis _ _ hm
    · rw [upd_ne e] at h
      exact R.dis a u h
  lod := fun a e => by
    rw [upd_ne (fun z => by rw [← z, (R.lop a e).2] at hm; cases hm)]
    exact R.lod a e
  lop := fun a e => ⟨(R.lop a e).1, by
    rw [upd_ne (fun z => by rw [← z, (R.lop a e).2] at hm; cases hm)]
    exact (R.lop a e).2⟩
  dat := fun j d h => by
    rcases set_get h with ⟨_, z⟩ | ⟨n, z⟩
    · cases z
    · exact R.dat j d z
  own := fun j ys h => by
    rcases set_get h with ⟨e, z⟩ | ⟨n, z⟩
    · subst e
      cases z
      exact ⟨p, vs', hs, upd_same, r⟩
    · obtain ⟨q, ws, h1, h2, h3⟩ := R.own j ys z
      refine ⟨q, ws, h1, ?_, h3⟩
      rw [upd_ne (fun e => ?_)]
      · exact h2
      · subst e
        exact R.inj i j xs ys q n hi z hs h1
  inj := fun j k ys zs q n h1 h2 h3 h4 => by
    have f : ∀ {j : Nat} {ys : List D}, (en.set i (some (.own xs')))[j]? = some (some (.own ys)) → ∃ ws : List D, en[j]? = some (some (.own ws)) := fun {j ys} h => by
      rcases set_get h with ⟨e, z⟩ | ⟨n, z⟩
      · subst e
        exact ⟨xs, hi⟩
      · exact ⟨ys, z⟩
    obtain ⟨w1, z1⟩ := f h1
    obtain ⟨w2, z2⟩ := f h2
    exact R.inj j k w1 w2 q n z1 z2 h3 h4
  lo := fun j h => by
    rcases set_get h with ⟨_, z⟩ | ⟨n, z⟩
    · cases z
    · exact R.lo j z
  len := by rw [List.length_set]; exact R.len
theorem Rep.turnStep {i : Nat} {p : Addr} {vs vs' : List V} {xs xs' : List D} (R : Rep K L σ H P M en l) (hm : M p = some (.lst vs)) : Step L l H P M (upd H p (.lst vs')) P (upd M p (.lst vs')) where
  keep := fun a o n m h => by rw [upd_ne (fun z => by rw [z, hm] at m; cases m)]; exact h
  lod := fun a e => by
    rw [upd_ne (fun z => by rw [← z, (R.lop a e).2] at hm; cases hm)]
    exact R.lod a e
  pp := Ex.refl _
  ph := fun a u h => by
    rw [upd_ne (fun z => by rw [z, R.dis p _ hm] at h; cases h)]
    exact R.pin a u h
  new := fun a o h n => by rw [n] at h; cases h
  newM := fun a o h n => by
    by_cases e : a = p
    · rw [e, hm] at n
      cases n
    · rw [upd_ne e, n] at h
      cases h
/-- .. and it is data from here on -/
theorem Rep.frz {i : Nat} {xs : List D} (R : Rep K L σ H P M en l) (hi : en[i]? = some (some (.own xs))) : ∃ p vs, M p = some (.lst vs) ∧ Rep K L σ H (upd P p (.lst vs)) (fun b => if b = p then none else M b) (en.set i (some (.dat (.list xs)))) l ∧ Step L l H P M H (upd P p (.lst vs)) (fun b => if b = p then none else M b) := by
  obtain ⟨p, vs, hs, hm, r⟩ := R.own i xs hi
  have pp := R.dis p _ hm
  have px : Ex P (upd P p (.lst vs)) := fun a u h => by rw [upd_ne (fun z => by rw [z, pp] at h; cases h)]; exact h
  have ph : Ex (upd P p (.lst vs)) H := fun a u h => by
    by_cases e : a = p
    · subst e
      rw [upd_same] at h
      cases h
      exact R.min _ _ hm
    · rw [upd_ne e] at h
      exact R.pin a u h
  have lp : ∀ a, L = some a → a ≠ p := fun a e z => by
    rw [← z, (R.lop a e).2] at hm
    cases hm
  refine ⟨p, vs, hm, ⟨ph, fun a u h => ?_, fun a u h => ?_, R.lod, fun a e => ⟨?_, ?_⟩, fun j d h => ?_, fun j ys h => ?_, fun j k ys zs q n h1 h2 h3 => ?_, fun j h => ?_, by rw [List.length_set]; exact R.len⟩, ⟨fun a o n m h => h, R.lod, px, ph, fun a o h n => ?_, fun a o h n => ?_⟩⟩
  · split at h
    · cases h
    · exact R.min a u h
  · split at h
    · cases h
    · rename_i e
      rw [upd_ne e]
      exact R.dis a u h
  · rw [upd_ne (lp a e)]
    exact (R.lop a e).1
  · show (if a = p then none else M a) = none
    rw [if_neg (lp a e)]
    exact (R.lop a e).2
  · rcases set_get h with ⟨e, z⟩ | ⟨n, z⟩
    · subst e
      cases z
      exact ⟨.ref p, hs, .lst upd_same (r.mono px)⟩
    · obtain ⟨v, h1, h2⟩ := R.dat j d z
      exact ⟨v, h1, h2.mono px⟩
  · rcases set_get h with ⟨_, z⟩ | ⟨n, z⟩
    · cases z
    · obtain ⟨q, ws, h1, h2, h3⟩ := R.own j ys z
      refine ⟨q, ws, h1, ?_, h3.mono px⟩
      show (if q = p then none else M q) = _
      rw [if_neg (fun e => ?_)]
      · exact h2
      · subst e
        exact R.inj i j xs ys q n hi z hs h1
  · rcases set_get h1 with ⟨_, z⟩ | ⟨n1, z1⟩
    · cases z
    · rcases set_get h2 with ⟨_, z⟩ | ⟨n2, z2⟩
      · cases z
      · exact R.inj j k ys zs q n z1 z2 h3
  · rcases set_get h with ⟨_, z⟩ | ⟨n, z⟩
    · cases z
    · exact R.lo j z
  · by_cases e : a = p
    · exact .inr ⟨_, by rw [e]; exact hm⟩
    · rw [upd_ne e, n] at h
      cases h
  · split at h
    · cases h
    · rw [n] at h
      cases h
theorem snd_frz {K : PySem.W.Frag} {ts : TS} {b : DS} (i : Nat) (h : SndS K ts b) : SndS K ts (dFrz i b) := fun L σ H P M en l R D q => by
  unfold dFrz at q
  split at q
  · rename_i xs hi
    obtain ⟨p, vs, hm, R1, S1⟩ := R.frz hi
    exact h L σ H _ _ _ l R1 D (q.step S1)
  · exact h L σ H P M en l R D q
end
section
variable {X : Cx} {e : Expr} {es : List Expr} {de : DE} {ds : DA} {b : DS} {st : Stmt} {pos p2 p3 p4 : Pos}
theorem pds_frz (i : Nat) (h : PDS X st b) : PDS X st (dFrz i b) := by
  obtain ⟨t, h1, h2⟩ := h
  exact ⟨t, h1, snd_frz i h2⟩
theorem pdss_frz (i : Nat) {sts : List Stmt} (h : PDSs X sts b) : PDSs X sts (dFrz i b) := by
  obtain ⟨t, h1, h2⟩ := h
  exact ⟨t, h1, snd_frz i h2⟩
theorem pdn_lst (h : PDA X es ds) : PDN X (.List es pos) (dNew ds) := by
  obtain ⟨ta, a1, a2⟩ := h
  refine ⟨_, pe_lst a1, fun L σ H P M en l R xs l' h Q q => ?_⟩
  obtain ⟨ys, l1, h1, h⟩ := Res.bind_ok h
  split at h
  · rename_i hz
    cases h
    refine a2 L σ H P M en l R _ _ h1 _ fun vs H1 P1 G1 r1 => ⟨by rw [r1.length]; exact sz_of hz, fun p hp => ?_⟩
    have R1 := R.grow G1
    have pn : P1 p = none := by
      cases z : P1 p with
      | none => rfl
      | some u =>
        have z2 := G1.ph _ _ z
        rw [hp] at z2
        cases z2
    have hn : H p = none := by
      cases z : H p with
      | none => rfl
      | some u =>
        by_cases lp : L = some p
        · have z2 := R1.lod p lp
          rw [hp] at z2
          cases z2
        · have z2 := G1.keep p u lp z
          rw [hp] at z2
          cases z2
    refine q p vs _ P1 ⟨fun a o n h => ?_, fun a e => ?_, G1.pp, fun a o h => ?_, G1.new⟩ hn pn upd_same r1
    · have z := G1.keep a o n h
      rw [upd_ne (ne_of_none z hp)]
      exact z
    · have z := R1.lod a e
      rw [upd_ne (ne_of_none z hp)]
      exact z
    · rw [upd_ne (ne_of_none h pn)]
      exact G1.ph a o h
  · cases h
theorem pds_setOwn {i : Nat} {x : Str} (hN : X.N.Nodup) (h : PDN X e ds) (hi : X.N[i]? = some x := by rfl) (hx : Loc X.env.scope x := by first | exact Or.inl rfl | exact Or.inr rfl) (hs : swapsWith e (some (.Name x p2)) pos.line X.env = pure false := by rfl)
    (hf : X.fn x = true ∨ X.env.scope.names.lookup x = some .local := by first | exact Or.inl rfl | exact Or.inr rfl) : PDS X (.Assign [.Name x p2] e pos) (dSetOwn i ds) := by
  obtain ⟨t, h1, h2⟩ := h
  refine ⟨_, ps_set hN hi hx h1 hs hf, fun L σ H P M en l R D h => ?_⟩
  unfold dSetOwn at h
  split at h
  · rename_i xs l' e1
    refine h2 L σ H P M en l R xs l' e1 _ fun p vs H1 P1 G1 hp pp h1p r1 => ?_
    have R1 := R.grow G1
    have pm : M p = none := by
      cases z : M p with
      | none => rfl
      | some u =>
        have z2 := R.min _ _ z
        rw [hp] at z2
        cases z2
    have pl : L ≠ some p := fun z => by
      have z2 := R.lod p z
      rw [hp] at z2
      cases z2
    refine h _ _ _ _ ⟨fun a o n _ k => G1.keep a o n k, G1.lod, G1.pp, G1.ph, fun a o k n => .inl (G1.new a o k n), fun a o k n => ?_⟩ (R1.putOwn h1p pp pm pl r1)
    by_cases e : a = p
    · rw [e]
      exact hp
    · rw [upd_ne e, n] at k
      cases k
  · exact h.elim
/-- x.append(e) -/
theorem pds_app (i : Nat) {x : Str} {apos cpos : Pos} (hy : PE X (.Name x p2) (tVar i)) (h : PD X e de) (hs : swapsWith (.Call (.Attribute (.Name x p2) "append" apos) [e] [] cpos) none pos.line X.env = pure false := by rfl)
    (k1 : attributeBase (.Name x p2) "append" X.env (eval (.Name x p2) X.env) = eval (.Name x p2) X.env := by rfl)
    (k2 : ((backTo cpos (starEach [e] X.env)).all (fun x => !x.1) && (backToKw cpos (keywordEach [] X.env)).all (fun x => x.1.isSome) && decide ([e].length + ([] : List Keyword).length + (if ([] : List Keyword).isEmpty then 0 else 1) < 30)) = true := by rfl)
    (k3 : (apos.endLine == cpos.line) = true := by rfl) (k4 : starEach [e] X.env = (false, eval e X.env) :: starEach [] X.env := by rfl) (k5 : (backTo cpos (starEach [] X.env)).any (·.1) = false := by rfl) : PDS X (.Expr (.Call (.Attribute (.Name x p2) "append" apos) [e] [] cpos) pos) (dApp i de) := by
  obtain ⟨te, h1, h2⟩ := h
  refine ⟨_, ps_expr (pe_bm PySem.F.plainAttrs_list PySem.F.slot_list_append PySem.F.type_list_append mt_append hy (pa_cons h1 pa_nil k4) k1 k2 k3 k4 k5) hs, fun L σ H P M en l R D q => ?_⟩
  unfold dApp at q
  split at q
  · rename_i xs hi
    split at q
    · rename_i d l' e1
      split at q
      · rename_i hz
        obtain ⟨p, vs, k1, k2, k3⟩ := R.own i xs hi
        refine ⟨.ref p, k1, .inl ⟨rfl, vs, SqL.of (R.min _ _ k2)⟩, h2 L σ H P M en l R d l' e1 _ fun v H1 P1 G1 r1 => ?_⟩
        have R1 := R.grow G1
        refine ⟨p, vs, v, rfl, rfl, R1.min _ _ k2, by rw [k3.length]; exact Nat.lt_of_le_of_lt hz (by decide), ?_⟩
        exact q _ _ _ _ (G1.step.trans (R1.turnStep (i := i) (xs := xs) (xs' := xs) k2)) (R1.turnOwn hi k1 k2 ((k3.mono G1.pp).append (.cons r1 .nil)))
      · exact q.elim
    · exact q.elim
  · exact q.elim
end
end Dx
namespace Dx
open PySem PySem.Spec PyProof.Rows L2
def dDict0 : DE := fun _ l => .ok (.dict []) l
theorem pd_dict0 {X : Cx} {pos : Pos} : PD X (.Dict [] [] pos) dDict0 := ⟨_, pe_dnewK, fun L σ H P M en l R d l' h Q q => by
  cases h
  intro p hp
  have G := Grow.laid (o := .dK []) R.pin R.lod hp
  exact q _ _ _ G (.dic (kvs := []) (ds := []) upd_same .nil)⟩
end Dx
end
section
set_option Elab.async false
set_option linter.all false
set_option maxRecDepth 100000
/-! Dx11: an own list made in a tuple target: x, y = e, [] and x, y, z = e, [], []. -/
namespace Dx
open PySem PySem.Spec PyProof.Rows L2
section
variable {X : Cx} {p2 p3 pos : Pos}
def dParO (i j : Nat) (a : DE) (b : DA) : DS := fun en l => match a en l with
  | .ok d l1 => (match b en l1 with
    | .ok xs l2 => .nx ((en.set i (some (.dat d))).set j (some (.own xs))) l2
    | .no => .no)
  | .no => .no
theorem pds_parO {i j : Nat} {x y : Str} {a b : Expr} {px py pt : Pos} {kt k2 pt2} {de : DE} {db : DA} (hc : X.calm = true) (hN : X.N.Nodup) (ha : PD X a de) (hb : PDN X b db) (hi : X.N[i]? = some x := by rfl) (hj : X.N[j]? = some y := by rfl) (hij : i ≠ j := by decide)
    (s2 : starEach [a, b] X.env = (false, eval a X.env) :: starEach [b] X.env := by rfl) (s1 : starEach [b] X.env = (false, eval b X.env) :: starEach [] X.env := by rfl)
    (hx : X.env.scope.names.lookup x = some .local := by rfl) (hy : X.env.scope.names.lookup y = some .local := by rfl) (hw : swappedStores [.Tuple [.Name x px, .Name y py] kt pt] (.Tuple [a, b] k2 pt2) X.env = pure (some [x, y]) := by rfl)
    (hs : swapsWithSole [.Tuple [.Name x px, .Name y py] kt pt] (.Tuple [a, b] k2 pt2) pos.line X.env = pure false := by rfl) : PDS X (.Assign [.Tuple [.Name x px, .Name y py] kt pt] (.Tuple [a, b] k2 pt2) pos) (dParO i j de db) := by
  obtain ⟨ta, a1, a2⟩ := ha
  obtain ⟨tb, b1, b2⟩ := hb
  refine ⟨_, ps_par hc hN hi hj hij hx hy (pa_cons a1 (pa_cons b1 pa_nil s1) s2) hw hs, fun L σ H P M en l R D h => ?_⟩
  unfold dParO at h
  split at h
  · rename_i d l1 e1
    split at h
    · rename_i xs l2 e2
      refine a2 L σ H P M en l R d l1 e1 _ fun v H1 P1 G1 r1 => ?_
      have R1 := R.grow G1
      refine b2 L σ H1 P1 M en l1 R1 xs l2 e2 _ fun p vs H2 P2 G2 hp pp h2p r2 => ?_
      have R2 := R1.grow G2
      have pm : M p = none := by
        cases z : M p with
        | none => rfl
        | some u =>
          have z2 := R1.min _ _ z
          rw [hp] at z2
          cases z2
      have pl : L ≠ some p := fun z => by
        have z2 := R1.lod p z
        rw [hp] at z2
        cases z2
      have h0 : H p = none := by
        cases z : H p with
        | none => rfl
        | some u =>
          have z2 := G1.keep p u pl z
          rw [hp] at z2
          cases z2
      have G := G1.trans G2
      refine ⟨v, .ref p, rfl, h _ _ _ _ ⟨fun a o n _ k => G.keep a o n k, G.lod, G.pp, G.ph, fun a o k n => .inl (G.new a o k n), fun a o k n => ?_⟩ ((R2.put (r1.mono G2.pp)).putOwn h2p pp pm pl r2)⟩
      by_cases e : a = p
      · rw [e]
        exact h0
      · rw [upd_ne e, n] at k
        cases k
    · exact h.elim
  · exact h.elim
def dParOO (i j k : Nat) (a : DE) (b c : DA) : DS := fun en l => match a en l with
  | .ok d l1 => (match b en l1 with
    | .ok xs l2 => (match c en l2 with
      | .ok ys l3 => .nx (((en.set i (some (.dat d))).set j (some (.own xs))).set k (some (.own ys))) l3
      | .no => .no)
    | .no => .no)
  | .no => .no
theorem pds_parOO {i j k : Nat} {x y z : Str} {a b c : Expr} {px py pz pt : Pos} {kt k2 pt2} {de : DE} {db dc : DA} (hc : X.calm = true) (hN : X.N.Nodup) (ha : PD X a de) (hb : PDN X b db) (hc' : PDN X c dc) (hi : X.N[i]? = some x := by rfl) (hj : X.N[j]? = some y := by rfl) (hk : X.N[k]? = some z := by rfl) (hij : i ≠ j := by decide) (hik : i ≠ k := by decide) (hjk : j ≠ k := by decide)
    (s3 : starEach [a, b, c] X.env = (false, eval a X.env) :: starEach [b, c] X.env := by rfl) (s2 : starEach [b, c] X.env = (false, eval b X.env) :: starEach [c] X.env := by rfl) (s1 : starEach [c] X.env = (false, eval c X.env) :: starEach [] X.env := by rfl)
    (hx : X.env.scope.names.lookup x = some .local := by rfl) (hy : X.env.scope.names.lookup y = some .local := by rfl) (hz : X.env.scope.names.lookup z = some .local := by rfl)
    (hw : swappedStores [.Tuple [.Name x px, .Name y py, .Name z pz] kt pt] (.Tuple [a, b, c] k2 pt2) X.env = pure (some [x, y, z]) := by rfl)
    (hs : swapsWithSole [.Tuple [.Name x px, .Name y py, .Name z pz] kt pt] (.Tuple [a, b, c] k2 pt2) pos.line X.env = pure false := by rfl) : PDS X (.Assign [.Tuple [.Name x px, .Name y py, .Name z pz] kt pt] (.Tuple [a, b, c] k2 pt2) pos) (dParOO i j k de db dc) := by
  obtain ⟨ta, a1, a2⟩ := ha
  obtain ⟨tb, b1, b2⟩ := hb
  obtain ⟨tc, c1, c2⟩ := hc'
  refine ⟨_, ps_par3 hc hN hi hj hk hij hik hjk hx hy hz (pa_cons a1 (pa_cons b1 (pa_cons c1 pa_nil s1) s2) s3) hw hs, fun L σ H P M en l R D h => ?_⟩
  unfold dParOO at h
  split at h
  · rename_i d l1 e1
    split at h
    · rename_i xs l2 e2
      split at h
      · rename_i ys l3 e3
        refine a2 L σ H P M en l R d l1 e1 _ fun v H1 P1 G1 r1 => ?_
        have R1 := R.grow G1
        refine b2 L σ H1 P1 M en l1 R1 xs l2 e2 _ fun p vs H2 P2 G2 hp pp h2p r2 => ?_
        have R2 := R1.grow G2
        have nM : ∀ {H : Hp} {P : Hp} {l : Ld} {p : Addr}, Rep X.K L σ H P M en l → H p = none → M p = none ∧ L ≠ some p := fun {H} {P} {l} {p} R hp => by
          refine ⟨?_, fun z => ?_⟩
          · cases z : M p with
            | none => rfl
            | some u =>
              have z2 := R.min _ _ z
              rw [hp] at z2
              cases z2
          · have z2 := R.lod p z
            rw [hp] at z2
            cases z2
        refine c2 L σ H2 P2 M en l2 R2 ys l3 e3 _ fun p' ws H3 P3 G3 hp' pp' h3p r3 => ?_
        have R3 := R2.grow G3
        have m1 := nM R1 hp
        have m2 := nM R2 hp'
        have down : ∀ {H H' : Hp} {P P' : Hp} {l : Ld} {p : Addr}, Grow L l H P H' P' → L ≠ some p → H' p = none → H p = none := fun {H} {H'} {P} {P'} {l} {p} G pl hp => by
          cases z : H p with
          | none => rfl
          | some u =>
            have z2 := G.keep p u pl z
            rw [hp] at z2
            cases z2
        have ne : p' ≠ p := fun z => by
          rw [z, h2p] at hp'
          cases hp'
        have h3 : H3 p = some (.lst vs) := G3.keep p _ m1.2 h2p
        have pp3 : P3 p = none := by
          cases z : P3 p with
          | none => rfl
          | some u =>
            have z2 := G3.new p u z pp
            rw [h2p] at z2
            cases z2
        have G12 := G1.trans G2
        have G := G12.trans G3
        have r1' := (r1.mono G2.pp).mono G3.pp
        have q1 := ((R3.put (i := i) r1').putOwn (i := j) h3 pp3 m1.1 m1.2 (r2.mono G3.pp))
        have q2 := q1.putOwn (i := k) h3p pp' (by rw [upd_ne ne]; exact m2.1) m2.2 r3
        refine ⟨v, .ref p, .ref p', rfl, h _ _ _ _ ⟨fun a o n _ k => G.keep a o n k, G.lod, G.pp, G.ph, fun a o k n => .inl (G.new a o k n), fun a o k n => ?_⟩ q2⟩
        by_cases e : a = p'
        · rw [e]
          exact down G12 m2.2 hp'
        · rw [upd_ne e] at k
          by_cases e' : a = p
          · rw [e']
            exact down G1 m1.2 hp
          · rw [upd_ne e', n] at k
            cases k
      · exact h.elim
    · exact h.elim
  · exact h.elim
end
end Dx
end
section
set_option Elab.async false
set_option linter.all false
set_option maxRecDepth 100000
/-! Dx12: x, y = [], e; is True, is False. -/
namespace Dx
open PySem PySem.Spec PyProof.Rows L2
section
variable {X : Cx} {pos : Pos}
def dOPar (i j : Nat) (b : DA) (a : DE) : DS := fun en l => match b en l with
  | .ok xs l1 => (match a en l1 with
    | .ok d l2 => .nx ((en.set i (some (.own xs))).set j (some (.dat d))) l2
    | .no => .no)
  | .no => .no
theorem set_swap {en : List α} {i j : Nat} {x y : α} (h : i ≠ j) : (en.set i x).set j y = (en.set j y).set i x := List.set_comm _ _ h
theorem pds_Opar {i j : Nat} {x y : Str} {a b : Expr} {px py pt : Pos} {kt k2 pt2} {de : DE} {db : DA} (hc : X.calm = true) (hN : X.N.Nodup) (hb : PDN X b db) (ha : PD X a de) (hi : X.N[i]? = some x := by rfl) (hj : X.N[j]? = some y := by rfl) (hij : i ≠ j := by decide)
    (s2 : starEach [b, a] X.env = (false, eval b X.env) :: starEach [a] X.env := by rfl) (s1 : starEach [a] X.env = (false, eval a X.env) :: starEach [] X.env := by rfl)
    (hx : X.env.scope.names.lookup x = some .local := by rfl) (hy : X.env.scope.names.lookup y = some .local := by rfl) (hw : swappedStores [.Tuple [.Name x px, .Name y py] kt pt] (.Tuple [b, a] k2 pt2) X.env = pure (some [x, y]) := by rfl)
    (hs : swapsWithSole [.Tuple [.Name x px, .Name y py] kt pt] (.Tuple [b, a] k2 pt2) pos.line X.env = pure false := by rfl) : PDS X (.Assign [.Tuple [.Name x px, .Name y py] kt pt] (.Tuple [b, a] k2 pt2) pos) (dOPar i j db de) := by
  obtain ⟨ta, a1, a2⟩ := ha
  obtain ⟨tb, b1, b2⟩ := hb
  refine ⟨_, ps_par hc hN hi hj hij hx hy (pa_cons b1 (pa_cons a1 pa_nil s1) s2) hw hs, fun L σ H P M en l R D h => ?_⟩
  unfold dOPar at h
  split at h
  · rename_i xs l1 e1
    split at h
    · rename_i d l2 e2
      refine b2 L σ H P M en l R xs l1 e1 _ fun p vs H1 P1 G1 hp pp h1p r1 => ?_
      have R1 := R.grow G1
      have pm : M p = none := by
        cases z : M p with
        | none => rfl
        | some u =>
          have z2 := R.min _ _ z
          rw [hp] at z2
          cases z2
      have pl : L ≠ some p := fun z => by
        have z2 := R.lod p z
        rw [hp] at z2
        cases z2
      refine a2 L σ H1 P1 M en l1 R1 d l2 e2 _ fun v H2 P2 G2 r2 => ?_
      have R2 := R1.grow G2
      have h2p : H2 p = some (.lst vs) := G2.keep p _ pl h1p
      have pp2 : P2 p = none := by
        cases z : P2 p with
        | none => rfl
        | some u =>
          have z2 := G2.new p u z pp
          rw [h1p] at z2
          cases z2
      have G := G1.trans G2
      refine ⟨.ref p, v, rfl, ?_⟩
      refine h _ _ _ _ ⟨fun a o n _ k => G.keep a o n k, G.lod, G.pp, G.ph, fun a o k n => .inl (G.new a o k n), fun a o k n => ?_⟩ ((R2.putOwn (i := i) h2p pp2 pm pl (r1.mono G2.pp)).put (i := j) r2)
      by_cases e : a = p
      · rw [e]
        exact hp
      · rw [upd_ne e, n] at k
        cases k
    · exact h.elim
  · exact h.elim
end
section
variable {K : PySem.W.Frag}
def gIsB : D → D → Option D
  | .bool a, .bool b => some (.bool (decide (a = b)))
  | _, _ => none
def gNotB : D → D → Option D
  | .bool a, .bool b => some (.bool (!decide (a = b)))
  | _, _ => none
theorem os_isB : OpS K (fun x y H Q => ∃ a b, x = V.bl a ∧ y = V.bl b ∧ Q (.bl (decide (a = b))) H) gIsB := fun L l H P x y dx dy d e hl rx ry hg Q q => by
  unfold gIsB at hg
  split at hg
  · cases hg
    exact ⟨_, _, rx.isBl, ry.isBl, q _ _ _ (.refl e hl) (.bl _)⟩
  · cases hg
theorem os_notB : OpS K (fun x y H Q => ∃ a b, x = V.bl a ∧ y = V.bl b ∧ Q (.bl (!decide (a = b))) H) gNotB := fun L l H P x y dx dy d e hl rx ry hg Q q => by
  unfold gNotB at hg
  split at hg
  · cases hg
    exact ⟨_, _, rx.isBl, ry.isBl, q _ _ _ (.refl e hl) (.bl _)⟩
  · cases hg
end
end Dx
namespace Dx
open PySem PySem.Spec PyProof.Rows L2
section
variable {X : Cx} {pos : Pos}
/-! a list taken apart -/
def dGLst (n : Nat) (gs : DGs) : DG := fun d en => match d with
  | .list ds => if ds.length = n then gs ds en else none
  | _ => none
theorem pdg_lst {k n : Nat} {es : List Expr} {dgs : DGs} {is : List Nat} (hc : X.calm = true) (h : PDGs X es dgs is) (hn : (assignEach es X.env).length = n := by rfl) (hst : (assignEach es X.env).findIdx? (·.1) = none := by rfl) : PDG X (.Tuple es k pos) (dGLst n dgs) is := by
  obtain ⟨g, g1, g2⟩ := h
  refine ⟨_, pg_lst hc g1 hn hst, fun L σ H P M en l R v d en' r h Q q => ?_⟩
  unfold dGLst at h
  split at h
  · split at h
    · rename_i ds hl
      obtain ⟨a, xs, rfl, s1, r1⟩ := r.isLst
      exact ⟨a, xs, rfl, SqL.of (R.pin a _ s1), r1.length.trans hl, g2 L σ H P M en l R _ _ en' r1 h Q q⟩
    · cases h
  · cases h
end
end Dx
namespace Dx
open PySem PySem.Spec PyProof.Rows L2
section
variable {X : Cx} {pos p2 : Pos}
/-! an own list's element -/
def dIxO (i : Nat) (c : DE) : DE := fun en l => match en[i]? with
  | some (some (.own xs)) => (match c en l with
    | .ok (.int k) l1 => (match atI xs k with
      | some d => .ok d l1
      | none => .no)
    | _ => .no)
  | some (some (.dat _)) => dOp gIx (dVar i) c en l
  | _ => .no
theorem pd_ixO (i : Nat) {y : Str} {c : Expr} {dc : DE} (hy : PE X (.Name y p2) (tVar i)) (hc : PD X c dc) (hs : PlainIx c) : PD X (.Subscript (.Name y p2) c pos) (dIxO i dc) := by
  obtain ⟨tc, c1, c2⟩ := hc
  refine ⟨_, pe_ix ix_seq hy c1 hs, fun L σ H P M en l R d l' h Q q => ?_⟩
  unfold dIxO at h
  split at h
  · rename_i xs hi
    split at h
    · rename_i k l1 e1
      split at h
      · rename_i d' hd
        cases h
        obtain ⟨p, vs, h1, h2, r2⟩ := R.own i xs hi
        refine ⟨.ref p, h1, ?_⟩
        refine c2 L σ H P M en l R _ _ e1 _ fun v H1 P1 G1 r1 => ?_
        have R1 := R.grow G1
        obtain ⟨w, a1, a2⟩ := atI_rp r2 hd
        exact Or.inl ⟨p, vs, k, w, rfl, r1.isInt, SqL.of (R1.min _ _ h2), a1, q _ _ _ G1 (a2.mono G1.pp)⟩
      · cases h
    · cases h
  · have sv : Snd X.K (tVar i) (dVar i) := fun L σ H P M en l R d l' h Q q => by
      unfold dVar at h
      split at h
      · rename_i d0 he
        cases h
        obtain ⟨v, h1, h2⟩ := R.dat i _ he
        exact ⟨v, h1, q _ _ _ R.refl h2⟩
      · cases h
    exact snd_op os_ix sv c2 L σ H P M en l R d l' h Q q
  · cases h
end
end Dx
end
section
set_option Elab.async false
set_option linter.all false
set_option maxRecDepth 100000
/-! Frac: what the defs over fractions are worth. -/
namespace Fc
open PySem Dx
abbrev D := PyData
def fr (a : Int × Int) : D := .tuple [.int a.1, .int a.2]
/-- reduced -/
def sg (b : Int) (g : Int) : Int := if b < 0 then -g else g
def red (t b : Int) : Int × Int := (t.fdiv (sg b (Int.gcd t b)), b.fdiv (sg b (Int.gcd t b)))
def m_reduced : DS := (dSeq (dSet 2 (dCB gGcd (dCons (dVar 0) (dCons (dVar 1) dNil))))
    (dSeq (dIfS (dTest (dOp gLt (dVar 1) (dC (.int 0))))
    (dSet 2 (dUn gNeg (dVar 2))) dNext)
    (dRet (dTup (dCons (dOp gDiv (dVar 0) (dVar 2)) (dCons (dOp gDiv (dVar 1) (dVar 2)) dNil))))))
def F_reduced : List D → Option D := runD 3 m_reduced
def m_plus : DS := (dRet (dCall 2 F_reduced (dCons (dOp gAdd (dOp gMul (dOp gIx (dVar 0) (dC (.int 0))) (dOp gIx (dVar 1) (dC (.int 1)))) (dOp gMul (dOp gIx (dVar 1) (dC (.int 0))) (dOp gIx (dVar 0) (dC (.int 1))))) (dCons (dOp gMul (dOp gIx (dVar 0) (dC (.int 1))) (dOp gIx (dVar 1) (dC (.int 1)))) dNil))))
def F_plus : List D → Option D := runD 2 m_plus
/-- small enough -/
def Bd (n : Nat) (x : Int) : Prop := x.natAbs < 2 ^ n
theorem log2_lt {n : Nat} {x : Nat} (h : x < 2 ^ n) (hn : 0 < n) : x.log2 < n := PySem.Flt.log2_lt_of hn h
theorem gIx0 (a : Int × Int) : gIx (fr a) (.int 0) = some (.int a.1) := rfl
theorem gIx1 (a : Int × Int) : gIx (fr a) (.int 1) = some (.int a.2) := rfl
theorem gcd_pos {t b : Int} (hb : b ≠ 0) : 0 < Int.gcd t b := Int.gcd_pos_of_ne_zero_right _ hb
theorem sg_ne {b g : Int} (h : 0 < g) : sg b g ≠ 0 := by unfold sg; split <;> omega
theorem F_reduced_eq {t b : Int} (hb : b ≠ 0) (h : Bd 9000 b) : F_reduced [.int t, .int b] = some (fr (red t b)) := by
  have hg := gcd_pos (t := t) hb
  have hd : cDiv t (sg b (Int.gcd t b)) = true ∧ cDiv b (sg b (Int.gcd t b)) = true := by
    have h1 : (sg b (Int.gcd t b)).natAbs ≤ b.natAbs := by
      have : Int.gcd t b ≤ b.natAbs := Nat.le_of_dvd (by omega) (Int.gcd_dvd_natAbs_right t b)
      unfold sg
      split <;> omega
    have h2 : (sg b (Int.gcd t b)).natAbs.log2 < 9000 := log2_lt (Nat.lt_of_le_of_lt h1 h) (by decide)
    have h3 : sg b (Int.gcd t b) ≠ 0 := sg_ne (by omega)
    unfold cDiv
    exact ⟨decide_eq_true ⟨h3, h2⟩, decide_eq_true ⟨h3, h2⟩⟩
  have hgg : ((Nat.gcd t.natAbs b.natAbs : Nat) : Int) = (Int.gcd t b : Int) := rfl
  by_cases c : b < 0
  · have e : sg b (Int.gcd t b) = -(Int.gcd t b : Int) := if_pos c
    rw [e] at hd
    simp [F_reduced, runD, m_reduced, dSeq, dSet, dCB, dCons, dVar, dNil, Res.bind, enOf, gGcd, g2L, dIfS, dTest, dOp, gLt, g2B, dC, dUn, gNeg, dNext, dRet, dTup, gDiv, g2IC, c, hgg, hd.1, hd.2, fr, red, e]
  · have e : sg b (Int.gcd t b) = (Int.gcd t b : Int) := if_neg c
    rw [e] at hd
    simp [F_reduced, runD, m_reduced, dSeq, dSet, dCB, dCons, dVar, dNil, Res.bind, enOf, gGcd, g2L, dIfS, dTest, dOp, gLt, g2B, dC, dUn, gNeg, dNext, dRet, dTup, gDiv, g2IC, c, hgg, hd.1, hd.2, fr, red, e]
theorem cMul_ok {n m : Nat} {i j : Int} (h : Bd n i) (k : Bd m j) (hn : n + m ≤ 1000000) (h0 : 0 < n) (h1 : 0 < m) : cMul i j = true := by
  have a := log2_lt h h0
  have b := log2_lt k h1
  exact decide_eq_true (by omega)
/-- a fraction of this size -/
structure Fd (n : Nat) (a : Int × Int) : Prop where
  t : Bd n a.1
  b : Bd n a.2
  p : 0 < a.2
def add (a b : Int × Int) : Int × Int := red (a.1 * b.2 + b.1 * a.2) (a.2 * b.2)
def mul (a b : Int × Int) : Int × Int := red (a.1 * b.1) (a.2 * b.2)
theorem Bd.mul {n m : Nat} {i j : Int} (h : Bd n i) (k : Bd m j) : Bd (n + m) (i * j) := by
  unfold Bd at *
  rw [Int.natAbs_mul, Nat.pow_add]
  exact Nat.mul_lt_mul'' h k
theorem Bd.up {n m : Nat} {i : Int} (h : Bd n i) (k : n ≤ m) : Bd m i := Nat.lt_of_lt_of_le h (Nat.pow_le_pow_right (by decide) k)
theorem F_plus_eq {a b : Int × Int} (ha : Fd 4000 a) (hb : Fd 4000 b) : F_plus [fr a, fr b] = some (fr (add a b)) := by
  have c1 := cMul_ok ha.t hb.b (by decide) (by decide) (by decide)
  have c2 := cMul_ok hb.t ha.b (by decide) (by decide) (by decide)
  have c3 := cMul_ok ha.b hb.b (by decide) (by decide) (by decide)
  have hne : a.2 * b.2 ≠ 0 := Int.ne_of_gt (Int.mul_pos ha.p hb.p)
  have h := F_reduced_eq (t := a.1 * b.2 + b.1 * a.2) hne ((ha.b.mul hb.b).up (by decide))
  simp [F_plus, runD, m_plus, dRet, dCall, dCons, dOp, dVar, dC, dNil, Res.bind, enOf, gIx0, gIx1, gMul, gAdd, c1, c2, c3, h, add]
end Fc
end
section
set_option Elab.async false
set_option linter.all false
set_option maxRecDepth 100000
namespace Kb
open PySem Dx
def k_NOUGHT : Dx.D := .tuple [.int 0, .int 1]
def k_ONE : Dx.D := .tuple [.int 1, .int 1]
noncomputable def m_is_whole : DS := (dRet (dAndV (dIsi "int" (dVar 0)) (dNotV (dIsi "bool" (dVar 0)))))
noncomputable def F_is_whole : List Dx.D → Option Dx.D := runD 1 m_is_whole
noncomputable def m_reduced : DS := (dSeq (dSet 2 (dCB gGcd (dCons (dVar 0) (dCons (dVar 1) dNil))))
    (dSeq (dIfS (dTest (dOp gLt (dVar 1) (dC (.int 0))))
    (dSet 2 (dUn gNeg (dVar 2))) dNext)
    (dRet (dTup (dCons (dOp gDiv (dVar 0) (dVar 2)) (dCons (dOp gDiv (dVar 1) (dVar 2)) dNil))))))
noncomputable def F_reduced : List Dx.D → Option Dx.D := runD 3 m_reduced
noncomputable def m_plus : DS := (dRet (dCall 2 F_reduced (dCons (dOp gAdd (dOp gMul (dOp gIx (dVar 0) (dC (.int 0))) (dOp gIx (dVar 1) (dC (.int 1)))) (dOp gMul (dOp gIx (dVar 1) (dC (.int 0))) (dOp gIx (dVar 0) (dC (.int 1))))) (dCons (dOp gMul (dOp gIx (dVar 0) (dC (.int 1))) (dOp gIx (dVar 1) (dC (.int 1)))) dNil))))
noncomputable def F_plus : List Dx.D → Option Dx.D := runD 2 m_plus
noncomputable def m_negative : DS := (dRet (dTup (dCons (dUn gNeg (dOp gIx (dVar 0) (dC (.int 0)))) (dCons (dOp gIx (dVar 0) (dC (.int 1))) dNil))))
noncomputable def F_negative : List Dx.D → Option Dx.D := runD 1 m_negative
noncomputable def m_minus : DS := (dRet (dCall 2 F_plus (dCons (dVar 0) (dCons (dCall 1 F_negative (dCons (dVar 1) dNil)) dNil))))
noncomputable def F_minus : List Dx.D → Option Dx.D := runD 2 m_minus
noncomputable def m_times : DS := (dRet (dCall 2 F_reduced (dCons (dOp gMul (dOp gIx (dVar 0) (dC (.int 0))) (dOp gIx (dVar 1) (dC (.int 0)))) (dCons (dOp gMul (dOp gIx (dVar 0) (dC (.int 1))) (dOp gIx (dVar 1) (dC (.int 1)))) dNil))))
noncomputable def F_times : List Dx.D → Option Dx.D := runD 2 m_times
noncomputable def m_dot : DS := (dSeq (dSet 2 (dC k_NOUGHT))
    (dSeq (dFor (dZip (dCons (dVar 0) (dCons (dVar 1) dNil))) (dGTup 2 (dGCons (dName 3) (dGCons (dName 4) dGNil))) (dSet 2 (dCall 2 F_plus (dCons (dVar 2) (dCons (dCall 2 F_times (dCons (dVar 3) (dCons (dVar 4) dNil))) dNil)))))
    (dRet (dVar 2))))
noncomputable def F_dot : List Dx.D → Option Dx.D := runD 5 m_dot
noncomputable def m_is_fraction : DS := (dSeq (dIfS (dOr (dNot (dTest (dIsi "tuple" (dVar 0)))) (dTest (dOp gNeA (dCB gLen (dCons (dVar 0) dNil)) (dC (.int 2)))))
    (dRet (dC (.bool false))) dNext)
    (dSeq (dAsg (dGTup 2 (dGCons (dName 1) (dGCons (dName 2) dGNil))) (dVar 0))
    (dRet (dAndV (dCall 1 F_is_whole (dCons (dVar 1) dNil)) (dAndV (dCall 1 F_is_whole (dCons (dVar 2) dNil)) (dAndV (dOp gGt (dVar 2) (dC (.int 0))) (dOp gEqA (dCB gGcd (dCons (dVar 1) (dCons (dVar 2) dNil))) (dC (.int 1)))))))))
noncomputable def F_is_fraction : List Dx.D → Option Dx.D := runD 3 m_is_fraction
noncomputable def m_is_row : DS := (dRet (dAndV (dIsi "tuple" (dVar 0)) (dAndV (dOp gEqA (dCB gLen (dCons (dVar 0) dNil)) (dVar 1)) (dCB gAll (dCons (dLc [2] (dIt (dVar 0)) (dName 2) dYes (dCall 1 F_is_fraction (dCons (dVar 2) dNil))) dNil)))))
noncomputable def F_is_row : List Dx.D → Option Dx.D := runD 3 m_is_row
noncomputable def m_is_heading : DS := (dRet (dAndV (dCall 2 F_is_row (dCons (dVar 0) (dCons (dC (.int 2)) dNil))) (dOp gEqA (dCall 2 F_dot (dCons (dVar 0) (dCons (dVar 0) dNil))) (dC k_ONE))))
noncomputable def F_is_heading : List Dx.D → Option Dx.D := runD 1 m_is_heading
noncomputable def m_check_heading : DS := (dIfS (dNot (dTest (dCall 1 F_is_heading (dCons (dVar 0) dNil))))
    dNever dNext)
noncomputable def F_check_heading : List Dx.D → Option Dx.D := runD 1 m_check_heading
noncomputable def m_is_five : DS := (dRet (dCall 2 F_is_row (dCons (dVar 0) (dCons (dC (.int 5)) dNil))))
noncomputable def F_is_five : List Dx.D → Option Dx.D := runD 1 m_is_five
noncomputable def m_check_five : DS := (dIfS (dNot (dTest (dCall 1 F_is_five (dCons (dVar 0) dNil))))
    dNever dNext)
noncomputable def F_check_five : List Dx.D → Option Dx.D := runD 1 m_check_five
noncomputable def m_is_wave : DS := (dRet (dCall 2 F_is_row (dCons (dVar 0) (dCons (dC (.int 5)) dNil))))
noncomputable def F_is_wave : List Dx.D → Option Dx.D := runD 1 m_is_wave
noncomputable def m_check_wave : DS := (dIfS (dNot (dTest (dCall 1 F_is_wave (dCons (dVar 0) dNil))))
    dNever dNext)
noncomputable def F_check_wave : List Dx.D → Option Dx.D := runD 1 m_check_wave
noncomputable def m_doubled : DS := (dSeq (dAsg (dGTup 2 (dGCons (dName 1) (dGCons (dName 2) dGNil))) (dVar 0))
    (dRet (dTup (dCons (dCall 2 F_minus (dCons (dCall 2 F_times (dCons (dVar 1) (dCons (dVar 1) dNil))) (dCons (dCall 2 F_times (dCons (dVar 2) (dCons (dVar 2) dNil))) dNil))) (dCons (dCall 2 F_times (dCons (dTup (dCons (dC (.int 2)) (dCons (dC (.int 1)) dNil))) (dCons (dCall 2 F_times (dCons (dVar 1) (dCons (dVar 2) dNil))) dNil))) dNil)))))
noncomputable def F_doubled : List Dx.D → Option Dx.D := runD 3 m_doubled
noncomputable def m_wave_at : DS := (dSeq (dDrop (dCall 1 F_check_wave (dCons (dVar 0) dNil)))
    (dSeq (dDrop (dCall 1 F_check_heading (dCons (dVar 1) dNil)))
    (dRet (dCall 2 F_dot (dCons (dVar 0) (dCons (dOp gAdd (dOp gAdd (dTup (dCons (dC k_ONE) dNil)) (dVar 1)) (dCall 1 F_doubled (dCons (dVar 1) dNil))) dNil))))))
noncomputable def F_wave_at : List Dx.D → Option Dx.D := runD 2 m_wave_at
noncomputable def m_north_wave : DS := (dSeq (dDrop (dCall 1 F_check_five (dCons (dVar 0) dNil)))
    (dSeq (dAsg (dGTup 5 (dGCons (dName 1) (dGCons (dName 2) (dGCons (dName 3) (dGCons (dName 4) (dGCons (dName 5) dGNil)))))) (dVar 0))
    (dRet (dTup (dCons (dC k_ONE) (dCons (dVar 2) (dCons (dCall 1 F_negative (dCons (dVar 3) dNil)) (dCons (dVar 4) (dCons (dCall 1 F_negative (dCons (dVar 5) dNil)) dNil)))))))))
noncomputable def F_north_wave : List Dx.D → Option Dx.D := runD 6 m_north_wave
noncomputable def m_east_wave : DS := (dSeq (dDrop (dCall 1 F_check_five (dCons (dVar 0) dNil)))
    (dSeq (dAsg (dGTup 5 (dGCons (dName 1) (dGCons (dName 2) (dGCons (dName 3) (dGCons (dName 4) (dGCons (dName 5) dGNil)))))) (dVar 0))
    (dRet (dTup (dCons (dVar 1) (dCons (dVar 3) (dCons (dVar 2) (dCons (dVar 5) (dCons (dVar 4) dNil)))))))))
noncomputable def F_east_wave : List Dx.D → Option Dx.D := runD 6 m_east_wave
noncomputable def m_north_part : DS := (dRet (dCall 2 F_wave_at (dCons (dCall 1 F_north_wave (dCons (dVar 0) dNil)) (dCons (dVar 1) dNil))))
noncomputable def F_north_part : List Dx.D → Option Dx.D := runD 2 m_north_part
noncomputable def m_east_part : DS := (dRet (dCall 2 F_wave_at (dCons (dCall 1 F_east_wave (dCons (dVar 0) dNil)) (dCons (dVar 1) dNil))))
noncomputable def F_east_part : List Dx.D → Option Dx.D := runD 2 m_east_part
noncomputable def m_law_lode : DS := (dSeq (dSet 2 (dIf (dTest (dOp gLt (dVar 1) (dCB gLen (dCons (dVar 0) dNil)))) (dCB gInt (dCons (dOp gIx (dVar 0) (dVar 1)) dNil)) (dOp gAdd (dOp gAdd (dOp gMul (dC (.int 6113)) (dVar 1)) (dC (.int 41))) (dOp gMod (dCB gInt (dCons (dCB gSum (dCons (dSl (dVar 0) dONone (dOSome (dC (.int 5)))) dNil)) dNil)) (dC (.int 1000133))))))
    (dSeq (dSet 3 (dOp gAdd (dC (.int 27191)) (dOp gMul (dC (.int 1409)) (dVar 1))))
    (dSeq (dFor (dIt (dOp gAdd (dSl (dVar 0) dONone (dOSome (dC (.int 11)))) (dLst (dCons (dVar 2) dNil)))) (dName 4) (dSet 3 (dOp gMod (dCB gInt (dCons (dOp gAdd (dOp gAdd (dOp gMul (dVar 3) (dC (.int 39373))) (dOp gMod (dCB gInt (dCons (dVar 4) dNil)) (dC (.int 2147483477)))) (dC (.int 17))) dNil)) (dC (.int 2147483477)))))
    (dRet (dLst (dCons (dIf (dOr (dTest (dOp gLt (dVar 2) (dC (.int 0)))) (dTest (dOp gGe (dVar 2) (dOp gPow (dC (.int 10)) (dC (.int 18)))))) (dCB gAbs (dCons (dVar 2) dNil)) (dC (.int 0))) (dCons (dVar 3) (dCons (dC (.int 0)) dNil))))))))
noncomputable def F_law_lode : List Dx.D → Option Dx.D := runD 5 m_law_lode
noncomputable def m_law_deal : DS := (dSeq (dIfS (dTest (dOp gGt (dLo 0 0) (dC (.int 0))))
    (dSeq (dDivLo 0 2 1)
    (dRet (dVar 2))) dNext)
    (dSeq (dSetLo 0 2 (dOp gAdd (dLo 0 2) (dC (.int 1))))
    (dSeq (dSet 3 (dOp gAdd (dOp gMod (dCB gInt (dCons (dLo 0 1) dNil)) (dC (.int 17011))) (dC (.int 23003))))
    (dSeq (dSetLo 0 1 (dOp gMod (dCB gInt (dCons (dOp gAdd (dOp gAdd (dOp gMul (dLo 0 1) (dVar 3)) (dOp gMul (dC (.int 60013)) (dLo 0 2))) (dC (.int 41))) dNil)) (dC (.int 2147483477))))
    (dRet (dOp gMod (dCB gInt (dCons (dOp gDiv (dLo 0 1) (dC (.int 89))) dNil)) (dVar 1)))))))
noncomputable def F_law_deal : List Dx.D → Ld → Res Dx.D := runL 4 m_law_deal
noncomputable def m_law_some : DS := (dRet (dOp gIx (dVar 1) (dCallL 0 1 F_law_deal (dCons (dCB gLen (dCons (dVar 1) dNil)) dNil))))
noncomputable def F_law_some : List Dx.D → Ld → Res Dx.D := runL 2 m_law_some
noncomputable def m_law_about : DS := (dSeq (dIfS (dTest (dOp gLt (dVar 1) (dOp gPow (dC (.int 10)) (dC (.int 5)))))
    (dRet (dOp gSub (dCallL 0 1 F_law_deal (dCons (dOp gAdd (dOp gMul (dC (.int 2)) (dVar 1)) (dC (.int 1))) dNil)) (dVar 1))) dNext)
    (dSeq (dSet 2 (dCallL 0 1 F_law_deal (dCons (dC (.int 64007)) dNil)))
    (dRet (dOp gSub (dOp gMod (dCB gInt (dCons (dOp gAdd (dOp gMul (dVar 2) (dC (.int 64007))) (dCallL 0 1 F_law_deal (dCons (dC (.int 64007)) dNil))) dNil)) (dOp gAdd (dOp gMul (dC (.int 2)) (dVar 1)) (dC (.int 1)))) (dVar 1)))))
noncomputable def F_law_about : List Dx.D → Ld → Res Dx.D := runL 3 m_law_about
noncomputable def m_law_gcd : DS := (dSeq (dPar [0, 1] (dCons (dCB gAbs (dCons (dVar 0) dNil)) (dCons (dCB gAbs (dCons (dVar 1) dNil)) dNil)))
    (dSeq (dWhile (dTest (dOp gGt (dVar 1) (dC (.int 0)))) (dPar [0, 1] (dCons (dVar 1) (dCons (dOp gMod (dCB gInt (dCons (dVar 0) dNil)) (dVar 1)) dNil))))
    (dRet (dVar 0))))
noncomputable def F_law_gcd : List Dx.D → Option Dx.D := runD 2 m_law_gcd
noncomputable def m_law_low : DS := (dSeq (dSet 1 (dC (.int 0)))
    (dSeq (dFor (dIt (dVar 0)) (dName 2) (dSet 1 (dCall 2 F_law_gcd (dCons (dVar 1) (dCons (dVar 2) dNil)))))
    (dRet (dCB gTuple (dCons (dLc [2] (dIt (dVar 0)) (dName 2) dYes (dOp gDiv (dVar 2) (dVar 1))) dNil)))))
noncomputable def F_law_low : List Dx.D → Option Dx.D := runD 3 m_law_low
noncomputable def m_law_part : DS := (dRet (dCall 1 F_law_low (dCons (dIf (dTest (dOp gGt (dVar 1) (dC (.int 0)))) (dTup (dCons (dVar 0) (dCons (dVar 1) dNil))) (dTup (dCons (dOp gSub (dC (.int 0)) (dVar 0)) (dCons (dOp gSub (dC (.int 0)) (dVar 1)) dNil)))) dNil)))
noncomputable def F_law_part : List Dx.D → Option Dx.D := runD 2 m_law_part
noncomputable def m_law_add : DS := (dRet (dCall 2 F_law_part (dCons (dOp gAdd (dOp gMul (dOp gIx (dVar 0) (dC (.int 0))) (dOp gIx (dVar 1) (dC (.int 1)))) (dOp gMul (dOp gIx (dVar 1) (dC (.int 0))) (dOp gIx (dVar 0) (dC (.int 1))))) (dCons (dOp gMul (dOp gIx (dVar 0) (dC (.int 1))) (dOp gIx (dVar 1) (dC (.int 1)))) dNil))))
noncomputable def F_law_add : List Dx.D → Option Dx.D := runD 2 m_law_add
noncomputable def m_law_gap : DS := (dRet (dCall 2 F_law_part (dCons (dOp gSub (dOp gMul (dOp gIx (dVar 0) (dC (.int 0))) (dOp gIx (dVar 1) (dC (.int 1)))) (dOp gMul (dOp gIx (dVar 1) (dC (.int 0))) (dOp gIx (dVar 0) (dC (.int 1))))) (dCons (dOp gMul (dOp gIx (dVar 0) (dC (.int 1))) (dOp gIx (dVar 1) (dC (.int 1)))) dNil))))
noncomputable def F_law_gap : List Dx.D → Option Dx.D := runD 2 m_law_gap
noncomputable def m_law_mul : DS := (dRet (dCall 2 F_law_part (dCons (dOp gMul (dOp gIx (dVar 0) (dC (.int 0))) (dOp gIx (dVar 1) (dC (.int 0)))) (dCons (dOp gMul (dOp gIx (dVar 0) (dC (.int 1))) (dOp gIx (dVar 1) (dC (.int 1)))) dNil))))
noncomputable def F_law_mul : List Dx.D → Option Dx.D := runD 2 m_law_mul
noncomputable def m_law_div : DS := (dRet (dCall 2 F_law_part (dCons (dOp gMul (dOp gIx (dVar 0) (dC (.int 0))) (dOp gIx (dVar 1) (dC (.int 1)))) (dCons (dOp gMul (dOp gIx (dVar 0) (dC (.int 1))) (dOp gIx (dVar 1) (dC (.int 0)))) dNil))))
noncomputable def F_law_div : List Dx.D → Option Dx.D := runD 2 m_law_div
noncomputable def m_law_back : DS := (dRet (dTup (dCons (dOp gSub (dC (.int 0)) (dOp gIx (dVar 0) (dC (.int 0)))) (dCons (dOp gIx (dVar 0) (dC (.int 1))) dNil))))
noncomputable def F_law_back : List Dx.D → Option Dx.D := runD 1 m_law_back
noncomputable def m_law_any_part : DS := (dRet (dCall 2 F_law_part (dCons (dCallL 0 1 F_law_about (dCons (dVar 1) dNil)) (dCons (dOp gAdd (dC (.int 1)) (dCallL 0 1 F_law_deal (dCons (dCallL 0 1 F_law_some (dCons (dLst (dCons (dC (.int 1)) (dCons (dC (.int 1)) (dCons (dC (.int 2)) (dCons (dC (.int 3)) (dCons (dC (.int 7)) (dCons (dCB gMin (dCons (dVar 1) (dCons (dOp gPow (dC (.int 10)) (dC (.int 4))) dNil))) dNil))))))) dNil)) dNil))) dNil))))
noncomputable def F_law_any_part : List Dx.D → Ld → Res Dx.D := runL 2 m_law_any_part
noncomputable def m_law_wide : DS := (dRet (dCallL 0 1 F_law_some (dCons (dLst (dCons (dC (.int 1)) (dCons (dC (.int 2)) (dCons (dC (.int 3)) (dCons (dC (.int 3)) (dCons (dC (.int 5)) (dCons (dC (.int 9)) (dCons (dC (.int 99)) (dCons (dOp gPow (dC (.int 10)) (dC (.int 9))) dNil))))))))) dNil)))
noncomputable def F_law_wide : List Dx.D → Ld → Res Dx.D := runL 1 m_law_wide
noncomputable def m_law_heading : DS := (dSeq (dIfS (dTest (dOp gIsN (dVar 0) (dC .none)))
    (dRet (dTup (dCons (dTup (dCons (dUn gNeg (dC (.int 1))) (dCons (dC (.int 1)) dNil))) (dCons (dTup (dCons (dC (.int 0)) (dCons (dC (.int 1)) dNil))) dNil)))) dNext)
    (dSeq (dSet 1 (dCall 2 F_law_mul (dCons (dVar 0) (dCons (dVar 0) dNil))))
    (dSeq (dSet 2 (dCall 2 F_law_add (dCons (dTup (dCons (dC (.int 1)) (dCons (dC (.int 1)) dNil))) (dCons (dVar 1) dNil))))
    (dRet (dTup (dCons (dCall 2 F_law_div (dCons (dCall 2 F_law_gap (dCons (dTup (dCons (dC (.int 1)) (dCons (dC (.int 1)) dNil))) (dCons (dVar 1) dNil))) (dCons (dVar 2) dNil))) (dCons (dCall 2 F_law_div (dCons (dCall 2 F_law_mul (dCons (dTup (dCons (dC (.int 2)) (dCons (dC (.int 1)) dNil))) (dCons (dVar 0) dNil))) (dCons (dVar 2) dNil))) dNil)))))))
noncomputable def F_law_heading : List Dx.D → Option Dx.D := runD 3 m_law_heading
noncomputable def m_law_half : DS := (dSeq (dSet 1 (dCallL 0 1 F_law_some (dCons (dLst (dCons (dC (.int 1)) (dCons (dC (.int 2)) (dCons (dC (.int 3)) (dCons (dC (.int 9)) (dCons (dC (.int 99)) dNil)))))) dNil)))
    (dRet (dIf (dTest (dOp gEqA (dCallL 0 1 F_law_deal (dCons (dC (.int 7)) dNil)) (dC (.int 0)))) (dCallL 0 1 F_law_some (dCons (dLst (dCons (dC .none) (dCons (dTup (dCons (dC (.int 0)) (dCons (dC (.int 1)) dNil))) (dCons (dTup (dCons (dC (.int 1)) (dCons (dC (.int 1)) dNil))) (dCons (dTup (dCons (dUn gNeg (dC (.int 1))) (dCons (dC (.int 1)) dNil))) dNil))))) dNil)) (dCallL 0 1 F_law_any_part (dCons (dVar 1) dNil)))))
noncomputable def F_law_half : List Dx.D → Ld → Res Dx.D := runL 2 m_law_half
noncomputable def m_law_some_heading : DS := (dRet (dCall 1 F_law_heading (dCons (dCallL 0 0 F_law_half dNil) dNil)))
noncomputable def F_law_some_heading : List Dx.D → Ld → Res Dx.D := runL 1 m_law_some_heading
noncomputable def m_law_any_five : DS := (dSeq (dSetOwn 2 (dNew dNil))
    (dSeq (dFor (dRng1 (dCons (dC (.int 5)) dNil)) (dName 3) (dApp 2 (dIf (dTest (dOp gEqA (dCallL 0 1 F_law_deal (dCons (dC (.int 4)) dNil)) (dC (.int 0)))) (dTup (dCons (dC (.int 0)) (dCons (dC (.int 1)) dNil))) (dCallL 0 1 F_law_any_part (dCons (dVar 1) dNil)))))
    (dFrz 2 (dRet (dCB gTuple (dCons (dVar 2) dNil))))))
noncomputable def F_law_any_five : List Dx.D → Ld → Res Dx.D := runL 4 m_law_any_five
noncomputable def m_law_total : DS := (dSeq (dSet 1 (dTup (dCons (dC (.int 0)) (dCons (dC (.int 1)) dNil))))
    (dSeq (dFor (dIt (dVar 0)) (dName 2) (dSet 1 (dCall 2 F_law_add (dCons (dVar 1) (dCons (dVar 2) dNil)))))
    (dRet (dVar 1))))
noncomputable def F_law_total : List Dx.D → Option Dx.D := runD 3 m_law_total
noncomputable def m_law_needle : DS := (dSeq (dAsg (dGTup 2 (dGCons (dGTup 5 (dGCons (dName 2) (dGCons (dName 3) (dGCons (dName 4) (dGCons (dName 5) (dGCons (dName 6) dGNil)))))) (dGCons (dGTup 2 (dGCons (dName 7) (dGCons (dName 8) dGNil))) dGNil))) (dTup (dCons (dVar 0) (dCons (dVar 1) dNil))))
    (dSeq (dSet 9 (dCall 2 F_law_gap (dCons (dCall 2 F_law_mul (dCons (dVar 7) (dCons (dVar 7) dNil))) (dCons (dCall 2 F_law_mul (dCons (dVar 8) (dCons (dVar 8) dNil))) dNil))))
    (dSeq (dSet 10 (dCall 2 F_law_mul (dCons (dTup (dCons (dC (.int 2)) (dCons (dC (.int 1)) dNil))) (dCons (dCall 2 F_law_mul (dCons (dVar 8) (dCons (dVar 7) dNil))) dNil))))
    (dSeq (dSet 11 (dLst (dCons (dTup (dCons (dC (.int 1)) (dCons (dC (.int 1)) dNil))) (dCons (dCall 2 F_law_mul (dCons (dVar 3) (dCons (dVar 7) dNil))) (dCons (dCall 2 F_law_mul (dCons (dVar 5) (dCons (dVar 9) dNil))) dNil)))))
    (dSeq (dSet 12 (dCall 2 F_law_add (dCons (dCall 2 F_law_mul (dCons (dVar 4) (dCons (dVar 8) dNil))) (dCons (dCall 2 F_law_mul (dCons (dVar 6) (dCons (dVar 10) dNil))) dNil))))
    (dSeq (dSet 13 (dLst (dCons (dVar 2) (dCons (dCall 2 F_law_mul (dCons (dVar 3) (dCons (dVar 8) dNil))) (dCons (dCall 2 F_law_mul (dCons (dVar 4) (dCons (dVar 7) dNil))) (dCons (dCall 2 F_law_mul (dCons (dVar 5) (dCons (dVar 10) dNil))) (dCons (dCall 2 F_law_mul (dCons (dVar 6) (dCons (dVar 9) dNil))) dNil)))))))
    (dRet (dTup (dCons (dCall 2 F_law_gap (dCons (dCall 1 F_law_total (dCons (dVar 11) dNil)) (dCons (dVar 12) dNil))) (dCons (dCall 1 F_law_total (dCons (dVar 13) dNil)) dNil))))))))))
noncomputable def F_law_needle : List Dx.D → Option Dx.D := runD 14 m_law_needle
noncomputable def m_over : DS := (dRet (dCall 2 F_reduced (dCons (dOp gMul (dOp gIx (dVar 0) (dC (.int 0))) (dOp gIx (dVar 1) (dC (.int 1)))) (dCons (dOp gMul (dOp gIx (dVar 0) (dC (.int 1))) (dOp gIx (dVar 1) (dC (.int 0)))) dNil))))
noncomputable def F_over : List Dx.D → Option Dx.D := runD 2 m_over
noncomputable def m_whole_sign : DS := (dSeq (dIfS (dTest (dOp gEqA (dVar 0) (dC (.int 0))))
    (dRet (dC (.int 0))) dNext)
    (dRet (dIf (dTest (dOp gGt (dVar 0) (dC (.int 0)))) (dC (.int 1)) (dUn gNeg (dC (.int 1))))))
noncomputable def F_whole_sign : List Dx.D → Option Dx.D := runD 1 m_whole_sign
noncomputable def m_sign_of : DS := (dRet (dCall 1 F_whole_sign (dCons (dOp gIx (dVar 0) (dC (.int 0))) dNil)))
noncomputable def F_sign_of : List Dx.D → Option Dx.D := runD 1 m_sign_of
noncomputable def m_mirrored : DS := (dSeq (dDrop (dCall 1 F_check_heading (dCons (dVar 0) dNil)))
    (dRet (dTup (dCons (dOp gIx (dVar 0) (dC (.int 0))) (dCons (dCall 1 F_negative (dCons (dOp gIx (dVar 0) (dC (.int 1))) dNil)) dNil)))))
noncomputable def F_mirrored : List Dx.D → Option Dx.D := runD 1 m_mirrored
noncomputable def m_deviation_word : DS := (dSeq (dPar [2, 3] (dCons (dCall 1 F_sign_of (dCons (dCall 2 F_north_part (dCons (dVar 0) (dCons (dVar 1) dNil))) dNil)) (dCons (dCall 1 F_sign_of (dCons (dCall 2 F_east_part (dCons (dVar 0) (dCons (dVar 1) dNil))) dNil)) dNil)))
    (dSeq (dIfS (dTest (dOp gNeA (dVar 3) (dC (.int 0))))
    (dRet (dIf (dTest (dOp gGt (dVar 3) (dC (.int 0)))) (dC (.str "east")) (dC (.str "west")))) dNext)
    (dSeq (dIfS (dTest (dOp gEqA (dVar 2) (dC (.int 0))))
    (dRet (dC (.str "dead"))) dNext)
    (dRet (dIf (dTest (dOp gGt (dVar 2) (dC (.int 0)))) (dC (.str "plain")) (dC (.str "against")))))))
noncomputable def F_deviation_word : List Dx.D → Option Dx.D := runD 4 m_deviation_word
noncomputable def m_tangent_at : DS := (dSeq (dPar [2, 3] (dCons (dCall 2 F_north_part (dCons (dVar 0) (dCons (dVar 1) dNil))) (dCons (dCall 2 F_east_part (dCons (dVar 0) (dCons (dVar 1) dNil))) dNil)))
    (dRet (dIf (dTest (dOp gEqA (dVar 2) (dC k_NOUGHT))) (dC .none) (dCall 2 F_over (dCons (dVar 3) (dCons (dVar 2) dNil))))))
noncomputable def F_tangent_at : List Dx.D → Option Dx.D := runD 4 m_tangent_at
noncomputable def m_law_sign : DS := (dRet (dIf (dTest (dOp gGt (dVar 0) (dC (.int 0)))) (dC (.int 1)) (dIf (dTest (dOp gLt (dVar 0) (dC (.int 0)))) (dUn gNeg (dC (.int 1))) (dC (.int 0)))))
noncomputable def F_law_sign : List Dx.D → Option Dx.D := runD 1 m_law_sign
noncomputable def m_law_ship : DS := (dSeq (dAsg (dGTup 2 (dGCons (dGTup 5 (dGCons (dName 2) (dGCons (dName 3) (dGCons (dName 4) (dGCons (dName 5) (dGCons (dName 6) dGNil)))))) (dGCons (dGTup 2 (dGCons (dName 7) (dGCons (dName 8) dGNil))) dGNil))) (dTup (dCons (dVar 0) (dCons (dVar 1) dNil))))
    (dSeq (dSet 9 (dLst (dCons (dVar 3) (dCons (dCall 2 F_law_mul (dCons (dCall 2 F_law_add (dCons (dTup (dCons (dC (.int 1)) (dCons (dC (.int 1)) dNil))) (dCons (dVar 5) dNil))) (dCons (dVar 7) dNil))) (dCons (dCall 2 F_law_mul (dCons (dCall 2 F_law_gap (dCons (dVar 2) (dCons (dVar 6) dNil))) (dCons (dVar 8) dNil))) dNil)))))
    (dSeq (dSet 10 (dLst (dCons (dVar 4) (dCons (dCall 2 F_law_mul (dCons (dCall 2 F_law_add (dCons (dVar 2) (dCons (dVar 6) dNil))) (dCons (dVar 7) dNil))) (dCons (dCall 2 F_law_mul (dCons (dCall 2 F_law_gap (dCons (dVar 5) (dCons (dTup (dCons (dC (.int 1)) (dCons (dC (.int 1)) dNil))) dNil))) (dCons (dVar 8) dNil))) dNil)))))
    (dRet (dTup (dCons (dCall 1 F_law_total (dCons (dVar 9) dNil)) (dCons (dCall 1 F_law_total (dCons (dVar 10) dNil)) dNil)))))))
noncomputable def F_law_ship : List Dx.D → Option Dx.D := runD 11 m_law_ship
noncomputable def m_law_dead_five : DS := (dSeq (dSet 2 (dCallL 0 1 F_law_any_five (dCons (dC (.int 3)) dNil)))
    (dSeq (dAsg (dGTup 2 (dGCons (dName 3) (dGCons (dName 4) dGNil))) (dCall 2 F_law_ship (dCons (dTup (dCons (dOp gIx (dVar 2) (dC (.int 0))) (dCons (dTup (dCons (dC (.int 0)) (dCons (dC (.int 1)) dNil))) (dCons (dTup (dCons (dC (.int 0)) (dCons (dC (.int 1)) dNil))) (dCons (dOp gIx (dVar 2) (dC (.int 3))) (dCons (dOp gIx (dVar 2) (dC (.int 4))) dNil)))))) (dCons (dVar 1) dNil))))
    (dRet (dTup (dCons (dOp gIx (dVar 2) (dC (.int 0))) (dCons (dCall 1 F_law_back (dCons (dVar 3) dNil)) (dCons (dCall 1 F_law_back (dCons (dVar 4) dNil)) (dCons (dOp gIx (dVar 2) (dC (.int 3))) (dCons (dOp gIx (dVar 2) (dC (.int 4))) dNil)))))))))
noncomputable def F_law_dead_five : List Dx.D → Ld → Res Dx.D := runL 5 m_law_dead_five
noncomputable def m_law_word : DS := (dSeq (dIfS (dTest (dOp gNeA (dOp gIx (dVar 1) (dC (.int 0))) (dC (.int 0))))
    (dRet (dIf (dTest (dOp gGt (dOp gIx (dVar 1) (dC (.int 0))) (dC (.int 0)))) (dC (.str "east")) (dC (.str "west")))) dNext)
    (dRet (dOp gIx (dLst (dCons (dC (.str "dead")) (dCons (dC (.str "plain")) (dCons (dC (.str "against")) dNil)))) (dCall 1 F_law_sign (dCons (dOp gIx (dVar 0) (dC (.int 0))) dNil)))))
noncomputable def F_law_word : List Dx.D → Option Dx.D := runD 2 m_law_word
noncomputable def m_law_turned_to : DS := (dSeq (dAsg (dGTup 2 (dGCons (dName 3) (dGCons (dName 4) dGNil))) (dCall 2 F_law_needle (dCons (dVar 1) (dCons (dVar 2) dNil))))
    (dSeq (dSet 5 (dCallL 0 1 F_law_deal (dCons (dC (.int 3)) dNil)))
    (dSeq (dIfS (dTest (dOp gEqA (dVar 5) (dC (.int 0))))
    (dRet (dOp gAdd (dTup (dCons (dCall 2 F_law_gap (dCons (dOp gIx (dVar 1) (dC (.int 0))) (dCons (dVar 4) dNil))) dNil)) (dSl (dVar 1) (dOSome (dC (.int 1))) dONone))) dNext)
    (dSeq (dSet 6 (dIf (dTest (dOp gEqA (dVar 5) (dC (.int 1)))) (dOp gIx (dVar 2) (dC (.int 0))) (dCall 1 F_law_back (dCons (dOp gIx (dVar 2) (dC (.int 1))) dNil))))
    (dSeq (dIfS (dTest (dOp gEqA (dOp gIx (dVar 6) (dC (.int 0))) (dC (.int 0))))
    (dRet (dVar 1)) dNext)
    (dSeq (dSet 7 (dCall 2 F_law_div (dCons (dVar 3) (dCons (dVar 6) dNil))))
    (dRet (dOp gAdd (dOp gAdd (dSl (dVar 1) dONone (dOSome (dVar 5))) (dTup (dCons (dCall 2 F_law_gap (dCons (dOp gIx (dVar 1) (dVar 5)) (dCons (dVar 7) dNil))) dNil))) (dSl (dVar 1) (dOSome (dOp gAdd (dVar 5) (dC (.int 1)))) dONone)))))))))
noncomputable def F_law_turned_to : List Dx.D → Ld → Res Dx.D := runL 8 m_law_turned_to
noncomputable def m_course_along : DS := (dSeq (dAsg (dGTup 2 (dGCons (dGTup 2 (dGCons (dName 1) (dGCons (dName 2) dGNil))) (dGCons (dGTup 2 (dGCons (dName 3) (dGCons (dName 4) dGNil))) dGNil))) (dVar 0))
    (dSeq (dPar [5, 6] (dCons (dOp gMul (dVar 1) (dVar 4)) (dCons (dOp gMul (dVar 3) (dVar 2)) dNil)))
    (dSeq (dSet 7 (dCB gGcd (dCons (dVar 5) (dCons (dVar 6) dNil))))
    (dRet (dTup (dCons (dOp gDiv (dVar 5) (dVar 7)) (dCons (dOp gDiv (dVar 6) (dVar 7)) dNil)))))))
noncomputable def F_course_along : List Dx.D → Option Dx.D := runD 8 m_course_along
noncomputable def m_course_of : DS := (dSeq (dDrop (dCall 1 F_check_heading (dCons (dVar 0) dNil)))
    (dRet (dCall 1 F_course_along (dCons (dVar 0) dNil))))
noncomputable def F_course_of : List Dx.D → Option Dx.D := runD 1 m_course_of
noncomputable def m_course_at : DS := (dSeq (dSet 2 (dTup (dCons (dCall 2 F_north_part (dCons (dVar 0) (dCons (dVar 1) dNil))) (dCons (dCall 2 F_east_part (dCons (dVar 0) (dCons (dVar 1) dNil))) dNil))))
    (dSeq (dAsg (dGTup 2 (dGCons (dName 3) (dGCons (dName 4) dGNil))) (dVar 1))
    (dSeq (dPar [5, 6] (dCons (dCall 2 F_dot (dCons (dTup (dCons (dVar 3) (dCons (dVar 4) dNil))) (dCons (dVar 2) dNil))) (dCons (dCall 2 F_dot (dCons (dTup (dCons (dVar 4) (dCons (dCall 1 F_negative (dCons (dVar 3) dNil)) dNil))) (dCons (dVar 2) dNil))) dNil)))
    (dSeq (dIfS (dAnd (dTest (dOp gEqA (dVar 5) (dC k_NOUGHT))) (dTest (dOp gEqA (dVar 6) (dC k_NOUGHT))))
    (dRet (dC .none)) dNext)
    (dRet (dCall 1 F_course_along (dCons (dTup (dCons (dVar 5) (dCons (dVar 6) dNil))) dNil)))))))
noncomputable def F_course_at : List Dx.D → Option Dx.D := runD 7 m_course_at
noncomputable def m_law_ray : DS := (dRet (dCall 1 F_law_low (dCons (dTup (dCons (dOp gMul (dOp gIx (dVar 0) (dC (.int 0))) (dOp gIx (dVar 1) (dC (.int 1)))) (dCons (dOp gMul (dOp gIx (dVar 1) (dC (.int 0))) (dOp gIx (dVar 0) (dC (.int 1)))) dNil))) dNil)))
noncomputable def F_law_ray : List Dx.D → Option Dx.D := runD 2 m_law_ray
noncomputable def m_law_shown : DS := (dSeq (dAsg (dGTup 2 (dGCons (dName 2) (dGCons (dName 3) dGNil))) (dCall 2 F_law_ship (dCons (dVar 0) (dCons (dVar 1) dNil))))
    (dRet (dIf (dOr (dTest (dOp gNeA (dOp gIx (dVar 2) (dC (.int 0))) (dC (.int 0)))) (dTest (dOp gNeA (dOp gIx (dVar 3) (dC (.int 0))) (dC (.int 0))))) (dCall 2 F_law_ray (dCons (dVar 2) (dCons (dCall 1 F_law_back (dCons (dVar 3) dNil)) dNil))) (dC .none))))
noncomputable def F_law_shown : List Dx.D → Option Dx.D := runD 4 m_law_shown
noncomputable def m_force_wave : DS := (dSeq (dDrop (dCall 1 F_check_five (dCons (dVar 0) dNil)))
    (dSeq (dAsg (dGTup 5 (dGCons (dName 1) (dGCons (dName 2) (dGCons (dName 3) (dGCons (dName 4) (dGCons (dName 5) dGNil)))))) (dVar 0))
    (dSeq (dSet 6 (dTup (dCons (dCall 2 F_plus (dCons (dC k_ONE) (dCons (dCall 2 F_dot (dCons (dVar 0) (dCons (dVar 0) dNil))) dNil))) (dCons (dCall 2 F_dot (dCons (dTup (dCons (dC k_ONE) (dCons (dVar 1) (dCons (dVar 4) (dCons (dVar 5) dNil))))) (dCons (dTup (dCons (dVar 2) (dCons (dVar 3) (dCons (dVar 2) (dCons (dVar 3) dNil))))) dNil))) (dCons (dCall 2 F_dot (dCons (dTup (dCons (dVar 1) (dCons (dCall 1 F_negative (dCons (dC k_ONE) dNil)) (dCons (dVar 4) (dCons (dCall 1 F_negative (dCons (dVar 5) dNil)) dNil))))) (dCons (dTup (dCons (dVar 2) (dCons (dVar 3) (dCons (dVar 3) (dCons (dVar 2) dNil))))) dNil))) (dCons (dCall 2 F_plus (dCons (dVar 4) (dCons (dCall 2 F_times (dCons (dVar 1) (dCons (dVar 5) dNil))) dNil))) (dCons (dCall 2 F_minus (dCons (dCall 2 F_times (dCons (dVar 1) (dCons (dVar 4) dNil))) (dCons (dVar 5) dNil))) dNil)))))))
    (dRet (dOp gAdd (dSl (dVar 6) dONone (dOSome (dC (.int 1)))) (dCB gTuple (dCons (dLc [7] (dIt (dSl (dVar 6) (dOSome (dC (.int 1))) dONone)) (dName 7) dYes (dCall 2 F_plus (dCons (dVar 7) (dCons (dVar 7) dNil)))) dNil)))))))
noncomputable def F_force_wave : List Dx.D → Option Dx.D := runD 8 m_force_wave
noncomputable def m_force_square : DS := (dRet (dCall 2 F_wave_at (dCons (dCall 1 F_force_wave (dCons (dVar 0) dNil)) (dCons (dVar 1) dNil))))
noncomputable def F_force_square : List Dx.D → Option Dx.D := runD 2 m_force_square
noncomputable def m_round_numbers : DS := (dSeq (dDrop (dCall 1 F_check_five (dCons (dVar 0) dNil)))
    (dSeq (dAsg (dGTup 5 (dGCons (dName 1) (dGCons (dName 2) (dGCons (dName 3) (dGCons (dName 4) (dGCons (dName 5) dGNil)))))) (dVar 0))
    (dSeq (dSet 6 (dCall 2 F_minus (dCons (dCall 2 F_plus (dCons (dC k_ONE) (dCons (dCall 2 F_times (dCons (dVar 1) (dCons (dVar 1) dNil))) dNil))) (dCons (dCall 2 F_dot (dCons (dTup (dCons (dVar 4) (dCons (dVar 5) dNil))) (dCons (dTup (dCons (dVar 4) (dCons (dVar 5) dNil))) dNil))) dNil))))
    (dSeq (dSet 7 (dCall 2 F_minus (dCons (dCall 2 F_plus (dCons (dVar 2) (dCons (dCall 2 F_times (dCons (dVar 1) (dCons (dVar 3) dNil))) dNil))) (dCons (dCall 2 F_dot (dCons (dTup (dCons (dVar 4) (dCons (dVar 5) dNil))) (dCons (dTup (dCons (dVar 2) (dCons (dVar 3) dNil))) dNil))) dNil))))
    (dSeq (dSet 8 (dCall 2 F_plus (dCons (dCall 2 F_minus (dCons (dVar 3) (dCons (dCall 2 F_times (dCons (dVar 1) (dCons (dVar 2) dNil))) dNil))) (dCons (dCall 2 F_minus (dCons (dCall 2 F_times (dCons (dVar 4) (dCons (dVar 3) dNil))) (dCons (dCall 2 F_times (dCons (dVar 5) (dCons (dVar 2) dNil))) dNil))) dNil))))
    (dRet (dTup (dCons (dVar 6) (dCons (dVar 7) (dCons (dVar 8) dNil))))))))))
noncomputable def F_round_numbers : List Dx.D → Option Dx.D := runD 9 m_round_numbers
noncomputable def m_law_over : DS := (dRet (dCall 2 F_law_part (dCons (dOp gAdd (dC (.int 1)) (dCB gAbs (dCons (dCallL 0 1 F_law_about (dCons (dVar 1) dNil)) dNil))) (dCons (dOp gAdd (dC (.int 1)) (dCallL 0 1 F_law_deal (dCons (dCallL 0 1 F_law_some (dCons (dLst (dCons (dC (.int 1)) (dCons (dC (.int 1)) (dCons (dC (.int 2)) (dCons (dC (.int 3)) (dCons (dC (.int 7)) dNil)))))) dNil)) dNil))) dNil))))
noncomputable def F_law_over : List Dx.D → Ld → Res Dx.D := runL 2 m_law_over
noncomputable def m_law_turn : DS := (dRet (dTup (dCons (dCall 2 F_law_gap (dCons (dCall 2 F_law_mul (dCons (dOp gIx (dVar 0) (dC (.int 0))) (dCons (dOp gIx (dVar 1) (dC (.int 0))) dNil))) (dCons (dCall 2 F_law_mul (dCons (dOp gIx (dVar 0) (dC (.int 1))) (dCons (dOp gIx (dVar 1) (dC (.int 1))) dNil))) dNil))) (dCons (dCall 2 F_law_add (dCons (dCall 2 F_law_mul (dCons (dOp gIx (dVar 0) (dC (.int 1))) (dCons (dOp gIx (dVar 1) (dC (.int 0))) dNil))) (dCons (dCall 2 F_law_mul (dCons (dOp gIx (dVar 0) (dC (.int 0))) (dCons (dOp gIx (dVar 1) (dC (.int 1))) dNil))) dNil))) dNil))))
noncomputable def F_law_turn : List Dx.D → Option Dx.D := runD 2 m_law_turn
noncomputable def m_law_rounds : DS := (dSeq (dAsg (dGTup 5 (dGCons (dName 1) (dGCons (dName 2) (dGCons (dName 3) (dGCons (dName 4) (dGCons (dName 5) dGNil)))))) (dVar 0))
    (dSeq (dSet 6 (dCall 2 F_law_gap (dCons (dCall 2 F_law_add (dCons (dTup (dCons (dC (.int 1)) (dCons (dC (.int 1)) dNil))) (dCons (dCall 2 F_law_mul (dCons (dVar 1) (dCons (dVar 1) dNil))) dNil))) (dCons (dCall 2 F_law_add (dCons (dCall 2 F_law_mul (dCons (dVar 4) (dCons (dVar 4) dNil))) (dCons (dCall 2 F_law_mul (dCons (dVar 5) (dCons (dVar 5) dNil))) dNil))) dNil))))
    (dSeq (dSet 7 (dCall 2 F_law_gap (dCons (dCall 2 F_law_add (dCons (dVar 2) (dCons (dCall 2 F_law_mul (dCons (dVar 1) (dCons (dVar 3) dNil))) dNil))) (dCons (dCall 2 F_law_add (dCons (dCall 2 F_law_mul (dCons (dVar 4) (dCons (dVar 2) dNil))) (dCons (dCall 2 F_law_mul (dCons (dVar 5) (dCons (dVar 3) dNil))) dNil))) dNil))))
    (dSeq (dSet 8 (dCall 2 F_law_gap (dCons (dCall 2 F_law_add (dCons (dVar 3) (dCons (dCall 2 F_law_mul (dCons (dVar 4) (dCons (dVar 3) dNil))) dNil))) (dCons (dCall 2 F_law_add (dCons (dCall 2 F_law_mul (dCons (dVar 1) (dCons (dVar 2) dNil))) (dCons (dCall 2 F_law_mul (dCons (dVar 5) (dCons (dVar 2) dNil))) dNil))) dNil))))
    (dRet (dTup (dCons (dVar 6) (dCons (dVar 7) (dCons (dVar 8) dNil)))))))))
noncomputable def F_law_rounds : List Dx.D → Option Dx.D := runD 9 m_law_rounds
noncomputable def m_law_flat_five : DS := (dSeq (dPar [1, 2, 3] (dCons (dCallL 0 1 F_law_any_part (dCons (dC (.int 2)) dNil)) (dCons (dCallL 0 0 F_law_some_heading dNil) (dCons (dCallL 0 1 F_law_any_part (dCons (dCallL 0 1 F_law_some (dCons (dLst (dCons (dC (.int 1)) (dCons (dC (.int 3)) (dCons (dC (.int 9)) dNil)))) dNil)) dNil)) dNil))))
    (dSeq (dSet 4 (dCall 2 F_law_turn (dCons (dVar 2) (dCons (dVar 2) dNil))))
    (dSeq (dIfS (dTest (dOp gEqA (dCallL 0 1 F_law_deal (dCons (dC (.int 4)) dNil)) (dC (.int 0))))
    (dPar [1, 3] (dCons (dTup (dCons (dC (.int 0)) (dCons (dC (.int 1)) dNil))) (dCons (dCallL 0 1 F_law_some (dCons (dLst (dCons (dTup (dCons (dC (.int 2)) (dCons (dC (.int 1)) dNil))) (dCons (dTup (dCons (dUn gNeg (dC (.int 2))) (dCons (dC (.int 1)) dNil))) (dCons (dTup (dCons (dC (.int 0)) (dCons (dC (.int 1)) dNil))) dNil)))) dNil)) dNil))) dNext)
    (dSeq (dSet 5 (dCall 2 F_law_add (dCons (dOp gIx (dVar 4) (dC (.int 0))) (dCons (dCall 2 F_law_mul (dCons (dVar 1) (dCons (dOp gIx (dVar 4) (dC (.int 1))) dNil))) dNil))))
    (dSeq (dSet 6 (dCall 2 F_law_gap (dCons (dOp gIx (dVar 4) (dC (.int 1))) (dCons (dCall 2 F_law_mul (dCons (dVar 1) (dCons (dOp gIx (dVar 4) (dC (.int 0))) dNil))) dNil))))
    (dRet (dTup (dCons (dVar 1) (dCons (dCall 2 F_law_mul (dCons (dVar 3) (dCons (dOp gIx (dVar 2) (dC (.int 0))) dNil))) (dCons (dCall 2 F_law_mul (dCons (dVar 3) (dCons (dOp gIx (dVar 2) (dC (.int 1))) dNil))) (dCons (dVar 5) (dCons (dVar 6) dNil))))))))))))
noncomputable def F_law_flat_five : List Dx.D → Ld → Res Dx.D := runL 7 m_law_flat_five
noncomputable def m_law_kind_five : DS := (dSeq (dSet 1 (dCallL 0 1 F_law_deal (dCons (dC (.int 7)) dNil)))
    (dSeq (dIfS (dTest (dOp gEqA (dVar 1) (dC (.int 0))))
    (dRet (dCallL 0 0 F_law_flat_five dNil)) dNext)
    (dSeq (dIfS (dTest (dOp gEqA (dVar 1) (dC (.int 1))))
    (dRet (dCallL 0 1 F_law_dead_five (dCons (dCallL 0 0 F_law_some_heading dNil) dNil))) dNext)
    (dSeq (dSet 2 (dCallL 0 1 F_law_any_five (dCons (dCallL 0 1 F_law_some (dCons (dLst (dCons (dC (.int 1)) (dCons (dC (.int 3)) (dCons (dC (.int 9)) dNil)))) dNil)) dNil)))
    (dSeq (dIfS (dTest (dOp gEqA (dVar 1) (dC (.int 2))))
    (dRet (dVar 2)) dNext)
    (dSeq (dIfS (dTest (dOp gEqA (dVar 1) (dC (.int 3))))
    (dSeq (dSet 3 (dCallL 0 0 F_law_flat_five dNil))
    (dRet (dTup (dCons (dOp gIx (dVar 3) (dC (.int 0))) (dCons (dOp gIx (dVar 2) (dC (.int 1))) (dCons (dOp gIx (dVar 2) (dC (.int 2))) (dCons (dOp gIx (dVar 3) (dC (.int 3))) (dCons (dOp gIx (dVar 3) (dC (.int 4))) dNil)))))))) dNext)
    (dSeq (dIfS (dTest (dOp gEqA (dVar 1) (dC (.int 4))))
    (dRet (dCB gTuple (dCons (dLc [5] (dIt (dVar 2)) (dName 5) dYes (dCall 2 F_law_mul (dCons (dVar 5) (dCons (dTup (dCons (dC (.int 1)) (dCons (dC (.int 6)) dNil))) dNil)))) dNil))) dNext)
    (dSeq (dSet 4 (dCall 2 F_law_add (dCons (dTup (dCons (dC (.int 2)) (dCons (dC (.int 1)) dNil))) (dCons (dCallL 0 1 F_law_over (dCons (dC (.int 3)) dNil)) dNil))))
    (dSeq (dIfS (dTest (dOp gEqA (dVar 1) (dC (.int 5))))
    (dRet (dTup (dCons (dCall 2 F_law_mul (dCons (dOp gIx (dVar 2) (dC (.int 0))) (dCons (dTup (dCons (dC (.int 1)) (dCons (dC (.int 5)) dNil))) dNil))) (dCons (dCall 2 F_law_mul (dCons (dOp gIx (dVar 2) (dC (.int 1))) (dCons (dTup (dCons (dC (.int 1)) (dCons (dC (.int 5)) dNil))) dNil))) (dCons (dTup (dCons (dC (.int 0)) (dCons (dC (.int 1)) dNil))) (dCons (dVar 4) (dCons (dCall 2 F_law_mul (dCons (dOp gIx (dVar 2) (dC (.int 4))) (dCons (dTup (dCons (dC (.int 1)) (dCons (dC (.int 5)) dNil))) dNil))) dNil))))))) dNext)
    (dRet (dTup (dCons (dCall 2 F_law_mul (dCons (dOp gIx (dVar 2) (dC (.int 0))) (dCons (dTup (dCons (dC (.int 1)) (dCons (dC (.int 5)) dNil))) dNil))) (dCons (dVar 4) (dCons (dOp gIx (dVar 2) (dC (.int 2))) (dCons (dCall 2 F_law_mul (dCons (dOp gIx (dVar 2) (dC (.int 3))) (dCons (dTup (dCons (dC (.int 1)) (dCons (dC (.int 9)) dNil))) dNil))) (dCons (dCall 2 F_law_mul (dCons (dOp gIx (dVar 2) (dC (.int 4))) (dCons (dTup (dCons (dC (.int 1)) (dCons (dC (.int 9)) dNil))) dNil))) dNil))))))))))))))))
noncomputable def F_law_kind_five : List Dx.D → Ld → Res Dx.D := runL 6 m_law_kind_five
noncomputable def m_law_times : DS := (dSeq (dAsg (dGTup 2 (dGCons (dGTup 2 (dGCons (dName 2) (dGCons (dName 3) dGNil))) (dGCons (dGTup 2 (dGCons (dName 4) (dGCons (dName 5) dGNil))) dGNil))) (dTup (dCons (dVar 0) (dCons (dVar 1) dNil))))
    (dRet (dTup (dCons (dCall 2 F_law_gap (dCons (dCall 2 F_law_mul (dCons (dVar 2) (dCons (dVar 4) dNil))) (dCons (dCall 2 F_law_mul (dCons (dVar 3) (dCons (dVar 5) dNil))) dNil))) (dCons (dCall 2 F_law_add (dCons (dCall 2 F_law_mul (dCons (dVar 2) (dCons (dVar 5) dNil))) (dCons (dCall 2 F_law_mul (dCons (dVar 3) (dCons (dVar 4) dNil))) dNil))) dNil)))))
noncomputable def F_law_times : List Dx.D → Option Dx.D := runD 6 m_law_times
noncomputable def m_law_conjugate : DS := (dRet (dTup (dCons (dOp gIx (dVar 0) (dC (.int 0))) (dCons (dCall 1 F_law_back (dCons (dOp gIx (dVar 0) (dC (.int 1))) dNil)) dNil))))
noncomputable def F_law_conjugate : List Dx.D → Option Dx.D := runD 1 m_law_conjugate
def k_SOUTH : Dx.D := .tuple [.tuple [.int (-1), .int 1], .tuple [.int 0, .int 1]]
noncomputable def m_check_fraction : DS := (dIfS (dNot (dTest (dCall 1 F_is_fraction (dCons (dVar 0) dNil))))
    dNever dNext)
noncomputable def F_check_fraction : List Dx.D → Option Dx.D := runD 1 m_check_fraction
noncomputable def m_heading_of : DS := (dSeq (dIfS (dTest (dOp gIsN (dVar 0) (dC .none)))
    (dRet (dC k_SOUTH)) dNext)
    (dSeq (dDrop (dCall 1 F_check_fraction (dCons (dVar 0) dNil)))
    (dSeq (dSet 1 (dCall 2 F_times (dCons (dVar 0) (dCons (dVar 0) dNil))))
    (dSeq (dSet 2 (dCall 2 F_plus (dCons (dC k_ONE) (dCons (dVar 1) dNil))))
    (dRet (dTup (dCons (dCall 2 F_over (dCons (dCall 2 F_minus (dCons (dC k_ONE) (dCons (dVar 1) dNil))) (dCons (dVar 2) dNil))) (dCons (dCall 2 F_over (dCons (dCall 2 F_plus (dCons (dVar 0) (dCons (dVar 0) dNil))) (dCons (dVar 2) dNil))) dNil))))))))
noncomputable def F_heading_of : List Dx.D → Option Dx.D := runD 3 m_heading_of
noncomputable def m_half_of : DS := (dSeq (dDrop (dCall 1 F_check_heading (dCons (dVar 0) dNil)))
    (dSeq (dIfS (dTest (dOp gEqA (dVar 0) (dC k_SOUTH)))
    (dRet (dC .none)) dNext)
    (dSeq (dAsg (dGTup 2 (dGCons (dName 1) (dGCons (dName 2) dGNil))) (dVar 0))
    (dRet (dCall 2 F_over (dCons (dVar 2) (dCons (dCall 2 F_plus (dCons (dC k_ONE) (dCons (dVar 1) dNil))) dNil)))))))
noncomputable def F_half_of : List Dx.D → Option Dx.D := runD 3 m_half_of
noncomputable def m_law_odd_parts : DS := (dSeq (dSet 0 (dLst (dCons (dC .none) (dCons (dC (.int 1)) (dCons (dC (.int 0)) (dCons (dC (.str "1")) (dCons (dTup dNil) (dCons (dTup (dCons (dC (.int 1)) dNil)) (dCons (dTup (dCons (dC (.int 2)) (dCons (dC (.int 4)) dNil))) (dCons (dTup (dCons (dC (.int 1)) (dCons (dC (.int 0)) dNil))) (dCons (dTup (dCons (dC (.int 1)) (dCons (dUn gNeg (dC (.int 2))) dNil))) (dCons (dTup (dCons (dC (.int 0)) (dCons (dC (.int 3)) dNil))) (dCons (dTup (dCons (dUn gNeg (dC (.int 3))) (dCons (dUn gNeg (dC (.int 1))) dNil))) (dCons (dLst (dCons (dC (.int 1)) (dCons (dC (.int 2)) dNil))) (dCons (dTup (dCons (dC (.bool true)) (dCons (dC (.int 2)) dNil))) (dCons (dTup (dCons (dC (.int 1)) (dCons (dC (.bool true)) dNil))) dNil))))))))))))))))
    (dRet (dOp gAdd (dVar 0) (dLst (dCons (dTup (dCons (dC (.int 1)) (dCons (dC (.int 2)) (dCons (dC (.int 3)) dNil)))) (dCons dDict0 (dCons (dTup (dCons (dC .none) (dCons (dC (.int 1)) dNil))) (dCons (dTup (dCons (dC (.str "1")) (dCons (dC (.int 2)) dNil))) (dCons (dTup (dCons (dTup (dCons (dC (.int 1)) (dCons (dC (.int 2)) dNil))) (dCons (dC (.int 1)) dNil))) (dCons (dC (.bool true)) (dCons (dTup (dCons (dC (.int 0)) (dCons (dC (.int 0)) dNil))) dNil)))))))))))
noncomputable def F_law_odd_parts : List Dx.D → Option Dx.D := runD 1 m_law_odd_parts
noncomputable def m_is_course : DS := (dSeq (dIfS (dOr (dNot (dTest (dIsi "tuple" (dVar 0)))) (dTest (dOp gNeA (dCB gLen (dCons (dVar 0) dNil)) (dC (.int 2)))))
    (dRet (dC (.bool false))) dNext)
    (dRet (dAndV (dCall 1 F_is_whole (dCons (dOp gIx (dVar 0) (dC (.int 0))) dNil)) (dAndV (dCall 1 F_is_whole (dCons (dOp gIx (dVar 0) (dC (.int 1))) dNil)) (dOp gEqA (dCB gGcd (dCons (dOp gIx (dVar 0) (dC (.int 0))) (dCons (dOp gIx (dVar 0) (dC (.int 1))) dNil))) (dC (.int 1)))))))
noncomputable def F_is_course : List Dx.D → Option Dx.D := runD 1 m_is_course
noncomputable def m_check_course : DS := (dIfS (dNot (dTest (dCall 1 F_is_course (dCons (dVar 0) dNil))))
    dNever dNext)
noncomputable def F_check_course : List Dx.D → Option Dx.D := runD 1 m_check_course
noncomputable def m_heading_along : DS := (dSeq (dDrop (dCall 1 F_check_course (dCons (dVar 0) dNil)))
    (dSeq (dAsg (dGTup 2 (dGCons (dName 1) (dGCons (dName 2) dGNil))) (dVar 0))
    (dSeq (dSet 3 (dCB gIsqrt (dCons (dOp gAdd (dOp gMul (dVar 1) (dVar 1)) (dOp gMul (dVar 2) (dVar 2))) dNil)))
    (dSeq (dIfS (dTest (dOp gNeA (dOp gMul (dVar 3) (dVar 3)) (dOp gAdd (dOp gMul (dVar 1) (dVar 1)) (dOp gMul (dVar 2) (dVar 2)))))
    (dRet (dC .none)) dNext)
    (dRet (dTup (dCons (dCall 2 F_reduced (dCons (dVar 1) (dCons (dVar 3) dNil))) (dCons (dCall 2 F_reduced (dCons (dVar 2) (dCons (dVar 3) dNil))) dNil))))))))
noncomputable def F_heading_along : List Dx.D → Option Dx.D := runD 4 m_heading_along
noncomputable def m_law_root : DS := (dSeq (dAsg (dGTup 2 (dGCons (dName 1) (dGCons (dName 2) dGNil))) (dTup (dCons (dC (.int 0)) (dCons (dC (.int 1)) dNil))))
    (dSeq (dWhile (dTest (dOp gLe (dOp gMul (dVar 2) (dVar 2)) (dVar 0))) (dSet 2 (dOp gMul (dC (.int 2)) (dVar 2))))
    (dSeq (dWhile (dTest (dOp gGt (dOp gSub (dVar 2) (dVar 1)) (dC (.int 1)))) (dSeq (dSet 3 (dOp gDiv (dOp gAdd (dVar 1) (dVar 2)) (dC (.int 2))))
    (dIfS (dTest (dOp gLe (dOp gMul (dVar 3) (dVar 3)) (dVar 0)))
    (dSet 1 (dVar 3)) (dSet 2 (dVar 3)))))
    (dRet (dVar 1)))))
noncomputable def F_law_root : List Dx.D → Option Dx.D := runD 4 m_law_root
noncomputable def m_law_course : DS := (dSeq (dSet 1 (dCallL 0 1 F_law_deal (dCons (dC (.int 5)) dNil)))
    (dSeq (dIfS (dTest (dOp gEqA (dVar 1) (dC (.int 0))))
    (dRet (dCallL 0 1 F_law_some (dCons (dLst (dCons (dTup (dCons (dC (.int 1)) (dCons (dC (.int 0)) dNil))) (dCons (dTup (dCons (dC (.int 0)) (dCons (dC (.int 1)) dNil))) (dCons (dTup (dCons (dUn gNeg (dC (.int 1))) (dCons (dC (.int 0)) dNil))) (dCons (dTup (dCons (dC (.int 0)) (dCons (dUn gNeg (dC (.int 1))) dNil))) dNil))))) dNil))) dNext)
    (dSeq (dIfS (dTest (dOp gEqA (dVar 1) (dC (.int 1))))
    (dSeq (dSet 2 (dCallL 0 0 F_law_some_heading dNil))
    (dRet (dCall 2 F_law_ray (dCons (dOp gIx (dVar 2) (dC (.int 0))) (dCons (dOp gIx (dVar 2) (dC (.int 1))) dNil))))) dNext)
    (dSeq (dSet 3 (dCallL 0 1 F_law_some (dCons (dLst (dCons (dC (.int 1)) (dCons (dC (.int 3)) (dCons (dC (.int 9)) (dCons (dC (.int 99)) dNil))))) dNil)))
    (dSeq (dSet 4 (dTup (dCons (dCallL 0 1 F_law_about (dCons (dVar 3) dNil)) (dCons (dCallL 0 1 F_law_about (dCons (dVar 3) dNil)) dNil))))
    (dRet (dIf (dTest (dOp gNeA (dVar 4) (dTup (dCons (dC (.int 0)) (dCons (dC (.int 0)) dNil))))) (dCall 1 F_law_low (dCons (dVar 4) dNil)) (dTup (dCons (dC (.int 1)) (dCons (dC (.int 1)) dNil))))))))))
noncomputable def F_law_course : List Dx.D → Ld → Res Dx.D := runL 5 m_law_course
def k_HALF : Dx.D := .tuple [.int 1, .int 2]
noncomputable def m_is_piece : DS := (dRet (dAndV (dIsi "tuple" (dVar 0)) (dAndV (dOp gEqA (dCB gLen (dCons (dVar 0) dNil)) (dC (.int 3))) (dCB gAll (dCons (dLc [1] (dIt (dVar 0)) (dName 1) dYes (dCall 2 F_is_row (dCons (dVar 1) (dCons (dC (.int 4)) dNil)))) dNil)))))
noncomputable def F_is_piece : List Dx.D → Option Dx.D := runD 2 m_is_piece
noncomputable def m_is_iron : DS := (dRet (dAndV (dCall 1 F_is_piece (dCons (dVar 0) dNil)) (dOp gGt (dCall 1 F_sign_of (dCons (dCall 2 F_plus (dCons (dTup (dCons (dC (.int 2)) (dCons (dC (.int 1)) dNil))) (dCons (dCall 2 F_plus (dCons (dOp gIx (dOp gIx (dVar 0) (dC (.int 0))) (dC (.int 0))) (dCons (dOp gIx (dOp gIx (dVar 0) (dC (.int 1))) (dC (.int 1))) dNil))) dNil))) dNil)) (dC (.int 0)))))
noncomputable def F_is_iron : List Dx.D → Option Dx.D := runD 1 m_is_iron
noncomputable def m_is_place : DS := (dRet (dAndV (dCall 2 F_is_row (dCons (dVar 0) (dCons (dC (.int 2)) dNil))) (dOp gGt (dCall 1 F_sign_of (dCons (dOp gIx (dVar 0) (dC (.int 0))) dNil)) (dC (.int 0)))))
noncomputable def F_is_place : List Dx.D → Option Dx.D := runD 1 m_is_place
noncomputable def m_check_iron : DS := (dIfS (dNot (dTest (dCall 1 F_is_iron (dCons (dVar 0) dNil))))
    dNever dNext)
noncomputable def F_check_iron : List Dx.D → Option Dx.D := runD 1 m_check_iron
noncomputable def m_strength_of : DS := (dSeq (dDrop (dCall 1 F_check_iron (dCons (dVar 0) dNil)))
    (dRet (dCall 2 F_plus (dCons (dC k_ONE) (dCons (dCall 2 F_times (dCons (dC k_HALF) (dCons (dCall 2 F_plus (dCons (dOp gIx (dOp gIx (dVar 0) (dC (.int 0))) (dC (.int 0))) (dCons (dOp gIx (dOp gIx (dVar 0) (dC (.int 1))) (dC (.int 1))) dNil))) dNil))) dNil)))))
noncomputable def F_strength_of : List Dx.D → Option Dx.D := runD 1 m_strength_of
noncomputable def m_check_place : DS := (dIfS (dNot (dTest (dCall 1 F_is_place (dCons (dVar 0) dNil))))
    dNever dNext)
noncomputable def F_check_place : List Dx.D → Option Dx.D := runD 1 m_check_place
noncomputable def m_five_of : DS := (dSeq (dSet 2 (dCall 1 F_strength_of (dCons (dVar 0) dNil)))
    (dSeq (dDrop (dCall 1 F_check_place (dCons (dVar 1) dNil)))
    (dSeq (dAsg (dGTup 3 (dGCons (dGTup 4 (dGCons (dName 4) (dGCons (dName 5) (dGCons (dName 6) (dGCons (dName 7) dGNil))))) (dGCons (dGTup 4 (dGCons (dName 8) (dGCons (dName 9) (dGCons (dName 10) (dGCons (dName 11) dGNil))))) (dGCons (dName 3) dGNil)))) (dVar 0))
    (dSeq (dAsg (dGTup 2 (dGCons (dName 12) (dGCons (dName 13) dGNil))) (dVar 1))
    (dSeq (dPar [14, 15] (dCons (dCall 2 F_plus (dCons (dVar 2) (dCons (dVar 2) dNil))) (dCons (dCall 2 F_times (dCons (dVar 2) (dCons (dVar 12) dNil))) dNil)))
    (dRet (dTup (dCons (dCall 2 F_over (dCons (dCall 2 F_minus (dCons (dVar 8) (dCons (dVar 5) dNil))) (dCons (dVar 14) dNil))) (dCons (dCall 2 F_over (dCons (dCall 2 F_plus (dCons (dCall 2 F_times (dCons (dVar 6) (dCons (dVar 13) dNil))) (dCons (dVar 7) dNil))) (dCons (dVar 15) dNil))) (dCons (dCall 2 F_over (dCons (dCall 2 F_plus (dCons (dCall 2 F_times (dCons (dVar 10) (dCons (dVar 13) dNil))) (dCons (dVar 11) dNil))) (dCons (dVar 15) dNil))) (dCons (dCall 2 F_over (dCons (dCall 2 F_minus (dCons (dVar 4) (dCons (dVar 9) dNil))) (dCons (dVar 14) dNil))) (dCons (dCall 2 F_over (dCons (dCall 2 F_plus (dCons (dVar 8) (dCons (dVar 5) dNil))) (dCons (dVar 14) dNil))) dNil))))))))))))
noncomputable def F_five_of : List Dx.D → Option Dx.D := runD 16 m_five_of
noncomputable def m_law_iron : DS := (dSeq (dOPar 2 3 (dNew dNil) (dCallL 0 1 F_law_deal (dCons (dC (.int 6)) dNil)))
    (dSeq (dFor (dRng1 (dCons (dC (.int 3)) dNil)) (dName 4) (dSeq (dSetOwn 5 (dNew dNil))
    (dSeq (dFor (dRng1 (dCons (dC (.int 4)) dNil)) (dName 6) (dSeq (dSet 7 (dOrV (dOp gGt (dVar 3) (dC (.int 1))) (dOrV (dAndV (dOp gEqA (dVar 3) (dC (.int 0))) (dOp gEqA (dVar 6) (dC (.int 3)))) (dAndV (dOp gEqA (dVar 3) (dC (.int 1))) (dOp gLt (dVar 6) (dC (.int 3)))))))
    (dApp 5 (dIf (dTest (dVar 7)) (dCallL 0 1 F_law_any_part (dCons (dVar 1) dNil)) (dTup (dCons (dC (.int 0)) (dCons (dC (.int 1)) dNil)))))))
    (dFrz 5 (dApp 2 (dCB gTuple (dCons (dVar 5) dNil)))))))
    (dFrz 2 (dRet (dCB gTuple (dCons (dVar 2) dNil))))))
noncomputable def F_law_iron : List Dx.D → Ld → Res Dx.D := runL 8 m_law_iron
noncomputable def m_law_strength : DS := (dRet (dCall 2 F_law_add (dCons (dTup (dCons (dC (.int 1)) (dCons (dC (.int 1)) dNil))) (dCons (dCall 2 F_law_mul (dCons (dTup (dCons (dC (.int 1)) (dCons (dC (.int 2)) dNil))) (dCons (dCall 2 F_law_add (dCons (dOp gIx (dOp gIx (dVar 0) (dC (.int 0))) (dC (.int 0))) (dCons (dOp gIx (dOp gIx (dVar 0) (dC (.int 1))) (dC (.int 1))) dNil))) dNil))) dNil))))
noncomputable def F_law_strength : List Dx.D → Option Dx.D := runD 1 m_law_strength
noncomputable def m_law_strong : DS := (dSeq (dSet 2 (dCallL 0 1 F_law_iron (dCons (dVar 1) dNil)))
    (dSeq (dIfS (dTest (dOp gGt (dOp gIx (dCall 1 F_law_strength (dCons (dVar 2) dNil)) (dC (.int 0))) (dC (.int 0))))
    (dRet (dVar 2)) dNext)
    (dSeq (dAsg (dGTup 3 (dGCons (dName 3) (dGCons (dName 4) (dGCons (dName 5) dGNil)))) (dVar 2))
    (dSeq (dSet 6 (dCall 2 F_law_add (dCons (dCall 2 F_law_gap (dCons (dTup (dCons (dC (.int 0)) (dCons (dC (.int 1)) dNil))) (dCons (dOp gIx (dVar 3) (dC (.int 0))) dNil))) (dCons (dCallL 0 1 F_law_over (dCons (dVar 1) dNil)) dNil))))
    (dRet (dTup (dCons (dVar 3) (dCons (dTup (dCons (dOp gIx (dVar 4) (dC (.int 0))) (dCons (dVar 6) (dCons (dOp gIx (dVar 4) (dC (.int 2))) (dCons (dOp gIx (dVar 4) (dC (.int 3))) dNil))))) (dCons (dVar 5) dNil)))))))))
noncomputable def F_law_strong : List Dx.D → Ld → Res Dx.D := runL 7 m_law_strong
noncomputable def m_law_place : DS := (dRet (dTup (dCons (dCallL 0 1 F_law_over (dCons (dVar 1) dNil)) (dCons (dCallL 0 1 F_law_any_part (dCons (dVar 1) dNil)) dNil))))
noncomputable def F_law_place : List Dx.D → Ld → Res Dx.D := runL 2 m_law_place
noncomputable def m_law_five : DS := (dSeq (dAsg (dGTup 3 (dGCons (dGTup 4 (dGCons (dName 3) (dGCons (dName 4) (dGCons (dName 5) (dGCons (dName 6) dGNil))))) (dGCons (dGTup 4 (dGCons (dName 7) (dGCons (dName 8) (dGCons (dName 9) (dGCons (dName 10) dGNil))))) (dGCons (dName 2) dGNil)))) (dVar 0))
    (dSeq (dAsg (dGTup 2 (dGCons (dName 11) (dGCons (dGTup 2 (dGCons (dName 12) (dGCons (dName 13) dGNil))) dGNil))) (dTup (dCons (dCall 1 F_law_strength (dCons (dVar 0) dNil)) (dCons (dVar 1) dNil))))
    (dSeq (dPar [14, 15] (dCons (dCall 2 F_law_mul (dCons (dTup (dCons (dC (.int 2)) (dCons (dC (.int 1)) dNil))) (dCons (dVar 11) dNil))) (dCons (dCall 2 F_law_mul (dCons (dVar 11) (dCons (dVar 12) dNil))) dNil)))
    (dSeq (dSet 16 (dCall 2 F_law_div (dCons (dCall 2 F_law_add (dCons (dCall 2 F_law_mul (dCons (dVar 5) (dCons (dVar 13) dNil))) (dCons (dVar 6) dNil))) (dCons (dVar 15) dNil))))
    (dSeq (dSet 17 (dCall 2 F_law_div (dCons (dCall 2 F_law_add (dCons (dCall 2 F_law_mul (dCons (dVar 9) (dCons (dVar 13) dNil))) (dCons (dVar 10) dNil))) (dCons (dVar 15) dNil))))
    (dSeq (dPar [18, 19] (dCons (dCall 2 F_law_div (dCons (dCall 2 F_law_gap (dCons (dVar 7) (dCons (dVar 4) dNil))) (dCons (dVar 14) dNil))) (dCons (dCall 2 F_law_div (dCons (dCall 2 F_law_add (dCons (dVar 7) (dCons (dVar 4) dNil))) (dCons (dVar 14) dNil))) dNil)))
    (dRet (dTup (dCons (dVar 18) (dCons (dVar 16) (dCons (dVar 17) (dCons (dCall 2 F_law_div (dCons (dCall 2 F_law_gap (dCons (dVar 3) (dCons (dVar 8) dNil))) (dCons (dVar 14) dNil))) (dCons (dVar 19) dNil)))))))))))))
noncomputable def F_law_five : List Dx.D → Option Dx.D := runD 20 m_law_five
noncomputable def m_plain_iron : DS := (dSeq (dDrop (dCall 1 F_check_five (dCons (dVar 0) dNil)))
    (dSeq (dDrop (dCall 1 F_check_place (dCons (dVar 1) dNil)))
    (dSeq (dAsg (dGTup 5 (dGCons (dName 2) (dGCons (dName 3) (dGCons (dName 4) (dGCons (dName 5) (dGCons (dName 6) dGNil)))))) (dVar 0))
    (dSeq (dSet 7 (dOp gIx (dVar 1) (dC (.int 0))))
    (dSeq (dSet 8 (dTup (dCons (dVar 5) (dCons (dCall 2 F_minus (dCons (dVar 6) (dCons (dVar 2) dNil))) (dCons (dC k_NOUGHT) (dCons (dCall 2 F_times (dCons (dVar 7) (dCons (dVar 3) dNil))) dNil))))))
    (dSeq (dSet 9 (dTup (dCons (dCall 2 F_plus (dCons (dVar 6) (dCons (dVar 2) dNil))) (dCons (dCall 1 F_negative (dCons (dVar 5) dNil)) (dCons (dC k_NOUGHT) (dCons (dCall 2 F_times (dCons (dVar 7) (dCons (dVar 4) dNil))) dNil))))))
    (dRet (dTup (dCons (dVar 8) (dCons (dVar 9) (dCons (dTup (dCons (dC k_NOUGHT) (dCons (dC k_NOUGHT) (dCons (dC k_NOUGHT) (dCons (dC k_NOUGHT) dNil))))) dNil)))))))))))
noncomputable def F_plain_iron : List Dx.D → Option Dx.D := runD 10 m_plain_iron
noncomputable def m_law_spot : DS := (dRet (dLst (dCons (dCall 2 F_law_div (dCons (dTup (dCons (dC (.int 1)) (dCons (dC (.int 1)) dNil))) (dCons (dOp gIx (dVar 0) (dC (.int 0))) dNil))) (dCons (dCall 2 F_law_div (dCons (dOp gIx (dVar 0) (dC (.int 1))) (dCons (dOp gIx (dVar 0) (dC (.int 0))) dNil))) dNil))))
noncomputable def F_law_spot : List Dx.D → Option Dx.D := runD 1 m_law_spot
noncomputable def m_check_piece : DS := (dIfS (dNot (dTest (dCall 1 F_is_piece (dCons (dVar 0) dNil))))
    dNever dNext)
noncomputable def F_check_piece : List Dx.D → Option Dx.D := runD 1 m_check_piece
noncomputable def m_joined_row : DS := (dRet (dCB gTuple (dCons (dLc [2, 3] (dZip (dCons (dVar 0) (dCons (dVar 1) dNil))) (dGTup 2 (dGCons (dName 2) (dGCons (dName 3) dGNil))) dYes (dCall 2 F_plus (dCons (dVar 2) (dCons (dVar 3) dNil)))) dNil)))
noncomputable def F_joined_row : List Dx.D → Option Dx.D := runD 4 m_joined_row
noncomputable def m_joined : DS := (dSeq (dDrop (dCall 1 F_check_iron (dCons (dVar 0) dNil)))
    (dSeq (dDrop (dCall 1 F_check_piece (dCons (dVar 1) dNil)))
    (dSeq (dSet 2 (dCB gTuple (dCons (dLc [3, 4] (dZip (dCons (dVar 0) (dCons (dVar 1) dNil))) (dGTup 2 (dGCons (dName 3) (dGCons (dName 4) dGNil))) dYes (dCall 2 F_joined_row (dCons (dVar 3) (dCons (dVar 4) dNil)))) dNil)))
    (dSeq (dIfS (dNot (dTest (dCall 1 F_is_iron (dCons (dVar 2) dNil))))
    dNever dNext)
    (dRet (dVar 2))))))
noncomputable def F_joined : List Dx.D → Option Dx.D := runD 5 m_joined
noncomputable def m_law_sums : DS := (dSeq (dSetOwn 2 (dNew dNil))
    (dSeq (dFor (dZip (dCons (dVar 0) (dCons (dVar 1) dNil))) (dGTup 2 (dGCons (dName 3) (dGCons (dName 4) dGNil))) (dApp 2 (dCB gTuple (dCons (dLc [5, 6] (dZip (dCons (dVar 3) (dCons (dVar 4) dNil))) (dGTup 2 (dGCons (dName 5) (dGCons (dName 6) dGNil))) dYes (dCall 2 F_law_add (dCons (dVar 5) (dCons (dVar 6) dNil)))) dNil))))
    (dFrz 2 (dRet (dCB gTuple (dCons (dVar 2) dNil))))))
noncomputable def F_law_sums : List Dx.D → Option Dx.D := runD 7 m_law_sums
noncomputable def m_law_opposite : DS := (dRet (dCB gTuple (dCons (dLc [1] (dIt (dVar 0)) (dName 1) dYes (dCB gTuple (dCons (dLc [2] (dIt (dVar 1)) (dName 2) dYes (dCall 1 F_law_back (dCons (dVar 2) dNil))) dNil))) dNil)))
noncomputable def F_law_opposite : List Dx.D → Option Dx.D := runD 3 m_law_opposite
noncomputable def m_turned : DS := (dSeq (dDrop (dCall 1 F_check_heading (dCons (dVar 0) dNil)))
    (dSeq (dDrop (dCall 1 F_check_heading (dCons (dVar 1) dNil)))
    (dSeq (dAsg (dGTup 2 (dGCons (dName 2) (dGCons (dName 3) dGNil))) (dVar 0))
    (dRet (dTup (dCons (dCall 2 F_dot (dCons (dTup (dCons (dVar 2) (dCons (dCall 1 F_negative (dCons (dVar 3) dNil)) dNil))) (dCons (dVar 1) dNil))) (dCons (dCall 2 F_dot (dCons (dTup (dCons (dVar 3) (dCons (dVar 2) dNil))) (dCons (dVar 1) dNil))) dNil)))))))
noncomputable def F_turned : List Dx.D → Option Dx.D := runD 4 m_turned
noncomputable def m_quarter_of : DS := (dSeq (dDrop (dCall 1 F_check_heading (dCons (dVar 0) dNil)))
    (dSeq (dPar [1, 2] (dCons (dCall 1 F_sign_of (dCons (dOp gIx (dVar 0) (dC (.int 0))) dNil)) (dCons (dCall 1 F_sign_of (dCons (dOp gIx (dVar 0) (dC (.int 1))) dNil)) dNil)))
    (dSeq (dIfS (dAnd (dTest (dOp gGt (dVar 1) (dC (.int 0)))) (dTest (dOp gGe (dVar 2) (dC (.int 0)))))
    (dRet (dC (.int 0))) dNext)
    (dSeq (dIfS (dTest (dOp gGt (dVar 2) (dC (.int 0))))
    (dRet (dC (.int 1))) dNext)
    (dRet (dIf (dTest (dOp gLt (dVar 1) (dC (.int 0)))) (dC (.int 2)) (dC (.int 3))))))))
noncomputable def F_quarter_of : List Dx.D → Option Dx.D := runD 3 m_quarter_of
noncomputable def m_order_of : DS := (dSeq (dSet 2 (dOp gSub (dCall 1 F_quarter_of (dCons (dVar 0) dNil)) (dCall 1 F_quarter_of (dCons (dVar 1) dNil))))
    (dSeq (dIfS (dTest (dOp gNeA (dVar 2) (dC (.int 0))))
    (dRet (dCall 1 F_whole_sign (dCons (dVar 2) dNil))) dNext)
    (dRet (dCall 1 F_sign_of (dCons (dCall 2 F_minus (dCons (dCall 2 F_times (dCons (dOp gIx (dVar 0) (dC (.int 1))) (dCons (dOp gIx (dVar 1) (dC (.int 0))) dNil))) (dCons (dCall 2 F_times (dCons (dOp gIx (dVar 0) (dC (.int 0))) (dCons (dOp gIx (dVar 1) (dC (.int 1))) dNil))) dNil))) dNil)))))
noncomputable def F_order_of : List Dx.D → Option Dx.D := runD 3 m_order_of
noncomputable def m_law_below : DS := (dRet (dOp gLt (dOp gMul (dOp gIx (dVar 0) (dC (.int 0))) (dOp gIx (dVar 1) (dC (.int 1)))) (dOp gMul (dOp gIx (dVar 1) (dC (.int 0))) (dOp gIx (dVar 0) (dC (.int 1))))))
noncomputable def F_law_below : List Dx.D → Option Dx.D := runD 2 m_law_below
noncomputable def m_law_quarter : DS := (dSeq (dPar [1, 2] (dCons (dOp gIx (dOp gIx (dVar 0) (dC (.int 0))) (dC (.int 0))) (dCons (dOp gIx (dOp gIx (dVar 0) (dC (.int 1))) (dC (.int 0))) dNil)))
    (dSeq (dIfS (dAnd (dTest (dOp gGt (dVar 1) (dC (.int 0)))) (dTest (dOp gGe (dVar 2) (dC (.int 0)))))
    (dRet (dC (.int 0))) dNext)
    (dSeq (dIfS (dTest (dOp gGt (dVar 2) (dC (.int 0))))
    (dRet (dC (.int 1))) dNext)
    (dRet (dIf (dTest (dOp gLt (dVar 1) (dC (.int 0)))) (dC (.int 2)) (dC (.int 3)))))))
noncomputable def F_law_quarter : List Dx.D → Option Dx.D := runD 3 m_law_quarter
noncomputable def m_law_order : DS := (dSeq (dPar [2, 3] (dCons (dCall 1 F_law_quarter (dCons (dVar 0) dNil)) (dCons (dCall 1 F_law_quarter (dCons (dVar 1) dNil)) dNil)))
    (dSeq (dIfS (dTest (dOp gNeA (dVar 2) (dVar 3)))
    (dRet (dIf (dTest (dOp gLt (dVar 2) (dVar 3))) (dUn gNeg (dC (.int 1))) (dC (.int 1)))) dNext)
    (dSeq (dSet 4 (dCall 2 F_law_gap (dCons (dCall 2 F_law_mul (dCons (dOp gIx (dVar 1) (dC (.int 1))) (dCons (dOp gIx (dVar 0) (dC (.int 0))) dNil))) (dCons (dCall 2 F_law_mul (dCons (dOp gIx (dVar 1) (dC (.int 0))) (dCons (dOp gIx (dVar 0) (dC (.int 1))) dNil))) dNil))))
    (dRet (dOp gSub (dC (.int 0)) (dCall 1 F_law_sign (dCons (dOp gIx (dVar 4) (dC (.int 0))) dNil)))))))
noncomputable def F_law_order : List Dx.D → Option Dx.D := runD 5 m_law_order
noncomputable def m_law_odd_pieces : DS := (dSeq (dSet 0 (dTup (dCons (dC (.int 0)) (dCons (dC (.int 1)) dNil))))
    (dSeq (dSet 1 (dTup (dCons (dVar 0) (dCons (dVar 0) (dCons (dVar 0) (dCons (dVar 0) dNil))))))
    (dSeq (dSet 2 (dLst (dCons (dC .none) (dCons (dC (.int 4)) (dCons (dC (.str "iron")) (dCons (dTup dNil) (dCons (dTup (dCons (dVar 1) (dCons (dVar 1) dNil))) (dCons (dLst (dCons (dVar 1) (dCons (dVar 1) (dCons (dVar 1) dNil)))) (dCons (dTup (dCons (dVar 1) (dCons (dVar 1) (dCons (dVar 1) (dCons (dVar 1) dNil))))) (dCons (dTup (dCons (dVar 1) (dCons (dVar 1) (dCons (dCB gList (dCons (dVar 1) dNil)) dNil)))) (dCons dDict0 (dCons (dVar 1) dNil))))))))))))
    (dSeq (dSet 2 (dOp gAdd (dVar 2) (dLst (dCons (dTup (dCons (dVar 1) (dCons (dTup (dCons (dVar 0) (dCons (dVar 0) (dCons (dVar 0) dNil)))) (dCons (dVar 1) dNil)))) (dCons (dTup (dCons (dTup (dCons (dC (.int 1)) (dCons (dC (.int 0)) (dCons (dC (.int 0)) (dCons (dC (.int 0)) dNil))))) (dCons (dVar 1) (dCons (dVar 1) dNil)))) (dCons (dTup (dCons (dVar 1) (dCons (dVar 1) (dCons (dTup (dCons (dVar 0) (dCons (dVar 0) (dCons (dTup (dCons (dC (.int 2)) (dCons (dC (.int 4)) dNil))) (dCons (dVar 0) dNil))))) dNil)))) dNil))))))
    (dSeq (dSet 2 (dOp gAdd (dVar 2) (dLst (dCons (dTup (dCons (dVar 1) (dCons (dVar 1) (dCons (dTup (dCons (dVar 0) (dCons (dVar 0) (dCons (dVar 0) (dCons (dC .none) dNil))))) dNil)))) (dCons (dOp gAdd (dOp gAdd (dVar 1) (dVar 1)) (dVar 1)) (dCons (dTup (dCons (dVar 1) (dCons (dVar 1) (dCons (dVar 0) dNil)))) dNil))))))
    (dRet (dOp gAdd (dVar 2) (dLst (dCons (dTup (dCons (dVar 1) (dCons (dVar 1) (dCons (dTup (dCons (dVar 0) (dCons (dVar 0) (dCons (dVar 0) (dCons (dTup (dCons (dC (.int 1)) (dCons (dC (.int 0)) dNil))) dNil))))) dNil)))) dNil)))))))))
noncomputable def F_law_odd_pieces : List Dx.D → Option Dx.D := runD 3 m_law_odd_pieces
noncomputable def m_law_odd_places : DS := (dSeq (dAsg (dGTup 2 (dGCons (dName 0) (dGCons (dName 1) dGNil))) (dTup (dCons (dTup (dCons (dC (.int 0)) (dCons (dC (.int 1)) dNil))) (dCons (dTup (dCons (dC (.int 1)) (dCons (dC (.int 1)) dNil))) dNil))))
    (dSeq (dSet 2 (dLst (dCons (dC .none) (dCons (dC (.int 2)) (dCons (dC (.str "port")) (dCons (dTup dNil) (dCons (dTup (dCons (dVar 1) dNil)) (dCons (dLst (dCons (dVar 1) (dCons (dVar 1) dNil))) (dCons (dTup (dCons (dVar 1) (dCons (dVar 1) (dCons (dVar 1) dNil)))) (dCons (dTup (dCons (dVar 0) (dCons (dVar 1) dNil))) (dCons (dTup (dCons (dTup (dCons (dUn gNeg (dC (.int 1))) (dCons (dC (.int 2)) dNil))) (dCons (dVar 1) dNil))) (dCons (dTup (dCons (dVar 1) (dCons (dC .none) dNil))) (dCons dDict0 dNil)))))))))))))
    (dRet (dOp gAdd (dVar 2) (dLst (dCons (dTup (dCons (dVar 1) (dCons (dC (.int 1)) dNil))) (dCons (dTup (dCons (dC (.int 1)) (dCons (dVar 1) dNil))) (dCons (dTup (dCons (dTup (dCons (dC (.int 2)) (dCons (dC (.int 4)) dNil))) (dCons (dVar 1) dNil))) (dCons (dTup (dCons (dVar 1) (dCons (dTup (dCons (dC (.int 1)) (dCons (dC (.int 0)) dNil))) dNil))) dNil)))))))))
noncomputable def F_law_odd_places : List Dx.D → Option Dx.D := runD 3 m_law_odd_places
noncomputable def m_law_odd_fives : DS := (dSeq (dSet 0 (dTup (dCons (dC (.int 0)) (dCons (dC (.int 1)) dNil))))
    (dSeq (dSet 1 (dLst (dCons (dC .none) (dCons (dC (.int 5)) (dCons (dC (.str "five")) (dCons (dTup dNil) (dCons (dOp gMul (dTup (dCons (dVar 0) dNil)) (dC (.int 4))) (dCons (dOp gMul (dTup (dCons (dVar 0) dNil)) (dC (.int 6))) (dCons (dOp gMul (dLst (dCons (dVar 0) dNil)) (dC (.int 5))) (dCons (dTup (dCons (dVar 0) (dCons (dVar 0) (dCons (dC (.int 0)) (dCons (dVar 0) (dCons (dVar 0) dNil)))))) (dCons (dTup (dCons (dC (.int 0)) (dCons (dC (.int 0)) (dCons (dC (.int 0)) (dCons (dC (.int 0)) (dCons (dC (.int 0)) dNil)))))) (dCons (dVar 0) dNil))))))))))))
    (dRet (dOp gAdd (dVar 1) (dLst (dCons (dTup (dCons (dVar 0) (dCons (dVar 0) (dCons (dVar 0) (dCons (dVar 0) (dCons (dTup (dCons (dC (.int 2)) (dCons (dC (.int 4)) dNil))) dNil)))))) (dCons (dTup (dCons (dTup (dCons (dC (.int 1)) (dCons (dC (.int 0)) dNil))) (dCons (dVar 0) (dCons (dVar 0) (dCons (dVar 0) (dCons (dVar 0) dNil)))))) (dCons (dTup (dCons (dVar 0) (dCons (dVar 0) (dCons (dVar 0) (dCons (dC .none) (dCons (dVar 0) dNil)))))) (dCons dDict0 dNil)))))))))
noncomputable def F_law_odd_fives : List Dx.D → Option Dx.D := runD 2 m_law_odd_fives
noncomputable def m_law_is_part : DS := (dSeq (dIfS (dOr (dNot (dTest (dIsi "tuple" (dVar 0)))) (dTest (dOp gNeA (dCB gLen (dCons (dVar 0) dNil)) (dC (.int 2)))))
    (dRet (dC (.bool false))) dNext)
    (dSeq (dIfS (dTest (dOp gNeA (dLc [1] (dIt (dVar 0)) (dName 1) (dOr (dNot (dTest (dIsi "int" (dVar 1)))) (dTest (dIsi "bool" (dVar 1)))) (dVar 1)) (dLst dNil)))
    (dRet (dC (.bool false))) dNext)
    (dRet (dAndV (dOp gGt (dOp gIx (dVar 0) (dC (.int 1))) (dC (.int 0))) (dOp gEqA (dCall 2 F_law_gcd (dCons (dOp gIx (dVar 0) (dC (.int 0))) (dCons (dOp gIx (dVar 0) (dC (.int 1))) dNil))) (dC (.int 1)))))))
noncomputable def F_law_is_part : List Dx.D → Option Dx.D := runD 2 m_law_is_part
noncomputable def m_law_are_parts : DS := (dRet (dAndV (dIsi "tuple" (dVar 0)) (dAndV (dOp gEqA (dCB gLen (dCons (dVar 0) dNil)) (dVar 1)) (dOp gEqA (dLc [2] (dIt (dVar 0)) (dName 2) (dNot (dTest (dCall 1 F_law_is_part (dCons (dVar 2) dNil)))) (dVar 2)) (dLst dNil)))))
noncomputable def F_law_are_parts : List Dx.D → Option Dx.D := runD 3 m_law_are_parts
noncomputable def m_law_piece_due : DS := (dSeq (dIfS (dOr (dNot (dTest (dIsi "tuple" (dVar 0)))) (dTest (dOp gNeA (dCB gLen (dCons (dVar 0) dNil)) (dC (.int 3)))))
    (dRet (dC (.bool false))) dNext)
    (dRet (dOp gEqA (dLc [1] (dIt (dVar 0)) (dName 1) (dNot (dTest (dCall 2 F_law_are_parts (dCons (dVar 1) (dCons (dC (.int 4)) dNil))))) (dVar 1)) (dLst dNil))))
noncomputable def F_law_piece_due : List Dx.D → Option Dx.D := runD 2 m_law_piece_due
noncomputable def m_law_iron_due : DS := (dRet (dAndV (dCall 1 F_law_piece_due (dCons (dVar 0) dNil)) (dOp gGt (dOp gIx (dCall 1 F_law_strength (dCons (dVar 0) dNil)) (dC (.int 0))) (dC (.int 0)))))
noncomputable def F_law_iron_due : List Dx.D → Option Dx.D := runD 1 m_law_iron_due
noncomputable def m_is_one_sided : DS := (dSeq (dAsg (dGTup 5 (dGCons (dName 1) (dGCons (dName 2) (dGCons (dName 3) (dGCons (dName 4) (dGCons (dName 4) dGNil)))))) (dVar 0))
    (dRet (dOp gGt (dCall 1 F_sign_of (dCons (dCall 2 F_minus (dCons (dCall 2 F_dot (dCons (dTup (dCons (dVar 2) (dCons (dVar 3) dNil))) (dCons (dTup (dCons (dVar 2) (dCons (dVar 3) dNil))) dNil))) (dCons (dCall 2 F_times (dCons (dTup (dCons (dC (.int 4)) (dCons (dC (.int 1)) dNil))) (dCons (dCall 2 F_plus (dCons (dC k_ONE) (dCons (dCall 2 F_times (dCons (dVar 1) (dCons (dVar 1) dNil))) dNil))) dNil))) dNil))) dNil)) (dC (.int 0)))))
noncomputable def F_is_one_sided : List Dx.D → Option Dx.D := runD 5 m_is_one_sided
noncomputable def m_round_word : DS := (dSeq (dAsg (dGTup 3 (dGCons (dName 1) (dGCons (dName 2) (dGCons (dName 3) dGNil)))) (dCall 1 F_round_numbers (dCons (dVar 0) dNil)))
    (dSeq (dSet 4 (dCall 1 F_sign_of (dCons (dCall 2 F_minus (dCons (dCall 2 F_dot (dCons (dTup (dCons (dVar 2) (dCons (dVar 3) dNil))) (dCons (dTup (dCons (dVar 2) (dCons (dVar 3) dNil))) dNil))) (dCons (dCall 2 F_times (dCons (dVar 1) (dCons (dVar 1) dNil))) dNil))) dNil)))
    (dSeq (dIfS (dTest (dOp gGt (dVar 4) (dC (.int 0))))
    (dRet (dC (.str "swings"))) dNext)
    (dSeq (dIfS (dTest (dOp gLt (dVar 4) (dC (.int 0))))
    (dRet (dIf (dTest (dOp gGt (dCall 1 F_sign_of (dCons (dVar 1) dNil)) (dC (.int 0)))) (dC (.str "round")) (dC (.str "backward")))) dNext)
    (dRet (dIf (dAnd (dTest (dOp gEqA (dVar 1) (dC k_NOUGHT))) (dTest (dCall 1 F_is_one_sided (dCons (dVar 0) dNil)))) (dC (.str "stuck")) (dC (.str "dead"))))))))
noncomputable def F_round_word : List Dx.D → Option Dx.D := runD 5 m_round_word
noncomputable def m_law_wheel : DS := (dSeq (dAsg (dGTup 3 (dGCons (dName 1) (dGCons (dName 2) (dGCons (dName 3) dGNil)))) (dCall 1 F_law_rounds (dCons (dVar 0) dNil)))
    (dSeq (dAsg (dGTup 3 (dGCons (dName 4) (dGCons (dName 5) (dGCons (dName 6) dGNil)))) (dSl (dVar 0) dONone (dOSome (dC (.int 3)))))
    (dSeq (dSet 7 (dCall 2 F_law_add (dCons (dCall 2 F_law_mul (dCons (dVar 2) (dCons (dVar 2) dNil))) (dCons (dCall 2 F_law_mul (dCons (dVar 3) (dCons (dVar 3) dNil))) dNil))))
    (dSeq (dSet 8 (dCall 1 F_law_sign (dCons (dOp gIx (dCall 2 F_law_gap (dCons (dVar 7) (dCons (dCall 2 F_law_mul (dCons (dVar 1) (dCons (dVar 1) dNil))) dNil))) (dC (.int 0))) dNil)))
    (dSeq (dIfS (dAnd (dTest (dOp gEqA (dOp gIx (dVar 1) (dC (.int 0))) (dC (.int 0)))) (dTest (dOp gEqA (dOp gIx (dVar 7) (dC (.int 0))) (dC (.int 0)))))
    (dSeq (dSet 9 (dCall 2 F_law_gap (dCons (dCall 2 F_law_add (dCons (dCall 2 F_law_mul (dCons (dVar 5) (dCons (dVar 5) dNil))) (dCons (dCall 2 F_law_mul (dCons (dVar 6) (dCons (dVar 6) dNil))) dNil))) (dCons (dCall 2 F_law_mul (dCons (dTup (dCons (dC (.int 4)) (dCons (dC (.int 1)) dNil))) (dCons (dCall 2 F_law_add (dCons (dTup (dCons (dC (.int 1)) (dCons (dC (.int 1)) dNil))) (dCons (dCall 2 F_law_mul (dCons (dVar 4) (dCons (dVar 4) dNil))) dNil))) dNil))) dNil))))
    (dRet (dIf (dTest (dOp gGt (dOp gIx (dVar 9) (dC (.int 0))) (dC (.int 0)))) (dC (.str "stuck")) (dC (.str "dead"))))) dNext)
    (dSeq (dIfS (dTest (dOp gLt (dVar 8) (dC (.int 0))))
    (dRet (dIf (dTest (dOp gGt (dOp gIx (dVar 1) (dC (.int 0))) (dC (.int 0)))) (dC (.str "round")) (dC (.str "backward")))) dNext)
    (dRet (dIf (dTest (dOp gGt (dVar 8) (dC (.int 0)))) (dC (.str "swings")) (dC (.str "dead"))))))))))
noncomputable def F_law_wheel : List Dx.D → Option Dx.D := runD 10 m_law_wheel
end Kb
end
section
set_option Elab.async false
set_option linter.all false
set_option maxRecDepth 100000
/-! Dx13: list(zip(a, b)) of two tuples. The zip object's pair stays alive in the list, so that after the first item the state is 'held'. -/
namespace Dx
open PySem PySem.Spec PyProof.Rows L2
theorem zip_lenless : typeLookup (.type "zip") "__len__" = pure none := am_miss_of_fast (by decide +kernel)
theorem zip_hintless : typeLookup (.type "zip") "__length_hint__" = pure none := am_miss_of_fast (by decide +kernel)

section
variable {prog : Program} {w : World} {A : Around} {E : Value → Shared → Prop} {s : Shared} {z TI TO T i1 i2 p q : Addr} {f : Bool} {oT : Obj} {m n : Nat} {xs ys : Array Value} {x y : Value}
/-- the zip's next pair while an earlier one is alive -/
theorem zt_step {Q : Value → Shared → Prop} (dd : ZipApart z TI TO i1 i2 p q) (a0 : IsZipHeld s.heap z TI TO T f) (a1 : s.heap.get? T = some oT) (a2 : IsPair s.heap TI (.ref i1) (.ref i2))
    (b1 : s.heap.IsTupleIter i1 p m) (b2 : s.heap.IsTupleIter i2 q n) (c1 : s.heap.IsTuple p xs) (c2 : s.heap.IsTuple q ys) (e1 : xs[m]? = some x) (e2 : ys[n]? = some y)
    (fin : ∀ h', IsZipHeld h' z TI TO T true → h'.IsTupleIter i1 p (m + 1) → h'.IsTupleIter i2 q (n + 1) → IsPair h' s.heap.objs.size x y → (∀ c o, c ≠ z → c ≠ i1 → c ≠ i2 → s.heap.get? c = some o → h'.get? c = some o) → Q (.ref s.heap.objs.size) { s with heap := h' }) :
    wpAny (model prog w) A (Builtin.«zip.__next__» ⟨[.ref z], []⟩) (fun r s' => ∃ v, r = .done (.ret v) ∧ Q v s') E s := by
  show wpAny (model prog w) A (field (.ref z) 2 >>= _) _ E s
  refine wpAny_bind (wpAny_field a0 rfl (x := .bool false) rfl ?_); show wpAny (model prog w) A (field (.ref z) 3 >>= _) _ E s
  refine wpAny_bind (wpAny_field a0 rfl (x := .ref TI) rfl (wpAny_bind (wpAny_seqItems a2 rfl ?_)))
  show wpAny (model prog w) A (Builtin.SmallTypes.ownedTupleIsFree (.ref z) >>= _) _ E s
  refine wpAny_bind (wpAny_tupleHeld_zip a0 a1 fun k1 u1 v1 => ?_)
  simp only [Bool.false_eq_true, if_false]; refine wpAny_bind ?_
  rw [← Array.forIn_toList]; simp only [List.forIn_cons, List.forIn_nil]
  refine wpAny_bind (wpAny_bind (wpAny_holding ?_)); show wpAny (model prog w) _ (Builtin.SmallTypes.nextOf (.ref i1) >>= _) _ E _
  refine wpAny_bind (RZ.nextOf_tuple_item (s := { s with heap := k1 }) (b1.extBut v1.extBut dd.i1z) (c1.extBut v1.extBut dd.l1z) e1 fun k2 u2 v2 => wpAny_pure (wpAny_pure ?_))
  refine wpAny_bind (wpAny_bind (wpAny_holding ?_)); show wpAny (model prog w) _ (Builtin.SmallTypes.nextOf (.ref i2) >>= _) _ E _
  refine wpAny_bind (RZ.nextOf_tuple_item (s := { s with heap := k2 }) ((b2.extBut v1.extBut dd.i2z).extBut v2.extBut dd.i12.symm) ((c2.extBut v1.extBut dd.l2z).extBut v2.extBut dd.l2i1) e2 fun k3 u3 v3 => wpAny_pure (wpAny_pure (wpAny_pure ?_)))
  show wpAny (model prog w) _ (newTuple [x, y] >>= _) _ E _
  refine wpAny_bind (wpAny_newTuple (wpAny_pure ⟨_, rfl, ?_⟩))
  have sz : k3.objs.size = s.heap.objs.size := by rw [v3.1, v2.1, v1.1]
  have u4 : IsZipHeld k3 z TI TO T true := v3.extBut _ _ dd.i2z.symm (v2.extBut _ _ dd.i1z.symm u1)
  have kp : ∀ c o, c ≠ z → c ≠ i1 → c ≠ i2 → s.heap.get? c = some o → k3.get? c = some o := fun c o r1 r2 r3 e => v3.extBut _ _ r3 (v2.extBut _ _ r2 (v1.extBut _ _ r1 e))
  have u5 : k3.IsTupleIter i1 p (m + 1) := u2.extBut v3.extBut dd.i12
  have pr : IsPair (k3.push { cls := .type "tuple", data := .seq #[x, y] }) k3.objs.size x y := Heap.get?_push_size _ rfl
  show Q (.ref k3.objs.size) _
  rw [sz] at pr ⊢
  exact fin _ (Heap.get?_push_of_some _ u4) (u5.at fun o e => Heap.get?_push_of_some _ e) (u3.at fun o e => Heap.get?_push_of_some _ e) pr fun c o r1 r2 r3 e => Heap.get?_push_of_some _ (kp c o r1 r2 r3 e)
theorem zt_next {Q : Option Value → Shared → Prop} (dd : ZipApart z TI TO i1 i2 p q) (a0 : IsZipHeld s.heap z TI TO T f) (a1 : s.heap.get? T = some oT) (a2 : IsPair s.heap TI (.ref i1) (.ref i2))
    (b1 : s.heap.IsTupleIter i1 p m) (b2 : s.heap.IsTupleIter i2 q n) (c1 : s.heap.IsTuple p xs) (c2 : s.heap.IsTuple q ys) (e1 : xs[m]? = some x) (e2 : ys[n]? = some y)
    (fin : ∀ h', IsZipHeld h' z TI TO T true → h'.IsTupleIter i1 p (m + 1) → h'.IsTupleIter i2 q (n + 1) → IsPair h' s.heap.objs.size x y → (∀ c o, c ≠ z → c ≠ i1 → c ≠ i2 → s.heap.get? c = some o → h'.get? c = some o) → Q (some (.ref s.heap.objs.size)) { s with heap := h' }) :
    wpAny (model prog w) A (pyNext (.ref z)) Q E s := by
  have ty : s.TypeIs (.ref z) "zip" := ⟨_, a0, rfl⟩
  unfold pyNext
  exact wpAny_bind (wpAny_attempt (wpAny_callSpecial?_slot (name := Str.ofString "__next__") ty F.slot_zip_next (wpAny_call_entry F.slot_zip_next ty F.entry_zip_next
    (zt_step dd a0 a1 a2 b1 b2 c1 c2 e1 e2 fun h' d1 d2 d3 d4 d5 => wpAny_pure (fin h' d1 d2 d3 d4 d5)) (F.args_zip_next_1 _))))
/-- .. and its end -/
theorem zt_out {Q : Fin → Shared → Prop} (hh : A.handled = none) (dd : ZipApart z TI TO i1 i2 p q) (a0 : IsZipHeld s.heap z TI TO T f) (a1 : s.heap.get? T = some oT) (a2 : IsPair s.heap TI (.ref i1) (.ref i2))
    (b1 : s.heap.IsTupleIter i1 p m) (b2 : s.heap.IsTupleIter i2 q n) (c1 : s.heap.IsTuple p xs) (c2 : s.heap.IsTuple q ys) (stop : xs[m]? = none ∨ ys[n]? = none)
    (fin : ∀ h' e, (∀ c o, c ≠ z → c ≠ i1 → c ≠ i2 → s.heap.get? c = some o → h'.get? c = some o) → (∃ o, h'.get? e = some o ∧ o.cls = .type "StopIteration") → E (.ref e) { s with heap := h' }) :
    wpAny (model prog w) A (Builtin.«zip.__next__» ⟨[.ref z], []⟩) Q E s := by
  show wpAny (model prog w) A (field (.ref z) 2 >>= _) _ E s
  refine wpAny_bind (wpAny_field a0 rfl (x := .bool false) rfl ?_); show wpAny (model prog w) A (field (.ref z) 3 >>= _) _ E s
  refine wpAny_bind (wpAny_field a0 rfl (x := .ref TI) rfl (wpAny_bind (wpAny_seqItems a2 rfl ?_)))
  show wpAny (model prog w) A (Builtin.SmallTypes.ownedTupleIsFree (.ref z) >>= _) _ E s
  refine wpAny_bind (wpAny_tupleHeld_zip a0 a1 fun k1 u1 v1 => ?_)
  simp only [Bool.false_eq_true, if_false]; refine wpAny_bind ?_
  rw [← Array.forIn_toList]; simp only [List.forIn_cons, List.forIn_nil]
  refine wpAny_bind (wpAny_bind (wpAny_holding ?_)); show wpAny (model prog w) _ (Builtin.SmallTypes.nextOf (.ref i1) >>= _) _ E _
  cases e1 : xs[m]? with
  | none => exact wpAny_bind (RZ.nextOf_tuple_end (s := { s with heap := k1 }) hh (b1.extBut v1.extBut dd.i1z) (c1.extBut v1.extBut dd.l1z) e1 fun k2 e v2 he => fin k2 e (fun c o r1 r2 _ g => v2 _ _ r2 (v1.extBut _ _ r1 g)) he)
  | some x =>
    have e2 : ys[n]? = none := stop.resolve_left (by rw [e1]; exact fun g => nomatch g)
    refine wpAny_bind (RZ.nextOf_tuple_item (s := { s with heap := k1 }) (b1.extBut v1.extBut dd.i1z) (c1.extBut v1.extBut dd.l1z) e1 fun k2 u2 v2 => wpAny_pure (wpAny_pure ?_))
    refine wpAny_bind (wpAny_bind (wpAny_holding ?_)); show wpAny (model prog w) _ (Builtin.SmallTypes.nextOf (.ref i2) >>= _) _ E _
    exact wpAny_bind (RZ.nextOf_tuple_end (s := { s with heap := k2 }) hh ((b2.extBut v1.extBut dd.i2z).extBut v2.extBut dd.i12.symm) ((c2.extBut v1.extBut dd.l2z).extBut v2.extBut dd.l2i1) e2 fun k3 e v3 he => fin k3 e (fun c o r1 r2 r3 g => v3 _ _ r3 (v2.extBut _ _ r2 (v1.extBut _ _ r1 g))) he)
theorem zt_end {Q : Option Value → Shared → Prop} (hh : A.handled = none) (dd : ZipApart z TI TO i1 i2 p q) (a0 : IsZipHeld s.heap z TI TO T f) (a1 : s.heap.get? T = some oT) (a2 : IsPair s.heap TI (.ref i1) (.ref i2))
    (b1 : s.heap.IsTupleIter i1 p m) (b2 : s.heap.IsTupleIter i2 q n) (c1 : s.heap.IsTuple p xs) (c2 : s.heap.IsTuple q ys) (stop : xs[m]? = none ∨ ys[n]? = none)
    (fin : ∀ h', (∀ c o, c ≠ z → c ≠ i1 → c ≠ i2 → s.heap.get? c = some o → h'.get? c = some o) → Q none { s with heap := h' }) : wpAny (model prog w) A (pyNext (.ref z)) Q E s := by
  have ty : s.TypeIs (.ref z) "zip" := ⟨_, a0, rfl⟩
  unfold pyNext
  refine wpAny_bind (wpAny_attempt (wpAny_callSpecial?_slot (name := Str.ofString "__next__") ty F.slot_zip_next (wpAny_call_entry F.slot_zip_next ty F.entry_zip_next (zt_out hh dd a0 a1 a2 b1 b2 c1 c2 stop fun h' e hk he => ?_) (F.args_zip_next_1 _))))
  obtain ⟨o, ho, hc⟩ := he
  exact wpAny_bind (wpAny_isInstance (T := "StopIteration") (b := true) ⟨o, ho, hc⟩ isSubtype_stop (wpAny_pure (fin _ hk)))
/-- at turn i: no pair handed out yet, or one that is alive -/
def ZAt (z TI TO i1 i2 p q : Addr) (i : Nat) (h : Heap) : Prop :=
  IsPair h TI (.ref i1) (.ref i2) ∧ h.IsTupleIter i1 p i ∧ h.IsTupleIter i2 q i ∧ ((IsZip h z TI TO .none ∧ ∃ a b, IsPair h TO a b) ∨ ∃ T f oT oO, IsZipHeld h z TI TO T f ∧ h.get? T = some oT ∧ T ∉ [z, TI, TO, i1, i2] ∧ h.get? TO = some oO)
theorem ZAt.keep {i : Nat} {h h' : Heap} (a : ZAt z TI TO i1 i2 p q i h) (k : ∀ b ∈ [z, TI, TO, i1, i2], ∀ o, h.get? b = some o → h'.get? b = some o) (k2 : ∀ b, b ∉ [z, TI, TO, i1, i2] → ∀ o, h.get? b = some o → ∃ o', h'.get? b = some o') : ZAt z TI TO i1 i2 p q i h' := by
  obtain ⟨a1, a2, a3, a4⟩ := a
  refine ⟨k TI (by simp) _ a1, a2.at fun o e => k i1 (by simp) o e, a3.at fun o e => k i2 (by simp) o e, ?_⟩
  rcases a4 with ⟨b1, x, y, b2⟩ | ⟨T, f, oT, oO, b1, b2, b3, b4⟩
  · exact .inl ⟨k z (by simp) _ b1, x, y, k TO (by simp) _ b2⟩
  · obtain ⟨o', b5⟩ := k2 T b3 _ b2
    exact .inr ⟨T, f, o', oO, k z (by simp) _ b1, b5, b3, k TO (by simp) _ b4⟩
theorem ZAt.lt {i : Nat} {h : Heap} (a : ZAt z TI TO i1 i2 p q i h) : ∀ c ∈ [z, TI, TO, i1, i2], c < h.objs.size := fun c hc => by
  obtain ⟨a1, ⟨o1, g1, _⟩, ⟨o2, g2, _⟩, a4⟩ := a
  have lz : z < h.objs.size := by rcases a4 with ⟨b1, _⟩ | ⟨T, f, oT, oO, b1, _⟩ <;> exact Heap.lt_size b1
  have lT : TO < h.objs.size := by
    rcases a4 with ⟨_, _, _, b⟩ | ⟨T, f, oT, oO, _, _, _, b⟩ <;> exact Heap.lt_size b
  have e : c = z ∨ c = TI ∨ c = TO ∨ c = i1 ∨ c = i2 := by simpa using hc
  rcases e with e | e | e | e | e <;> subst e
  · exact lz
  · exact Heap.lt_size a1
  · exact lT
  · exact Heap.lt_size g1
  · exact Heap.lt_size g2
theorem ZAt.ty {i : Nat} (a : ZAt z TI TO i1 i2 p q i s.heap) : s.TypeIs (.ref z) "zip" := by
  obtain ⟨_, _, _, a4⟩ := a
  rcases a4 with ⟨b1, _⟩ | ⟨T, f, oT, oO, b1, _⟩ <;> exact ⟨_, b1, rfl⟩
theorem zat_item {i : Nat} {Q : Option Value → Shared → Prop} (dd : ZipApart z TI TO i1 i2 p q) (a : ZAt z TI TO i1 i2 p q i s.heap) (c1 : s.heap.IsTuple p xs) (c2 : s.heap.IsTuple q ys) (e1 : xs[i]? = some x) (e2 : ys[i]? = some y)
    (fin : ∀ h', ZAt z TI TO i1 i2 p q (i + 1) h' → IsPair h' s.heap.objs.size x y → (∀ c o, c ∉ [z, TI, TO, i1, i2] → s.heap.get? c = some o → h'.get? c = some o) → Q (some (.ref s.heap.objs.size)) { s with heap := h' }) :
    wpAny (model prog w) A (pyNext (.ref z)) Q E s := by
  have nin : s.heap.objs.size ∉ [z, TI, TO, i1, i2] := fun hm => Nat.lt_irrefl _ (a.lt _ hm)
  obtain ⟨a1, a2, a3, a4⟩ := a
  rcases a4 with ⟨b1, u, v, b2⟩ | ⟨T, f, oT, oO, b1, b2, b3, b4⟩
  · exact RZ.pyNext_zipT_item dd b1 a1 b2 a2 a3 c1 c2 e1 e2 fun h' d1 d2 d3 d4 d5 d6 d7 => fin h' ⟨d7 TI _ dd.TIz dd.TITO dd.TIi1 dd.TIi2 a1, d3, d4, .inr ⟨s.heap.objs.size, false, _, _, d1, d5, nin, d2⟩⟩ d5 fun c o hc e => d7 c o (fun g => hc (by simp [g])) (fun g => hc (by simp [g])) (fun g => hc (by simp [g])) (fun g => hc (by simp [g])) e
  · exact zt_next dd b1 b2 a1 a2 a3 c1 c2 e1 e2 fun h' d1 d2 d3 d4 d5 => fin h' ⟨d5 TI _ dd.TIz dd.TIi1 dd.TIi2 a1, d2, d3, .inr ⟨T, true, oT, oO, d1, d5 T oT (fun g => b3 (by simp [g])) (fun g => b3 (by simp [g])) (fun g => b3 (by simp [g])) b2, b3, d5 TO oO dd.TOz dd.TOi1 dd.TOi2 b4⟩⟩ d4 fun c o hc e => d5 c o (fun g => hc (by simp [g])) (fun g => hc (by simp [g])) (fun g => hc (by simp [g])) e
theorem zat_end {i : Nat} {Q : Option Value → Shared → Prop} (hh : A.handled = none) (dd : ZipApart z TI TO i1 i2 p q) (a : ZAt z TI TO i1 i2 p q i s.heap) (c1 : s.heap.IsTuple p xs) (c2 : s.heap.IsTuple q ys) (stop : xs[i]? = none ∨ ys[i]? = none)
    (fin : ∀ h', (∀ c o, c ∉ [z, TI, TO, i1, i2] → s.heap.get? c = some o → h'.get? c = some o) → Q none { s with heap := h' }) : wpAny (model prog w) A (pyNext (.ref z)) Q E s := by
  obtain ⟨a1, a2, a3, a4⟩ := a
  rcases a4 with ⟨b1, u, v, b2⟩ | ⟨T, f, oT, oO, b1, b2, b3, b4⟩
  · exact RZ.pyNext_zipT_end hh dd b1 a1 b2 a2 a3 c1 c2 stop fun h' k => fin h' fun c o hc e => k c o (fun g => hc (by simp [g])) (fun g => hc (by simp [g])) (fun g => hc (by simp [g])) (fun g => hc (by simp [g])) e
  · exact zt_end hh dd b1 b2 a1 a2 a3 c1 c2 stop fun h' k => fin h' fun c o hc e => k c o (fun g => hc (by simp [g])) (fun g => hc (by simp [g])) (fun g => hc (by simp [g])) e
end

/-! ### the list grows -/
/-- a new pair in the heap for each turn -/
inductive ZG : Hp → List (V × V) → Hp → List V → Prop
  | nil {H : Hp} : ZG H [] H []
  | snoc {H G : Hp} {ps : List (V × V)} {vs : List V} {x y : V} {T : Addr} : ZG H ps G vs → G T = none → ZG H (ps ++ [(x, y)]) (upd G T (.tup [x, y])) (vs ++ [.ref T])
theorem ZG.ex {H G : Hp} {ps : List (V × V)} {vs : List V} (g : ZG H ps G vs) : Ex H G := by
  induction g with
  | nil => exact Ex.refl _
  | snoc g hT ih =>
    intro a o e
    have e2 := ih a o e
    rw [upd_ne (ne_of_none e2 hT)]; exact e2
theorem ZG.len {H G : Hp} {ps : List (V × V)} {vs : List V} (g : ZG H ps G vs) : vs.length = ps.length := by
  induction g with
  | nil => rfl
  | snoc g hT ih => simp [ih]
theorem upd_swap {H : Hp} {a b : Addr} {x y : HO} (h : a ≠ b) : upd (upd H a x) b y = upd (upd H b y) a x := by
  funext c
  by_cases e : c = a
  · subst e; rw [upd_ne h, upd_same, upd_same]
  · by_cases e2 : c = b
    · subst e2; rw [upd_same, upd_ne e, upd_same]
    · rw [upd_ne e2, upd_ne e, upd_ne e, upd_ne e2]
section
variable {X : Cx} {A1 : Around} {pins : List (Addr × Obj)} {σ : L2.St} {H0 : Hp} {xs ys : List V} {z TI TO i1 i2 p q S : Addr} {Rs : Result → Shared → Prop}
theorem zl_loop (hh : A1.in1.handled = none) (dd : ZipApart z TI TO i1 i2 p q) (hsz : xs.length ≤ 10000) (hx : SqT X.K H0 p xs) (hy : SqT X.K H0 q ys)
    (fin : ∀ G vs s, ZG H0 (xs.zip ys) G vs → G S = none → Inv X pins σ (upd G S (.lst vs)) s → Rs (.ok (.ret .none)) s) :
    ∀ (m i : Nat), (xs.zip ys).length = i + m → ∀ (G : Hp) (vs : List V) (s : Shared), ZG H0 ((xs.zip ys).take i) G vs → G S = none → Inv X pins σ (upd G S (.lst vs)) s → (∀ c ∈ [z, TI, TO, i1, i2], FpOk X pins (upd G S (.lst vs)) c) → ZAt z TI TO i1 i2 p q i s.heap →
      codeAny (model X.prog X.w) A1 (.builtin "list.extend.loop" ⟨[.ref S, .ref z, .none], []⟩) Rs s := by
  intro m
  induction m with
  | zero =>
    intro i hl G vs s g hS I hf a
    have ex : Ex H0 (upd G S (.lst vs)) := fun b o e => by
      have e2 := g.ex b o e
      rw [upd_ne (ne_of_none e2 hS)]; exact e2
    obtain ⟨us, rv, t1, _⟩ := I.tuple (ex.t hx)
    obtain ⟨us2, rv2, t2, _⟩ := I.tuple (ex.t hy)
    refine codeAny_builtin F.entry_extend_loop ?_
    rw [Around.under_plainId F.plain_extend_loop _]
    show wpAny (model X.prog X.w) A1.in1 (pyNext (.ref z) >>= _) _ _ s
    have l1 := rv.length
    have l2 := rv2.length
    have stop : us.toArray[i]? = none ∨ us2.toArray[i]? = none := by
      rw [List.length_zip] at hl
      by_cases c : us.length ≤ i
      · exact .inl (by simp; omega)
      · exact .inr (by simp; omega)
    refine wpAny_bind (zat_end hh dd a t1 t2 stop fun h' k => wpAny_pure ?_)
    rw [List.take_of_length_le (by omega)] at g
    exact fin G vs _ g hS (I.turnedL (t' := s.toks) (ch := [z, TI, TO, i1, i2]) (fun c o hc e => k c o hc e) hf)
  | succ m ih =>
    intro i hl G vs s g hS I hf a
    have ex : Ex H0 (upd G S (.lst vs)) := fun b o e => by
      have e2 := g.ex b o e
      rw [upd_ne (ne_of_none e2 hS)]; exact e2
    have lz := hl
    rw [List.length_zip] at lz
    have hx1 : xs[i]? = some (xs[i]'(by omega)) := List.getElem?_eq_getElem _
    have hy1 : ys[i]? = some (ys[i]'(by omega)) := List.getElem?_eq_getElem _
    generalize xs[i]'(by omega) = x at hx1
    generalize ys[i]'(by omega) = y at hy1
    obtain ⟨us, rv, t1, _⟩ := I.tuple (ex.t hx)
    obtain ⟨us2, rv2, t2, _⟩ := I.tuple (ex.t hy)
    obtain ⟨u, hu, ru⟩ := rv.get hx1
    obtain ⟨u2, hu2, ru2⟩ := rv2.get hy1
    refine codeAny_builtin F.entry_extend_loop ?_
    rw [Around.under_plainId F.plain_extend_loop _]
    show wpAny (model X.prog X.w) A1.in1 (pyNext (.ref z) >>= _) _ _ s
    refine wpAny_bind (zat_item dd a t1 t2 (x := u) (y := u2) (by simpa using hu) (by simpa using hu2) fun h' a' pr k => ?_)
    show wpAny (model X.prog X.w) A1.in1 (updateSeq S (·.push (.ref s.heap.objs.size)) >>= _) _ _ _
    have fresh : upd G S (.lst vs) s.heap.objs.size = none := I.hok.fresh (Nat.le_refl _)
    have TS : s.heap.objs.size ≠ S := fun e => by rw [e, upd_same] at fresh; cases fresh
    have GT : G s.heap.objs.size = none := by rw [upd_ne TS] at fresh; exact fresh
    have I1 : Inv X pins σ (upd (upd G S (.lst vs)) s.heap.objs.size (.tup [x, y])) { s with heap := h' } := I.turnedNew (t' := s.toks) (ch := [z, TI, TO, i1, i2]) (fun c o hc e => k c o hc e) hf (Nat.le_refl _)
      ⟨by show 2 ≤ sizeLine; decide, [u, u2], .cons ru (.cons ru2 .nil), ⟨_, pr, rfl, _, rfl⟩⟩
    rw [upd_swap TS.symm] at I1
    obtain ⟨zl, its, n, r2, hl2, e⟩ := I1.lstM upd_same
    have lv := g.len
    rw [List.length_take, List.length_zip] at lv
    have big : (10000 : Nat) + 1 ≤ sizeLine := by decide
    have I2 := I1.lset (f := (·.push (Value.ref s.heap.objs.size))) (its' := its ++ [.ref s.heap.objs.size]) (ys := vs ++ [.ref s.heap.objs.size]) (t' := s.toks) upd_same e (by simp) (r2.append (.cons (show RelV (.ref _) (.ref _) from rfl) .nil)) (by rw [List.length_append, List.length_singleton]; omega)
    rw [upd_upd] at I2
    have nS : ∀ c ∈ [z, TI, TO, i1, i2], c ≠ S := fun c hc q => by
      have w := (hf c hc).1
      rw [q, upd_same] at w; cases w
    refine wpAny_bind (wpAny_updateSeq e rfl (wpAny_pure ⟨plainId_quiet F.plain_extend_loop _, ?_⟩) (by rw [List.size_toArray]; omega) (by show (its.toArray.push _).size ≤ sizeLine + 1; rw [Array.size_push, List.size_toArray]; omega))
    refine ih (i + 1) (by omega) (upd G s.heap.objs.size (.tup [x, y])) (vs ++ [.ref s.heap.objs.size]) _ ?_ ?_ I2 (fun c hc => ⟨?_, (hf c hc).2⟩) ?_
    · have ez : (xs.zip ys)[i]? = some (x, y) := List.getElem?_zip_eq_some.mpr ⟨hx1, hy1⟩
      have et : (xs.zip ys).take (i + 1) = (xs.zip ys).take i ++ [(x, y)] := by rw [List.take_add_one, ez]; rfl
      rw [et]
      exact .snoc g GT
    · rw [upd_ne TS.symm]; exact hS
    · rw [upd_ne (nS c hc), upd_ne (Nat.ne_of_lt (a.lt c hc))]
      have w := (hf c hc).1
      rw [upd_ne (nS c hc)] at w
      exact w
    · refine a'.keep (fun b hb o g => (Heap.get?_update_other _ _ (Ne.symm (nS b hb))).trans g) fun b _ o g => ?_
      by_cases hb : b = S
      · obtain ⟨_, its4, n4, _, _, e4⟩ := I2.lstM upd_same
        rw [hb]; exact ⟨_, e4⟩
      · exact ⟨o, (Heap.get?_update_other _ _ (Ne.symm hb)).trans g⟩

/-- list(z), the zip object new -/
theorem zl_call {Q : VK} {s : Shared} {H : Hp} (hc : X.calm = true) (dd : ZipApart z TI TO i1 i2 p q) (hsz : xs.length ≤ 10000) (hx : SqT X.K H p xs) (hy : SqT X.K H q ys) (I : Inv X pins σ H s) (hf : ∀ c ∈ [z, TI, TO, i1, i2], FpOk X pins H c)
    (hz : IsZip s.heap z TI TO .none) (a : ZAt z TI TO i1 i2 p q 0 s.heap) (fin : ∀ G vs S, ZG H (xs.zip ys) G vs → G S = none → Q (.ref S) (upd G S (.lst vs))) :
    wpAny (model X.prog X.w) X.A (call (.type "list") [.ref z]) (EP X pins σ Q) X.xe s := by
  refine callType_codes (Q₁ := fun o s1 => o = .ref s.heap.objs.size ∧ s1 = { s with heap := s.heap.push { cls := .type "list", data := .seq #[] } }) F.called_list (F.typeCall_list_1 _) F.entry_list_init (code_list_new _ ⟨rfl, rfl⟩) fun o s1 h1 => ?_
  obtain ⟨rfl, rfl⟩ := h1
  have g1 : (s.heap.push { cls := .type "list", data := .seq #[] }).get? s.heap.objs.size = some { cls := .type "list", data := .seq #[] } := Heap.get?_push_size _ rfl
  refine ⟨⟨_, g1, rfl⟩, F.args_list_init_2 _ _, ?_⟩
  have fr : H s.heap.objs.size = none := I.hok.fresh (Nat.le_refl _)
  have nz : ∀ c ∈ [z, TI, TO, i1, i2], c ≠ s.heap.objs.size := fun c hc => Nat.ne_of_lt (a.lt c hc)
  have J1 : Inv X pins σ (upd H s.heap.objs.size (.lst [])) { s with heap := s.heap.push { cls := .type "list", data := .seq #[] } } := I.lnew (its := []) (t' := s.toks) .nil (Nat.zero_le _)
  show wpAny (model X.prog X.w) _ (do let was ← Builtin.List.listItems (.ref s.heap.objs.size); Builtin.List.listUpdate (.ref s.heap.objs.size) (fun _ => #[]); letGo was.toList.reverse; Builtin.List.listExtendWith (.ref s.heap.objs.size) (.ref z) .none) _ _ _
  refine wpAny_bind ?_
  unfold Builtin.List.listItems
  refine wpAny_bind (wpAny_seqItems g1 rfl (wpAny_pure ?_))
  show wpAny (model X.prog X.w) _ (updateSeq s.heap.objs.size (fun _ => #[]) >>= fun _ => letGo (#[] : Array Value).toList.reverse >>= fun _ => Builtin.List.listExtendWith (.ref s.heap.objs.size) (.ref z) .none) _ _ _
  refine wpAny_bind (wpAny_updateSeq g1 rfl ?_)
  have J2 := J1.lset (f := fun _ => #[]) (its := []) (its' := []) (ys := []) (t' := s.toks) upd_same g1 rfl .nil (Nat.zero_le _)
  rw [upd_upd] at J2
  refine wpAny_bind (wpAny_letGo ?_)
  have old : ∀ (h : Heap) (f : Obj → Obj), (∀ b o, b ≠ s.heap.objs.size → s.heap.get? b = some o → h.get? b = some o) → ∀ b o, b ≠ s.heap.objs.size → s.heap.get? b = some o → (h.update s.heap.objs.size f).get? b = some o := fun h f k b o hb e => (Heap.get?_update_other _ _ (Ne.symm hb)).trans (k b o hb e)
  have o1 := old _ (fun o => Obj.mapSeq (fun _ => (#[] : Array Value)) o) fun b o _ e => Heap.get?_push_of_some { cls := .type "list", data := .seq #[] } e
  have up : ∀ (h : Heap), (∀ b o, b ≠ s.heap.objs.size → s.heap.get? b = some o → h.get? b = some o) → ZAt z TI TO i1 i2 p q 0 h := fun h k => a.keep (fun b hb o e => k b o (nz b hb) e) fun b _ o e => ⟨o, k b o (Nat.ne_of_lt (Heap.lt_size e)) e⟩
  have ty : ∀ (h : Heap) (t' : Nat), ZAt z TI TO i1 i2 p q 0 h → ({ s with heap := h, toks := t' } : Shared).TypeIs (.ref z) "zip" := fun h t' b => ZAt.ty (s := { s with heap := h, toks := t' }) b
  unfold Builtin.List.listExtendWith
  refine wpAny_bind (wpAny_typeOf (ty _ s.toks (up _ o1)) ?_)
  have r1 : Builtin.List.listSameRef (.ref s.heap.objs.size) (.ref z) = false := by simp [Builtin.List.listSameRef, (nz z (by simp)).symm]
  have r2 : (Value.type "zip" == Value.type "list") = false := by decide
  have r3 : (Value.type "zip" == Value.type "tuple") = false := by decide
  simp only [r1, r2, r3, Bool.or_false, Bool.false_eq_true, if_false]
  refine wpAny_bind (wpAny_pyIter_zip (o1 _ _ (nz z (by simp)) hz) (wpAny_bind (wpAny_holding ?_)))
  unfold Builtin.List.listLengthHint
  refine wpAny_bind (wpAny_specialOf (ty _ s.toks (up _ o1)) zip_lenless ?_)
  show wpAny (model X.prog X.w) _ (specialOf (Value.ref z) (Str.ofString "__length_hint__") >>= _) _ _ _
  refine wpAny_bind (wpAny_specialOf (ty _ s.toks (up _ o1)) zip_hintless (wpAny_pure ?_))
  show wpAny (model X.prog X.w) _ (rule "list.extend.makes-room" >>= fun _ => Builtin.List.listTouch (.ref s.heap.objs.size) >>= fun _ => again (.builtin "list.extend.loop" ⟨[.ref s.heap.objs.size, .ref z, .none], []⟩)) _ _ _
  refine wpAny_bind (wpAny_rule (wpAny_bind ?_))
  show wpAny (model X.prog X.w) _ (updateSeq s.heap.objs.size (·.push .none) >>= fun _ => updateSeq s.heap.objs.size (·.pop)) _ _ _
  obtain ⟨z3, its3, k3, q3, l3, e3⟩ := J2.lstM upd_same
  cases q3
  refine wpAny_bind (wpAny_updateSeq e3 rfl ?_)
  have J3 := J2.lset (f := (·.push Value.none)) (its' := [Value.none]) (ys := [.non]) (t' := s.toks) upd_same e3 (by simp) (.cons rfl .nil) (by rw [List.length_singleton, sizeLine_eq]; decide)
  obtain ⟨z4, its4, k4, q4, l4, e4⟩ := J3.lstM upd_same
  obtain ⟨u4, rfl, ru4⟩ := q4.one
  refine wpAny_updateSeq e4 rfl ?_ (by show 1 ≤ sizeLine; rw [sizeLine_eq]; decide) (by show 0 ≤ sizeLine + 1; exact Nat.zero_le _)
  have J4 := J3.lset (f := (·.pop)) (its := [u4]) (its' := []) (ys := []) (t' := s.toks) upd_same e4 (by rfl) .nil (Nat.zero_le _)
  rw [upd_upd, upd_upd] at J4
  refine wpAny_pure ⟨plainId_quiet F.plain_extend_loop _, ?_⟩
  refine zl_loop (A1 := X.A.in1) (I.ok.hd hc) dd hsz hx hy (fun G vs s' g hS I' => ⟨rfl, .ref s.heap.objs.size, _, I', rfl, fin G vs _ g hS⟩) (xs.zip ys).length 0 (by omega) H [] _ .nil fr J4 (fun c hcm => ⟨?_, (hf c hcm).2⟩) (up _ (old _ _ (old _ _ o1)))
  rw [upd_ne (nz c hcm)]
  exact (hf c hcm).1
end
def tLZip (K : PySem.W.Frag) (ta : TA) : TE := fun σ H Q => ta σ H fun vs H1 => ∃ a b xs ys, vs = [.ref a, .ref b] ∧ SqT K H1 a xs ∧ SqT K H1 b ys ∧ xs.length ≤ 10000 ∧ ∀ G ws S, ZG H1 (xs.zip ys) G ws → G S = none → Q (.ref S) (upd G S (.lst ws))
section
variable {X : Cx} {e e2 : Expr} {ta : TA} {p p2 q2 pos : Pos}
theorem pe_lzip (hg : Gl X "list") (hm : X.mg "list" = none) (hg2 : Gl X "zip") (hm2 : X.mg "zip" = none) (ha : PA X [e, e2] ta) (hc : X.calm = true)
    (hs : starEach [e, e2] X.env = (false, eval e X.env) :: starEach [e2] X.env := by rfl) (hpl : (backTo q2 (starEach [e2] X.env)).any (·.1) = false := by rfl)
    (na : starEach [.Call (.Name "zip" p2) [e, e2] [] q2] X.env = (false, eval (.Call (.Name "zip" p2) [e, e2] [] q2) X.env) :: starEach [] X.env := by rfl) : PE X (.Call (.Name "list" p) [.Call (.Name "zip" p2) [e, e2] [] q2] [] pos) (tLZip X.K ta) := by
  refine ⟨fun pins s σ H Q I h => ?_⟩
  refine Call_ (ld_blt I hg hm boot_list (PyProof.Rows.callWith_type1 (PyProof.Rows.args_cons ?_ na) na rfl))
  refine Call_ (ld_blt I hg2 hm2 PyProof.Rows.boot_zip (PyProof.Rows.callWith_type1 (thn (ha.run q2 pins s σ H _ I h) fun us s1 ⟨vs, H1, I1, r1, q1⟩ => ?_) hs hpl))
  obtain ⟨a, b, xs, ys, rfl, hx, hy, hz, k⟩ := q1
  obtain ⟨u1, us1, rfl, w1, rr⟩ : ∃ u1 us1, us = u1 :: us1 ∧ RelV (.ref a) u1 ∧ Vals [.ref b] us1 := by cases r1 with | cons r rr => exact ⟨_, _, rfl, r, rr⟩
  obtain ⟨u2, rfl, w2⟩ := rr.one
  cases w1
  cases w2
  obtain ⟨its, rv, t1, _⟩ := I1.tuple hx
  obtain ⟨its2, rv2, t2, _⟩ := I1.tuple hy
  have l1 : a < s1.heap.objs.size := by obtain ⟨o, ho, _⟩ := t1; exact Heap.lt_size ho
  have l2 : b < s1.heap.objs.size := by obtain ⟨o, ho, _⟩ := t2; exact Heap.lt_size ho
  refine RZ.call_zipT t1 t2 fun h' d1 d2 d3 d4 d5 d6 d7 => PyProof.Rows.args_nil ?_
  refine zl_call (H := H1) hc (PySem.W.ktu_apart s1.heap.objs.size a b l1 l2) hz hx hy (I1.kept (t' := s1.toks) d7) (fun c hcm => ?_) d1 ⟨d2, d4, d5, .inl ⟨d1, _, _, d3⟩⟩ k
  have le : s1.heap.objs.size ≤ c := by
    have g : c = s1.heap.objs.size + 4 ∨ c = s1.heap.objs.size + 2 ∨ c = s1.heap.objs.size + 3 ∨ c = s1.heap.objs.size ∨ c = s1.heap.objs.size + 1 := by simpa using hcm
    rcases g with e | e | e | e | e <;> rw [e]
    · exact Nat.le_add_right _ _
    · exact Nat.le_add_right _ _
    · exact Nat.le_add_right _ _
    · exact Nat.le_refl _
    · exact Nat.le_add_right _ _
  exact I1.fpOk le (I1.hok.fresh le)
theorem zip_fst : ∀ {α β : Type} (a : List α) (b : List β), (a.zip b).map (·.1) = a.take b.length
  | _, _, [], b => by simp
  | _, _, x :: a, [] => by simp
  | _, _, x :: a, y :: b => by simp [zip_fst a b]
theorem zip_snd : ∀ {α β : Type} (a : List α) (b : List β), (a.zip b).map (·.2) = b.take a.length
  | _, _, [], b => by simp
  | _, _, x :: a, [] => by simp
  | _, _, x :: a, y :: b => by simp [zip_snd a b]
def dLZip (a : DA) : DE := fun en l => (a en l).bind fun ds l1 => match ds with
  | [.tuple xs, .tuple ys] => if xs.length ≤ 10000 then .ok (.list (zipD xs ys)) l1 else .no
  | _ => .no
theorem zg_grow {K : PySem.W.Frag} {L : Option Addr} {l : Ld} : ∀ {H G P : Hp} {ps : List (V × V)} {vs : List V} {ds : List (D × D)}, ZG H ps G vs → Ex P H → LodeAt L l H → RpAll K P (ps.map (·.1)) (ds.map (·.1)) → RpAll K P (ps.map (·.2)) (ds.map (·.2)) →
    ∃ P', Grow L l H P G P' ∧ RpAll K P' vs (ds.map fun d => .tuple [d.1, d.2]) := by
  intro H G P ps vs ds g
  induction g generalizing ds with
  | nil =>
    intro e hl r1 r2
    cases ds with
    | nil => exact ⟨P, .refl e hl, .nil⟩
    | cons d ds => cases r1
  | @snoc G ps vs x y T g hT ih =>
    intro e hl r1 r2
    have n1 := r1.length
    simp only [List.length_map, List.length_append, List.length_singleton] at n1
    obtain ⟨ds0, d, rfl⟩ : ∃ ds0 d, ds = ds0 ++ [d] := ⟨ds.dropLast, ds.getLast (by intro z; rw [z] at n1; simp at n1), (List.dropLast_concat_getLast _).symm⟩
    simp only [List.length_append, List.length_singleton] at n1
    have n2 : ps.length = ds0.length := by omega
    have tk1 := r1.take ps.length
    have tk2 := r2.take ps.length
    have dr1 := r1.drop ps.length
    have dr2 := r2.drop ps.length
    simp only [List.map_append, List.map_cons, List.map_nil] at tk1 tk2 dr1 dr2
    rw [List.take_left' (by simp), List.take_left' (by simp [n2])] at tk1 tk2
    rw [List.drop_left' (by simp), List.drop_left' (by simp [n2])] at dr1 dr2
    obtain ⟨P1, G1, ra⟩ := ih e hl tk1 tk2
    cases dr1 with
    | cons w1 _ =>
      cases dr2 with
      | cons w2 _ =>
        obtain ⟨P2, G2, rb⟩ := pair_new (L := L) (l := l) G1.ph G1.lod hT (w1.mono G1.pp) (w2.mono G1.pp)
        refine ⟨P2, G1.trans G2, ?_⟩
        rw [List.map_append]
        exact (ra.mono G2.pp).append (.cons rb .nil)
theorem pd_lzip {ds : DA} (hg : Gl X "list") (hm : X.mg "list" = none) (hg2 : Gl X "zip") (hm2 : X.mg "zip" = none) (h : PDA X [e, e2] ds) (hc : X.calm = true := by rfl)
    (hs : starEach [e, e2] X.env = (false, eval e X.env) :: starEach [e2] X.env := by rfl) (hpl : (backTo q2 (starEach [e2] X.env)).any (·.1) = false := by rfl)
    (na : starEach [.Call (.Name "zip" p2) [e, e2] [] q2] X.env = (false, eval (.Call (.Name "zip" p2) [e, e2] [] q2) X.env) :: starEach [] X.env := by rfl) : PD X (.Call (.Name "list" p) [.Call (.Name "zip" p2) [e, e2] [] q2] [] pos) (dLZip ds) := by
  obtain ⟨t, h1, h2⟩ := h
  refine ⟨_, pe_lzip hg hm hg2 hm2 h1 hc hs hpl na, fun L σ H P M en l R d l' h Q k => ?_⟩
  obtain ⟨d, l1, e1, h⟩ := Res.bind_ok h
  split at h
  · rename_i xs ys
    split at h
    · rename_i hz
      cases h
      refine h2 L σ H P M en l R _ _ e1 _ fun vs H1 P1 G1 r1 => ?_
      cases r1 with
      | cons ra rb =>
        cases rb with
        | cons rb rc =>
          cases rc
          obtain ⟨a, va, rfl, sa, r2⟩ := ra.isTup
          obtain ⟨b, vb, rfl, sb, r3⟩ := rb.isTup
          refine ⟨a, b, va, vb, rfl, G1.ph.t sa, G1.ph.t sb, by rw [r2.length]; exact hz, fun G ws S g hS => ?_⟩
          have la := r2.length
          have lb := r3.length
          have z1 : RpAll X.K P1 ((va.zip vb).map (·.1)) ((xs.zip ys).map (·.1)) := by
            rw [zip_fst, zip_fst, lb]; exact r2.take _
          have z2 : RpAll X.K P1 ((va.zip vb).map (·.2)) ((xs.zip ys).map (·.2)) := by
            rw [zip_snd, zip_snd, la]; exact r3.take _
          obtain ⟨P2, G2, rr⟩ := zg_grow g G1.ph G1.lod z1 z2
          have G3 := Grow.laid (o := .lst ws) G2.ph G2.lod hS
          exact k _ _ _ ((G1.trans G2).trans G3) (.lst upd_same (rr.mono G3.pp))
    · cases h
  · cases h
end
end Dx
end
section
set_option Elab.async false
set_option linter.all false
set_option maxRecDepth 100000
set_option maxHeartbeats 1000000
/-! Dx14: for a name in zip(a, b) of two tuples: the last pair may still be alive, or not. -/
namespace Dx
open PySem PySem.Spec PyProof.Rows L2
section
variable {prog : Program} {w : World} {A : Around} {E : Value → Shared → Prop} {s : Shared} {z TI TO T i1 i2 p q : Addr} {f : Bool} {m n : Nat} {xs ys : Array Value} {x y u v : Value}
theorem dead_load {a : Addr} {Q : Option Obj → Shared → Prop} (ho : s.heap.get? a = none) (h : Q none s) : wpAny (model prog w) A (loadIfAlive a) Q E s := by
  have g : Q (s.heap.get? a) s := by rw [ho]; exact h
  exact fun _ _ _ => g
theorem zt_free {Q : Bool → Shared → Prop} (a0 : IsZipHeld s.heap z TI TO T f) (a1 : s.heap.get? T = none) (h : Q true s) : wpAny (model prog w) A (Builtin.SmallTypes.ownedTupleIsFree (.ref z)) Q E s := by
  unfold Builtin.SmallTypes.ownedTupleIsFree
  refine wpAny_bind (wpAny_field a0 rfl (x := rawInt T) rfl ?_); show wpAny (model prog w) A (loadIfAlive ((T : Int).toNat) >>= _) _ E s
  rw [Int.toNat_natCast]; refine wpAny_bind (dead_load a1 ?_)
  simp only [Option.isNone_none, if_true]; exact wpAny_pure h
/-- the zip, its own pair let go -/
abbrev IsZipV (h : Heap) (z TI TO : Addr) (v : Value) (f : Bool) : Prop := h.get? z = some { cls := .type "zip", dict := none, data := .fields #[v, .bool f, .bool false, .ref TI, .ref TO], slots := #[] }
theorem zd_step {Q : Value → Shared → Prop} (dd : ZipApart z TI TO i1 i2 p q) (a0 : IsZipHeld s.heap z TI TO T f) (a1 : s.heap.get? T = none) (a2 : IsPair s.heap TI (.ref i1) (.ref i2)) (a3 : IsPair s.heap TO u v)
    (b1 : s.heap.IsTupleIter i1 p m) (b2 : s.heap.IsTupleIter i2 q n) (c1 : s.heap.IsTuple p xs) (c2 : s.heap.IsTuple q ys) (e1 : xs[m]? = some x) (e2 : ys[n]? = some y)
    (fin : ∀ h', IsZip h' z TI TO (rawInt s.heap.objs.size) → IsPair h' TO x y → h'.IsTupleIter i1 p (m + 1) → h'.IsTupleIter i2 q (n + 1) → IsPair h' s.heap.objs.size x y →
      (∀ c o, c ≠ z → c ≠ TO → c ≠ i1 → c ≠ i2 → s.heap.get? c = some o → h'.get? c = some o) → Q (.ref s.heap.objs.size) { s with heap := h' }) :
    wpAny (model prog w) A (Builtin.«zip.__next__» ⟨[.ref z], []⟩) (fun r s' => ∃ v, r = .done (.ret v) ∧ Q v s') E s := by
  show wpAny (model prog w) A (field (.ref z) 2 >>= _) _ E s
  refine wpAny_bind (wpAny_field a0 rfl (x := .bool false) rfl ?_); show wpAny (model prog w) A (field (.ref z) 3 >>= _) _ E s
  refine wpAny_bind (wpAny_field a0 rfl (x := .ref TI) rfl (wpAny_bind (wpAny_seqItems a2 rfl ?_)))
  show wpAny (model prog w) A (Builtin.SmallTypes.ownedTupleIsFree (.ref z) >>= _) _ E s
  refine wpAny_bind (zt_free a0 a1 ?_)
  simp only [if_true]; refine wpAny_bind (wpAny_rule (wpAny_bind (wpAny_field a0 rfl (x := .ref TO) rfl ?_)))
  refine wpAny_bind (wpAny_setField_rec a0 (by simp) fun k1 u1 v1 => ?_)
  replace u1 : IsZipV k1 z TI TO .ellipsis f := u1
  refine wpAny_bind ?_; simp only [List.zipIdx_cons, List.zipIdx_nil, List.forIn_cons, List.forIn_nil]
  refine wpAny_bind (wpAny_bind (wpAny_onRaise ?_)); show wpAny (model prog w) _ (Builtin.SmallTypes.nextOf (.ref i1) >>= _) _ _ _
  refine wpAny_bind (RZ.nextOf_tuple_item (b1.extBut v1.extBut dd.i1z) (c1.extBut v1.extBut dd.l1z) e1 fun k2 u2 v2 => wpAny_pure ?_)
  have t2 : IsPair k2 TO u v := v2.extBut _ _ dd.TOi1 (v1.extBut _ _ dd.TOz a3)
  refine wpAny_bind (wpAny_seqItems t2 rfl (wpAny_bind (wpAny_updateSeq_pair t2 fun k3 t3 v3 => ?_)))
  replace t3 : IsPair k3 TO x v := t3
  refine wpAny_bind (wpAny_letGo (wpAny_pure ?_)); refine wpAny_bind (wpAny_bind (wpAny_onRaise ?_))
  show wpAny (model prog w) _ (Builtin.SmallTypes.nextOf (.ref i2) >>= _) _ _ _
  refine wpAny_bind (RZ.nextOf_tuple_item (((b2.extBut v1.extBut dd.i2z).extBut v2.extBut dd.i12.symm).extBut v3.extBut dd.TOi2.symm) (((c2.extBut v1.extBut dd.l2z).extBut v2.extBut dd.l2i1).extBut v3.extBut dd.l2TO) e2 fun k4 u4 v4 => wpAny_pure ?_)
  have t4 : IsPair k4 TO x v := v4.extBut _ _ dd.TOi2 t3
  refine wpAny_bind (wpAny_seqItems t4 rfl (wpAny_bind (wpAny_updateSeq_pair t4 fun k5 t5 v5 => ?_)))
  replace t5 : IsPair k5 TO x y := t5
  refine wpAny_bind (wpAny_letGo (wpAny_pure (wpAny_pure ?_))); refine wpAny_bind (wpAny_seqItems t5 rfl (wpAny_bind (wpAny_newTuple ?_)))
  have sz : k5.objs.size = s.heap.objs.size := by rw [v5.1, v4.1, v3.1, v2.1, v1.1]
  have u5 : IsZipV k5 z TI TO .ellipsis f := v5.extBut _ _ dd.TOz.symm (v4.extBut _ _ dd.i2z.symm (v3.extBut _ _ dd.TOz.symm (v2.extBut _ _ dd.i1z.symm u1)))
  have kp : ∀ c o, c ≠ z → c ≠ TO → c ≠ i1 → c ≠ i2 → s.heap.get? c = some o → k5.get? c = some o := fun c o r1 r2 r3 r4 e => v5.extBut _ _ r2 (v4.extBut _ _ r4 (v3.extBut _ _ r2 (v2.extBut _ _ r3 (v1.extBut _ _ r1 e))))
  have w1 : k5.IsTupleIter i1 p (m + 1) := ((u2.extBut v3.extBut dd.TOi1.symm).extBut v4.extBut dd.i12).extBut v5.extBut dd.TOi1.symm
  have w2 : k5.IsTupleIter i2 q (n + 1) := u4.extBut v5.extBut dd.TOi2.symm
  have lz : z < k5.objs.size := Heap.lt_size u5
  show wpAny (model prog w) _ (Builtin.SmallTypes.ownedTupleHandOut (.ref z) (.ref k5.objs.size) >>= _) _ _ _
  refine wpAny_bind ?_; unfold Builtin.SmallTypes.ownedTupleHandOut
  have u6 : IsZipV (k5.push { cls := .type "tuple", data := .seq #[x, y] }) z TI TO .ellipsis f := Heap.get?_push_of_some _ u5
  refine wpAny_bind (wpAny_setField_rec u6 (by simp) fun k7 u7 v7 => ?_)
  replace u7 : IsZipV k7 z TI TO (rawInt k5.objs.size) f := u7
  refine wpAny_setField_rec u7 (by simp) fun k8 u8 v8 => ?_
  replace u8 : IsZip k8 z TI TO (rawInt k5.objs.size) := u8
  have up : ∀ c o, c ≠ z → k5.get? c = some o → k8.get? c = some o := fun c o r e => v8.extBut _ _ r (v7.extBut _ _ r (Heap.get?_push_of_some _ e))
  have w8 : IsPair k8 k5.objs.size x y := v8.extBut _ _ (Nat.ne_of_gt lz) (v7.extBut _ _ (Nat.ne_of_gt lz) (Heap.get?_push_size _ rfl))
  refine wpAny_pure ⟨_, rfl, ?_⟩; show Q (.ref k5.objs.size) _
  rw [sz] at u8 w8 ⊢
  exact fin k8 u8 (up _ _ dd.TOz t5) (w1.at fun o e => up _ o dd.i1z e) (w2.at fun o e => up _ o dd.i2z e) w8 fun c o r1 r2 r3 r4 e => up c o r1 (kp c o r1 r2 r3 r4 e)
theorem zd_out {Q : Fin → Shared → Prop} (hh : A.handled = none) (dd : ZipApart z TI TO i1 i2 p q) (a0 : IsZipHeld s.heap z TI TO T f) (a1 : s.heap.get? T = none) (a2 : IsPair s.heap TI (.ref i1) (.ref i2)) (a3 : IsPair s.heap TO u v)
    (b1 : s.heap.IsTupleIter i1 p m) (b2 : s.heap.IsTupleIter i2 q n) (c1 : s.heap.IsTuple p xs) (c2 : s.heap.IsTuple q ys) (stop : xs[m]? = none ∨ ys[n]? = none)
    (fin : ∀ h' e, (∀ c o, c ≠ z → c ≠ TO → c ≠ i1 → c ≠ i2 → s.heap.get? c = some o → h'.get? c = some o) → (∃ o, h'.get? e = some o ∧ o.cls = .type "StopIteration") → E (.ref e) { s with heap := h' }) :
    wpAny (model prog w) A (Builtin.«zip.__next__» ⟨[.ref z], []⟩) Q E s := by
  show wpAny (model prog w) A (field (.ref z) 2 >>= _) _ E s
  refine wpAny_bind (wpAny_field a0 rfl (x := .bool false) rfl ?_); show wpAny (model prog w) A (field (.ref z) 3 >>= _) _ E s
  refine wpAny_bind (wpAny_field a0 rfl (x := .ref TI) rfl (wpAny_bind (wpAny_seqItems a2 rfl ?_)))
  show wpAny (model prog w) A (Builtin.SmallTypes.ownedTupleIsFree (.ref z) >>= _) _ E s
  refine wpAny_bind (zt_free a0 a1 ?_)
  simp only [if_true]; refine wpAny_bind (wpAny_rule (wpAny_bind (wpAny_field a0 rfl (x := .ref TO) rfl ?_)))
  refine wpAny_bind (wpAny_setField_rec a0 (by simp) fun k1 u1 v1 => ?_)
  replace u1 : IsZipV k1 z TI TO .ellipsis f := u1
  refine wpAny_bind ?_; simp only [List.zipIdx_cons, List.zipIdx_nil, List.forIn_cons, List.forIn_nil]
  refine wpAny_bind (wpAny_bind (wpAny_onRaise ?_)); show wpAny (model prog w) _ (Builtin.SmallTypes.nextOf (.ref i1) >>= _) _ _ _
  cases e1 : xs[m]? with
  | none =>
    refine wpAny_bind (RZ.nextOf_tuple_end hh (b1.extBut v1.extBut dd.i1z) (c1.extBut v1.extBut dd.l1z) e1 fun k2 e v2 he => ?_)
    obtain ⟨oe, ge, ce⟩ := he
    have g2 : IsZipV k2 z TI TO .ellipsis f := v2 _ _ dd.i1z.symm u1
    have ez : e ≠ z := fun r => by subst r; rw [g2] at ge; cases ge; simp at ce
    exact wpAny_setField_rec g2 (by simp) fun k3 _ v3 => fin k3 e (fun c o r1 _ r3 _ g => v3.extBut _ _ r1 (v2 _ _ r3 (v1.extBut _ _ r1 g))) ⟨oe, v3.extBut _ _ ez ge, ce⟩
  | some x =>
    have e2 : ys[n]? = none := stop.resolve_left (by rw [e1]; exact fun g => nomatch g)
    refine wpAny_bind (RZ.nextOf_tuple_item (b1.extBut v1.extBut dd.i1z) (c1.extBut v1.extBut dd.l1z) e1 fun k2 u2 v2 => wpAny_pure ?_)
    have t2 : IsPair k2 TO u v := v2.extBut _ _ dd.TOi1 (v1.extBut _ _ dd.TOz a3)
    refine wpAny_bind (wpAny_seqItems t2 rfl (wpAny_bind (wpAny_updateSeq_pair t2 fun k3 t3 v3 => ?_)))
    refine wpAny_bind (wpAny_letGo (wpAny_pure ?_)); refine wpAny_bind (wpAny_bind (wpAny_onRaise ?_))
    show wpAny (model prog w) _ (Builtin.SmallTypes.nextOf (.ref i2) >>= _) _ _ _
    refine wpAny_bind (RZ.nextOf_tuple_end hh (((b2.extBut v1.extBut dd.i2z).extBut v2.extBut dd.i12.symm).extBut v3.extBut dd.TOi2.symm) (((c2.extBut v1.extBut dd.l2z).extBut v2.extBut dd.l2i1).extBut v3.extBut dd.l2TO) e2 fun k4 e v4 he => ?_)
    obtain ⟨oe, ge, ce⟩ := he
    have g4 : IsZipV k4 z TI TO .ellipsis f := v4 _ _ dd.i2z.symm (v3.extBut _ _ dd.TOz.symm (v2.extBut _ _ dd.i1z.symm u1))
    have ez : e ≠ z := fun r => by subst r; rw [g4] at ge; cases ge; simp at ce
    exact wpAny_setField_rec g4 (by simp) fun k5 _ v5 => fin k5 e (fun c o r1 r2 r3 r4 g => v5.extBut _ _ r1 (v4 _ _ r4 (v3.extBut _ _ r2 (v2.extBut _ _ r3 (v1.extBut _ _ r1 g))))) ⟨oe, v5.extBut _ _ ez ge, ce⟩
theorem zd_next {Q : Option Value → Shared → Prop} (dd : ZipApart z TI TO i1 i2 p q) (a0 : IsZipHeld s.heap z TI TO T f) (a1 : s.heap.get? T = none) (a2 : IsPair s.heap TI (.ref i1) (.ref i2)) (a3 : IsPair s.heap TO u v)
    (b1 : s.heap.IsTupleIter i1 p m) (b2 : s.heap.IsTupleIter i2 q n) (c1 : s.heap.IsTuple p xs) (c2 : s.heap.IsTuple q ys) (e1 : xs[m]? = some x) (e2 : ys[n]? = some y)
    (fin : ∀ h', IsZip h' z TI TO (rawInt s.heap.objs.size) → IsPair h' TO x y → h'.IsTupleIter i1 p (m + 1) → h'.IsTupleIter i2 q (n + 1) → IsPair h' s.heap.objs.size x y →
      (∀ c o, c ≠ z → c ≠ TO → c ≠ i1 → c ≠ i2 → s.heap.get? c = some o → h'.get? c = some o) → Q (some (.ref s.heap.objs.size)) { s with heap := h' }) : wpAny (model prog w) A (pyNext (.ref z)) Q E s := by
  have ty : s.TypeIs (.ref z) "zip" := ⟨_, a0, rfl⟩
  unfold pyNext
  exact wpAny_bind (wpAny_attempt (wpAny_callSpecial?_slot (name := Str.ofString "__next__") ty F.slot_zip_next (wpAny_call_entry F.slot_zip_next ty F.entry_zip_next
    (zd_step dd a0 a1 a2 a3 b1 b2 c1 c2 e1 e2 fun h' d1 d2 d3 d4 d5 d6 => wpAny_pure (fin h' d1 d2 d3 d4 d5 d6)) (F.args_zip_next_1 _))))
theorem zd_end {Q : Option Value → Shared → Prop} (hh : A.handled = none) (dd : ZipApart z TI TO i1 i2 p q) (a0 : IsZipHeld s.heap z TI TO T f) (a1 : s.heap.get? T = none) (a2 : IsPair s.heap TI (.ref i1) (.ref i2)) (a3 : IsPair s.heap TO u v)
    (b1 : s.heap.IsTupleIter i1 p m) (b2 : s.heap.IsTupleIter i2 q n) (c1 : s.heap.IsTuple p xs) (c2 : s.heap.IsTuple q ys) (stop : xs[m]? = none ∨ ys[n]? = none)
    (fin : ∀ h', (∀ c o, c ≠ z → c ≠ TO → c ≠ i1 → c ≠ i2 → s.heap.get? c = some o → h'.get? c = some o) → Q none { s with heap := h' }) : wpAny (model prog w) A (pyNext (.ref z)) Q E s := by
  have ty : s.TypeIs (.ref z) "zip" := ⟨_, a0, rfl⟩
  unfold pyNext
  refine wpAny_bind (wpAny_attempt (wpAny_callSpecial?_slot (name := Str.ofString "__next__") ty F.slot_zip_next (wpAny_call_entry F.slot_zip_next ty F.entry_zip_next (zd_out hh dd a0 a1 a2 a3 b1 b2 c1 c2 stop fun h' e hk he => ?_) (F.args_zip_next_1 _))))
  obtain ⟨o, ho, hc⟩ := he
  exact wpAny_bind (wpAny_isInstance (T := "StopIteration") (b := true) ⟨o, ho, hc⟩ isSubtype_stop (wpAny_pure (fin _ hk)))
/-- at turn i, whatever became of the last pair -/
def ZNt (z TI TO i1 i2 p q : Addr) (i : Nat) (h : Heap) : Prop :=
  IsPair h TI (.ref i1) (.ref i2) ∧ h.IsTupleIter i1 p i ∧ h.IsTupleIter i2 q i ∧ (∃ a b, IsPair h TO a b) ∧ (IsZip h z TI TO .none ∨ ∃ T f, IsZipHeld h z TI TO T f)
theorem znt_item {i : Nat} {Q : Option Value → Shared → Prop} (dd : ZipApart z TI TO i1 i2 p q) (a : ZNt z TI TO i1 i2 p q i s.heap) (c1 : s.heap.IsTuple p xs) (c2 : s.heap.IsTuple q ys) (e1 : xs[i]? = some x) (e2 : ys[i]? = some y)
    (fin : ∀ h', ZNt z TI TO i1 i2 p q (i + 1) h' → IsPair h' s.heap.objs.size x y → (∀ c o, c ∉ [z, TI, TO, i1, i2] → s.heap.get? c = some o → h'.get? c = some o) → Q (some (.ref s.heap.objs.size)) { s with heap := h' }) :
    wpAny (model prog w) A (pyNext (.ref z)) Q E s := by
  obtain ⟨a1, a2, a3, ⟨u, v, b2⟩, a4⟩ := a
  have four {h' : Heap} (k : ∀ c o, c ≠ z → c ≠ TO → c ≠ i1 → c ≠ i2 → s.heap.get? c = some o → h'.get? c = some o) : ∀ c o, c ∉ [z, TI, TO, i1, i2] → s.heap.get? c = some o → h'.get? c = some o := fun c o hc e => k c o (fun g => hc (by simp [g])) (fun g => hc (by simp [g])) (fun g => hc (by simp [g])) (fun g => hc (by simp [g])) e
  rcases a4 with b1 | ⟨T, f, b1⟩
  · exact RZ.pyNext_zipT_item dd b1 a1 b2 a2 a3 c1 c2 e1 e2 fun h' d1 d2 d3 d4 d5 d6 d7 => fin h' ⟨d7 TI _ dd.TIz dd.TITO dd.TIi1 dd.TIi2 a1, d3, d4, ⟨_, _, d2⟩, .inr ⟨s.heap.objs.size, false, d1⟩⟩ d5 (four d7)
  · cases hT : s.heap.get? T with
    | some oT => exact zt_next dd b1 hT a1 a2 a3 c1 c2 e1 e2 fun h' d1 d2 d3 d4 d5 => fin h' ⟨d5 TI _ dd.TIz dd.TIi1 dd.TIi2 a1, d2, d3, ⟨_, _, d5 TO _ dd.TOz dd.TOi1 dd.TOi2 b2⟩, .inr ⟨T, true, d1⟩⟩ d4 (four fun c o r1 _ r3 r4 e => d5 c o r1 r3 r4 e)
    | none => exact zd_next dd b1 hT a1 b2 a2 a3 c1 c2 e1 e2 fun h' d1 d2 d3 d4 d5 d7 => fin h' ⟨d7 TI _ dd.TIz dd.TITO dd.TIi1 dd.TIi2 a1, d3, d4, ⟨_, _, d2⟩, .inr ⟨s.heap.objs.size, false, d1⟩⟩ d5 (four d7)
theorem znt_end {i : Nat} {Q : Option Value → Shared → Prop} (hh : A.handled = none) (dd : ZipApart z TI TO i1 i2 p q) (a : ZNt z TI TO i1 i2 p q i s.heap) (c1 : s.heap.IsTuple p xs) (c2 : s.heap.IsTuple q ys) (stop : xs[i]? = none ∨ ys[i]? = none)
    (fin : ∀ h', (∀ c o, c ∉ [z, TI, TO, i1, i2] → s.heap.get? c = some o → h'.get? c = some o) → Q none { s with heap := h' }) : wpAny (model prog w) A (pyNext (.ref z)) Q E s := by
  obtain ⟨a1, a2, a3, ⟨u, v, b2⟩, a4⟩ := a
  have four {h' : Heap} (k : ∀ c o, c ≠ z → c ≠ TO → c ≠ i1 → c ≠ i2 → s.heap.get? c = some o → h'.get? c = some o) : ∀ c o, c ∉ [z, TI, TO, i1, i2] → s.heap.get? c = some o → h'.get? c = some o := fun c o hc e => k c o (fun g => hc (by simp [g])) (fun g => hc (by simp [g])) (fun g => hc (by simp [g])) (fun g => hc (by simp [g])) e
  rcases a4 with b1 | ⟨T, f, b1⟩
  · exact RZ.pyNext_zipT_end hh dd b1 a1 b2 a2 a3 c1 c2 stop fun h' k => fin h' (four k)
  · cases hT : s.heap.get? T with
    | some oT => exact zt_end hh dd b1 hT a1 a2 a3 c1 c2 stop fun h' k => fin h' (four fun c o r1 _ r3 r4 e => k c o r1 r3 r4 e)
    | none => exact zd_end hh dd b1 hT a1 b2 a2 a3 c1 c2 stop fun h' k => fin h' (four k)
theorem ZNt.mem {i : Nat} {h : Heap} (a : ZNt z TI TO i1 i2 p q i h) : ∀ c ∈ [z, TI, TO, i1, i2], ∃ o, h.get? c = some o ∧ ∀ v, o.data ≠ .cell v := fun c hc => by
  obtain ⟨a1, ⟨o1, g1, _, d1⟩, ⟨o2, g2, _, d2⟩, ⟨u, v, a3⟩, a4⟩ := a
  have e : c = z ∨ c = TI ∨ c = TO ∨ c = i1 ∨ c = i2 := by simpa using hc
  rcases e with e | e | e | e | e <;> rw [e]
  · rcases a4 with b1 | ⟨T, f, b1⟩ <;> exact ⟨_, b1, fun v q => nomatch q⟩
  · exact ⟨_, a1, fun v q => nomatch q⟩
  · exact ⟨_, a3, fun v q => nomatch q⟩
  · exact ⟨o1, g1, fun v q => by rw [d1] at q; cases q⟩
  · exact ⟨o2, g2, fun v q => by rw [d2] at q; cases q⟩
end
theorem turn_zipN {P : Program} {w : World} {K : PySem.W.Frag} {x : Str} {pos : Pos} {a b z TI TO i1 i2 : Addr} (D : ZipApart z TI TO i1 i2 a b) :
    Turn P w K (.Name x pos) (RZ.ItzT K a b) [z, TI, TO, i1, i2] z (ZNt z TI TO i1 i2 a b) where
  mem := by simp
  obj := fun i h st c hc => st.mem c hc
  keep := fun i h h' ⟨a1, a2, a3, ⟨u, v, a4⟩, a5⟩ k => ⟨k TI (by simp) _ a1, a2.at fun o e => k i1 (by simp) o e, a3.at fun o e => k i2 (by simp) o e, ⟨u, v, k TO (by simp) _ a4⟩, a5.imp (fun b1 => k z (by simp) _ b1) fun ⟨T, f, b1⟩ => ⟨T, f, k z (by simp) _ b1⟩⟩
  item := by
    intro X hP hw hK hc i pins s σ H E I hf st hg
    subst hP hw hK
    obtain ⟨xs, ys, x, y, hqx, hqy, hx, hy⟩ := hg
    obtain ⟨its, rv, p, _⟩ := I.tuple hqx
    obtain ⟨its2, rv2, p2, _⟩ := I.tuple hqy
    obtain ⟨u, hu, ru⟩ := rv.get hx
    obtain ⟨u2, hu2, ru2⟩ := rv2.get hy
    refine znt_item D st p p2 (x := u) (y := u2) (by simpa using hu) (by simpa using hu2) fun h' st' pr k => ⟨_, rfl, wpAny_pure ?_⟩
    refine ⟨.ref s.heap.objs.size, _, I.turnedNew (t' := s.toks) (ch := [z, TI, TO, i1, i2]) (fun c o hb q => k c o hb q) hf (Nat.le_refl _) (ob := .tup [x, y]) ⟨by show 2 ≤ sizeLine; decide, [u, u2], .cons ru (.cons ru2 .nil), ⟨_, pr, rfl, _, rfl⟩⟩, rfl,
      ⟨_, x, y, rfl, I.hok.fresh (Nat.le_refl _), rfl, fun l hl => by rw [I.tuple_inj hl hqx]; exact hx, fun l hl => by rw [I.tuple_inj hl hqy]; exact hy⟩, st', fun c hcm => ?_⟩
    obtain ⟨o, ho, _⟩ := st.mem c hcm
    rw [upd_ne (Nat.ne_of_lt (Heap.lt_size ho))]
    exact (hf c hcm).1
  done := by
    intro X hP hw hK hc i pins s σ H E I hf st hg
    subst hP hw hK
    obtain ⟨xs, ys, hqx, hqy, hend⟩ := hg
    obtain ⟨its, rv, p, _⟩ := I.tuple hqx
    obtain ⟨its2, rv2, p2, _⟩ := I.tuple hqy
    have l1 := rv.length
    have l2 := rv2.length
    have he : its.toArray[i]? = none ∨ its2.toArray[i]? = none := by
      rcases hend with q | q
      · exact .inl (by simp; omega)
      · exact .inr (by simp; omega)
    exact znt_end (I.ok.hd hc) D st p p2 he fun h' hk => ⟨rfl, I.turnedL (t' := s.toks) (ch := [z, TI, TO, i1, i2]) (fun c o hb q => hk c o hb q) hf⟩
  self := fun A i s Q E st h => by
    have ty : s.TypeIs (.ref z) "zip" := by
      obtain ⟨_, _, _, _, a5⟩ := st
      rcases a5 with b1 | ⟨T, f, b1⟩ <;> exact ⟨_, b1, rfl⟩
    refine wpAny_pyIter_slot ty F.slot_zip_iter (wpAny_call_entry F.slot_zip_iter ty F.entry_zip_iter ?_ (F.args_zip_iter_1 _))
    show wpAny (model P w) _ (ret (.ref z)) _ _ s
    exact wpAny_pure ⟨_, rfl, "zip", _, ty, F.slot_zip_next.lookup, h⟩
def iZipN (K : PySem.W.Frag) (ta : TA) : TI := fun σ H R => ta σ H fun vs H1 => ∃ a b xs ys, vs = [.ref a, .ref b] ∧ SqT K H1 a xs ∧ SqT K H1 b ys ∧ R (RZ.ItzT K a b) H1
section
variable {X : Cx} {e e2 : Expr} {ta : TA} {x : Str} {p pos tpos : Pos}
theorem pi_zipN (hg : Gl X "zip") (hm : X.mg "zip" = none) (ha : PA X [e, e2] ta) (hs : starEach [e, e2] X.env = (false, eval e X.env) :: starEach [e2] X.env := by rfl) (hpl : (backTo pos (starEach [e2] X.env)).any (·.1) = false := by rfl) :
    PI X (.Name x tpos) (.Call (.Name "zip" p) [e, e2] [] pos) (iZipN X.K ta) := by
  refine ⟨fun pins s σ H R I h => ?_⟩
  refine Call_ (ld_blt I hg hm PyProof.Rows.boot_zip (PyProof.Rows.callWith_type1 (thn (ha.run pos pins s σ H _ I h) fun us s1 ⟨vs, H1, I1, r1, q1⟩ => ?_) hs hpl))
  obtain ⟨a, b, xs, ys, rfl, hx, hy, k⟩ := q1
  obtain ⟨u1, us1, rfl, w1, rr⟩ : ∃ u1 us1, us = u1 :: us1 ∧ RelV (.ref a) u1 ∧ Vals [.ref b] us1 := by cases r1 with | cons r rr => exact ⟨_, _, rfl, r, rr⟩
  obtain ⟨u2, rfl, w2⟩ := rr.one
  cases w1
  cases w2
  obtain ⟨its, rv, t1, _⟩ := I1.tuple hx
  obtain ⟨its2, rv2, t2, _⟩ := I1.tuple hy
  have l1 : a < s1.heap.objs.size := by obtain ⟨o, ho, _⟩ := t1; exact Heap.lt_size ho
  have l2 : b < s1.heap.objs.size := by obtain ⟨o, ho, _⟩ := t2; exact Heap.lt_size ho
  refine RZ.call_zipT t1 t2 fun h' d1 d2 d3 d4 d5 d6 d7 => wpAny_pyIter_zip d1 ?_
  refine ⟨_, [s1.heap.objs.size + 4, s1.heap.objs.size + 2, s1.heap.objs.size + 3, s1.heap.objs.size, s1.heap.objs.size + 1], _, _, H1, rfl, I1.kept (t' := s1.toks) d7, turn_zipN (PySem.W.ktu_apart s1.heap.objs.size a b l1 l2), ⟨d2, d4, d5, ⟨_, _, d3⟩, .inl d1⟩, fun c hcm => ?_, k⟩
  have le : s1.heap.objs.size ≤ c := by
    have g : c = s1.heap.objs.size + 4 ∨ c = s1.heap.objs.size + 2 ∨ c = s1.heap.objs.size + 3 ∨ c = s1.heap.objs.size ∨ c = s1.heap.objs.size + 1 := by simpa using hcm
    rcases g with e | e | e | e | e <;> rw [e]
    · exact Nat.le_add_right _ _
    · exact Nat.le_add_right _ _
    · exact Nat.le_add_right _ _
    · exact Nat.le_refl _
    · exact Nat.le_add_right _ _
  exact I1.fpOk le (I1.hok.fresh le)
def dZipN (a : DA) : DI := fun en l => (a en l).bind fun ds l1 => match ds with
  | [.tuple xs, .tuple ys] => .ok (zipD xs ys) l1
  | _ => .no
theorem pdi_zipN {ds : DA} (hg : Gl X "zip") (hm : X.mg "zip" = none) (h : PDA X [e, e2] ds) (hs : starEach [e, e2] X.env = (false, eval e X.env) :: starEach [e2] X.env := by rfl) (hpl : (backTo pos (starEach [e2] X.env)).any (·.1) = false := by rfl) :
    PDI X (.Name x tpos) (.Call (.Name "zip" p) [e, e2] [] pos) (dZipN ds) := by
  obtain ⟨t, h1, h2⟩ := h
  refine ⟨_, pi_zipN hg hm h1 hs hpl, fun L σ H P M en l R xs l' h Rr q => ?_⟩
  obtain ⟨d, l1, e1, h⟩ := Res.bind_ok h
  split at h
  · cases h
    refine h2 L σ H P M en l R _ _ e1 _ fun vs H1 P1 G1 r1 => ?_
    cases r1 with
    | cons ra rb =>
      cases rb with
      | cons rb rc =>
        cases rc
        obtain ⟨a, va, rfl, sa, r2⟩ := ra.isTup
        obtain ⟨b, vb, rfl, sb, r3⟩ := rb.isTup
        exact ⟨a, b, va, vb, rfl, G1.ph.t sa, G1.ph.t sb, q _ _ _ G1 (walks_zt sa sb r2 r3)⟩
  · cases h
end
end Dx
end
section
set_option Elab.async false
set_option linter.all false
set_option maxRecDepth 100000
/-! Dx15: a def that may raise C(), an own exception class without __init__; try: return f(..) except C: return None. A raise is told as a break. -/
namespace Dx
open PySem PySem.Spec PyProof.Rows L2
abbrev bmVE : List Value := [.type "ValueError", .type "Exception", .type "BaseException", .type "object"]
/-- what is known of the class -/
structure ExC (K : PySem.W.Frag) (mg : Str → Option Value) (x : Str) (C : Addr) : Prop where
  q : PySem.W.excIn K C bmVE "ValueError.__new__" = true
  g : mg x = some (.ref C)
  k : PySem.W.keepIn K (.ref C) = true
  s : PySem.W.subIn K (.ref C) (.type "BaseException") = some true
  t : PySem.W.typeIn K (.ref C) = some (.type "type")
  m : PySem.W.exmOne K (.ref C) (.ref C) = some true
section
variable {X : Cx} {x : Str} {C : Addr} {p pos : Pos}
theorem pmk_own0 (T : ExC X.K X.mg x C) (hg : Gl X x) (hdb : (x == ("__debug__" : Str)) = false := by decide) : PMk X (.Call (.Name x p) [] [] pos) (fun _ H Q => Q (.ref C) none H) := by
  intro pins s σ H Q I h
  refine wpAny_Call_Name_kw (ld_glob I hg T.g (PySem.W.callWith_K0 I.kIn T.k ?_) hdb)
  show wpAny (model X.prog X.w) _ (call (.ref C) []) _ _ s
  obtain ⟨bm, N, nm, qn, bs, hdct, sn, sub, ab, col, dd, k0, k1, k2, k3, k5, mN, hC, hN, hni, tl⟩ := exc_obj I.kIn T.q
  exact wpAny_call_exc_subT PySem.F.excBase_ValueError tl hC hN hni (fun h' e hm => mk_of I hm (raises_own T.s T.t) h (I.hok.gone hm.new)) (Nat.zero_le _)
end
/-! blocks that may raise: W is what is wanted then -/
def ThenE (K : PySem.W.Frag) (W : L2.St → Hp → Prop) (L : Option Addr) (H P M : Hp) (D : Ends) : SRes → Prop
  | .bk en' l' => ∀ σ' H' P' M', Step L l' H P M H' P' M' → Rep K L σ' H' P' M' en' l' → W σ' H'
  | r => Then K L H P M D r
theorem ThenE.step {K : PySem.W.Frag} {W : L2.St → Hp → Prop} {L : Option Addr} {H P M H1 P1 M1 : Hp} {l1 : Ld} {D : Ends} (a : Step L l1 H P M H1 P1 M1) : ∀ {r : SRes}, ThenE K W L H P M D r → ThenE K W L H1 P1 M1 D r
  | .nx _ _, h => fun σ' H' P' M' b => h σ' H' P' M' (a.trans b)
  | .rt _ _, h => fun v H' P' M' b => h v H' P' M' (a.trans b)
  | .bk _ _, h => fun σ' H' P' M' b => h σ' H' P' M' (a.trans b)
  | .ct _ _, h => fun σ' H' P' M' b => h σ' H' P' M' (a.trans b)
  | .no, h => h
/-- no break in it -/
def NB (ds : DS) : Prop := ∀ en l en' l', ds en l ≠ .bk en' l'
theorem nb_drop (a : DE) : NB (dDrop a) := fun en l en' l' => by unfold dDrop; split <;> exact fun z => nomatch z
theorem nb_set (i : Nat) (a : DE) : NB (dSet i a) := fun en l en' l' => by unfold dSet; split <;> exact fun z => nomatch z
theorem nb_ret (a : DE) : NB (dRet a) := fun en l en' l' => by unfold dRet; split <;> exact fun z => nomatch z
theorem nb_next : NB dNext := fun en l en' l' z => nomatch z
theorem nb_never : NB dNever := fun en l en' l' z => nomatch z
theorem nb_asg (g : DG) (a : DE) : NB (dAsg g a) := fun en l en' l' => by
  unfold dAsg
  split
  · split <;> exact fun z => nomatch z
  · exact fun z => nomatch z
theorem nb_if {t : DT} {a b : DS} (ha : NB a) (hb : NB b) : NB (dIfS t a b) := fun en l en' l' => by
  unfold dIfS
  split
  · exact ha _ _ _ _
  · exact hb _ _ _ _
  · exact fun z => nomatch z
def SndE (K : PySem.W.Frag) (W : L2.St → Hp → Prop) (ts : TS) (ds : DS) : Prop := ∀ (L : Option Addr) (σ : L2.St) (H P M : Hp) (en : En) (l : Ld), Rep K L σ H P M en l → ∀ D : Ends, ThenE K W L H P M D (ds en l) → ts D σ H
def PDE (X : Cx) (W : L2.St → Hp → Prop) (st : Stmt) (ds : DS) : Prop := ∃ ts, PS X st ts ∧ SndE X.K W ts ds
def PDEs (X : Cx) (W : L2.St → Hp → Prop) (st : List Stmt) (ds : DS) : Prop := ∃ ts, PSs X st ts ∧ SndE X.K W ts ds
section
variable {X : Cx} {W : L2.St → Hp → Prop} {st : Stmt} {rest a b : List Stmt} {du dw : DS} {dt : DT} {c : Expr} {x : Str} {C : Addr} {p pos pos' pos2 : Pos}
theorem then_of {L : Option Addr} {H P M : Hp} {D : Ends} {K : PySem.W.Frag} {r : SRes} (hn : ∀ en' l', r ≠ .bk en' l') (h : ThenE K W L H P M D r) : Then K L H P M D r := by
  cases r with
  | bk en' l' => exact absurd rfl (hn en' l')
  | nx en' l' => exact h
  | rt d l' => exact h
  | ct en' l' => exact h
  | no => exact h
theorem pde_of (hn : NB du) (h : PDS X st du) : PDE X W st du := by
  obtain ⟨t, h1, h2⟩ := h
  exact ⟨t, h1, fun L σ H P M en l R D h => h2 L σ H P M en l R D (then_of (hn en l) h)⟩
theorem pdes_cons (hn : NB du) (h : PDS X st du) (k : PDEs X W rest dw) : PDEs X W (st :: rest) (dSeq du dw) := by
  obtain ⟨t, h1, h2⟩ := h
  obtain ⟨u, k1, k2⟩ := k
  refine ⟨_, pss_cons h1 k1, fun L σ H P M en l R D h => h2 L σ H P M en l R _ ?_⟩
  unfold dSeq at h
  split at h
  · rename_i en' l' e1
    rw [e1]
    exact fun σ' H' P' M' S R' => k2 L σ' H' P' M' en' l' R' D (h.step S)
  · rename_i r hr
    cases e1 : du en l with
    | nx en' l' => exact (hr en' l' e1).elim
    | rt d l' => rw [e1] at h; exact h
    | bk en' l' => exact absurd e1 (hn en l en' l')
    | ct en' l' => rw [e1] at h; exact h
    | no => rw [e1] at h; exact h
theorem pdes_one (hn : NB du) (h : PDS X st du) : PDEs X W [st] du := by
  obtain ⟨t, h1, h2⟩ := h
  exact ⟨t, pss_one h1, fun L σ H P M en l R D h => h2 L σ H P M en l R D (then_of (hn en l) h)⟩
/-- if c: raise C() -/
theorem pdes_raise {Wx : WX} (hc : PDT X c dt) (hl : X.calm = true) (tk : Takes X Wx) (T : ExC X.K X.mg x C) (hW : ∀ σ H, W σ H → Wx (.ref C) none σ H) (hg : Gl X x) (k : PDEs X W rest dw) (hdb : (x == ("__debug__" : Str)) = false := by decide) :
    PDEs X W (.If c [.Raise (some (.Call (.Name x p) [] [] pos')) none pos] [] pos2 :: rest) (dSeq (dIfS dt dBreak dNext) dw) := by
  obtain ⟨t, h1, h2⟩ := hc
  obtain ⟨u, k1, k2⟩ := k
  refine ⟨_, pss_cons (ps_if h1 (pss_one (ps_raise hl tk (pmk_own0 T hg hdb))) pss_nil) k1, fun L σ H P M en l R D h => ?_⟩
  unfold dSeq dIfS at h
  split at h
  · rename_i en' l' e1
    split at e1
    · cases e1
    · rename_i l1 e2
      cases e1
      exact h2 L σ H P M en l R false _ e2 _ fun H1 P1 G1 => iteF (k2 L σ H1 P1 M _ _ (R.grow G1) D (h.step G1.step))
    · cases e1
  · rename_i r hr
    split at h
    · rename_i l1 e2
      exact h2 L σ H P M en l R true _ e2 _ fun H1 P1 G1 => iteT (hW _ _ (h σ H1 P1 M G1.step (R.grow G1)))
    · rename_i l1 e2
      exact (hr en l1 (by rw [e2]; rfl)).elim
    · exact h.elim
end
/-- the promise: what is told, or C() is raised -/
def spE (K : PySem.W.Frag) (n N : Nat) (ds : DS) (C : Addr) : Sp := fun vs H Q E => ∃ (P : Hp) (xs : List D), vs.length = n ∧ Ex P H ∧ RpAll K P vs xs ∧ (match ds (enOf N xs) ⟨0, 0, 0⟩ with
  | .rt d _ => ∀ v H' P', Grow none ⟨0, 0, 0⟩ H P H' P' → Rp K P' v d → Q v H'
  | .bk _ _ => ∀ H' P', Grow none ⟨0, 0, 0⟩ H P H' P' → E (.ref C) none H'
  | _ => False)
section
variable {P : Program} {w : World} {K : PySem.W.Frag} {mg : Str → Option Value} {base : Heap} {x qual : Str} {st : Stmt} {f C : Addr} {fd : FuncData} {N ps : List Str} {k : Nat}
theorem fnE (F : Fun K x qual st f fd) (S : FnScope N ps (defScope st)) {ds : DS}
    (body : ∀ (cdv : Value) (A : Around) (outer : List Env) (s : Shared) (H : Hp) (E : XK), A.guards = some [] → Room k (A.deeper (envOfC qual (defScope st) s.heap.objs.size f cdv)) → PDEs (cxOf (L2.CX P w) P w K mg base N qual (defScope st) f cdv A outer s H E) (fun _ H' => E (.ref C) none H') (defBody st) ds) :
    FnG P w K mg base (L2.CX P w) (k + 1) f fd ps (spE K ps.length N.length ds C) := by
  refine fnG_body F S (fun vs H Q E h => ?_) fun cdv A outer s H vs Q E hg hr h => ?_
  · obtain ⟨_, _, h, _⟩ := h
    exact h
  · obtain ⟨P0, xs, hl, e, r, q⟩ := h
    obtain ⟨ts, t1, t2⟩ := body cdv A outer s H E hg hr
    have gr : ∀ {H' P' M' : Hp} {l' : Ld}, Step none l' H P0 (fun _ => none) H' P' M' → Grow none ⟨0, 0, 0⟩ H P0 H' P' := fun {H' P' M' l'} S => ⟨fun a o n h => S.keep a o n rfl h, (fun a z => nomatch z), S.pp, S.ph, fun a o h n => by
      rcases S.new a o h n with z | ⟨u, z⟩
      · exact z
      · cases z⟩
    split at q
    · rename_i d l' e1
      refine ⟨ts, t1, t2 none (start N vs) H P0 (fun _ => none) (enOf N.length xs) ⟨0, 0, 0⟩ (rep_start e r) _ ?_⟩
      rw [e1]
      exact fun v H' P' M' S r' => q v H' P' (gr S) r'
    · rename_i en' l' e1
      refine ⟨ts, t1, t2 none (start N vs) H P0 (fun _ => none) (enOf N.length xs) ⟨0, 0, 0⟩ (rep_start e r) _ ?_⟩
      rw [e1]
      exact fun σ' H' P' M' S _ => q H' P' (gr S)
    · exact q.elim
end
/-! the call, where what is wanted of an exception hangs on the slots -/
section
variable {X : Cx} {k n N : Nat} {f C : Addr} {fd : FuncData} {ps : List Str} {x cx : Str} {p np pos pos' pos1 pos2 : Pos} {e : Expr} {es : List Expr} {dq : DS} {da : DA}
def PassA (CX : CXT) (X : Cx) (σ : L2.St) (E : XK) : Prop := ∀ (pins : List (Addr × Obj)) (H : Hp) (s : Shared) (e : Value) (s' : Shared), Inv X pins σ H s → CX X.stack H s E e s' → X.xe e s'
theorem passA {W : WX} (tk : Takes X W) (σ : L2.St) : PassA (L2.CX X.prog X.w) X σ (fun cls d H => W cls d σ H) := fun _ _ _ e s' I c => tk e s' (XE.of_call I (fun _ _ _ h => h) c)
theorem pe_callGS {t : TA} {W : WX} (G : FnG X.prog X.w X.K X.mg X.base (L2.CX X.prog X.w) k f fd ps (spE X.K n N dq C)) (hg : X.A.guards = some []) (hr : Room k X.A) (hl : Gl X x) (hm : X.mg x = some (.ref f)) (hk : PySem.W.keepIn X.K (.ref f) = true)
    (hb : Binds X.K fd ps []) (tk : Takes X W) (ha : PA X (e :: es) t) (h1 : (x == ("__debug__" : Str)) = false := by decide) (h2 : starEach (e :: es) X.env = (false, eval e X.env) :: starEach es X.env := by rfl)
    (h3 : (backTo pos (starEach es X.env)).any (·.1) = false := by rfl) : PE X (.Call (.Name x p) (e :: es) [] pos) (fun σ H Q => t σ H fun vs H1 => spE X.K n N dq C vs H1 Q fun cls d H' => W cls d σ H') := by
  constructor
  intro pins s σ H Q I h
  refine wpAny_Call_Name_kw (ld_glob I hl hm ?_ h1)
  apply PySem.W.callWith_K (h₀ := X.base) I.ok.mod.kin hk _ h2 h3
  refine thn (ha.run pos pins s σ H _ I h) ?_
  rintro us s1 ⟨vs, H1, I1, r, q⟩
  have z := hb s1 us I1.kIn (by rw [List.append_nil, ← r.length]; exact G.size _ _ _ _ q)
  rw [List.append_nil] at z
  refine ⟨I1.kIn, ?_⟩
  apply wpAny_call
  refine codeAny_mono (G.does X.A hg hr X.stack s1 H1 I1.env0 ⟨us, []⟩ us vs z r Q _ q) fun r s' hq => ?_
  match r, hq with
  | .ok (.ret u), hq => exact I1.after hq
  | .ok .next, hq => exact hq.elim
  | .ok .brk, hq => exact hq.elim
  | .ok .cont, hq => exact hq.elim
  | .error e, hq => exact passA tk σ pins H1 s1 e s' I1 hq
/-- try: return f(..) except C: return None -/
def dTryN (n N : Nat) (dq : DS) (a : DA) : DS := fun en l => match a en l with
  | .ok xs l' => if xs.length = n then (match dq (enOf N xs) ⟨0, 0, 0⟩ with
    | .rt d _ => .rt d l'
    | .bk _ _ => .rt .none l'
    | _ => .no) else .no
  | .no => .no
theorem pds_tryN (T : ExC X.K X.mg cx C) (hc : Gl X cx) (hcd : (cx == ("__debug__" : Str)) = false := by decide)
    (hs : X.stack = X.env :: X.outer := by rfl) (hf : X.env.frame = some X.env.locals := by rfl)
    (G : FnG X.prog X.w X.K X.mg X.base (L2.CX X.prog X.w) k f fd ps (spE X.K n N dq C)) (hg : X.A.guards = some []) (hr : Room k X.A) (hl : Gl X x) (hm : X.mg x = some (.ref f)) (hk : PySem.W.keepIn X.K (.ref f) = true) (hb : Binds X.K fd ps [])
    (ha : ∃ ta, (∀ (pn : List (Addr × Obj)) (xe : Value → Shared → Prop), PA (X.tr pn xe) (e :: es) ta) ∧ SndA X.K ta da) (h1 : (x == ("__debug__" : Str)) = false := by decide)
    (h2 : starEach (e :: es) X.env = (false, eval e X.env) :: starEach es X.env := by rfl) (h3 : (backTo pos (starEach es X.env)).any (·.1) = false := by rfl) {jn : Nat} {pn : Pos} :
    PDS X (.Try [.Return (some (.Call (.Name x p) (e :: es) [] pos)) pos1] [.ExceptHandler (some (.Name cx np)) none [.Return (some (.Constant .none jn pn)) pos2] pos'] [] [] pos3) (dTryN n N dq da) := by
  obtain ⟨ta, a1, a2⟩ := ha
  refine ⟨_, ps_try_only (Wout := fun _ _ _ _ => False) hs hf ⟨hc, hcd, .inl T.g⟩ (fun u s' ⟨_, _, _, _, _, _, _, _, _, _, _, _, _, _, _, _, w⟩ => w.elim)
    (tb := fun W => tRet fun σ H Q => ta σ H fun vs H1 => spE X.K n N dq C vs H1 Q fun cls d H' => W cls d σ H') (ts := fun _ _ _ => tRet (tC .non))
    (fun W pn xe tk _ => pss_one (ps_ret (pe_callGS (X := X.tr pn xe) G hg hr hl hm hk hb tk (a1 pn xe) h1 h2 h3))) (fun a oe cls d pn _ _ => pss_one (ps_ret pe_non)), fun L σ H P M en l R D h => ?_⟩
  unfold dTryN at h
  split at h
  · rename_i xs l' e1
    split at h
    · rename_i hn
      refine a2 L σ H P M en l R xs l' e1 _ fun vs H1 P1 G1 r1 => ⟨P1, xs, r1.length.trans hn, (R.grow G1).pin, r1, ?_⟩
      have R1 := R.grow G1
      split at h
      · rename_i d l2 e2
        exact fun v H2 P2 G2 r2 => h v H2 P2 M (G1.trans (G2.weak R1.lod)).step r2
      · rename_i en2 l2 e2
        exact fun H2 P2 G2 => ⟨true, T.m, fun _ _ _ => h .non H2 P2 M (G1.trans (G2.weak R1.lod)).step .non, fun z => nomatch z⟩
      · exact h.elim
    · exact h.elim
  · exact h.elim
end
/-! arguments that are names alone, in any context -/
section
variable {K : PySem.W.Frag} {ta : TE} {tb : TA} {de : DE} {ds : DA}
theorem snd_var (i : Nat) : Snd K (tVar i) (dVar i) := fun L σ H P M en l R d l' h Q q => by
  unfold dVar at h
  split at h
  · rename_i d0 he; cases h; obtain ⟨v, h1, h2⟩ := R.dat i _ he; exact ⟨v, h1, q v H P R.refl h2⟩
  · cases h
theorem snda_nil : SndA K tNil dNil := fun L σ H P M en l R d l' h Q q => by cases h; exact q _ _ _ R.refl .nil
theorem snda_cons (ha : Snd K ta de) (hb : SndA K tb ds) : SndA K (tCons ta tb) (dCons de ds) := fun L σ H P M en l R d l' h Q q => by
  obtain ⟨x, l1, h1, h⟩ := Res.bind_ok h; obtain ⟨xs, l2, h2, h⟩ := Res.bind_ok h; cases h
  refine ha L σ H P M en l R x l1 h1 _ fun v H1 P1 G1 r1 => hb L σ H1 P1 M en l1 (R.grow G1) xs _ h2 _ fun us H2 P2 G2 r2 => ?_
  exact q _ H2 P2 (G1.trans G2) (.cons (r1.mono G2.pp) r2)
end
end Dx
end
section
set_option Elab.async false
set_option linter.all false
set_option maxRecDepth 100000
/-! Dx16: try: return f(..) except B as e: return 'one' if isinstance(e, C) else 'two', where f raises C() alone. -/
namespace Dx
open PySem PySem.Spec PyProof.Rows L2
theorem boot_isi : bootBuiltins "isinstance" = some (.builtin "isinstance") := by decide +kernel
structure ExW (K : PySem.W.Frag) (mg : Str → Option Value) (cx : Str) (B C : Addr) : Prop where
  g : mg cx = some (.ref B)
  m : PySem.W.exmOne K (.ref C) (.ref B) = some true
  c : ExcC K C
def dTryW (n N : Nat) (dq : DS) (a : DA) (s1 : Str) : DS := fun en l => match a en l with
  | .ok xs l' => if xs.length = n then (match dq (enOf N xs) ⟨0, 0, 0⟩ with
    | .rt d _ => .rt d l'
    | .bk _ _ => .rt (.str s1) l'
    | _ => .no) else .no
  | .no => .no
section
variable {X : Cx} {k n N i : Nat} {f B C : Addr} {fd : FuncData} {ps : List Str} {x cx dx nm s1 s2 : Str} {p np pos pos' pos1 pos2 pos3 q1 q2 q3 q4 q5 q6 q7 : Pos} {e : Expr} {es : List Expr} {dq : DS} {da : DA} {j1 j2 : Nat}
def tSuite (C : Addr) (i : Nat) (s1 : Str) : Addr → Value → Option Addr → TS := fun a cls d D σ H => (cls = .ref C ∧ d = none ∧ (i < σ.length → σ[i]? = some (some (.ref a)))) ∧ D.rt (.str s1) H
theorem suite_ok (T : ExC X.K X.mg dx C) (TB : ExW X.K X.mg cx B C) (hb : X.mg "isinstance" = none) (hgi : Gl X "isinstance") (hgd : Gl X dx) (hdd : (dx == ("__debug__" : Str)) = false) (hpe : ∀ (Y : Cx), Y.N = X.N → Y.env = X.env → PE Y (.Name nm q2) (tVar i))
    (h2 : starEach [.Name nm q2, .Name dx q3] X.env = (false, eval (.Name nm q2) X.env) :: starEach [.Name dx q3] X.env) (h3 : starEach [.Name dx q3] X.env = (false, eval (.Name dx q3) X.env) :: starEach [] X.env) (h4 : (backTo q4 (starEach [.Name dx q3] X.env)).any (·.1) = false)
    (he : ∀ whole, isTrue (.Call (.Name "isinstance" q1) [.Name nm q2, .Name dx q3] [] q4) X.env whole = (do let v ← whole; standAt (Expr.pos (.Call (.Name "isinstance" q1) [.Name nm q2, .Name dx q3] [] q4)); holding [v] (truthy v)))
    (hi : i < X.N.length) (a : Addr) (oe : Obj) (cls : Value) (d : Option Addr) (pn : List (Addr × Obj)) (hz : Zc cls d oe) (hf : ∃ vs, oe.data = .fields vs) :
    PSs (X.suite a ((a, oe) :: pn)) [.Return (some (.IfExp (.Call (.Name "isinstance" q1) [.Name nm q2, .Name dx q3] [] q4) (.Constant (.str s1) j1 q5) (.Constant (.str s2) j2 q6) q7)) pos2] (tSuite C i s1 a cls d) := by
  refine ⟨fun pins s σ H D I hw => ?_⟩
  obtain ⟨⟨rfl, rfl, hσ⟩, q⟩ := hw
  have pe := pe_callB (X := X.suite a ((a, oe) :: pn)) (p := q1) (pos := q4) (call_isE TB.c hz hf) hgi hb boot_isi (pa_cons (hpe (X.suite a ((a, oe) :: pn)) rfl rfl) (pa_cons (pe_glob (v := .ref C) hgd T.g rfl hdd) pa_nil h3) h2) (he := h2) (hpl := h4)
  refine (pss_one (ps_ret (pe_ifExp (pt_val pe he) pe_str pe_str))).run pins s σ H D I ?_
  exact ⟨_, hσ (by rw [I.len]; exact hi), ⟨.ref C, .ref C, true, rfl, fun u r => r, if_pos (beq_self_eq_true _), true, rfl, q⟩⟩
theorem pds_tryW (T : ExC X.K X.mg dx C) (TB : ExW X.K X.mg cx B C) (hb : X.mg "isinstance" = none) (hN : X.N.Nodup) (hi : X.N[i]? = some nm) (hln : X.env.kindOf nm = some .local) (hc : Gl X cx) (hgi : Gl X "isinstance") (hgd : Gl X dx)
    (G : FnG X.prog X.w X.K X.mg X.base (L2.CX X.prog X.w) k f fd ps (spE X.K n N dq C)) (hg : X.A.guards = some []) (hr : Room k X.A) (hl : Gl X x) (hm : X.mg x = some (.ref f)) (hk : PySem.W.keepIn X.K (.ref f) = true) (hb2 : Binds X.K fd ps [])
    (hpe : ∀ (Y : Cx), Y.N = X.N → Y.env = X.env → PE Y (.Name nm q2) (tVar i))
    (ha : ∃ ta, (∀ (pn : List (Addr × Obj)) (xe : Value → Shared → Prop), PA (X.tr pn xe) (e :: es) ta) ∧ SndA X.K ta da)
    (hcd : (cx == ("__debug__" : Str)) = false := by decide) (hdd : (dx == ("__debug__" : Str)) = false := by decide) (h1 : (x == ("__debug__" : Str)) = false := by decide)
    (hs : X.stack = X.env :: X.outer := by rfl) (hf : X.env.frame = some X.env.locals := by rfl)
    (h2 : starEach (e :: es) X.env = (false, eval e X.env) :: starEach es X.env := by rfl) (h3 : (backTo pos (starEach es X.env)).any (·.1) = false := by rfl)
    (g2 : starEach [.Name nm q2, .Name dx q3] X.env = (false, eval (.Name nm q2) X.env) :: starEach [.Name dx q3] X.env := by rfl) (g3 : starEach [.Name dx q3] X.env = (false, eval (.Name dx q3) X.env) :: starEach [] X.env := by rfl) (g4 : (backTo q4 (starEach [.Name dx q3] X.env)).any (·.1) = false := by rfl)
    (he : ∀ whole, isTrue (.Call (.Name "isinstance" q1) [.Name nm q2, .Name dx q3] [] q4) X.env whole = (do let v ← whole; standAt (Expr.pos (.Call (.Name "isinstance" q1) [.Name nm q2, .Name dx q3] [] q4)); holding [v] (truthy v)) := by intro _; rfl) :
    PDS X (.Try [.Return (some (.Call (.Name x p) (e :: es) [] pos)) pos1] [.ExceptHandler (some (.Name cx np)) (some nm) [.Return (some (.IfExp (.Call (.Name "isinstance" q1) [.Name nm q2, .Name dx q3] [] q4) (.Constant (.str s1) j1 q5) (.Constant (.str s2) j2 q6) q7)) pos2] pos'] [] [] pos3) (dTryW n N dq da s1) := by
  obtain ⟨ta, a1, a2⟩ := ha
  refine ⟨_, ps_try_as (i := i) (Wout := fun _ _ _ _ => False) hs hf hN hi hln ⟨hc, hcd, .inl TB.g⟩ (fun u s' ⟨_, _, _, _, _, _, _, _, _, _, _, _, _, _, _, _, w⟩ => w.elim)
    (tb := fun W => tRet fun σ H Q => ta σ H fun vs H1 => spE X.K n N dq C vs H1 Q fun cls d H' => W cls d σ H') (ts := tSuite C i s1)
    (fun W pn xe tk _ => pss_one (ps_ret (pe_callGS (X := X.tr pn xe) G hg hr hl hm hk hb2 tk (a1 pn xe) h1 h2 h3))) (suite_ok T TB hb hgi hgd hdd hpe g2 g3 g4 he (List.getElem?_eq_some_iff.mp hi).1), fun L σ H P M en l R D h => ?_⟩
  unfold dTryW at h
  split at h
  · rename_i xs l' e1
    split at h
    · rename_i hn
      refine a2 L σ H P M en l R xs l' e1 _ fun vs H1 P1 G1 r1 => ⟨P1, xs, r1.length.trans hn, (R.grow G1).pin, r1, ?_⟩
      have R1 := R.grow G1
      split at h
      · rename_i d l2 e2
        try rw [e2]
        exact fun v H2 P2 G2 r2 => h v H2 P2 M (G1.trans (G2.weak R1.lod)).step r2
      · rename_i en2 l2 e2
        try rw [e2]
        exact fun H2 P2 G2 => ⟨true, TB.m, fun _ a _ => ⟨⟨rfl, rfl, fun hz => by rw [List.length_set] at hz; rw [List.getElem?_set_self hz]⟩, h (.str s1) H2 P2 M (G1.trans (G2.weak R1.lod)).step (.str s1)⟩, fun z => nomatch z⟩
      · exact h.elim
    · exact h.elim
  · exact h.elim
end
end Dx
end
section
namespace Dx
open PySem PySem.Spec PyProof.Rows L2
/-- a class of this text in an except clause of its own -/
theorem exm_of {K : PySem.W.Frag} {C : Addr} (b : PySem.W.subIn K (.ref C) (.type "BaseException") = some true) (i : PySem.W.isClsIn K C = true) (t : PySem.W.typeIn K (.ref C) = some (.type "type"))
    (s : PySem.W.subIn K (.ref C) (.ref C) = some true) : PySem.W.exmOne K (.ref C) (.ref C) = some true := by
  have i' : (PySem.W.clsIn K C).isSome = true := i
  simp only [PySem.W.exmOne, PySem.W.kitCls, b, i', t, s]
  decide
end Dx
end
section
set_option Elab.async false
set_option linter.all false
set_option maxRecDepth 100000
/-! Dx18: {'a': 1}; str of a whole number; a mirror that tells nothing -/
namespace Dx
open PySem PySem.Spec PyProof.Rows L2
def dDictSI (k : Str) (i : Int) : DE := fun _ l => .ok (.dict [(.str k, .int i)]) l
theorem pd_dictSI {X : Cx} {k : Str} {i : Int} {j1 j2 : Nat} {p1 p2 pos : Pos} : PD X (.Dict [some (.Constant (.str k) j1 p1)] [.Constant (.int i) j2 p2] pos) (dDictSI k i) :=
  ⟨_, pe_disp (pps_cons pe_str pe_int pps_nil) rfl rfl (by simp) (show (1 : Nat) ≤ 15 from by decide), fun L σ H P M en l R d l' h Q q => by
    cases h
    intro p hp
    refine ⟨upd_same, [(.inr k, .int i)], rfl, (show (1 : Nat) ≤ 15 from by decide), ?_⟩
    rw [upd_upd]
    exact q _ _ _ (Grow.laid R.pin R.lod hp) (.dic (kvs := [(.inr k, .int i)]) (ds := [.int i]) upd_same (.cons (.int i) .nil))⟩
def gStrI : List D → Option D
  | [.int i] => if i.natAbs.log2 < 1920 then some (.str (toString i)) else none
  | _ => none
theorem cs_str {K : PySem.W.Frag} : CallS K (fun xs H Q => ∃ i, xs = [.int i] ∧ i.natAbs.log2 < 1920 ∧ Q (.str (toString i)) H) gStrI := fun L l H P xs ds d e hl r hg Q q => by
  unfold gStrI at hg
  split at hg
  · split at hg
    · rename_i h
      cases hg
      cases r with
      | cons r1 rr => cases rr; rw [r1.isInt]; exact ⟨_, rfl, h, q _ _ _ (.refl e hl) (.str _)⟩
    · cases hg
  · cases hg
def dNone' : DS := fun _ _ => .no
theorem pdss_no {X : Cx} {st : List Stmt} : PDSs X st dNone' := ⟨fun _ _ _ => False, ⟨fun _ _ _ _ _ _ h => h.elim⟩, fun _ _ _ _ _ _ _ _ _ h => h⟩
end Dx
end
section
set_option Elab.async false
set_option linter.all false
set_option maxRecDepth 100000
set_option maxHeartbeats 1000000
set_option exponentiation.threshold 100
namespace Kb
open PySem Dx Fc
theorem lw_t {c : DT} {b : DS} {n : Nat} {en en' : En} {l l1 l' : Ld} (h : c en l = .ok true l1) (k : b en l1 = .nx en' l') : loopW c b (n + 1) en l = loopW c b n en' l' := by
  conv => lhs; unfold loopW
  rw [h]
  dsimp only
  rw [k]
theorem lw_f {c : DT} {b : DS} {n : Nat} {en : En} {l l1 : Ld} (h : c en l = .ok false l1) : loopW c b (n + 1) en l = .nx en l1 := by
  conv => lhs; unfold loopW
  rw [h]
theorem lw_up {c : DT} {b : DS} {n m : Nat} {en : En} {l : Ld} {r : SRes} (h : loopW c b n en l = r) (hr : r ≠ .no) (hm : n ≤ m) : loopW c b m en l = r := by
  obtain ⟨k, rfl⟩ := Nat.exists_eq_add_of_le hm
  rw [loopW_up k (by rw [h]; exact hr), h]
/-! the statement's own gcd -/
def gcdC : DT := dTest (dOp gGt (dVar 1) (dC (.int 0)))
def gcdB : DS := dPar [0, 1] (dCons (dVar 1) (dCons (dOp gMod (dCB gInt (dCons (dVar 0) dNil)) (dVar 1)) dNil))
def en2 (a b : Int) : En := [some (.dat (.int a)), some (.dat (.int b))]
theorem gcdC_eq (a b : Int) (l : Ld) : gcdC (en2 a b) l = .ok (decide (0 < b)) l := rfl
theorem gcdB_eq (a b : Int) (l : Ld) (h : b ≠ 0) : gcdB (en2 a b) l = .nx (en2 b (a.fmod b)) l := by
  simp [gcdB, en2, dPar, dCons, dNil, dOp, gMod, g2IC, dCB, gInt, dVar, Res.bind, cMod, h]
theorem loop_gcd (l : Ld) : ∀ (b a : Nat), loopW gcdC gcdB (b + 1) (en2 a b) l = .nx (en2 (Nat.gcd b a) 0) l := by
  intro b
  induction b using Nat.strongRecOn with
  | ind b ih =>
    intro a
    cases b with
    | zero =>
      rw [Nat.gcd_zero_left]
      exact lw_f rfl
    | succ b =>
      have h := ih (a % (b + 1)) (Nat.mod_lt _ (by omega)) (b + 1)
      have e2 := gcdB_eq (a : Int) ((b + 1 : Nat) : Int) l (by omega)
      have e3 : (a : Int).fmod ((b + 1 : Nat) : Int) = ((a % (b + 1) : Nat) : Int) := by
        rw [Int.fmod_eq_emod_of_nonneg _ (by omega)]
        rfl
      rw [e3] at e2
      have e1 : gcdC (en2 (a : Int) ((b + 1 : Nat) : Int)) l = .ok true l := by
        rw [gcdC_eq, decide_eq_true (by omega)]
      rw [lw_t e1 e2, lw_up h (by simp) (Nat.succ_le_of_lt (Nat.mod_lt _ (by omega))), ← Nat.gcd_rec]
theorem F_law_gcd_eq (a b : Int) : F_law_gcd [.int a, .int b] = some (.int (Int.gcd a b)) := by
  have w := dWhile_eq (loop_gcd ⟨0, 0, 0⟩ b.natAbs a.natAbs) (by simp)
  have ha : (if a < 0 then -a else a) = (a.natAbs : Int) := by split <;> omega
  have hb : (if b < 0 then -b else b) = (b.natAbs : Int) := by split <;> omega
  unfold F_law_gcd runD m_law_gcd
  have e : dPar [0, 1] (dCons (dCB gAbs (dCons (dVar 0) dNil)) (dCons (dCB gAbs (dCons (dVar 1) dNil)) dNil)) (enOf 2 [.int a, .int b]) ⟨0, 0, 0⟩ = .nx (en2 a.natAbs b.natAbs) ⟨0, 0, 0⟩ := by
    rw [← ha, ← hb]
    rfl
  unfold dSeq
  simp only [e]
  have w' : dWhile (dTest (dOp gGt (dVar 1) (dC (.int 0)))) (dPar [0, 1] (dCons (dVar 1) (dCons (dOp gMod (dCB gInt (dCons (dVar 0) dNil)) (dVar 1)) dNil))) (en2 a.natAbs b.natAbs) ⟨0, 0, 0⟩ = _ := w
  rw [w', Nat.gcd_comm]
  rfl
/-! the statement's own root -/
def en4 (n a b : Int) (m : Option Sl) : En := [some (.dat (.int n)), some (.dat (.int a)), some (.dat (.int b)), m]
def rootC1 : DT := dTest (dOp gLe (dOp gMul (dVar 2) (dVar 2)) (dVar 0))
def rootB1 : DS := dSet 2 (dOp gMul (dC (.int 2)) (dVar 2))
def rootC2 : DT := dTest (dOp gGt (dOp gSub (dVar 2) (dVar 1)) (dC (.int 1)))
def rootB2 : DS := (dSeq (dSet 3 (dOp gDiv (dOp gAdd (dVar 1) (dVar 2)) (dC (.int 2))))
    (dIfS (dTest (dOp gLe (dOp gMul (dVar 3) (dVar 3)) (dVar 0)))
    (dSet 1 (dVar 3)) (dSet 2 (dVar 3))))
theorem rootC1_eq (n a b : Int) (m : Option Sl) (l : Ld) (h : cMul b b = true) : rootC1 (en4 n a b m) l = .ok (decide (b * b ≤ n)) l := by
  simp [rootC1, en4, dTest, dOp, gLe, gMul, gMulI, g2IC, g2B, dVar, Res.bind, h]
theorem rootB1_eq (n a b : Int) (m : Option Sl) (l : Ld) (h : cMul 2 b = true) : rootB1 (en4 n a b m) l = .nx (en4 n a (2 * b) m) l := by
  simp [rootB1, en4, dSet, dOp, gMul, gMulI, g2IC, dC, dVar, Res.bind, h]
theorem rootC2_eq (n a b : Int) (m : Option Sl) (l : Ld) : rootC2 (en4 n a b m) l = .ok (decide (1 < b - a)) l := rfl
theorem rootB2_eq (n a b : Int) (m : Option Sl) (l : Ld) (h : cMul ((a + b).fdiv 2) ((a + b).fdiv 2) = true) : rootB2 (en4 n a b m) l = .nx (if (a + b).fdiv 2 * (a + b).fdiv 2 ≤ n then en4 n ((a + b).fdiv 2) b (some (.dat (.int ((a + b).fdiv 2)))) else en4 n a ((a + b).fdiv 2) (some (.dat (.int ((a + b).fdiv 2))))) l := by
  have hd : cDiv (a + b) 2 = true := by
    unfold cDiv
    exact decide_eq_true ⟨by decide, by decide⟩
  by_cases c : (a + b).fdiv 2 * (a + b).fdiv 2 ≤ n
  · simp [rootB2, en4, dSet, dSeq, dIfS, dTest, gLe, g2B, dOp, gDiv, gAdd, gMul, gMulI, g2I, g2IC, dC, dVar, Res.bind, h, hd, c]
  · simp [rootB2, en4, dSet, dSeq, dIfS, dTest, gLe, g2B, dOp, gDiv, gAdd, gMul, gMulI, g2I, g2IC, dC, dVar, Res.bind, h, hd, c]
theorem Bd_int {n : Nat} {x : Int} (h0 : 0 ≤ x) (h : x < ((2 ^ n : Nat) : Int)) : Bd n x := by
  unfold Bd
  omega
theorem root1 (l : Ld) (n : Int) : ∀ (f : Nat) (b : Int), 1 ≤ b → n < ((2 ^ f : Nat) * b) * ((2 ^ f : Nat) * b) → Bd 9000 ((2 ^ f : Nat) * b) → ∃ h : Int, loopW rootC1 rootB1 (f + 1) (en4 n 0 b none) l = .nx (en4 n 0 h none) l ∧ n < h * h ∧ 1 ≤ h ∧ h ≤ (2 ^ f : Nat) * b := by
  intro f
  induction f with
  | zero =>
    intro b h1 h2 h3
    rw [Nat.pow_zero, Int.natCast_one, Int.one_mul] at *
    refine ⟨b, ?_, h2, h1, Int.le_refl _⟩
    have c := rootC1_eq n 0 b none l (cMul_ok h3 h3 (by decide) (by decide) (by decide))
    rw [decide_eq_false (by omega)] at c
    exact lw_f c
  | succ f ih =>
    intro b h1 h2 h3
    have e : ((2 ^ (f + 1) : Nat) : Int) * b = ((2 ^ f : Nat) : Int) * (2 * b) := by
      rw [Nat.pow_succ, Int.natCast_mul, Int.mul_assoc]
      rfl
    have hb : b ≤ ((2 ^ (f + 1) : Nat) : Int) * b := by
      have p : 1 ≤ ((2 ^ (f + 1) : Nat) : Int) := by
        have := Nat.pow_pos (n := f + 1) (show 0 < 2 by decide)
        omega
      have := Int.mul_le_mul_of_nonneg_right p (show 0 ≤ b by omega)
      omega
    have bb : Bd 9000 b := by
      unfold Bd at *
      omega
    have c := rootC1_eq n 0 b none l (cMul_ok bb bb (by decide) (by decide) (by decide))
    by_cases q : b * b ≤ n
    · rw [decide_eq_true q] at c
      have d := rootB1_eq n 0 b none l (cMul_ok (n := 2) (by unfold Bd; decide) bb (by decide) (by decide) (by decide))
      rw [e] at h2 h3
      obtain ⟨h, k1, k2, k3, k4⟩ := ih (2 * b) (by omega) h2 h3
      refine ⟨h, ?_, k2, k3, by rw [e]; exact k4⟩
      rw [lw_t c d]
      exact k1
    · rw [decide_eq_false q] at c
      exact ⟨b, lw_f c, by omega, h1, hb⟩
theorem root2 (l : Ld) (n : Int) : ∀ (f : Nat) (a b : Int) (m : Option Sl), b - a ≤ f → 0 ≤ a → a < b → Bd 9000 b → a * a ≤ n → n < b * b → ∃ r b' m', loopW rootC2 rootB2 (f + 1) (en4 n a b m) l = .nx (en4 n r b' m') l ∧ 0 ≤ r ∧ r * r ≤ n ∧ n < (r + 1) * (r + 1) := by
  intro f
  induction f with
  | zero =>
    intro a b m h1 h2 h3
    omega
  | succ f ih =>
    intro a b m h1 h2 h3 h4 h5 h6
    have c := rootC2_eq n a b m l
    by_cases q : 1 < b - a
    · rw [decide_eq_true q] at c
      have e : (a + b).fdiv 2 = (a + b) / 2 := Int.fdiv_eq_ediv_of_nonneg _ (by decide)
      have bm : Bd 9000 ((a + b).fdiv 2) := by
        rw [e]
        unfold Bd at *
        omega
      have d := rootB2_eq n a b m l (cMul_ok bm bm (by decide) (by decide) (by decide))
      rw [e] at d bm
      by_cases k : (a + b) / 2 * ((a + b) / 2) ≤ n
      · rw [if_pos k] at d
        rw [lw_t c d]
        exact ih _ _ _ (by omega) (by omega) (by omega) h4 k h6
      · rw [if_neg k] at d
        rw [lw_t c d]
        exact ih _ _ _ (by omega) (by omega) (by omega) bm h5 (by omega)
    · rw [decide_eq_false q] at c
      have e : b = a + 1 := by omega
      subst e
      exact ⟨a, _, _, lw_f c, h2, h5, h6⟩
theorem sq_uniq {r s n : Nat} (h1 : r * r ≤ n) (h2 : n < (r + 1) * (r + 1)) (h3 : s * s ≤ n) (h4 : n < (s + 1) * (s + 1)) : r = s := by
  rcases Nat.lt_trichotomy r s with h | h | h
  · have := Nat.mul_le_mul (show r + 1 ≤ s from h) (show r + 1 ≤ s from h)
    omega
  · exact h
  · have := Nat.mul_le_mul (show s + 1 ≤ r from h) (show s + 1 ≤ r from h)
    omega
theorem F_law_root_eq (n : Nat) (hn : Bd 4000 n) : F_law_root [.int n] = some (.int (Float64.isqrt n)) := by
  have hn' : n < 2 ^ 4000 := hn
  have p0 : 0 < 2 ^ 4000 := Nat.pow_pos (by decide)
  obtain ⟨h, w1, w2, w3, w4⟩ := root1 ⟨0, 0, 0⟩ n 4000 1 (by decide) (by
    rw [Int.mul_one, ← Int.natCast_mul]
    have : 2 ^ 4000 * 1 ≤ 2 ^ 4000 * 2 ^ 4000 := Nat.mul_le_mul_left _ p0
    omega) (by rw [Int.mul_one]; exact Nat.pow_lt_pow_right (by decide) (by decide))
  rw [Int.mul_one] at w4
  have bh : Bd 9000 h := by
    have : 2 ^ 4000 < 2 ^ 9000 := Nat.pow_lt_pow_right (by decide) (by decide)
    unfold Bd
    omega
  obtain ⟨r, b', m', v1, v2, v3, v4⟩ := root2 ⟨0, 0, 0⟩ n h.toNat 0 h none (by omega) (by decide) (by omega) bh (by omega) w2
  obtain ⟨s, rfl⟩ : ∃ s : Nat, r = s := ⟨r.toNat, by omega⟩
  have sp := PySem.Float64.isqrt_spec n
  have e : s = Float64.isqrt n := sq_uniq (by exact_mod_cast v3) (by exact_mod_cast v4) sp.1 sp.2
  rw [← e]
  have u1 := dWhile_eq w1 (by simp)
  have u2 := dWhile_eq v1 (by simp)
  unfold F_law_root runD m_law_root
  have e0 : dAsg (dGTup 2 (dGCons (dName 1) (dGCons (dName 2) dGNil))) (dTup (dCons (dC (.int 0)) (dCons (dC (.int 1)) dNil))) (enOf 4 [.int (n : Int)]) ⟨0, 0, 0⟩ = .nx (en4 n 0 1 none) ⟨0, 0, 0⟩ := rfl
  unfold dSeq
  simp only [e0]
  have u1' : dWhile (dTest (dOp gLe (dOp gMul (dVar 2) (dVar 2)) (dVar 0))) (dSet 2 (dOp gMul (dC (.int 2)) (dVar 2))) (en4 n 0 1 none) ⟨0, 0, 0⟩ = _ := u1
  simp only [u1']
  have u2' : dWhile (dTest (dOp gGt (dOp gSub (dVar 2) (dVar 1)) (dC (.int 1)))) (dSeq (dSet 3 (dOp gDiv (dOp gAdd (dVar 1) (dVar 2)) (dC (.int 2))))
    (dIfS (dTest (dOp gLe (dOp gMul (dVar 3) (dVar 3)) (dVar 0)))
    (dSet 1 (dVar 3)) (dSet 2 (dVar 3)))) (en4 n 0 h none) ⟨0, 0, 0⟩ = _ := u2
  unfold dSeq at u2'
  rw [u2']
  rfl
end Kb
end
section
set_option Elab.async false
set_option linter.all false
set_option maxRecDepth 100000
set_option maxHeartbeats 1000000
set_option exponentiation.threshold 100
namespace Kb
open PySem Dx Fc
/-! reduced fractions -/
structure Cn (p : Int × Int) : Prop where
  b : 0 < p.2
  g : Int.gcd p.1 p.2 = 1
theorem sg_pos_mul {b : Int} {g : Nat} (hb : b ≠ 0) (h : 0 < g) : 0 < b * sg b g := by
  unfold sg
  split
  · rename_i c
    have := Int.mul_pos (show 0 < -b by omega) (show (0 : Int) < g by omega)
    rw [Int.neg_mul] at this
    rw [Int.mul_neg]
    exact this
  · exact Int.mul_pos (by omega) (by omega)
theorem sg_abs (b : Int) (g : Nat) : (sg b g).natAbs = g := by
  unfold sg
  split <;> omega
theorem red_mul {t b : Int} (hb : b ≠ 0) : t = (red t b).1 * sg b (Int.gcd t b) ∧ b = (red t b).2 * sg b (Int.gcd t b) := by
  have hd : ∀ x : Int, ((Int.gcd t b : Nat) : Int) ∣ x → sg b (Int.gcd t b) ∣ x := fun x h => by
    unfold sg
    split
    · exact Int.neg_dvd.mpr h
    · exact h
  have h1 := hd t (Int.gcd_dvd_left ..)
  have h2 := hd b (Int.gcd_dvd_right ..)
  exact ⟨(Int.fdiv_mul_cancel h1).symm, (Int.fdiv_mul_cancel h2).symm⟩
theorem red_spec {t b : Int} (hb : b ≠ 0) : ∃ x y s : Int, red t b = (x, y) ∧ t = x * s ∧ b = y * s ∧ s.natAbs = Int.gcd t b ∧ 0 < y ∧ s ≠ 0 := by
  have hm := red_mul (t := t) hb
  have hg := gcd_pos (t := t) hb
  have hs := sg_pos_mul (b := b) hb hg
  have hne : sg b (Int.gcd t b) ≠ 0 := sg_ne (by omega)
  have ha := sg_abs b (Int.gcd t b)
  refine ⟨(red t b).1, (red t b).2, sg b (Int.gcd t b), rfl, hm.1, hm.2, ha, ?_, hne⟩
  have h2 := hm.2
  revert hs h2 hne
  generalize (red t b).2 = y
  generalize sg b (Int.gcd t b) = s
  intro hs hne h2
  rw [h2, Int.mul_assoc] at hs
  have p : 0 < s * s := by
    rcases Int.lt_or_gt_of_ne hne with c | c
    · exact Int.mul_pos_of_neg_of_neg c c
    · exact Int.mul_pos c c
  exact Int.pos_of_mul_pos_left hs p
theorem red_cn {t b : Int} (hb : b ≠ 0) : Cn (red t b) := by
  obtain ⟨x, y, s, e, e1, e2, hs, hy, hne⟩ := red_spec (t := t) hb
  rw [e]
  refine ⟨hy, ?_⟩
  have hg := gcd_pos (t := t) hb
  have k : Int.gcd t b = Int.gcd x y * s.natAbs := by rw [e1, e2, Int.gcd_mul_right]
  rw [hs] at k
  show Int.gcd x y = 1
  generalize Int.gcd t b = g at *
  generalize Int.gcd x y = z at *
  have := Nat.eq_of_mul_eq_mul_right hg (show 1 * g = z * g by omega)
  omega
theorem red_cross {t b : Int} (hb : b ≠ 0) : (red t b).1 * b = t * (red t b).2 := by
  obtain ⟨x, y, s, e, e1, e2, hs, hy, hne⟩ := red_spec (t := t) hb
  rw [e, e1, e2]
  show x * (y * s) = x * s * y
  rw [Int.mul_assoc, Int.mul_comm y s]
theorem cop_dvd {a b c : Int} (h : a ∣ b * c) (g : Int.gcd b a = 1) : a ∣ c := by
  rw [← Int.natAbs_dvd_natAbs] at *
  rw [Int.natAbs_mul] at h
  refine Nat.Coprime.dvd_of_dvd_mul_left ?_ h
  show Nat.gcd _ _ = 1
  rw [Nat.gcd_comm]
  exact g
theorem cn_uniq {p q : Int × Int} (hp : Cn p) (hq : Cn q) (h : p.1 * q.2 = q.1 * p.2) : p = q := by
  have d1 : p.2 ∣ q.2 := cop_dvd (b := p.1) ⟨q.1, by rw [h, Int.mul_comm]⟩ hp.g
  have d2 : q.2 ∣ p.2 := cop_dvd (b := q.1) ⟨p.1, by rw [← h, Int.mul_comm]⟩ hq.g
  have e : p.2 = q.2 := Int.dvd_antisymm (Int.le_of_lt hp.b) (Int.le_of_lt hq.b) d1 d2
  have e1 : p.1 = q.1 := by
    rw [e] at h
    exact Int.eq_of_mul_eq_mul_right (Int.ne_of_gt hq.b) h
  exact Prod.ext e1 e
theorem red_eq {t b : Int} (hb : b ≠ 0) {p : Int × Int} (hp : Cn p) (h : p.1 * b = t * p.2) : red t b = p := by
  refine cn_uniq (red_cn hb) hp ?_
  have c := red_cross (t := t) hb
  have e : (red t b).1 * p.2 * b = p.1 * (red t b).2 * b := by
    rw [Int.mul_right_comm, c, Int.mul_right_comm, ← h, Int.mul_right_comm, Int.mul_right_comm p.1]
  exact Int.eq_of_mul_eq_mul_right hb e
theorem red_neg {t b : Int} (hb : b ≠ 0) : red (-t) (-b) = red t b := by
  refine red_eq (by omega) (red_cn hb) ?_
  have c := red_cross (t := t) hb
  rw [Int.mul_neg, Int.neg_mul, c]
theorem fdiv_abs {a b : Int} (h : b ∣ a) (hb : b ≠ 0) : (a.fdiv b).natAbs ≤ a.natAbs := by
  obtain ⟨c, rfl⟩ := h
  rw [Int.mul_fdiv_cancel_left _ hb, Int.natAbs_mul]
  exact Nat.le_mul_of_pos_left _ (by omega)
theorem red_abs {t b : Int} (hb : b ≠ 0) : (red t b).1.natAbs ≤ t.natAbs ∧ (red t b).2.natAbs ≤ b.natAbs := by
  have hm := red_mul (t := t) hb
  have hne : sg b (Int.gcd t b) ≠ 0 := sg_ne (by have := gcd_pos (t := t) hb; omega)
  constructor
  · conv => rhs; rw [hm.1]
    rw [Int.natAbs_mul]
    exact Nat.le_mul_of_pos_right _ (by omega)
  · conv => rhs; rw [hm.2]
    rw [Int.natAbs_mul]
    exact Nat.le_mul_of_pos_right _ (by omega)
theorem red_fd {n : Nat} {t b : Int} (hb : b ≠ 0) (ht : Bd n t) (h : Bd n b) : Fd n (red t b) := by
  have a := red_abs (t := t) hb
  exact ⟨Nat.lt_of_le_of_lt a.1 ht, Nat.lt_of_le_of_lt a.2 h, (red_cn hb).b⟩
/-! the statement's own reduced form -/
theorem F_low_eq {t b : Int} (hb : 0 < b) (h : Bd 9000 b) : F_law_low [.tuple [.int t, .int b]] = some (fr (red t b)) := by
  have g1 := F_law_gcd_eq 0 t
  have g2 := F_law_gcd_eq ((Int.gcd 0 t : Nat) : Int) b
  have e : Int.gcd ((Int.gcd 0 t : Nat) : Int) b = Int.gcd t b := by
    rw [Int.gcd_zero_left]
    rfl
  rw [e] at g2
  generalize (Int.gcd 0 t : Nat) = z at *
  have hg := gcd_pos (t := t) (Int.ne_of_gt hb)
  have es : sg b (Int.gcd t b) = (Int.gcd t b : Int) := if_neg (by omega)
  have hd : ∀ x, cDiv x (Int.gcd t b) = true := fun x => by
    have h1 : (Int.gcd t b) ≤ b.natAbs := Nat.le_of_dvd (by omega) (Int.gcd_dvd_natAbs_right t b)
    have h2 : (Int.gcd t b).log2 < 9000 := log2_lt (Nat.lt_of_le_of_lt h1 h) (by decide)
    unfold cDiv
    exact decide_eq_true ⟨by omega, h2⟩
  have er : fr (red t b) = .tuple [.int (t.fdiv (Int.gcd t b)), .int (b.fdiv (Int.gcd t b))] := by
    unfold fr red
    rw [es]
  rw [er]
  generalize Int.gcd t b = g at *
  simp [F_law_low, runD, m_law_low, dSeq, dSet, dC, enOf, dFor, dIt, dVar, Res.bind, forL, dName, dCall, dCons, dNil, g1, g2, dRet, dCB, gTuple, dLc, lcL, wipeE, dYes, dOp, gDiv, g2IC, hd]
theorem F_part_eq {t b : Int} (hb : b ≠ 0) (h : Bd 9000 b) : F_law_part [.int t, .int b] = some (fr (red t b)) := by
  by_cases c : 0 < b
  · have e := F_low_eq (t := t) c h
    simp [F_law_part, runD, m_law_part, dRet, dCall, dCons, dIf, dTest, dOp, gGt, g2B, dVar, dC, enOf, Res.bind, dTup, dNil, c, e]
  · have e := F_low_eq (t := 0 - t) (b := 0 - b) (by omega) (by unfold Bd at *; omega)
    have e2 : red (0 - t) (0 - b) = red t b := by
      rw [Int.zero_sub, Int.zero_sub]
      exact red_neg hb
    rw [e2] at e
    simp [F_law_part, runD, m_law_part, dRet, dCall, dCons, dIf, dTest, dOp, gGt, gSub, g2I, g2B, dVar, dC, enOf, Res.bind, dTup, dNil, c] at e ⊢
    rw [e]
end Kb
end
section
set_option Elab.async false
set_option linter.all false
set_option maxRecDepth 100000
set_option maxHeartbeats 1000000
set_option exponentiation.threshold 100
namespace Kb
open PySem Dx Fc
/-! fractions are Rat -/
theorem eqv_int (a b : Int) : PyData.eqv (.int a) (.int b) = decide (a = b) := by
  by_cases e : a = b
  · subst e
    rw [decide_eq_true rfl]
    simp [PyData.eqv]
  · rw [decide_eq_false e]
    simp [PyData.eqv, e]
theorem gEqA_int (a b : Int) : gEqA (.int a) (.int b) = some (.bool (decide (a = b))) := by
  have h : gEqA (.int a) (.int b) = some (.bool (PyData.eqv (.int a) (.int b))) := rfl
  rw [h, eqv_int]
theorem gNeA_int (a b : Int) : gNeA (.int a) (.int b) = some (.bool (!decide (a = b))) := by
  have h : gNeA (.int a) (.int b) = some (.bool (!PyData.eqv (.int a) (.int b))) := rfl
  rw [h, eqv_int]
theorem gNeA_str (x : Str) : gNeA (.str x) (.str x) = some (.bool false) := by
  have h : gNeA (.str x) (.str x) = some (.bool (!decide (x = x))) := rfl
  rw [h, decide_eq_true rfl]
  rfl
def vR (p : Int × Int) : Rat := (p.1 : Rat) / (p.2 : Rat)
theorem cast_ne {b : Int} (h : b ≠ 0) : (b : Rat) ≠ 0 := by
  intro e
  exact h (Rat.intCast_inj.mp (by rw [e]; rfl))
theorem v_red {t b : Int} (hb : b ≠ 0) : vR (red t b) = (t : Rat) / (b : Rat) := by
  have c := red_cross (t := t) hb
  have p := (red_cn (t := t) hb).b
  have h1 := cast_ne hb
  have h2 := cast_ne (Int.ne_of_gt p)
  have e : ((red t b).1 : Rat) * (b : Rat) = (t : Rat) * ((red t b).2 : Rat) := by
    rw [← Rat.intCast_mul, ← Rat.intCast_mul, c]
  unfold vR
  grind
theorem v_inj {p q : Int × Int} (hp : Cn p) (hq : Cn q) (h : vR p = vR q) : p = q := by
  refine cn_uniq hp hq ?_
  have h1 := cast_ne (Int.ne_of_gt hp.b)
  have h2 := cast_ne (Int.ne_of_gt hq.b)
  unfold vR at h
  have e : ((p.1 * q.2 : Int) : Rat) = ((q.1 * p.2 : Int) : Rat) := by
    rw [Rat.intCast_mul, Rat.intCast_mul]
    grind
  exact Rat.intCast_inj.mp e
def qp (q : Rat) : Int × Int := (q.num, (q.den : Int))
def fq (q : Rat) : Dx.D := fr (qp q)
theorem den_pos (q : Rat) : (0 : Int) < (q.den : Int) := Int.natCast_pos.mpr q.den_pos
theorem cn_q (q : Rat) : Cn (qp q) := ⟨den_pos q, q.reduced⟩
theorem v_q (q : Rat) : vR (qp q) = q := by
  unfold vR qp
  rw [← Rat.divInt_eq_div, Rat.num_divInt_den]
theorem cn_eq {p : Int × Int} (h : Cn p) : p = qp (vR p) := v_inj h (cn_q _) (v_q _).symm
theorem fr_cn {p : Int × Int} (h : Cn p) : fr p = fq (vR p) := by
  unfold fq
  rw [← cn_eq h]
theorem red_q {t b : Int} (hb : b ≠ 0) : red t b = qp ((t : Rat) / (b : Rat)) := by
  rw [cn_eq (red_cn hb), v_red hb]
theorem fr_red {t b : Int} (hb : b ≠ 0) : fr (red t b) = fq ((t : Rat) / (b : Rat)) := by
  rw [red_q hb]
  rfl
/-- the size -/
structure Z (n : Nat) (q : Rat) : Prop where
  t : Bd n q.num
  b : Bd n (q.den : Int)
theorem Z.up {n m : Nat} {q : Rat} (h : Z n q) (k : n ≤ m) : Z m q := ⟨h.t.up k, h.b.up k⟩
theorem Z.fd {n : Nat} {q : Rat} (h : Z n q) : Fd n (qp q) := ⟨h.t, h.b, den_pos q⟩
theorem Z.of {n : Nat} {t b : Int} (hb : b ≠ 0) (ht : Bd n t) (h : Bd n b) : Z n ((t : Rat) / (b : Rat)) := by
  have k := red_fd hb ht h
  rw [red_q hb] at k
  exact ⟨k.t, k.b⟩
theorem cast_den (q : Rat) : ((q.den : Int) : Rat) ≠ 0 := cast_ne (Int.ne_of_gt (den_pos q))
theorem q_mul (p q : Rat) : ((p.num * q.num : Int) : Rat) / ((p.den * q.den : Int) : Rat) = p * q := by
  have h1 := cast_den p
  have h2 := cast_den q
  have e1 := v_q p
  have e2 := v_q q
  unfold vR qp at e1 e2
  dsimp only at e1 e2
  rw [Rat.intCast_mul, Rat.intCast_mul]
  grind
theorem q_add (p q : Rat) : ((p.num * q.den + q.num * p.den : Int) : Rat) / ((p.den * q.den : Int) : Rat) = p + q := by
  have h1 := cast_den p
  have h2 := cast_den q
  have e1 := v_q p
  have e2 := v_q q
  unfold vR qp at e1 e2
  dsimp only at e1 e2
  rw [Rat.intCast_add, Rat.intCast_mul, Rat.intCast_mul, Rat.intCast_mul]
  grind
theorem q_sub (p q : Rat) : ((p.num * q.den - q.num * p.den : Int) : Rat) / ((p.den * q.den : Int) : Rat) = p - q := by
  have h1 := cast_den p
  have h2 := cast_den q
  have e1 := v_q p
  have e2 := v_q q
  unfold vR qp at e1 e2
  dsimp only at e1 e2
  rw [Rat.intCast_sub, Rat.intCast_mul, Rat.intCast_mul, Rat.intCast_mul]
  grind
theorem num_ne {q : Rat} (h : q ≠ 0) : q.num ≠ 0 := fun e => h (Rat.num_eq_zero.mp e)
theorem q_div (p : Rat) {q : Rat} (h : q ≠ 0) : ((p.num * q.den : Int) : Rat) / ((p.den * q.num : Int) : Rat) = p / q := by
  have h1 := cast_den p
  have h2 := cast_den q
  have h3 := cast_ne (num_ne h)
  have e1 := v_q p
  have e2 := v_q q
  unfold vR qp at e1 e2
  dsimp only at e1 e2
  rw [Rat.intCast_mul, Rat.intCast_mul]
  grind
theorem den_mul_ne (p q : Rat) : ((p.den : Int) * (q.den : Int)) ≠ 0 := Int.ne_of_gt (Int.mul_pos (den_pos p) (den_pos q))
theorem bdAdd {n : Nat} {i j : Int} (h : Bd n i) (k : Bd n j) : Bd (n + 1) (i + j) := by
  unfold Bd at *
  rw [Nat.pow_succ]
  omega
theorem bdSub {n : Nat} {i j : Int} (h : Bd n i) (k : Bd n j) : Bd (n + 1) (i - j) := by
  unfold Bd at *
  rw [Nat.pow_succ]
  omega
theorem Z.mul {n m : Nat} {p q : Rat} (h : Z n p) (k : Z m q) : Z (n + m) (p * q) := by
  rw [← q_mul]
  exact Z.of (den_mul_ne p q) (h.t.mul k.t) (h.b.mul k.b)
theorem Z.add {n m : Nat} {p q : Rat} (h : Z n p) (k : Z m q) : Z (n + m + 1) (p + q) := by
  rw [← q_add]
  exact Z.of (den_mul_ne p q) (bdAdd (h.t.mul k.b) (by rw [Nat.add_comm]; exact k.t.mul h.b)) ((h.b.mul k.b).up (by omega))
theorem Z.sub {n m : Nat} {p q : Rat} (h : Z n p) (k : Z m q) : Z (n + m + 1) (p - q) := by
  rw [← q_sub]
  exact Z.of (den_mul_ne p q) (bdSub (h.t.mul k.b) (by rw [Nat.add_comm]; exact k.t.mul h.b)) ((h.b.mul k.b).up (by omega))
theorem Z.div {n m : Nat} {p q : Rat} (h : Z n p) (k : Z m q) (z : q ≠ 0) : Z (n + m) (p / q) := by
  rw [← q_div p z]
  exact Z.of (fun e => by
    rcases Int.mul_eq_zero.mp e with e | e
    · exact Int.ne_of_gt (den_pos p) e
    · exact num_ne z e) (h.t.mul k.b) (h.b.mul k.t)
theorem Z.neg {n : Nat} {p : Rat} (h : Z n p) : Z n (-p) := by
  refine ⟨?_, ?_⟩
  · rw [Rat.neg_num]
    have := h.t
    unfold Bd at *
    omega
  · rw [Rat.neg_den]
    exact h.b
theorem z0 : Z 1 0 := ⟨by unfold Bd; decide, by unfold Bd; decide⟩
theorem z1 : Z 1 1 := ⟨by unfold Bd; decide, by unfold Bd; decide⟩
theorem z2 : Z 2 2 := ⟨by unfold Bd; decide, by unfold Bd; decide⟩
theorem z4 : Z 3 4 := ⟨by unfold Bd; decide, by unfold Bd; decide⟩
theorem zh : Z 2 (1 / 2) := ⟨by unfold Bd; decide +kernel, by unfold Bd; decide +kernel⟩
theorem zm : Z 1 (-1) := ⟨by unfold Bd; decide, by unfold Bd; decide⟩
/-! whole numbers and constants as fractions -/
theorem f0 : PyData.tuple [.int 0, .int 1] = fq 0 := rfl
theorem f1 : PyData.tuple [.int 1, .int 1] = fq 1 := rfl
theorem f2 : PyData.tuple [.int 2, .int 1] = fq 2 := rfl
theorem f4 : PyData.tuple [.int 4, .int 1] = fq 4 := rfl
theorem fh : PyData.tuple [.int 1, .int 2] = fq (1 / 2) := by
  have e : qp (1 / 2) = (1, 2) := by decide +kernel
  unfold fq
  rw [e]
  rfl
theorem fm : PyData.tuple [.int (-1), .int 1] = fq (-1) := by
  unfold fq fr
  congr 1
theorem gI0 (q : Rat) : gIx (fq q) (.int 0) = some (.int q.num) := rfl
theorem gI1 (q : Rat) : gIx (fq q) (.int 1) = some (.int (q.den : Int)) := rfl
theorem P_part {t b : Int} (hb : b ≠ 0) (h : Bd 9000 b) : F_law_part [.int t, .int b] = some (fq ((t : Rat) / (b : Rat))) := by
  rw [F_part_eq hb h, fr_red hb]
theorem P_red {t b : Int} (hb : b ≠ 0) (h : Bd 9000 b) : F_reduced [.int t, .int b] = some (fq ((t : Rat) / (b : Rat))) := by
  have e : F_reduced [.int t, .int b] = some (fr (red t b)) := F_reduced_eq hb h
  rw [e, fr_red hb]
section
variable {p q : Rat} (hp : Z 4000 p) (hq : Z 4000 q)
theorem cmul {n m : Nat} {i j : Int} (h : Bd 4000 i) (k : Bd 4000 j) : cMul i j = true := cMul_ok h k (by decide) (by decide) (by decide)
include hp hq
theorem L_add : F_law_add [fq p, fq q] = some (fq (p + q)) := by
  have c1 := cmul (n := 0) (m := 0) hp.t hq.b
  have c2 := cmul (n := 0) (m := 0) hq.t hp.b
  have c3 := cmul (n := 0) (m := 0) hp.b hq.b
  have h := P_part (t := p.num * q.den + q.num * p.den) (den_mul_ne p q) ((hp.b.mul hq.b).up (by decide))
  rw [q_add] at h
  simp [F_law_add, runD, m_law_add, dRet, dCall, dCons, dOp, dVar, dC, dNil, Res.bind, enOf, gI0, gI1, gMul, gMulI, g2IC, gAdd, g2I, c1, c2, c3, h]
theorem L_gap : F_law_gap [fq p, fq q] = some (fq (p - q)) := by
  have c1 := cmul (n := 0) (m := 0) hp.t hq.b
  have c2 := cmul (n := 0) (m := 0) hq.t hp.b
  have c3 := cmul (n := 0) (m := 0) hp.b hq.b
  have h := P_part (t := p.num * q.den - q.num * p.den) (den_mul_ne p q) ((hp.b.mul hq.b).up (by decide))
  rw [q_sub] at h
  simp [F_law_gap, runD, m_law_gap, dRet, dCall, dCons, dOp, dVar, dC, dNil, Res.bind, enOf, gI0, gI1, gMul, gMulI, g2IC, gSub, g2I, c1, c2, c3, h]
theorem L_mul : F_law_mul [fq p, fq q] = some (fq (p * q)) := by
  have c1 := cmul (n := 0) (m := 0) hp.t hq.t
  have c3 := cmul (n := 0) (m := 0) hp.b hq.b
  have h := P_part (t := p.num * q.num) (den_mul_ne p q) ((hp.b.mul hq.b).up (by decide))
  rw [q_mul] at h
  simp [F_law_mul, runD, m_law_mul, dRet, dCall, dCons, dOp, dVar, dC, dNil, Res.bind, enOf, gI0, gI1, gMul, gMulI, g2IC, gAdd, g2I, c1, c3, h]
theorem L_div (z : q ≠ 0) : F_law_div [fq p, fq q] = some (fq (p / q)) := by
  have c1 := cmul (n := 0) (m := 0) hp.t hq.b
  have c3 := cmul (n := 0) (m := 0) hp.b hq.t
  have n : (p.den : Int) * q.num ≠ 0 := fun e => by
    rcases Int.mul_eq_zero.mp e with e | e
    · exact Int.ne_of_gt (den_pos p) e
    · exact num_ne z e
  have h := P_part (t := p.num * q.den) n ((hp.b.mul hq.t).up (by decide))
  rw [q_div p z] at h
  simp [F_law_div, runD, m_law_div, dRet, dCall, dCons, dOp, dVar, dC, dNil, Res.bind, enOf, gI0, gI1, gMul, gMulI, g2IC, gAdd, g2I, c1, c3, h]
theorem P_plus : F_plus [fq p, fq q] = some (fq (p + q)) := by
  have c1 := cmul (n := 0) (m := 0) hp.t hq.b
  have c2 := cmul (n := 0) (m := 0) hq.t hp.b
  have c3 := cmul (n := 0) (m := 0) hp.b hq.b
  have h := P_red (t := p.num * q.den + q.num * p.den) (den_mul_ne p q) ((hp.b.mul hq.b).up (by decide))
  rw [q_add] at h
  simp [F_plus, runD, m_plus, dRet, dCall, dCons, dOp, dVar, dC, dNil, Res.bind, enOf, gI0, gI1, gMul, gMulI, g2IC, gAdd, g2I, c1, c2, c3, h]
theorem P_times : F_times [fq p, fq q] = some (fq (p * q)) := by
  have c1 := cmul (n := 0) (m := 0) hp.t hq.t
  have c3 := cmul (n := 0) (m := 0) hp.b hq.b
  have h := P_red (t := p.num * q.num) (den_mul_ne p q) ((hp.b.mul hq.b).up (by decide))
  rw [q_mul] at h
  simp [F_times, runD, m_times, dRet, dCall, dCons, dOp, dVar, dC, dNil, Res.bind, enOf, gI0, gI1, gMul, gMulI, g2IC, gAdd, g2I, c1, c3, h]
theorem P_over (z : q ≠ 0) : F_over [fq p, fq q] = some (fq (p / q)) := by
  have c1 := cmul (n := 0) (m := 0) hp.t hq.b
  have c3 := cmul (n := 0) (m := 0) hp.b hq.t
  have n : (p.den : Int) * q.num ≠ 0 := fun e => by
    rcases Int.mul_eq_zero.mp e with e | e
    · exact Int.ne_of_gt (den_pos p) e
    · exact num_ne z e
  have h := P_red (t := p.num * q.den) n ((hp.b.mul hq.t).up (by decide))
  rw [q_div p z] at h
  simp [F_over, runD, m_over, dRet, dCall, dCons, dOp, dVar, dC, dNil, Res.bind, enOf, gI0, gI1, gMul, gMulI, g2IC, gAdd, g2I, c1, c3, h]
end
theorem P_neg (q : Rat) : F_negative [fq q] = some (fq (-q)) := by
  have e : fq (-q) = .tuple [.int (-q.num), .int (q.den : Int)] := by
    unfold fq fr qp
    rw [Rat.neg_num, Rat.neg_den]
  rw [e]
  simp [F_negative, runD, m_negative, dRet, dCons, dOp, dVar, dC, dNil, Res.bind, enOf, gI0, gI1, dTup, dUn, gNeg]
theorem L_back (q : Rat) : F_law_back [fq q] = some (fq (-q)) := by
  have e : fq (-q) = .tuple [.int (-q.num), .int (q.den : Int)] := by
    unfold fq fr qp
    rw [Rat.neg_num, Rat.neg_den]
  rw [e]
  simp [F_law_back, runD, m_law_back, dRet, dCons, dOp, dVar, dC, dNil, Res.bind, enOf, gI0, gI1, dTup, gSub, g2I]
theorem P_minus {p q : Rat} (hp : Z 4000 p) (hq : Z 4000 q) : F_minus [fq p, fq q] = some (fq (p - q)) := by
  have h := P_plus hp hq.neg
  have n := P_neg q
  have e : p + -q = p - q := by grind
  rw [e] at h
  simp [F_minus, runD, m_minus, dRet, dCall, dCons, dVar, dNil, Res.bind, enOf, n, h]
end Kb
end
open Kb in
local macro_rules | `(tactic| walk_at "zt") => `(tactic| first | assumption | with_reducible exact z0 | with_reducible exact z1 | with_reducible exact z2 | with_reducible exact z4 | with_reducible exact zh | with_reducible exact zm | (with_reducible apply Z.add <;> walk_at "zt") | (with_reducible apply Z.sub <;> walk_at "zt") | (with_reducible apply Z.mul <;> walk_at "zt") | (with_reducible apply Z.neg <;> walk_at "zt") | (with_reducible apply Z.div <;> walk_at "zt"))
open Kb in
local macro_rules | `(tactic| walk_at "zz") => `(tactic| first | (apply Z.up; walk_at "zt"; decide) | assumption)

section
set_option Elab.async false
set_option linter.all false
set_option maxRecDepth 100000
set_option maxHeartbeats 2000000
set_option exponentiation.threshold 100
namespace Kb
open PySem Dx Fc
/-! the draws -/
structure Lk (n : Nat) (l : Ld) : Prop where
  s0 : 0 ≤ l.s
  s1 : l.s < 2147483477
  k0 : 0 ≤ l.k
  k1 : l.k + n ≤ 100000
def Yl (n : Nat) (r : Ld → Res Dx.D) (P : Dx.D → Prop) : Prop := ∀ m l, Lk (m + n) l → ∃ d l', r l = .ok d l' ∧ P d ∧ Lk m l'
theorem Lk.dn {n m : Nat} {l : Ld} (h : Lk n l) (k : m ≤ n) : Lk m l := ⟨h.s0, h.s1, h.k0, by have := h.k1; omega⟩
theorem bd_of {n : Nat} {x : Int} (m : Nat) (h0 : 0 ≤ x) (h : x < (m : Int)) (k : m ≤ 2 ^ n) : Bd n x := by
  unfold Bd
  omega
theorem deal_yl {m : Int} (h0 : 0 < m) (h1 : m < 1073741824) : Yl 1 (F_law_deal [.int m]) fun d => ∃ i, d = .int i ∧ 0 ≤ i ∧ i < m := by
  intro n l h
  obtain ⟨c, s, k⟩ := l
  have z0 := h.s0
  have z1 := h.s1
  have z2 := h.k0
  have z3 := h.k1
  dsimp only at z0 z1 z2 z3
  by_cases p : 0 < c
  · refine ⟨.int (c % m), ⟨c / m, s, k⟩, ?_, ⟨_, rfl, Int.emod_nonneg _ (by omega), Int.emod_lt_of_pos _ h0⟩, ⟨z0, z1, z2, by show k + n ≤ 100000; omega⟩⟩
    simp [F_law_deal, runL, m_law_deal, enOf, dSeq, dIfS, dTest, dOp, dLo, Ld.at, dC, Res.bind, gGt, g2B, p, dDivLo, h0, h1, dRet, dVar, Ld.set]
  · have b1 : Bd 32 s := bd_of 2147483477 z0 z1 (by decide)
    have f0 : 0 ≤ s.fmod 17011 := Int.fmod_nonneg_of_pos _ (by decide)
    have f1 : s.fmod 17011 < 17011 := Int.fmod_lt_of_pos _ (by decide)
    have b2 : Bd 32 (s.fmod 17011 + 23003) := bd_of 100000 (by omega) (by omega) (by decide)
    have b3 : Bd 32 (k + 1) := bd_of 100002 (by omega) (by omega) (by decide)
    have c1 := cMul_ok b1 b2 (by decide) (by decide) (by decide)
    have c2 : cMul 60013 (k + 1) = true := cMul_ok (n := 32) (by unfold Bd; decide) b3 (by decide) (by decide) (by decide)
    have d1 : ∀ x, cMod x 17011 = true := fun _ => rfl
    have d2 : ∀ x, cMod x 2147483477 = true := fun _ => rfl
    have d3 : ∀ x, cMod x m = true := fun _ => decide_eq_true (by omega)
    have d4 : ∀ x, cDiv x 89 = true := fun _ => by
      unfold cDiv
      exact decide_eq_true ⟨by decide, by decide⟩
    refine ⟨.int ((((s * (s.fmod 17011 + 23003) + 60013 * (k + 1) + 41).fmod 2147483477).fdiv 89).fmod m), ⟨c, (s * (s.fmod 17011 + 23003) + 60013 * (k + 1) + 41).fmod 2147483477, k + 1⟩, ?_, ⟨_, rfl, Int.fmod_nonneg_of_pos _ h0, Int.fmod_lt_of_pos _ h0⟩, ⟨Int.fmod_nonneg_of_pos _ (by decide), Int.fmod_lt_of_pos _ (by decide), by show 0 ≤ k + 1; omega, by show k + 1 + n ≤ 100000; omega⟩⟩
    simp [F_law_deal, runL, m_law_deal, enOf, dSeq, dIfS, dTest, dOp, dLo, Ld.at, dC, Res.bind, gGt, g2B, p, dNext, dSetLo, Ld.set, gAdd, g2I, dSet, gMod, g2IC, d1, d2, d3, d4, dCB, gInt, dCons, dNil, gMul, gMulI, c1, c2, dRet, gDiv, dVar]
theorem some_yl {ds : List Dx.D} (h0 : ds ≠ []) (h1 : ds.length < 1000) : Yl 1 (F_law_some [.list ds]) fun d => d ∈ ds := by
  intro n l h
  have hl : 0 < ds.length := List.length_pos_iff.mpr h0
  obtain ⟨_, l1, e1, ⟨i, rfl, i0, i1⟩, k1⟩ := deal_yl (m := (ds.length : Int)) (by omega) (by omega) n l h
  obtain ⟨j, rfl⟩ : ∃ j : Nat, i = j := ⟨i.toNat, by omega⟩
  have hj : j < ds.length := by omega
  have a : gIx (.list ds) (.int j) = some ds[j] := L2.atI_nat (List.getElem?_eq_getElem hj)
  refine ⟨ds[j], l1, ?_, List.getElem_mem _, k1⟩
  simp [F_law_some, runL, m_law_some, enOf, dRet, dOp, dVar, dCallL, dCons, dNil, dCB, gLen, Res.bind, e1, a]
theorem wide_yl : Yl 1 (F_law_wide []) fun d => ∃ i, d = .int i ∧ 1 ≤ i ∧ i ≤ 1000000000 := by
  intro n l h
  obtain ⟨d, l1, e1, hd, k1⟩ := some_yl (ds := [.int 1, .int 2, .int 3, .int 3, .int 5, .int 9, .int 99, .int 1000000000]) (by simp) (by simp) n l h
  have p9 : gPow (.int 10) (.int 9) = some (.int 1000000000) := rfl
  refine ⟨d, l1, ?_, ?_, k1⟩
  · simp [F_law_wide, runL, m_law_wide, enOf, dRet, dCallL, dCons, dNil, dLst, dC, dOp, p9, Res.bind, e1]
  · simp at hd
    rcases hd with rfl | rfl | rfl | rfl | rfl | rfl | rfl <;> exact ⟨_, rfl, by decide, by decide⟩
theorem about_yl {w : Int} (h0 : 1 ≤ w) (h1 : w ≤ 1000000000) : Yl 2 (F_law_about [.int w]) fun d => ∃ i, d = .int i ∧ -w ≤ i ∧ i ≤ w := by
  intro n l h
  have p5 : gPow (.int 10) (.int 5) = some (.int 100000) := rfl
  have b1 : Bd 32 w := bd_of 1000000001 (by omega) (by omega) (by decide)
  have c1 : cMul 2 w = true := cMul_ok (n := 32) (by unfold Bd; decide) b1 (by decide) (by decide) (by decide)
  by_cases p : w < 100000
  · obtain ⟨_, l1, e1, ⟨i, rfl, i0, i1⟩, k1⟩ := deal_yl (m := 2 * w + 1) (by omega) (by omega) n l (h.dn (by omega))
    refine ⟨.int (i - w), l1, ?_, ⟨_, rfl, by omega, by omega⟩, k1⟩
    simp [F_law_about, runL, m_law_about, enOf, dSeq, dIfS, dTest, dOp, dVar, dC, Res.bind, p5, gLt, g2B, p, dRet, dCallL, dCons, dNil, gAdd, gMul, gMulI, g2I, g2IC, c1, e1, gSub]
  · obtain ⟨_, l1, e1, ⟨i, rfl, i0, i1⟩, k1⟩ := deal_yl (m := 64007) (by omega) (by omega) (n + 1) l (h.dn (by omega))
    obtain ⟨_, l2, e2, ⟨j, rfl, j0, j1⟩, k2⟩ := deal_yl (m := 64007) (by omega) (by omega) n l1 (k1.dn (by omega))
    have b2 : Bd 32 i := bd_of 64007 (by omega) (by omega) (by decide)
    have c2 : cMul i 64007 = true := cMul_ok b2 (m := 32) (by unfold Bd; decide) (by decide) (by decide) (by decide)
    have d3 : ∀ x, cMod x (2 * w + 1) = true := fun _ => decide_eq_true (by omega)
    have q0 : 0 ≤ (i * 64007 + j).fmod (2 * w + 1) := Int.fmod_nonneg_of_pos _ (by omega)
    have q1 : (i * 64007 + j).fmod (2 * w + 1) < 2 * w + 1 := Int.fmod_lt_of_pos _ (by omega)
    refine ⟨.int ((i * 64007 + j).fmod (2 * w + 1) - w), l2, ?_, ⟨_, rfl, by omega, by omega⟩, k2⟩
    simp [F_law_about, runL, m_law_about, enOf, dSeq, dIfS, dTest, dOp, dVar, dC, Res.bind, p5, gLt, g2B, p, dRet, dCallL, dCons, dNil, gAdd, gMul, gMulI, g2I, g2IC, c1, c2, e1, e2, gSub, dNext, dSet, dCB, gInt, gMod, d3]

theorem any_yl {w : Int} {k : Nat} (h0 : 1 ≤ w) (h1 : w ≤ 1000000000) (h2 : w < ((2 ^ k : Nat) : Int)) (h3 : 3 ≤ k) : Yl 4 (F_law_any_part [.int w]) fun d => ∃ q, d = fq q ∧ Z k q := by
  intro n l h
  have k8 : 2 ^ 3 ≤ 2 ^ k := Nat.pow_le_pow_right (by decide) h3
  obtain ⟨_, l1, e1, ⟨i, rfl, i0, i1⟩, k1⟩ := about_yl h0 h1 (n + 2) l h
  have hmin : gMin [.int w, .int 10000] = some (.int (if 10000 < w then 10000 else w)) := rfl
  obtain ⟨d, l2, e2, hd, k2⟩ := some_yl (ds := [.int 1, .int 1, .int 2, .int 3, .int 7, .int (if 10000 < w then 10000 else w)]) (by simp) (by simp) (n + 1) l1 k1
  obtain ⟨m, rfl, m0, m1, m2⟩ : ∃ m, d = .int m ∧ 1 ≤ m ∧ m ≤ 10000 ∧ (m ≤ 7 ∨ m ≤ w) := by
    simp at hd
    rcases hd with rfl | rfl | rfl | rfl | rfl
    · exact ⟨_, rfl, by decide, by decide, .inl (by decide)⟩
    · exact ⟨_, rfl, by decide, by decide, .inl (by decide)⟩
    · exact ⟨_, rfl, by decide, by decide, .inl (by decide)⟩
    · exact ⟨_, rfl, by decide, by decide, .inl (by decide)⟩
    · exact ⟨_, rfl, by split <;> omega, by split <;> omega, by split <;> omega⟩
  obtain ⟨_, l3, e3, ⟨j, rfl, j0, j1⟩, k3⟩ := deal_yl (m := m) (by omega) (by omega) n l2 k2
  have bj : Bd k (1 + j) := by
    unfold Bd
    rcases m2 with z | z <;> omega
  have bi : Bd k i := by
    unfold Bd
    omega
  have bj' : Bd 9000 (1 + j) := bd_of 10002 (by omega) (by omega) (by decide)
  have e4 := P_part (t := i) (b := 1 + j) (by omega) bj'
  have p4 : gPow (.int 10) (.int 4) = some (.int 10000) := rfl
  refine ⟨_, l3, ?_, ⟨_, rfl, Z.of (by omega) bi bj⟩, k3⟩
  simp only [F_law_any_part, runL, m_law_any_part, enOf, dRet, dCall, dCallL, dCons, dNil, dOp, dC, dVar, Res.bind, dLst, dCB, p4]
  simp [e1, hmin, e2, e3, gAdd, g2I, e4]
/-! headings -/
theorem L_heading {u : Rat} (h : Z 7 u) : F_law_heading [fq u] = some (.tuple [fq ((1 - u * u) / (1 + u * u)), fq (2 * u / (1 + u * u))]) := by
  have nz : 1 + u * u ≠ 0 := by
    have : 0 ≤ u * u := by
      rcases Rat.le_total (a := 0) (b := u) with z | z
      · exact Rat.mul_nonneg z z
      · have e : u * u = (-u) * (-u) := by grind
        rw [e]
        exact Rat.mul_nonneg (by grind) (by grind)
    grind
  have nn : gIsN (fq u) .none = some (.bool false) := rfl
  have a1 := L_mul (p := u) (q := u) (by walk_at "zz") (by walk_at "zz")
  have a2 := L_add (p := 1) (q := u * u) (by walk_at "zz") (by walk_at "zz")
  have a3 := L_gap (p := 1) (q := u * u) (by walk_at "zz") (by walk_at "zz")
  have a4 := L_div (p := 1 - u * u) (q := 1 + u * u) (by walk_at "zz") (by walk_at "zz") nz
  have a5 := L_mul (p := 2) (q := u) (by walk_at "zz") (by walk_at "zz")
  have a6 := L_div (p := 2 * u) (q := 1 + u * u) (by walk_at "zz") (by walk_at "zz") nz
  simp [F_law_heading, runD, m_law_heading, enOf, dSeq, dIfS, dTest, dOp, dVar, dC, Res.bind, nn, dNext, dSet, dCall, dCons, dNil, dTup, dRet, f0, f1, f2, fm, a1, a2, a3, a4, a5, a6]
theorem L_south : F_law_heading [.none] = some (.tuple [fq (-1), fq 0]) := by
  have nn : gIsN .none .none = some (.bool true) := rfl
  simp [F_law_heading, runD, m_law_heading, enOf, dSeq, dIfS, dTest, dOp, dVar, dC, Res.bind, nn, dNext, dSet, dCall, dCons, dNil, dTup, dRet, dUn, gNeg, f0, f1, f2, fm]
/-- a half tangent: none or a fraction -/
def hq : Option Rat → Dx.D
  | none => .none
  | some u => fq u
theorem half_yl : Yl 6 (F_law_half []) fun d => ∃ o : Option Rat, d = hq o ∧ ∀ u, o = some u → Z 7 u := by
  intro n l h
  obtain ⟨d, l1, e1, hd, k1⟩ := some_yl (ds := [.int 1, .int 2, .int 3, .int 9, .int 99]) (by simp) (by simp) (n + 5) l h
  obtain ⟨w, rfl, w0, w1⟩ : ∃ w, d = .int w ∧ 1 ≤ w ∧ w ≤ 99 := by
    simp at hd
    rcases hd with rfl | rfl | rfl | rfl | rfl <;> exact ⟨_, rfl, by decide, by decide⟩
  obtain ⟨_, l2, e2, ⟨i, rfl, i0, i1⟩, k2⟩ := deal_yl (m := 7) (by decide) (by decide) (n + 4) l1 k1
  by_cases c : i = 0
  · obtain ⟨d, l3, e3, hd, k3⟩ := some_yl (ds := [.none, fq 0, fq 1, fq (-1)]) (by simp) (by simp) n l2 (k2.dn (by omega))
    refine ⟨d, l3, ?_, ?_, k3⟩
    · subst c
      simp [F_law_half, runL, m_law_half, enOf, dSeq, dSet, dCallL, dCons, dNil, dLst, dC, Res.bind, e1, dRet, dIf, dTest, dOp, e2, gEqA_int, dTup, dUn, gNeg, f0, f1, fm, e3]
    · simp at hd
      rcases hd with rfl | rfl | rfl | rfl
      · exact ⟨none, rfl, fun u e => nomatch e⟩
      · exact ⟨some 0, rfl, fun u e => by cases e; exact z0.up (by decide)⟩
      · exact ⟨some 1, rfl, fun u e => by cases e; exact z1.up (by decide)⟩
      · exact ⟨some (-1), rfl, fun u e => by cases e; exact zm.up (by decide)⟩
  · obtain ⟨_, l3, e3, ⟨q, rfl, z⟩, k3⟩ := any_yl (w := w) (k := 7) (by omega) (by omega) (by omega) (by decide) n l2 k2
    refine ⟨fq q, l3, ?_, ⟨some q, rfl, fun u e => by cases e; exact z⟩, k3⟩
    simp [F_law_half, runL, m_law_half, enOf, dSeq, dSet, dCallL, dCons, dNil, dLst, dC, Res.bind, e1, dRet, dIf, dTest, dOp, e2, gEqA_int, c, e3, dVar]
abbrev pr (c s : Rat) : Dx.D := .tuple [fq c, fq s]
theorem sq_nn (u : Rat) : 0 ≤ u * u := by
  rcases Rat.le_total (a := 0) (b := u) with z | z
  · exact Rat.mul_nonneg z z
  · have e : u * u = (-u) * (-u) := by grind
    rw [e]
    exact Rat.mul_nonneg (by grind) (by grind)
structure Hd (c s : Rat) : Prop where
  zc : Z 15 c
  zs : Z 15 s
  e : c * c + s * s = 1
  z2 : Z 31 (c * c - s * s)
  z3 : Z 31 (2 * (c * s))
theorem hdXY {X Y R : Int} (h0 : 0 < R) (hX : Bd 15 X) (hY : Bd 15 Y) (hR : Bd 15 R) (e : X * X + Y * Y = R * R) : Hd ((X : Rat) / (R : Rat)) ((Y : Rat) / (R : Rat)) := by
  have n0 : R ≠ 0 := by omega
  have n1 := cast_ne n0
  have n2 : R * R ≠ 0 := fun z => by rcases Int.mul_eq_zero.mp z with z | z <;> exact n0 z
  have e' : ((X * X + Y * Y : Int) : Rat) = ((R * R : Int) : Rat) := by rw [e]
  rw [Rat.intCast_add, Rat.intCast_mul, Rat.intCast_mul, Rat.intCast_mul] at e'
  refine ⟨Z.of n0 hX hR, Z.of n0 hY hR, by grind, ?_, ?_⟩
  · have k := Z.of (n := 31) n2 (bdSub (hX.mul hX) (hY.mul hY)) ((hR.mul hR).up (by decide))
    rw [Rat.intCast_sub, Rat.intCast_mul, Rat.intCast_mul, Rat.intCast_mul] at k
    rw [show (X : Rat) / (R : Rat) * ((X : Rat) / (R : Rat)) - (Y : Rat) / (R : Rat) * ((Y : Rat) / (R : Rat)) = ((X : Rat) * X - (Y : Rat) * Y) / ((R : Rat) * R) from by grind]
    exact k
  · have b := hX.mul hY
    have k := Z.of (n := 31) (t := 2 * (X * Y)) n2 (by unfold Bd at *; rw [Int.natAbs_mul]; show 2 * _ < _; omega) ((hR.mul hR).up (by decide))
    rw [Rat.intCast_mul, Rat.intCast_mul, Rat.intCast_mul] at k
    rw [show 2 * ((X : Rat) / (R : Rat) * ((Y : Rat) / (R : Rat))) = ((2 : Int) : Rat) * ((X : Rat) * Y) / ((R : Rat) * R) from by grind]
    exact k
theorem hd_half {u : Rat} (h : Z 7 u) : Hd ((1 - u * u) / (1 + u * u)) (2 * u / (1 + u * u)) := by
  have p := sq_nn u
  have nz : 1 + u * u ≠ 0 := by grind
  have e := v_q u
  unfold vR qp at e
  dsimp only at e
  have d := den_pos u
  have hn := h.t
  have hd := h.b
  have dn := cast_den u
  have ba := hd.mul hd
  have bb := hn.mul hn
  have bc := hn.mul hd
  have sq : 0 ≤ u.num * u.num := by
    rcases Int.le_total 0 u.num with z | z
    · exact Int.mul_nonneg z z
    · exact Int.mul_nonneg_of_nonpos_of_nonpos z z
  have sd : 0 < (u.den : Int) * (u.den : Int) := Int.mul_pos d d
  have R0 : (0 : Int) < u.den * u.den + u.num * u.num := by omega
  have k := hdXY (X := u.den * u.den - u.num * u.num) (Y := 2 * (u.num * u.den)) (R := u.den * u.den + u.num * u.num) R0 (bdSub ba bb) (by unfold Bd at *; rw [Int.natAbs_mul]; show 2 * _ < _; omega) (bdAdd ba bb) (by grind)
  rw [Rat.intCast_sub, Rat.intCast_add, Rat.intCast_mul, Rat.intCast_mul, Rat.intCast_mul, Rat.intCast_mul] at k
  have R1 : ((u.den : Int) : Rat) * ((u.den : Int) : Rat) + (u.num : Rat) * (u.num : Rat) ≠ 0 := by
    have := cast_ne (Int.ne_of_gt R0)
    rw [Rat.intCast_add, Rat.intCast_mul, Rat.intCast_mul] at this
    exact this
  rw [show (1 - u * u) / (1 + u * u) = (((u.den : Int) : Rat) * ((u.den : Int) : Rat) - (u.num : Rat) * (u.num : Rat)) / (((u.den : Int) : Rat) * ((u.den : Int) : Rat) + (u.num : Rat) * (u.num : Rat)) from by
    generalize ((u.den : Int) : Rat) = A at *
    generalize (u.num : Rat) = B at *
    have : u * A = B := by grind
    grind, show 2 * u / (1 + u * u) = ((2 : Int) : Rat) * ((u.num : Rat) * ((u.den : Int) : Rat)) / (((u.den : Int) : Rat) * ((u.den : Int) : Rat) + (u.num : Rat) * (u.num : Rat)) from by
    generalize ((u.den : Int) : Rat) = A at *
    generalize (u.num : Rat) = B at *
    have : u * A = B := by grind
    grind]
  exact k
theorem hd_south : Hd (-1) 0 := ⟨zm.up (by decide), z0.up (by decide), by grind, ⟨by unfold Bd; decide +kernel, by unfold Bd; decide +kernel⟩, ⟨by unfold Bd; decide +kernel, by unfold Bd; decide +kernel⟩⟩
theorem half_heading {o : Option Rat} (h : ∀ u, o = some u → Z 7 u) : ∃ c s, F_law_heading [hq o] = some (pr c s) ∧ Hd c s := by
  cases o with
  | none => exact ⟨_, _, L_south, hd_south⟩
  | some u =>
    have z := h u rfl
    exact ⟨_, _, L_heading z, hd_half z⟩
theorem heading_yl : Yl 6 (F_law_some_heading []) fun d => ∃ c s, d = pr c s ∧ Hd c s := by
  intro n l h
  obtain ⟨_, l1, e1, ⟨o, rfl, ho⟩, k1⟩ := half_yl n l h
  obtain ⟨c, s, e2, h2⟩ := half_heading ho
  refine ⟨_, l1, ?_, ⟨c, s, rfl, h2⟩, k1⟩
  simp [F_law_some_heading, runL, m_law_some_heading, enOf, dRet, dCall, dCons, dCallL, dNil, Res.bind, e1, e2]
/-! fives -/
abbrev pv5 (a b c d e : Rat) : Dx.D := .tuple [fq a, fq b, fq c, fq d, fq e]
structure Fv (k : Nat) (a b c d e : Rat) : Prop where
  a : Z k a
  b : Z k b
  c : Z k c
  d : Z k d
  e : Z k e
noncomputable def five1 : DE := dIf (dTest (dOp gEqA (dCallL 0 1 F_law_deal (dCons (dC (.int 4)) dNil)) (dC (.int 0)))) (dTup (dCons (dC (.int 0)) (dCons (dC (.int 1)) dNil))) (dCallL 0 1 F_law_any_part (dCons (dVar 1) dNil))
theorem five1_yl {w : Int} {k : Nat} (h0 : 1 ≤ w) (h1 : w ≤ 1000000000) (h2 : w < ((2 ^ k : Nat) : Int)) (h3 : 3 ≤ k) (a b : Option Sl) : Yl 5 (five1 [some .lode, some (.dat (.int w)), a, b]) fun d => ∃ q, d = fq q ∧ Z k q := by
  intro n l h
  obtain ⟨_, l2, e2, ⟨i, rfl, i0, i1⟩, k2⟩ := deal_yl (m := 4) (by decide) (by decide) (n + 4) l h
  by_cases c : i = 0
  · refine ⟨fq 0, l2, ?_, ⟨0, rfl, z0.up (by omega)⟩, k2.dn (by omega)⟩
    subst c
    simp [five1, dIf, dTest, dOp, dCallL, dCons, dNil, dC, Res.bind, e2, gEqA_int, dTup, f0]
  · obtain ⟨_, l3, e3, ⟨q, rfl, z⟩, k3⟩ := any_yl (w := w) (k := k) h0 h1 h2 h3 n l2 k2
    refine ⟨fq q, l3, ?_, ⟨q, rfl, z⟩, k3⟩
    simp [five1, dIf, dTest, dOp, dCallL, dCons, dNil, dC, Res.bind, e2, gEqA_int, c, dVar, e3]
theorem five_yl {w : Int} {k : Nat} (h0 : 1 ≤ w) (h1 : w ≤ 1000000000) (h2 : w < ((2 ^ k : Nat) : Int)) (h3 : 3 ≤ k) : Yl 25 (F_law_any_five [.int w]) fun d => ∃ a b c d' e, d = pv5 a b c d' e ∧ Fv k a b c d' e := by
  intro n l h
  have st := fun (m : Nat) (l : Ld) (a b : Option Sl) => five1_yl h0 h1 h2 h3 a b m l
  obtain ⟨_, l1, e1, ⟨q1, rfl, z1⟩, k1⟩ := st (n + 20) l (some (.own [])) (some (.dat (.int 0))) h
  obtain ⟨_, l2, e2, ⟨q2, rfl, z2⟩, k2⟩ := st (n + 15) l1 (some (.own [fq q1])) (some (.dat (.int 1))) k1
  obtain ⟨_, l3, e3, ⟨q3, rfl, z3⟩, k3⟩ := st (n + 10) l2 (some (.own [fq q1, fq q2])) (some (.dat (.int 2))) k2
  obtain ⟨_, l4, e4, ⟨q4, rfl, z4⟩, k4⟩ := st (n + 5) l3 (some (.own [fq q1, fq q2, fq q3])) (some (.dat (.int 3))) k3
  obtain ⟨_, l5, e5, ⟨q5, rfl, z5⟩, k5⟩ := st n l4 (some (.own [fq q1, fq q2, fq q3, fq q4])) (some (.dat (.int 4))) k4
  refine ⟨_, l5, ?_, ⟨q1, q2, q3, q4, q5, rfl, z1, z2, z3, z4, z5⟩, k5⟩
  have r5 : dRng1 (dCons (dC (.int 5)) dNil) [some .lode, some (.dat (.int w)), some (.own []), none] l = .ok [.int 0, .int 1, .int 2, .int 3, .int 4] l := rfl
  unfold F_law_any_five runL m_law_any_five
  have un : dApp 2 five1 = dApp 2 (dIf (dTest (dOp gEqA (dCallL 0 1 F_law_deal (dCons (dC (.int 4)) dNil)) (dC (.int 0)))) (dTup (dCons (dC (.int 0)) (dCons (dC (.int 1)) dNil))) (dCallL 0 1 F_law_any_part (dCons (dVar 1) dNil))) := rfl
  rw [← un]
  simp [enOf, dSeq, dSetOwn, dNew, dNil, dFor, r5, forL, dName, dApp, e1, e2, e3, e4, e5, dFrz, dRet, dCB, dCons, dVar, Res.bind, gTuple, pv5]
/-! the program's looks -/
theorem kb0 : L2.kitB "tuple" "tuple" = some true := by decide
theorem kb1 : L2.kitB "int" "int" = some true := by decide
theorem kb2 : L2.kitB "int" "bool" = some false := by decide
theorem F_is_whole_int (i : Int) : F_is_whole [.int i] = some (.bool true) := by
  simp [F_is_whole, runD, m_is_whole, enOf, dRet, dAndV, dNotV, dTest, dIsi, dVar, Res.bind, tyN, kb1, kb2]
theorem P_isf (q : Rat) : F_is_fraction [fq q] = some (.bool true) := by
  have c := den_pos q
  have c' := q.den_pos
  have d : (Nat.gcd q.num.natAbs ((q.den : Int)).natAbs) = 1 := q.reduced
  have d' : (Nat.gcd q.num.natAbs q.den) = 1 := q.reduced
  simp [F_is_fraction, runD, m_is_fraction, fq, fr, qp, enOf, dSeq, dIfS, dOr, dNot, dTest, dIsi, dVar, Res.bind, tyN, kb0, dOp, dCB, gLen, dCons, dNil, dC, gNeA_int, dNext, dAsg, dGTup, dGCons, dName, dGNil, dRet, dAndV, dCall, F_is_whole_int, gGt, g2B, c, c', gGcd, g2L, gEqA_int, d, d']
theorem P_row2 (a b : Rat) : F_is_row [pr a b, .int 2] = some (.bool true) := by
  simp [F_is_row, runD, m_is_row, pr, enOf, dRet, dAndV, dTest, dIsi, dVar, Res.bind, tyN, kb0, dOp, dCB, gLen, dCons, dNil, dC, gEqA_int, gAll, blsD, dLc, dIt, lcL, wipeE, dName, dYes, dCall, P_isf]
theorem P_row5 (a b c d e : Rat) : F_is_row [pv5 a b c d e, .int 5] = some (.bool true) := by
  simp [F_is_row, runD, m_is_row, pv5, enOf, dRet, dAndV, dTest, dIsi, dVar, Res.bind, tyN, kb0, dOp, dCB, gLen, dCons, dNil, dC, gEqA_int, gAll, blsD, dLc, dIt, lcL, wipeE, dName, dYes, dCall, P_isf]
theorem P_five (a b c d e : Rat) : F_check_five [pv5 a b c d e] = some .none := by
  have h : F_is_five [pv5 a b c d e] = some (.bool true) := by
    simp [F_is_five, runD, m_is_five, enOf, dRet, dCall, dCons, dNil, dVar, dC, Res.bind, P_row5]
  simp [F_check_five, runD, m_check_five, enOf, dIfS, dNot, dTest, dCall, dCons, dNil, dVar, Res.bind, h, dNext]
theorem P_wave (a b c d e : Rat) : F_check_wave [pv5 a b c d e] = some .none := by
  have h : F_is_wave [pv5 a b c d e] = some (.bool true) := by
    simp [F_is_wave, runD, m_is_wave, enOf, dRet, dCall, dCons, dNil, dVar, dC, Res.bind, P_row5]
  simp [F_check_wave, runD, m_check_wave, enOf, dIfS, dNot, dTest, dCall, dCons, dNil, dVar, Res.bind, h, dNext]
theorem kn : k_NOUGHT = fq 0 := rfl
theorem k1 : k_ONE = fq 1 := rfl
/-- a size that adds up -/
theorem P_dot2 {n : Nat} {a b c d : Rat} (ha : Z n a) (hb : Z n b) (hc : Z n c) (hd : Z n d) (hn : n ≤ 900) : F_dot [pr a b, pr c d] = some (fq (a * c + b * d)) := by
  have e0 : (0 : Rat) + a * c = a * c := by grind
  have x1 := P_times (p := a) (q := c) (ha.up (by omega)) (hc.up (by omega))
  have x2 := P_times (p := b) (q := d) (hb.up (by omega)) (hd.up (by omega))
  have y1 := P_plus (p := 0) (q := a * c) (by walk_at "zz") ((ha.mul hc).up (by omega))
  rw [e0] at y1
  have y2 := P_plus (p := a * c) (q := b * d) ((ha.mul hc).up (by omega)) ((hb.mul hd).up (by omega))
  simp [F_dot, runD, m_dot, pr, enOf, dSeq, dSet, dC, kn, dFor, dZip, zipD, dCons, dNil, dVar, Res.bind, forL, dGTup, dGCons, dName, dGNil, dCall, x1, x2, y1, y2, dRet]
theorem gEqA_fq (p q : Rat) : gEqA (fq p) (fq q) = some (.bool (decide (p = q))) := by
  have h : gEqA (fq p) (fq q) = some (.bool (PyData.eqv (fq p) (fq q))) := rfl
  rw [h]
  congr 2
  have e1 := eqv_int p.num q.num
  have e2 := eqv_int (p.den : Int) (q.den : Int)
  simp [PyData.eqv] at e1 e2
  by_cases c : p = q
  · subst c
    simp [fq, fr, qp, PyData.eqv, PyData.eqvAll]
  · have : ¬ (p.num = q.num ∧ p.den = q.den) := fun z => c (Rat.ext z.1 z.2)
    simp [fq, fr, qp, PyData.eqv, PyData.eqvAll, c]
    intro x y
    exact this ⟨x, by omega⟩
theorem P_head {c s : Rat} {n : Nat} (hc : Z n c) (hs : Z n s) (hn : n ≤ 900) (h : c * c + s * s = 1) : F_check_heading [pr c s] = some .none := by
  have d := P_dot2 hc hs hc hs hn
  rw [h] at d
  have h : F_is_heading [pr c s] = some (.bool true) := by
    simp [F_is_heading, runD, m_is_heading, enOf, dRet, dAndV, dTest, dCall, dCons, dNil, dVar, dC, Res.bind, P_row2, dOp, d, k1, gEqA_fq]
  simp [F_check_heading, runD, m_check_heading, enOf, dIfS, dNot, dTest, dCall, dCons, dNil, dVar, Res.bind, h, dNext]
end Kb
end
section
set_option Elab.async false
set_option linter.all false
set_option maxRecDepth 100000
set_option maxHeartbeats 2000000
set_option exponentiation.threshold 100
namespace Kb
open PySem Dx Fc
/-! looking into rows -/
theorem ix20 (a b : Dx.D) : gIx (.tuple [a, b]) (.int 0) = some a := rfl
theorem ix21 (a b : Dx.D) : gIx (.tuple [a, b]) (.int 1) = some b := rfl
theorem lx20 (a b : Dx.D) : gIx (.list [a, b]) (.int 0) = some a := rfl
theorem lx21 (a b : Dx.D) : gIx (.list [a, b]) (.int 1) = some b := rfl
theorem ix50 (a b c d e : Dx.D) : gIx (.tuple [a, b, c, d, e]) (.int 0) = some a := rfl
theorem ix51 (a b c d e : Dx.D) : gIx (.tuple [a, b, c, d, e]) (.int 1) = some b := rfl
theorem ix52 (a b c d e : Dx.D) : gIx (.tuple [a, b, c, d, e]) (.int 2) = some c := rfl
theorem ix53 (a b c d e : Dx.D) : gIx (.tuple [a, b, c, d, e]) (.int 3) = some d := rfl
theorem ix54 (a b c d e : Dx.D) : gIx (.tuple [a, b, c, d, e]) (.int 4) = some e := rfl
theorem ad12 (a b c : Dx.D) : gAdd (.tuple [a]) (.tuple [b, c]) = some (.tuple [a, b, c]) := rfl
theorem ad32 (a b c d e : Dx.D) : gAdd (.tuple [a, b, c]) (.tuple [d, e]) = some (.tuple [a, b, c, d, e]) := rfl
theorem mu5 (a : Dx.D) : gMul (.tuple [a]) (.int 5) = some (.tuple [a, a, a, a, a]) := rfl
/-! printed and compared -/
theorem sh_fq (q : Rat) : SeqAt.shaped (fq q) = true := rfl
theorem eqv_fq (p q : Rat) : PyData.eqv (fq p) (fq q) = decide (p = q) := by
  have h := gEqA_fq p q
  have e : gEqA (fq p) (fq q) = some (.bool (PyData.eqv (fq p) (fq q))) := rfl
  rw [e] at h
  injection h with h
  injection h
theorem gEq2 (a b c d : Rat) : gEqA (.list [fq a, fq b]) (.list [fq c, fq d]) = some (.bool (decide (a = c ∧ b = d))) := by
  have e : gEqA (.list [fq a, fq b]) (.list [fq c, fq d]) = some (.bool (PyData.eqv (.list [fq a, fq b]) (.list [fq c, fq d]))) := rfl
  rw [e]
  simp [PyData.eqv, PyData.eqvAll, eqv_fq]
theorem gNe2 (a b c d : Rat) : gNeA (.list [fq a, fq b]) (.list [fq c, fq d]) = some (.bool (!decide (a = c ∧ b = d))) := by
  have e : gNeA (.list [fq a, fq b]) (.list [fq c, fq d]) = some (.bool (!PyData.eqv (.list [fq a, fq b]) (.list [fq c, fq d]))) := rfl
  rw [e]
  simp [PyData.eqv, PyData.eqvAll, eqv_fq]
theorem lt2 (A B : Str) : listText [A, B] = (((Str.ofString "[" ++ Str.ofString "" ++ A) ++ Str.ofString ", ") ++ B) ++ Str.ofString "]" := rfl
theorem tt2 (A B : Str) : tupleText [A, B] = (Str.ofString "(" ++ (A ++ Str.ofString ", " ++ B)) ++ Str.ofString ")" := rfl
theorem sl1 : (Str.ofString "[").length = 1 := rfl
theorem sl2 : (Str.ofString "]").length = 1 := rfl
theorem sl3 : (Str.ofString "(").length = 1 := rfl
theorem sl4 : (Str.ofString ")").length = 1 := rfl
theorem sl5 : (Str.ofString ", ").length = 2 := rfl
theorem sl6 : (Str.ofString "").length = 0 := rfl
theorem intLen {i : Int} (h : Bd 1900 i) : (Str.ofString (toString i)).length ≤ 1901 := by
  rw [ofString_length]
  exact int_text_length_le (by decide) (log2_lt h (by decide))
/-- what can be printed: no longer than this -/
structure Sh (d : Dx.D) (n m : Nat) : Prop where
  lay : d.canLay0 = true
  show' : d.showable = true
  deep : d.depth ≤ n
  len : d.shown.length ≤ m
theorem repr_of {d : Dx.D} {n m : Nat} (h : Sh d n m) (hn : n ≤ 60) (hm : m ≤ 1000000) : ∃ x, gRepr [d] = some (.str x) :=
  ⟨_, if_pos ⟨h.lay, h.show', by have := h.deep; omega, by have := h.len; omega⟩⟩
theorem Sh.fq {q : Rat} (h : Z 1900 q) : Sh (fq q) 2 4000 := by
  have g : ∀ {i : Int}, Bd 1900 i → i.natAbs.log2 < 1920 := fun h => Nat.lt_trans (log2_lt h (by decide)) (by decide)
  have a1 := intLen h.t
  have a2 := intLen h.b
  have g2 := g h.b
  refine ⟨rfl, ?_, ?_, ?_⟩
  · simp [Kb.fq, fr, qp, PyData.showable, PyData.showableAll, g h.t] at g2 ⊢
    exact g2
  · simp [Kb.fq, fr, qp, PyData.depth, PyData.depthAll]
  · simp only [Kb.fq, fr, qp, PyData.shown, PyData.shownAll, tt2, strLen_append, sl1, sl2, sl3, sl4, sl5, sl6]
    omega
end Kb
end
section
set_option Elab.async false
set_option linter.all false
set_option maxRecDepth 100000
set_option maxHeartbeats 2000000
set_option exponentiation.threshold 100
namespace Kb
open PySem Dx Fc
/-! the parts to the north and to the east -/
theorem P_dot5 {v0 v1 v2 v3 v4 w0 w1 w2 w3 w4 : Rat} {n0 n1 n2 n3 n4 m0 m1 m2 m3 m4 : Nat} (a0 : Z n0 v0) (a1 : Z n1 v1) (a2 : Z n2 v2) (a3 : Z n3 v3) (a4 : Z n4 v4) (b0 : Z m0 w0) (b1 : Z m1 w1) (b2 : Z m2 w2) (b3 : Z m3 w3) (b4 : Z m4 w4) (hn : n0 + m0 + (n1 + m1) + (n2 + m2) + (n3 + m3) + (n4 + m4) ≤ 3990) : F_dot [pv5 v0 v1 v2 v3 v4, pv5 w0 w1 w2 w3 w4] = some (fq (v0 * w0 + v1 * w1 + v2 * w2 + v3 * w3 + v4 * w4)) := by
  have e0 : (0 : Rat) + v0 * w0 = v0 * w0 := by grind
  have x0 := P_times (p := v0) (q := w0) (a0.up (by omega)) (b0.up (by omega))
  have x1 := P_times (p := v1) (q := w1) (a1.up (by omega)) (b1.up (by omega))
  have x2 := P_times (p := v2) (q := w2) (a2.up (by omega)) (b2.up (by omega))
  have x3 := P_times (p := v3) (q := w3) (a3.up (by omega)) (b3.up (by omega))
  have x4 := P_times (p := v4) (q := w4) (a4.up (by omega)) (b4.up (by omega))
  have t0 := a0.mul b0
  have t1 := a1.mul b1
  have t2 := a2.mul b2
  have t3 := a3.mul b3
  have t4 := a4.mul b4
  have y0 := P_plus (p := 0) (q := v0 * w0) (z0.up (by omega)) (t0.up (by omega))
  rw [e0] at y0
  have y1 := P_plus (p := v0 * w0) (q := v1 * w1) (t0.up (by omega)) (t1.up (by omega))
  have y2 := P_plus (p := v0 * w0 + v1 * w1) (q := v2 * w2) ((t0.add t1).up (by omega)) (t2.up (by omega))
  have y3 := P_plus (p := v0 * w0 + v1 * w1 + v2 * w2) (q := v3 * w3) (((t0.add t1).add t2).up (by omega)) (t3.up (by omega))
  have y4 := P_plus (p := v0 * w0 + v1 * w1 + v2 * w2 + v3 * w3) (q := v4 * w4) ((((t0.add t1).add t2).add t3).up (by omega)) (t4.up (by omega))
  simp [enOf, runD, runL, dSeq, dIfS, dTest, dOp, dVar, dC, Res.bind, dNext, dSet, dCall, dCallK, perm, dCallL, dCons, dNil, dTup, dLst, dRet, dUn, gNeg, dPar, dAsg, dGTup, dGCons, dName, dGNil, dSetOwn, dNew, dApp, dFrz, dFor, dIt, dZip, zipD, dCB, dDrop, forL, dLc, lcL, wipeE, dYes, gTuple, gList, gLen, gAll, blsD, dIf, dAnd, dOr, dNot, dAndV, dOrV, dNotV, Kb.f0, Kb.f1, Kb.f2, Kb.f4, Kb.fh, Kb.fm, Kb.kn, Kb.k1, F_dot, m_dot, x0, x1, x2, x3, x4, y0, y1, y2, y3, y4]
theorem P_dot4 {v0 v1 v2 v3 w0 w1 w2 w3 : Rat} {n0 n1 n2 n3 m0 m1 m2 m3 : Nat} (a0 : Z n0 v0) (a1 : Z n1 v1) (a2 : Z n2 v2) (a3 : Z n3 v3) (b0 : Z m0 w0) (b1 : Z m1 w1) (b2 : Z m2 w2) (b3 : Z m3 w3) (hn : n0 + m0 + (n1 + m1) + (n2 + m2) + (n3 + m3) ≤ 3990) : F_dot [.tuple [fq v0, fq v1, fq v2, fq v3], .tuple [fq w0, fq w1, fq w2, fq w3]] = some (fq (v0 * w0 + v1 * w1 + v2 * w2 + v3 * w3)) := by
  have e0 : (0 : Rat) + v0 * w0 = v0 * w0 := by grind
  have x0 := P_times (p := v0) (q := w0) (a0.up (by omega)) (b0.up (by omega))
  have x1 := P_times (p := v1) (q := w1) (a1.up (by omega)) (b1.up (by omega))
  have x2 := P_times (p := v2) (q := w2) (a2.up (by omega)) (b2.up (by omega))
  have x3 := P_times (p := v3) (q := w3) (a3.up (by omega)) (b3.up (by omega))
  have t0 := a0.mul b0
  have t1 := a1.mul b1
  have t2 := a2.mul b2
  have t3 := a3.mul b3
  have y0 := P_plus (p := 0) (q := v0 * w0) (z0.up (by omega)) (t0.up (by omega))
  rw [e0] at y0
  have y1 := P_plus (p := v0 * w0) (q := v1 * w1) (t0.up (by omega)) (t1.up (by omega))
  have y2 := P_plus (p := v0 * w0 + v1 * w1) (q := v2 * w2) ((t0.add t1).up (by omega)) (t2.up (by omega))
  have y3 := P_plus (p := v0 * w0 + v1 * w1 + v2 * w2) (q := v3 * w3) (((t0.add t1).add t2).up (by omega)) (t3.up (by omega))
  simp [enOf, runD, runL, dSeq, dIfS, dTest, dOp, dVar, dC, Res.bind, dNext, dSet, dCall, dCallK, perm, dCallL, dCons, dNil, dTup, dLst, dRet, dUn, gNeg, dPar, dAsg, dGTup, dGCons, dName, dGNil, dSetOwn, dNew, dApp, dFrz, dFor, dIt, dZip, zipD, dCB, dDrop, forL, dLc, lcL, wipeE, dYes, gTuple, gList, gLen, gAll, blsD, dIf, dAnd, dOr, dNot, dAndV, dOrV, dNotV, Kb.f0, Kb.f1, Kb.f2, Kb.f4, Kb.fh, Kb.fm, Kb.kn, Kb.k1, F_dot, m_dot, x0, x1, x2, x3, y0, y1, y2, y3]
theorem P_doubled {x y : Rat} (hx : Z 100 x) (hy : Z 100 y) : F_doubled [pr x y] = some (pr (x * x - y * y) (2 * (x * y))) := by
  have x0 := P_times (p := x) (q := x) (by walk_at "zz") (by walk_at "zz")
  have x1 := P_times (p := y) (q := y) (by walk_at "zz") (by walk_at "zz")
  have x2 := P_times (p := x) (q := y) (by walk_at "zz") (by walk_at "zz")
  have x3 := P_times (p := 2) (q := x * y) (by walk_at "zz") (by walk_at "zz")
  have x4 := P_minus (p := x * x) (q := y * y) (by walk_at "zz") (by walk_at "zz")
  simp [enOf, runD, runL, dSeq, dIfS, dTest, dOp, dVar, dC, Res.bind, dNext, dSet, dCall, dCallK, perm, dCallL, dCons, dNil, dTup, dLst, dRet, dUn, gNeg, dPar, dAsg, dGTup, dGCons, dName, dGNil, dSetOwn, dNew, dApp, dFrz, dFor, dIt, dZip, zipD, dCB, dDrop, forL, dLc, lcL, wipeE, dYes, gTuple, gList, gLen, gAll, blsD, dIf, dAnd, dOr, dNot, dAndV, dOrV, dNotV, Kb.f0, Kb.f1, Kb.f2, Kb.f4, Kb.fh, Kb.fm, Kb.kn, Kb.k1, F_doubled, m_doubled, x0, x1, x2, x3, x4]
def wv (v0 v1 v2 v3 v4 x y : Rat) : Rat := v0 * 1 + v1 * x + v2 * y + v3 * (x * x - y * y) + v4 * (2 * (x * y))
theorem P_wave_at {v0 v1 v2 v3 v4 x y : Rat} {n0 n1 n2 n3 n4 : Nat} (a0 : Z n0 v0) (a1 : Z n1 v1) (a2 : Z n2 v2) (a3 : Z n3 v3) (a4 : Z n4 v4) (hx : Z 40 x) (hy : Z 40 y) (h : x * x + y * y = 1) (hn : n0 + n1 + n2 + n3 + n4 ≤ 3600) : F_wave_at [pv5 v0 v1 v2 v3 v4, pr x y] = some (fq (wv v0 v1 v2 v3 v4 x y)) := by
  have c1 := P_wave v0 v1 v2 v3 v4
  have c2 := P_head hx hy (by decide) h
  have c3 := P_doubled (x := x) (y := y) (hx.up (by decide)) (hy.up (by decide))
  have c4 := P_dot5 (w0 := 1) (w1 := x) (w2 := y) (w3 := x * x - y * y) (w4 := 2 * (x * y)) a0 a1 a2 a3 a4 z1 hx hy ((hx.mul hx).sub (hy.mul hy)) (z2.mul (hx.mul hy)) (by omega)
  simp [enOf, runD, runL, dSeq, dIfS, dTest, dOp, dVar, dC, Res.bind, dNext, dSet, dCall, dCallK, perm, dCallL, dCons, dNil, dTup, dLst, dRet, dUn, gNeg, dPar, dAsg, dGTup, dGCons, dName, dGNil, dSetOwn, dNew, dApp, dFrz, dFor, dIt, dZip, zipD, dCB, dDrop, forL, dLc, lcL, wipeE, dYes, gTuple, gList, gLen, gAll, blsD, dIf, dAnd, dOr, dNot, dAndV, dOrV, dNotV, Kb.f0, Kb.f1, Kb.f2, Kb.f4, Kb.fh, Kb.fm, Kb.kn, Kb.k1, F_wave_at, m_wave_at, c1, c2, c3, c4, ad12, ad32, wv]
theorem P_north_wave (a b c d e : Rat) : F_north_wave [pv5 a b c d e] = some (pv5 1 b (-c) d (-e)) := by
  have c1 := P_five a b c d e
  simp [enOf, runD, runL, dSeq, dIfS, dTest, dOp, dVar, dC, Res.bind, dNext, dSet, dCall, dCallK, perm, dCallL, dCons, dNil, dTup, dLst, dRet, dUn, gNeg, dPar, dAsg, dGTup, dGCons, dName, dGNil, dSetOwn, dNew, dApp, dFrz, dFor, dIt, dZip, zipD, dCB, dDrop, forL, dLc, lcL, wipeE, dYes, gTuple, gList, gLen, gAll, blsD, dIf, dAnd, dOr, dNot, dAndV, dOrV, dNotV, Kb.f0, Kb.f1, Kb.f2, Kb.f4, Kb.fh, Kb.fm, Kb.kn, Kb.k1, F_north_wave, m_north_wave, c1, P_neg]
theorem P_east_wave (a b c d e : Rat) : F_east_wave [pv5 a b c d e] = some (pv5 a c b e d) := by
  have c1 := P_five a b c d e
  simp [enOf, runD, runL, dSeq, dIfS, dTest, dOp, dVar, dC, Res.bind, dNext, dSet, dCall, dCallK, perm, dCallL, dCons, dNil, dTup, dLst, dRet, dUn, gNeg, dPar, dAsg, dGTup, dGCons, dName, dGNil, dSetOwn, dNew, dApp, dFrz, dFor, dIt, dZip, zipD, dCB, dDrop, forL, dLc, lcL, wipeE, dYes, gTuple, gList, gLen, gAll, blsD, dIf, dAnd, dOr, dNot, dAndV, dOrV, dNotV, Kb.f0, Kb.f1, Kb.f2, Kb.f4, Kb.fh, Kb.fm, Kb.kn, Kb.k1, F_east_wave, m_east_wave, c1, P_neg]
def nP (a b c d e x y : Rat) : Rat := wv 1 b (-c) d (-e) x y
def eP (a b c d e x y : Rat) : Rat := wv a c b e d x y
section
variable {a b c d e x y : Rat} (f : Fv 400 a b c d e) (hx : Z 40 x) (hy : Z 40 y) (h : x * x + y * y = 1)
include f hx hy h
theorem P_north : F_north_part [pv5 a b c d e, pr x y] = some (fq (nP a b c d e x y)) := by
  have c1 := P_north_wave a b c d e
  have c2 := P_wave_at (v0 := 1) (v1 := b) (v2 := -c) (v3 := d) (v4 := -e) z1 f.b f.c.neg f.d f.e.neg hx hy h (by decide)
  simp [enOf, runD, runL, dSeq, dIfS, dTest, dOp, dVar, dC, Res.bind, dNext, dSet, dCall, dCallK, perm, dCallL, dCons, dNil, dTup, dLst, dRet, dUn, gNeg, dPar, dAsg, dGTup, dGCons, dName, dGNil, dSetOwn, dNew, dApp, dFrz, dFor, dIt, dZip, zipD, dCB, dDrop, forL, dLc, lcL, wipeE, dYes, gTuple, gList, gLen, gAll, blsD, dIf, dAnd, dOr, dNot, dAndV, dOrV, dNotV, Kb.f0, Kb.f1, Kb.f2, Kb.f4, Kb.fh, Kb.fm, Kb.kn, Kb.k1, F_north_part, m_north_part, c1, c2, nP]
theorem P_east : F_east_part [pv5 a b c d e, pr x y] = some (fq (eP a b c d e x y)) := by
  have c1 := P_east_wave a b c d e
  have c2 := P_wave_at (v0 := a) (v1 := c) (v2 := b) (v3 := e) (v4 := d) f.a f.c f.b f.e f.d hx hy h (by decide)
  simp [enOf, runD, runL, dSeq, dIfS, dTest, dOp, dVar, dC, Res.bind, dNext, dSet, dCall, dCallK, perm, dCallL, dCons, dNil, dTup, dLst, dRet, dUn, gNeg, dPar, dAsg, dGTup, dGCons, dName, dGNil, dSetOwn, dNew, dApp, dFrz, dFor, dIt, dZip, zipD, dCB, dDrop, forL, dLc, lcL, wipeE, dYes, gTuple, gList, gLen, gAll, blsD, dIf, dAnd, dOr, dNot, dAndV, dOrV, dNotV, Kb.f0, Kb.f1, Kb.f2, Kb.f4, Kb.fh, Kb.fm, Kb.kn, Kb.k1, F_east_part, m_east_part, c1, c2, eP]
end
theorem Fv.up {n m : Nat} {a b c d e : Rat} (h : Fv n a b c d e) (k : n ≤ m) : Fv m a b c d e := ⟨h.a.up k, h.b.up k, h.c.up k, h.d.up k, h.e.up k⟩
/-! the statement's own sums -/
theorem L_total3 {u v w : Rat} (hu : Z 1300 u) (hv : Z 1300 v) (hw : Z 1300 w) : F_law_total [.list [fq u, fq v, fq w]] = some (fq (u + v + w)) := by
  have e0 : (0 : Rat) + u = u := by grind
  have y0 := L_add (p := 0) (q := u) (by walk_at "zz") (by walk_at "zz")
  rw [e0] at y0
  have y1 := L_add (p := u) (q := v) (by walk_at "zz") (by walk_at "zz")
  have y2 := L_add (p := u + v) (q := w) (by walk_at "zz") (by walk_at "zz")
  simp [enOf, runD, runL, dSeq, dIfS, dTest, dOp, dVar, dC, Res.bind, dNext, dSet, dCall, dCallK, perm, dCallL, dCons, dNil, dTup, dLst, dRet, dUn, gNeg, dPar, dAsg, dGTup, dGCons, dName, dGNil, dSetOwn, dNew, dApp, dFrz, dFor, dIt, dZip, zipD, dCB, dDrop, forL, dLc, lcL, wipeE, dYes, gTuple, gList, gLen, gAll, blsD, dIf, dAnd, dOr, dNot, dAndV, dOrV, dNotV, Kb.f0, Kb.f1, Kb.f2, Kb.f4, Kb.fh, Kb.fm, Kb.kn, Kb.k1, F_law_total, m_law_total, y0, y1, y2]
theorem L_total5 {u v w r s : Rat} (hu : Z 790 u) (hv : Z 790 v) (hw : Z 790 w) (hr : Z 790 r) (hs : Z 790 s) : F_law_total [.list [fq u, fq v, fq w, fq r, fq s]] = some (fq (u + v + w + r + s)) := by
  have e0 : (0 : Rat) + u = u := by grind
  have y0 := L_add (p := 0) (q := u) (by walk_at "zz") (by walk_at "zz")
  rw [e0] at y0
  have y1 := L_add (p := u) (q := v) (by walk_at "zz") (by walk_at "zz")
  have y2 := L_add (p := u + v) (q := w) (by walk_at "zz") (by walk_at "zz")
  have y3 := L_add (p := u + v + w) (q := r) (by walk_at "zz") (by walk_at "zz")
  have y4 := L_add (p := u + v + w + r) (q := s) (by walk_at "zz") (by walk_at "zz")
  simp [enOf, runD, runL, dSeq, dIfS, dTest, dOp, dVar, dC, Res.bind, dNext, dSet, dCall, dCallK, perm, dCallL, dCons, dNil, dTup, dLst, dRet, dUn, gNeg, dPar, dAsg, dGTup, dGCons, dName, dGNil, dSetOwn, dNew, dApp, dFrz, dFor, dIt, dZip, zipD, dCB, dDrop, forL, dLc, lcL, wipeE, dYes, gTuple, gList, gLen, gAll, blsD, dIf, dAnd, dOr, dNot, dAndV, dOrV, dNotV, Kb.f0, Kb.f1, Kb.f2, Kb.f4, Kb.fh, Kb.fm, Kb.kn, Kb.k1, F_law_total, m_law_total, y0, y1, y2, y3, y4]
theorem L_needle {a b c d e x y : Rat} (f : Fv 400 a b c d e) (hx : Z 40 x) (hy : Z 40 y) : F_law_needle [pv5 a b c d e, pr x y] = some (pr (nP a b c d e x y) (eP a b c d e x y)) := by
  obtain ⟨ha, hb, hc, hd, he⟩ := f
  have m1 := L_mul (p := x) (q := x) (by walk_at "zz") (by walk_at "zz")
  have m2 := L_mul (p := y) (q := y) (by walk_at "zz") (by walk_at "zz")
  have m3 := L_gap (p := x * x) (q := y * y) (by walk_at "zz") (by walk_at "zz")
  have m4 := L_mul (p := y) (q := x) (by walk_at "zz") (by walk_at "zz")
  have m5 := L_mul (p := 2) (q := y * x) (by walk_at "zz") (by walk_at "zz")
  have m6 := L_mul (p := b) (q := x) (by walk_at "zz") (by walk_at "zz")
  have m7 := L_mul (p := d) (q := x * x - y * y) (by walk_at "zz") (by walk_at "zz")
  have m8 := L_mul (p := c) (q := y) (by walk_at "zz") (by walk_at "zz")
  have m9 := L_mul (p := e) (q := 2 * (y * x)) (by walk_at "zz") (by walk_at "zz")
  have m10 := L_add (p := c * y) (q := e * (2 * (y * x))) (by walk_at "zz") (by walk_at "zz")
  have m11 := L_mul (p := b) (q := y) (by walk_at "zz") (by walk_at "zz")
  have m12 := L_mul (p := c) (q := x) (by walk_at "zz") (by walk_at "zz")
  have m13 := L_mul (p := d) (q := 2 * (y * x)) (by walk_at "zz") (by walk_at "zz")
  have m14 := L_mul (p := e) (q := x * x - y * y) (by walk_at "zz") (by walk_at "zz")
  have t1 := L_total3 (u := 1) (v := b * x) (w := d * (x * x - y * y)) (by walk_at "zz") (by walk_at "zz") (by walk_at "zz")
  have t2 := L_total5 (u := a) (v := b * y) (w := c * x) (r := d * (2 * (y * x))) (s := e * (x * x - y * y)) (by walk_at "zz") (by walk_at "zz") (by walk_at "zz") (by walk_at "zz") (by walk_at "zz")
  have m15 := L_gap (p := 1 + b * x + d * (x * x - y * y)) (q := c * y + e * (2 * (y * x))) (by walk_at "zz") (by walk_at "zz")
  have n1 : nP a b c d e x y = 1 + b * x + d * (x * x - y * y) - (c * y + e * (2 * (y * x))) := by unfold nP wv; grind
  have n2 : eP a b c d e x y = a + b * y + c * x + d * (2 * (y * x)) + e * (x * x - y * y) := by unfold eP wv; grind
  rw [n1, n2]
  simp [enOf, runD, runL, dSeq, dIfS, dTest, dOp, dVar, dC, Res.bind, dNext, dSet, dCall, dCallK, perm, dCallL, dCons, dNil, dTup, dLst, dRet, dUn, gNeg, dPar, dAsg, dGTup, dGCons, dName, dGNil, dSetOwn, dNew, dApp, dFrz, dFor, dIt, dZip, zipD, dCB, dDrop, forL, dLc, lcL, wipeE, dYes, gTuple, gList, gLen, gAll, blsD, dIf, dAnd, dOr, dNot, dAndV, dOrV, dNotV, Kb.f0, Kb.f1, Kb.f2, Kb.f4, Kb.fh, Kb.fm, Kb.kn, Kb.k1, F_law_needle, m_law_needle, m1, m2, m3, m4, m5, m6, m7, m8, m9, m10, m11, m12, m13, m14, m15, t1, t2]
end Kb
end
section
set_option Elab.async false
set_option linter.all false
set_option maxRecDepth 100000
set_option maxHeartbeats 2000000
set_option exponentiation.threshold 100
namespace Kb
open PySem Dx Fc
/-! printed rows -/
theorem textFrom_le {m : Nat} : ∀ (ts : List Str) (k : Nat) (acc : Str), (∀ t ∈ ts, t.length ≤ m) → (textFrom k acc ts).length ≤ acc.length + ts.length * (m + 2)
  | [], k, acc, _ => by
    show acc.length ≤ _
    omega
  | t :: r, k, acc, h => by
    have h1 := textFrom_le r (k + 1) (acc ++ (if k > 0 then ", " else "" : String) ++ t) (fun u hu => h u (List.mem_cons_of_mem _ hu))
    have h2 := h t (List.mem_cons_self ..)
    have e : (acc ++ (if k > 0 then ", " else "" : String) ++ t).length ≤ acc.length + 2 + t.length := by
      rw [strLen_append, strLen_append]
      split
      · exact Nat.le_refl _
      · show acc.length + 0 + t.length ≤ _
        omega
    show (textFrom (k + 1) (acc ++ (if k > 0 then ", " else "" : String) ++ t) r).length ≤ _
    have e2 : (r.length + 1) * (m + 2) = r.length * (m + 2) + (m + 2) := Nat.succ_mul ..
    rw [List.length_cons, e2]
    omega
structure ShA (ds : List Dx.D) (n m : Nat) : Prop where
  lay : PyData.canLayAll0 ds = true
  show' : PyData.showableAll ds = true
  deep : PyData.depthAll ds ≤ n
  len : ∀ t ∈ PyData.shownAll ds, t.length ≤ m
  many : (PyData.shownAll ds).length = ds.length
theorem sha_nil {n m : Nat} : ShA [] n m := ⟨rfl, rfl, Nat.zero_le _, (fun t h => nomatch h), rfl⟩
theorem sha_cons {d : Dx.D} {ds : List Dx.D} {n m : Nat} (h : Sh d n m) (k : ShA ds n m) : ShA (d :: ds) n m := by
  refine ⟨?_, ?_, ?_, ?_, ?_⟩
  · simp [PyData.canLayAll0, h.lay, k.lay]
  · simp [PyData.showableAll, h.show', k.show']
  · have a := h.deep
    have b := k.deep
    simp only [PyData.depthAll]
    omega
  · intro t ht
    simp only [PyData.shownAll, List.mem_cons] at ht
    rcases ht with rfl | ht
    · exact h.len
    · exact k.len t ht
  · simp only [PyData.shownAll, List.length_cons, k.many]
theorem Sh.list {ds : List Dx.D} {n m : Nat} (h : ShA ds n m) : Sh (.list ds) (n + 1) (ds.length * (m + 2) + 2) := by
  refine ⟨?_, ?_, ?_, ?_⟩
  · simp [PyData.canLay0, h.lay]
  · simp [PyData.showable, h.show']
  · have a := h.deep
    simp only [PyData.depth]
    omega
  · have a := textFrom_le (PyData.shownAll ds) 0 "[" h.len
    rw [h.many] at a
    simp only [PyData.shown, listText, strLen_append]
    have b : ("[" : Str).length = 1 := rfl
    have c : ("]" : Str).length = 1 := rfl
    omega
theorem Sh.pr {a b : Rat} (ha : Z 1900 a) (hb : Z 1900 b) : Sh (Kb.pr a b) 3 9000 := by
  have s := Sh.fq ha
  have t := Sh.fq hb
  refine ⟨?_, ?_, ?_, ?_⟩
  · simp [PyData.canLay0, PyData.canLayAll0, s.lay, t.lay]
  · simp [PyData.showable, PyData.showableAll, s.show', t.show']
  · have := s.deep
    have := t.deep
    simp only [PyData.depth, PyData.depthAll]
    omega
  · have := s.len
    have := t.len
    simp only [PyData.shown, PyData.shownAll, tt2, strLen_append, sl1, sl2, sl3, sl4, sl5, sl6]
    omega
theorem Sh.up {d : Dx.D} {n m n' m' : Nat} (h : Sh d n m) (hn : n ≤ n') (hm : m ≤ m') : Sh d n' m' := ⟨h.lay, h.show', Nat.le_trans h.deep hn, Nat.le_trans h.len hm⟩
theorem Sh.fq' {q : Rat} (h : Z 1900 q) : Sh (Kb.fq q) 3 9000 := (Sh.fq h).up (by decide) (by decide)
/-- printed rows of up to a hundred things -/
theorem repr_l {ds : List Dx.D} (h : ShA ds 3 9000) (hl : ds.length ≤ 100) : ∃ x, gRepr [.list ds] = some (.str x) := by
  refine repr_of (Sh.list h) (by decide) ?_
  have : ds.length * (9000 + 2) ≤ 100 * (9000 + 2) := Nat.mul_le_mul_right _ hl
  omega
/-! compared -/
theorem gEqP (a b c d : Rat) : gEqA (pr a b) (pr c d) = some (.bool (decide (a = c ∧ b = d))) := by
  have e : gEqA (pr a b) (pr c d) = some (.bool (PyData.eqv (pr a b) (pr c d))) := rfl
  rw [e]
  simp [PyData.eqv, PyData.eqvAll, eqv_fq]
theorem gNeP (a b c d : Rat) : gNeA (pr a b) (pr c d) = some (.bool (!decide (a = c ∧ b = d))) := by
  have e : gNeA (pr a b) (pr c d) = some (.bool (!PyData.eqv (pr a b) (pr c d))) := rfl
  rw [e]
  simp [PyData.eqv, PyData.eqvAll, eqv_fq]
theorem gNe_fq (a b : Rat) : gNeA (fq a) (fq b) = some (.bool (!decide (a = b))) := by
  have e : gNeA (fq a) (fq b) = some (.bool (!PyData.eqv (fq a) (fq b))) := rfl
  rw [e, eqv_fq]
theorem gEqN_fq (a : Rat) : gEqA (fq a) .none = some (.bool false) := rfl
theorem gEqNfq (a : Rat) : gEqA .none (fq a) = some (.bool false) := rfl
theorem gNeN_fq (a : Rat) : gNeA (fq a) .none = some (.bool true) := rfl
theorem gEqNN : gEqA .none .none = some (.bool true) := rfl
theorem gNeNN : gNeA .none .none = some (.bool false) := rfl
theorem isN_fq (a : Rat) : gIsN (fq a) .none = some (.bool false) := rfl
theorem isN_n : gIsN .none .none = some (.bool true) := rfl
theorem notN_fq (a : Rat) : gNotN (fq a) .none = some (.bool true) := rfl
theorem notN_n : gNotN .none .none = some (.bool false) := rfl
theorem isN_pr (a b : Rat) : gIsN (pr a b) .none = some (.bool false) := rfl
/-! headings -/
structure Hh (n : Nat) (c s : Rat) : Prop where
  zc : Z n c
  zs : Z n s
  e : c * c + s * s = 1
theorem Hd.hh {c s : Rat} (h : Hd c s) : Hh 32 c s := ⟨h.zc.up (by decide), h.zs.up (by decide), h.e⟩
theorem Hh.up {n m : Nat} {c s : Rat} (h : Hh n c s) (k : n ≤ m) : Hh m c s := ⟨h.zc.up k, h.zs.up k, h.e⟩
theorem P_hd {n : Nat} {c s : Rat} (h : Hh n c s) (hn : n ≤ 900) : F_check_heading [pr c s] = some .none := P_head h.zc h.zs hn h.e
theorem Hh.turn {n m : Nat} {c s c' s' : Rat} (h : Hh n c s) (k : Hh m c' s') : Hh (n + m + (n + m) + 1) (c * c' - s * s') (s * c' + c * s') := by
  refine ⟨(h.zc.mul k.zc).sub (h.zs.mul k.zs), (h.zs.mul k.zc).add (h.zc.mul k.zs), ?_⟩
  have a := h.e
  have b := k.e
  have e : (c * c' - s * s') * (c * c' - s * s') + (s * c' + c * s') * (s * c' + c * s') = (c * c + s * s) * (c' * c' + s' * s') := by grind
  rw [e, a, b]
  grind
theorem P_turned {n m : Nat} {c s c' s' : Rat} (h : Hh n c s) (k : Hh m c' s') (hn : n ≤ 900) (hm : m ≤ 900) : F_turned [pr c s, pr c' s'] = some (pr (c * c' - s * s') (s * c' + c * s')) := by
  have h1 := P_hd h hn
  have h2 := P_hd k hm
  have h3 := P_neg s
  have d1 := P_dot2 (n := 900) (h.zc.up hn) (h.zs.neg.up hn) (k.zc.up hm) (k.zs.up hm) (by decide)
  have d2 := P_dot2 (n := 900) (h.zs.up hn) (h.zc.up hn) (k.zc.up hm) (k.zs.up hm) (by decide)
  rw [show c * c' + -s * s' = c * c' - s * s' from by grind] at d1
  simp [enOf, runD, runL, dSeq, dIfS, dTest, dOp, dVar, dC, Res.bind, dNext, dSet, dCall, dCallK, perm, dCallL, dCons, dNil, dTup, dLst, dRet, dUn, gNeg, dPar, dAsg, dGTup, dGCons, dName, dGNil, dSetOwn, dNew, dApp, dFrz, dFor, dIt, dZip, zipD, dCB, dDrop, forL, dLc, lcL, wipeE, dYes, gTuple, gList, gLen, gAll, blsD, dIf, dAnd, dOr, dNot, dAndV, dOrV, dNotV, Kb.f0, Kb.f1, Kb.f2, Kb.f4, Kb.fh, Kb.fm, Kb.kn, Kb.k1, F_turned, m_turned, h1, h2, h3, d1, d2]
theorem Hh.mir {n : Nat} {c s : Rat} (h : Hh n c s) : Hh n c (-s) := ⟨h.zc, h.zs.neg, by have := h.e; grind⟩
theorem P_mirrored {n : Nat} {c s : Rat} (h : Hh n c s) (hn : n ≤ 900) : F_mirrored [pr c s] = some (pr c (-s)) := by
  have h1 := P_hd h hn
  have h3 := P_neg s
  simp [enOf, runD, runL, dSeq, dIfS, dTest, dOp, dVar, dC, Res.bind, dNext, dSet, dCall, dCallK, perm, dCallL, dCons, dNil, dTup, dLst, dRet, dUn, gNeg, dPar, dAsg, dGTup, dGCons, dName, dGNil, dSetOwn, dNew, dApp, dFrz, dFor, dIt, dZip, zipD, dCB, dDrop, forL, dLc, lcL, wipeE, dYes, gTuple, gList, gLen, gAll, blsD, dIf, dAnd, dOr, dNot, dAndV, dOrV, dNotV, Kb.f0, Kb.f1, Kb.f2, Kb.f4, Kb.fh, Kb.fm, Kb.kn, Kb.k1, F_mirrored, m_mirrored, h1, h3, ix20, ix21]
theorem L_turn {n m : Nat} {c s c' s' : Rat} (h : Hh n c s) (k : Hh m c' s') (hn : n ≤ 900) (hm : m ≤ 900) : F_law_turn [pr c s, pr c' s'] = some (pr (c * c' - s * s') (s * c' + c * s')) := by
  have h1 := h.zc.up hn
  have h2 := h.zs.up hn
  have h3 := k.zc.up hm
  have h4 := k.zs.up hm
  have m1 := L_mul (p := c) (q := c') (by walk_at "zz") (by walk_at "zz")
  have m2 := L_mul (p := s) (q := s') (by walk_at "zz") (by walk_at "zz")
  have m3 := L_mul (p := s) (q := c') (by walk_at "zz") (by walk_at "zz")
  have m4 := L_mul (p := c) (q := s') (by walk_at "zz") (by walk_at "zz")
  have m5 := L_gap (p := c * c') (q := s * s') (by walk_at "zz") (by walk_at "zz")
  have m6 := L_add (p := s * c') (q := c * s') (by walk_at "zz") (by walk_at "zz")
  simp [enOf, runD, runL, dSeq, dIfS, dTest, dOp, dVar, dC, Res.bind, dNext, dSet, dCall, dCallK, perm, dCallL, dCons, dNil, dTup, dLst, dRet, dUn, gNeg, dPar, dAsg, dGTup, dGCons, dName, dGNil, dSetOwn, dNew, dApp, dFrz, dFor, dIt, dZip, zipD, dCB, dDrop, forL, dLc, lcL, wipeE, dYes, gTuple, gList, gLen, gAll, blsD, dIf, dAnd, dOr, dNot, dAndV, dOrV, dNotV, Kb.f0, Kb.f1, Kb.f2, Kb.f4, Kb.fh, Kb.fm, Kb.kn, Kb.k1, F_law_turn, m_law_turn, ix20, ix21, m1, m2, m3, m4, m5, m6]
theorem P_frac (q : Rat) : F_check_fraction [fq q] = some .none := by
  have h := P_isf q
  simp [enOf, runD, runL, dSeq, dIfS, dTest, dOp, dVar, dC, Res.bind, dNext, dSet, dCall, dCallK, perm, dCallL, dCons, dNil, dTup, dLst, dRet, dUn, gNeg, dPar, dAsg, dGTup, dGCons, dName, dGNil, dSetOwn, dNew, dApp, dFrz, dFor, dIt, dZip, zipD, dCB, dDrop, forL, dLc, lcL, wipeE, dYes, gTuple, gList, gLen, gAll, blsD, dIf, dAnd, dOr, dNot, dAndV, dOrV, dNotV, Kb.f0, Kb.f1, Kb.f2, Kb.f4, Kb.fh, Kb.fm, Kb.kn, Kb.k1, F_check_fraction, m_check_fraction, h]
theorem ks : k_SOUTH = pr (-1) 0 := by
  unfold k_SOUTH pr
  rw [← fm, ← f0]
theorem kh : k_HALF = fq (1 / 2) := by
  unfold k_HALF
  rw [← fh]
theorem P_heading_none : F_heading_of [.none] = some (pr (-1) 0) := by
  simp [enOf, runD, runL, dSeq, dIfS, dTest, dOp, dVar, dC, Res.bind, dNext, dSet, dCall, dCallK, perm, dCallL, dCons, dNil, dTup, dLst, dRet, dUn, gNeg, dPar, dAsg, dGTup, dGCons, dName, dGNil, dSetOwn, dNew, dApp, dFrz, dFor, dIt, dZip, zipD, dCB, dDrop, forL, dLc, lcL, wipeE, dYes, gTuple, gList, gLen, gAll, blsD, dIf, dAnd, dOr, dNot, dAndV, dOrV, dNotV, Kb.f0, Kb.f1, Kb.f2, Kb.f4, Kb.fh, Kb.fm, Kb.kn, Kb.k1, F_heading_of, m_heading_of, isN_n, ks]
theorem P_heading {u : Rat} {n : Nat} (h : Z n u) (hn : n ≤ 300) : F_heading_of [fq u] = some (pr ((1 - u * u) / (1 + u * u)) ((u + u) / (1 + u * u))) := by
  have z := h.up hn
  have p := sq_nn u
  have nz : 1 + u * u ≠ 0 := by grind
  have m1 := P_times (p := u) (q := u) (by walk_at "zz") (by walk_at "zz")
  have m2 := P_plus (p := 1) (q := u * u) (by walk_at "zz") (by walk_at "zz")
  have m3 := P_minus (p := 1) (q := u * u) (by walk_at "zz") (by walk_at "zz")
  have m4 := P_plus (p := u) (q := u) (by walk_at "zz") (by walk_at "zz")
  have m5 := P_over (p := 1 - u * u) (q := 1 + u * u) (by walk_at "zz") (by walk_at "zz") nz
  have m6 := P_over (p := u + u) (q := 1 + u * u) (by walk_at "zz") (by walk_at "zz") nz
  have h1 := P_frac u
  simp [enOf, runD, runL, dSeq, dIfS, dTest, dOp, dVar, dC, Res.bind, dNext, dSet, dCall, dCallK, perm, dCallL, dCons, dNil, dTup, dLst, dRet, dUn, gNeg, dPar, dAsg, dGTup, dGCons, dName, dGNil, dSetOwn, dNew, dApp, dFrz, dFor, dIt, dZip, zipD, dCB, dDrop, forL, dLc, lcL, wipeE, dYes, gTuple, gList, gLen, gAll, blsD, dIf, dAnd, dOr, dNot, dAndV, dOrV, dNotV, Kb.f0, Kb.f1, Kb.f2, Kb.f4, Kb.fh, Kb.fm, Kb.kn, Kb.k1, F_heading_of, m_heading_of, isN_fq, h1, m1, m2, m3, m4, m5, m6]
theorem P_half_south : F_half_of [pr (-1) 0] = some .none := by
  have h1 := P_hd (n := 1) (c := -1) (s := 0) ⟨zm, z0, by grind⟩ (by decide)
  simp [enOf, runD, runL, dSeq, dIfS, dTest, dOp, dVar, dC, Res.bind, dNext, dSet, dCall, dCallK, perm, dCallL, dCons, dNil, dTup, dLst, dRet, dUn, gNeg, dPar, dAsg, dGTup, dGCons, dName, dGNil, dSetOwn, dNew, dApp, dFrz, dFor, dIt, dZip, zipD, dCB, dDrop, forL, dLc, lcL, wipeE, dYes, gTuple, gList, gLen, gAll, blsD, dIf, dAnd, dOr, dNot, dAndV, dOrV, dNotV, Kb.f0, Kb.f1, Kb.f2, Kb.f4, Kb.fh, Kb.fm, Kb.kn, Kb.k1, F_half_of, m_half_of, h1, ks, gEqP]
theorem P_half {n : Nat} {c s : Rat} (h : Hh n c s) (hn : n ≤ 900) (hc : c ≠ -1) : F_half_of [pr c s] = some (fq (s / (1 + c))) := by
  have h1 := P_hd h hn
  have z1' := h.zc.up hn
  have z2' := h.zs.up hn
  have nz : 1 + c ≠ 0 := by grind
  have m1 := P_plus (p := 1) (q := c) (by walk_at "zz") (by walk_at "zz")
  have m2 := P_over (p := s) (q := 1 + c) (by walk_at "zz") (by walk_at "zz") nz
  simp [enOf, runD, runL, dSeq, dIfS, dTest, dOp, dVar, dC, Res.bind, dNext, dSet, dCall, dCallK, perm, dCallL, dCons, dNil, dTup, dLst, dRet, dUn, gNeg, dPar, dAsg, dGTup, dGCons, dName, dGNil, dSetOwn, dNew, dApp, dFrz, dFor, dIt, dZip, zipD, dCB, dDrop, forL, dLc, lcL, wipeE, dYes, gTuple, gList, gLen, gAll, blsD, dIf, dAnd, dOr, dNot, dAndV, dOrV, dNotV, Kb.f0, Kb.f1, Kb.f2, Kb.f4, Kb.fh, Kb.fm, Kb.kn, Kb.k1, F_half_of, m_half_of, h1, ks, gEqP, hc, m1, m2]
end Kb
end
section
set_option Elab.async false
set_option linter.all false
set_option maxRecDepth 100000
set_option maxHeartbeats 2000000
set_option exponentiation.threshold 100
namespace Kb
open PySem Dx Fc
/-! the force's square, the word -/
/-- a five whose B and C may be greater -/
structure Fs (a b c d e : Rat) : Prop where
  a : Z 30 a
  b : Z 80 b
  c : Z 80 c
  d : Z 30 d
  e : Z 30 e
theorem Fs.fv {a b c d e : Rat} (f : Fs a b c d e) : Fv 400 a b c d e := ⟨f.a.up (by decide), f.b.up (by decide), f.c.up (by decide), f.d.up (by decide), f.e.up (by decide)⟩
theorem sl01 (a b c d e : Dx.D) : gSl (.tuple [a, b, c, d, e]) none (some 1) = some (.tuple [a]) := rfl
theorem sl1_ (a b c d e : Dx.D) : gSl (.tuple [a, b, c, d, e]) (some 1) none = some (.tuple [b, c, d, e]) := rfl
theorem ad14 (a b c d e : Dx.D) : gAdd (.tuple [a]) (.tuple [b, c, d, e]) = some (.tuple [a, b, c, d, e]) := rfl
theorem P_force_wave {a b c d e : Rat} (f : Fs a b c d e) : F_force_wave [pv5 a b c d e] = some (pv5 (1 + (a * a + b * b + c * c + d * d + e * e)) ((b + a * c + d * b + e * c) + (b + a * c + d * b + e * c)) ((a * b + -1 * c + d * c + -e * b) + (a * b + -1 * c + d * c + -e * b)) ((d + a * e) + (d + a * e)) ((a * d - e) + (a * d - e))) := by
  obtain ⟨ha, hb, hc, hd, he⟩ := f
  have c1 := P_five a b c d e
  have d1 := P_dot5 ha hb hc hd he ha hb hc hd he (by decide)
  have d2 := P_dot4 z1 ha hd he hb hc hb hc (by decide)
  rw [show (1 : Rat) * b = b from by grind] at d2
  have d3 := P_dot4 ha z1.neg hd he.neg hb hc hc hb (by decide)
  have n1 := P_neg 1
  have n2 := P_neg e
  have p1 := P_plus (p := 1) (q := a * a + b * b + c * c + d * d + e * e) (by walk_at "zz") (by walk_at "zz")
  have p2 := P_times (p := a) (q := e) (by walk_at "zz") (by walk_at "zz")
  have p3 := P_plus (p := d) (q := a * e) (by walk_at "zz") (by walk_at "zz")
  have p4 := P_times (p := a) (q := d) (by walk_at "zz") (by walk_at "zz")
  have p5 := P_minus (p := a * d) (q := e) (by walk_at "zz") (by walk_at "zz")
  have p6 := P_plus (p := b + a * c + d * b + e * c) (q := b + a * c + d * b + e * c) (by walk_at "zz") (by walk_at "zz")
  have p7 := P_plus (p := a * b + -1 * c + d * c + -e * b) (q := a * b + -1 * c + d * c + -e * b) (by walk_at "zz") (by walk_at "zz")
  have p8 := P_plus (p := d + a * e) (q := d + a * e) (by walk_at "zz") (by walk_at "zz")
  have p9 := P_plus (p := a * d - e) (q := a * d - e) (by walk_at "zz") (by walk_at "zz")
  simp only [F_force_wave, m_force_wave]
  simp [enOf, runD, runL, dSeq, dIfS, dTest, dOp, dVar, dC, Res.bind, dNext, dSet, dCall, dCallK, perm, dCallL, dCons, dNil, dTup, dLst, dRet, dUn, gNeg, dPar, dAsg, dGTup, dGCons, dName, dGNil, dSetOwn, dNew, dApp, dFrz, dFor, dIt, dZip, zipD, dCB, dDrop, forL, dLc, lcL, wipeE, dYes, gTuple, gList, gLen, gAll, blsD, dIf, dAnd, dOr, dNot, dAndV, dOrV, dNotV, Kb.f0, Kb.f1, Kb.f2, Kb.f4, Kb.fh, Kb.fm, Kb.kn, Kb.k1, c1, d1, d2, d3, n1, n2, p1, p2, p3, p4, p5, p6, p7, p8, p9, dSl, dONone, dOSome, sl01, sl1_, ad14]
theorem P_force {a b c d e x y : Rat} (f : Fs a b c d e) (hx : Z 40 x) (hy : Z 40 y) (h : x * x + y * y = 1) : F_force_square [pv5 a b c d e, pr x y] = some (fq (nP a b c d e x y * nP a b c d e x y + eP a b c d e x y * eP a b c d e x y)) := by
  have c1 := P_force_wave f
  obtain ⟨ha, hb, hc, hd, he⟩ := f
  have w := P_wave_at (v0 := 1 + (a * a + b * b + c * c + d * d + e * e)) (v1 := (b + a * c + d * b + e * c) + (b + a * c + d * b + e * c)) (v2 := (a * b + -1 * c + d * c + -e * b) + (a * b + -1 * c + d * c + -e * b)) (v3 := (d + a * e) + (d + a * e)) (v4 := (a * d - e) + (a * d - e)) (n0 := 600) (n1 := 900) (n2 := 900) (n3 := 300) (n4 := 300) (by walk_at "zz") (by walk_at "zz") (by walk_at "zz") (by walk_at "zz") (by walk_at "zz") hx hy h (by decide)
  have e1 : wv (1 + (a * a + b * b + c * c + d * d + e * e)) ((b + a * c + d * b + e * c) + (b + a * c + d * b + e * c)) ((a * b + -1 * c + d * c + -e * b) + (a * b + -1 * c + d * c + -e * b)) ((d + a * e) + (d + a * e)) ((a * d - e) + (a * d - e)) x y = nP a b c d e x y * nP a b c d e x y + eP a b c d e x y * eP a b c d e x y := by
    unfold nP eP wv
    grind
  rw [e1] at w
  simp [enOf, runD, runL, dSeq, dIfS, dTest, dOp, dVar, dC, Res.bind, dNext, dSet, dCall, dCallK, perm, dCallL, dCons, dNil, dTup, dLst, dRet, dUn, gNeg, dPar, dAsg, dGTup, dGCons, dName, dGNil, dSetOwn, dNew, dApp, dFrz, dFor, dIt, dZip, zipD, dCB, dDrop, forL, dLc, lcL, wipeE, dYes, gTuple, gList, gLen, gAll, blsD, dIf, dAnd, dOr, dNot, dAndV, dOrV, dNotV, Kb.f0, Kb.f1, Kb.f2, Kb.f4, Kb.fh, Kb.fm, Kb.kn, Kb.k1, F_force_square, m_force_square, c1, w]
end Kb
end
section
set_option Elab.async false
set_option linter.all false
set_option maxRecDepth 100000
set_option maxHeartbeats 2000000
set_option exponentiation.threshold 100
namespace Kb
open PySem Dx Fc
/-! signs and words -/
def sgn (i : Int) : Int := if i = 0 then 0 else if 0 < i then 1 else -1
theorem F_whole_sign_eq (i : Int) : F_whole_sign [.int i] = some (.int (sgn i)) := by
  unfold sgn
  by_cases c : i = 0
  · subst c
    simp [F_whole_sign, runD, m_whole_sign, dSeq, dIfS, dTest, dOp, dVar, dC, enOf, Res.bind, gEqA_int, dRet]
  · by_cases d : 0 < i
    · simp [F_whole_sign, runD, m_whole_sign, dSeq, dIfS, dTest, dOp, dVar, dC, enOf, Res.bind, gEqA_int, dRet, c, d, dNext, dIf, gGt, g2B, dUn, gNeg]
    · simp [F_whole_sign, runD, m_whole_sign, dSeq, dIfS, dTest, dOp, dVar, dC, enOf, Res.bind, gEqA_int, dRet, c, d, dNext, dIf, gGt, g2B, dUn, gNeg]
/-- the sign of a rational -/
def sR (x : Rat) : Int := if x = 0 then 0 else if 0 < x then 1 else -1
theorem num_pos (q : Rat) : 0 < q.num ↔ 0 < q := by
  constructor
  · intro h
    apply Classical.byContradiction
    intro z
    have z' : 0 ≤ -q := by grind
    have := Rat.num_nonneg.mpr z'
    rw [Rat.neg_num] at this
    omega
  · intro h
    have a := Rat.num_nonneg.mpr (Rat.le_of_lt h)
    have b : q.num ≠ 0 := num_ne (by grind)
    omega
theorem num_z (q : Rat) : q.num = 0 ↔ q = 0 := Rat.num_eq_zero
theorem sgn_num (q : Rat) : sgn q.num = sR q := by
  unfold sgn sR
  simp only [num_z, num_pos]
theorem P_sign (q : Rat) : F_sign_of [fq q] = some (.int (sR q)) := by
  have h := F_whole_sign_eq q.num
  rw [sgn_num] at h
  simp [enOf, runD, runL, dSeq, dIfS, dTest, dOp, dVar, dC, Res.bind, dNext, dSet, dCall, dCallK, perm, dCallL, dCons, dNil, dTup, dLst, dRet, dUn, gNeg, dPar, dAsg, dGTup, dGCons, dName, dGNil, dSetOwn, dNew, dApp, dFrz, dFor, dIt, dZip, zipD, dCB, dDrop, forL, dLc, lcL, wipeE, dYes, gTuple, gList, gLen, gAll, blsD, dIf, dAnd, dOr, dNot, dAndV, dOrV, dNotV, Kb.f0, Kb.f1, Kb.f2, Kb.f4, Kb.fh, Kb.fm, Kb.kn, Kb.k1, F_sign_of, m_sign_of, gI0, h]
theorem sR_cases (x : Rat) : (x < 0 ∧ sR x = -1) ∨ (x = 0 ∧ sR x = 0) ∨ (0 < x ∧ sR x = 1) := by
  unfold sR
  by_cases a : x = 0
  · exact .inr (.inl ⟨a, if_pos a⟩)
  · by_cases b : 0 < x
    · exact .inr (.inr ⟨b, by rw [if_neg a, if_pos b]⟩)
    · exact .inl ⟨by grind, by rw [if_neg a, if_neg b]⟩
/-- the word of both signs -/
def wdS (n e : Int) : Str := if e ≠ 0 then (if 0 < e then "east" else "west") else if n = 0 then "dead" else if 0 < n then "plain" else "against"
def wd (N E : Rat) : Str := wdS (sR N) (sR E)
section
variable {a b c d e x y : Rat} (f : Fv 400 a b c d e) (hx : Z 40 x) (hy : Z 40 y) (h : x * x + y * y = 1)
include f hx hy h
theorem P_word : F_deviation_word [pv5 a b c d e, pr x y] = some (.str (wd (nP a b c d e x y) (eP a b c d e x y))) := by
  have p1 := P_north f hx hy h
  have p2 := P_east f hx hy h
  have s1 := P_sign (nP a b c d e x y)
  have s2 := P_sign (eP a b c d e x y)
  unfold wd
  rcases sR_cases (nP a b c d e x y) with ⟨_, u⟩ | ⟨_, u⟩ | ⟨_, u⟩ <;> rcases sR_cases (eP a b c d e x y) with ⟨_, v⟩ | ⟨_, v⟩ | ⟨_, v⟩ <;> rw [u] at s1 ⊢ <;> rw [v] at s2 ⊢ <;> simp [enOf, runD, runL, dSeq, dIfS, dTest, dOp, dVar, dC, Res.bind, dNext, dSet, dCall, dCallK, perm, dCallL, dCons, dNil, dTup, dLst, dRet, dUn, gNeg, dPar, dAsg, dGTup, dGCons, dName, dGNil, dSetOwn, dNew, dApp, dFrz, dFor, dIt, dZip, zipD, dCB, dDrop, forL, dLc, lcL, wipeE, dYes, gTuple, gList, gLen, gAll, blsD, dIf, dAnd, dOr, dNot, dAndV, dOrV, dNotV, Kb.f0, Kb.f1, Kb.f2, Kb.f4, Kb.fh, Kb.fm, Kb.kn, Kb.k1, F_deviation_word, m_deviation_word, p1, p2, s1, s2, gNeA_int, gEqA_int, gGt, g2B, wdS]
end
theorem gEq_str (x y : Str) : gEqA (.str x) (.str y) = some (.bool (decide (x = y))) := rfl
theorem gNe_str (x y : Str) : gNeA (.str x) (.str y) = some (.bool (!decide (x = y))) := rfl
theorem gNe_bool (x y : Bool) : gNeA (.bool x) (.bool y) = some (.bool (x != y)) := by cases x <;> cases y <;> rfl
theorem gEq_bool (x y : Bool) : gEqA (.bool x) (.bool y) = some (.bool (x == y)) := by cases x <;> cases y <;> rfl
theorem wd_dead (N E : Rat) : decide (wd N E = "dead") = decide (N = 0 ∧ E = 0) := by
  unfold wd
  rcases sR_cases N with ⟨p, u⟩ | ⟨p, u⟩ | ⟨p, u⟩ <;> rcases sR_cases E with ⟨q, v⟩ | ⟨q, v⟩ | ⟨q, v⟩ <;> rw [u, v]
  case inr.inl.inr.inl => rw [decide_eq_true (show N = 0 ∧ E = 0 from ⟨p, q⟩)]; rfl
  all_goals
    rw [decide_eq_false (show ¬ (N = 0 ∧ E = 0) from by grind)]
    decide
/-! the force in the ship -/
def xP (a b c d e x y : Rat) : Rat := b + (1 + d) * x + (a - e) * y
def yP (a b c d e x y : Rat) : Rat := c + (a + e) * x + (d - 1) * y
theorem L_ship {a b c d e x y : Rat} (f : Fv 400 a b c d e) (hx : Z 40 x) (hy : Z 40 y) : F_law_ship [pv5 a b c d e, pr x y] = some (pr (xP a b c d e x y) (yP a b c d e x y)) := by
  obtain ⟨ha, hb, hc, hd, he⟩ := f
  have m1 := L_add (p := 1) (q := d) (by walk_at "zz") (by walk_at "zz")
  have m2 := L_mul (p := 1 + d) (q := x) (by walk_at "zz") (by walk_at "zz")
  have m3 := L_gap (p := a) (q := e) (by walk_at "zz") (by walk_at "zz")
  have m4 := L_mul (p := a - e) (q := y) (by walk_at "zz") (by walk_at "zz")
  have m5 := L_add (p := a) (q := e) (by walk_at "zz") (by walk_at "zz")
  have m6 := L_mul (p := a + e) (q := x) (by walk_at "zz") (by walk_at "zz")
  have m7 := L_gap (p := d) (q := 1) (by walk_at "zz") (by walk_at "zz")
  have m8 := L_mul (p := d - 1) (q := y) (by walk_at "zz") (by walk_at "zz")
  have t1 := L_total3 (u := b) (v := (1 + d) * x) (w := (a - e) * y) (by walk_at "zz") (by walk_at "zz") (by walk_at "zz")
  have t2 := L_total3 (u := c) (v := (a + e) * x) (w := (d - 1) * y) (by walk_at "zz") (by walk_at "zz") (by walk_at "zz")
  simp [enOf, runD, runL, dSeq, dIfS, dTest, dOp, dVar, dC, Res.bind, dNext, dSet, dCall, dCallK, perm, dCallL, dCons, dNil, dTup, dLst, dRet, dUn, gNeg, dPar, dAsg, dGTup, dGCons, dName, dGNil, dSetOwn, dNew, dApp, dFrz, dFor, dIt, dZip, zipD, dCB, dDrop, forL, dLc, lcL, wipeE, dYes, gTuple, gList, gLen, gAll, blsD, dIf, dAnd, dOr, dNot, dAndV, dOrV, dNotV, Kb.f0, Kb.f1, Kb.f2, Kb.f4, Kb.fh, Kb.fm, Kb.kn, Kb.k1, F_law_ship, m_law_ship, m1, m2, m3, m4, m5, m6, m7, m8, t1, t2, xP, yP]
structure Dd (a b c d e x y : Rat) : Prop where
  za : Z 3 a
  zb : Z 50 b
  zc : Z 50 c
  zd : Z 3 d
  ze : Z 3 e
  eb : b = -((1 + d) * x + (a - e) * y)
  ec : c = -((a + e) * x + (d - 1) * y)
theorem dead_yl {x y : Rat} (H : Hd x y) : Yl 25 (F_law_dead_five [pr x y]) fun z => ∃ a b c d e, z = pv5 a b c d e ∧ Dd a b c d e x y := by
  intro n l h
  obtain ⟨_, l1, e1, ⟨a, b, c, d, e, rfl, F⟩, k1⟩ := five_yl (w := 3) (k := 3) (by decide) (by decide) (by decide) (by decide) n l h
  obtain ⟨ha, hb, hc, hd, he⟩ := F
  have hx := H.zc
  have hy := H.zs
  have s := L_ship (a := a) (b := 0) (c := 0) (d := d) (e := e) (x := x) (y := y) ⟨ha.up (by decide), z0.up (by decide), z0.up (by decide), hd.up (by decide), he.up (by decide)⟩ (H.zc.up (by decide)) (H.zs.up (by decide))
  refine ⟨_, l1, ?_, ⟨a, -xP a 0 0 d e x y, -yP a 0 0 d e x y, d, e, rfl, ha, ?_, ?_, hd, he, ?_, ?_⟩, k1⟩
  · have b1 := L_back (xP a 0 0 d e x y)
    have b2 := L_back (yP a 0 0 d e x y)
    simp [enOf, runD, runL, dSeq, dIfS, dTest, dOp, dVar, dC, Res.bind, dNext, dSet, dCall, dCallK, perm, dCallL, dCons, dNil, dTup, dLst, dRet, dUn, gNeg, dPar, dAsg, dGTup, dGCons, dName, dGNil, dSetOwn, dNew, dApp, dFrz, dFor, dIt, dZip, zipD, dCB, dDrop, forL, dLc, lcL, wipeE, dYes, gTuple, gList, gLen, gAll, blsD, dIf, dAnd, dOr, dNot, dAndV, dOrV, dNotV, Kb.f0, Kb.f1, Kb.f2, Kb.f4, Kb.fh, Kb.fm, Kb.kn, Kb.k1, F_law_dead_five, m_law_dead_five, e1, s, ix50, ix53, ix54, b1, b2]
  · unfold xP
    walk_at "zz"
  · unfold yP
    walk_at "zz"
  · unfold xP
    grind
  · unfold yP
    grind
theorem canc {a b k : Rat} (hk : k ≠ 0) (h : a * k = b * k) : a = b := by
  have z : (a - b) * k = 0 := by grind
  rcases Rat.mul_eq_zero.mp z with z | z
  · grind
  · exact absurd z hk
/-! loops -/
theorem forL_P {g : DG} {b : DS} {l : Ld} {P : En → Prop} {xs : List Dx.D} (h : ∀ x ∈ xs, ∀ en, P en → ∃ en1 en2, g x en = some en1 ∧ b en1 l = .nx en2 l ∧ P en2) : ∀ en, P en → ∃ en', forL g b xs en l = .nx en' l ∧ P en' := by
  induction xs with
  | nil => exact fun en p => ⟨en, rfl, p⟩
  | cons x xs ih =>
    intro en p
    obtain ⟨e1, e2, h1, h2, h3⟩ := h x (List.mem_cons_self ..) en p
    obtain ⟨e3, h4, h5⟩ := ih (fun y hy => h y (List.mem_cons_of_mem _ hy)) e2 h3
    refine ⟨e3, ?_, h5⟩
    unfold forL
    simp only [h1, h2]
    exact h4
theorem seq_nx {a b : DS} {en en' : En} {l l' : Ld} (h : a en l = .nx en' l') : dSeq a b en l = b en' l' := by
  unfold dSeq
  rw [h]
abbrev dd (d : Dx.D) : Option Sl := some (.dat d)
theorem repr2 {p : Rat} (h : Z 1900 p) : ∃ x, gRepr [.list [fq p, fq p]] = some (.str x) := repr_l (sha_cons (Sh.fq' h) (sha_cons (Sh.fq' h) sha_nil)) (by simp)
end Kb
end
section
set_option Elab.async false
set_option linter.all false
set_option maxRecDepth 100000
set_option maxHeartbeats 4000000
set_option exponentiation.threshold 100
namespace Kb
open PySem Dx Fc
/-! words and tangents -/
theorem wd_cases (N E : Rat) : (0 < E ∧ wd N E = "east") ∨ (E < 0 ∧ wd N E = "west") ∨ (E = 0 ∧ N = 0 ∧ wd N E = "dead") ∨ (E = 0 ∧ 0 < N ∧ wd N E = "plain") ∨ (E = 0 ∧ N < 0 ∧ wd N E = "against") := by
  unfold wd
  rcases sR_cases E with ⟨q, v⟩ | ⟨q, v⟩ | ⟨q, v⟩
  · rw [v]
    exact .inr (.inl ⟨q, rfl⟩)
  · rcases sR_cases N with ⟨p, u⟩ | ⟨p, u⟩ | ⟨p, u⟩ <;> rw [u, v]
    · exact .inr (.inr (.inr (.inr ⟨q, p, rfl⟩)))
    · exact .inr (.inr (.inl ⟨q, p, rfl⟩))
    · exact .inr (.inr (.inr (.inl ⟨q, p, rfl⟩)))
  · rw [v]
    exact .inl ⟨q, rfl⟩
theorem wd_east {N E : Rat} (h : 0 < E) : wd N E = "east" := by
  rcases wd_cases N E with ⟨a, b⟩ | ⟨a, b⟩ | ⟨a, _, b⟩ | ⟨a, _, b⟩ | ⟨a, _, b⟩ <;> first | exact b | (exfalso; grind)
theorem wd_west {N E : Rat} (h : E < 0) : wd N E = "west" := by
  rcases wd_cases N E with ⟨a, b⟩ | ⟨a, b⟩ | ⟨a, _, b⟩ | ⟨a, _, b⟩ | ⟨a, _, b⟩ <;> first | exact b | (exfalso; grind)
theorem wd_zero {N : Rat} (h : N = 0) : wd N 0 = "dead" := by
  rcases wd_cases N 0 with ⟨a, b⟩ | ⟨a, b⟩ | ⟨a, _, b⟩ | ⟨a, _, b⟩ | ⟨a, _, b⟩ <;> first | exact b | (exfalso; grind)
theorem wd_plain {N : Rat} (h : 0 < N) : wd N 0 = "plain" := by
  rcases wd_cases N 0 with ⟨a, b⟩ | ⟨a, b⟩ | ⟨a, _, b⟩ | ⟨a, _, b⟩ | ⟨a, _, b⟩ <;> first | exact b | (exfalso; grind)
theorem wd_against {N : Rat} (h : N < 0) : wd N 0 = "against" := by
  rcases wd_cases N 0 with ⟨a, b⟩ | ⟨a, b⟩ | ⟨a, _, b⟩ | ⟨a, _, b⟩ | ⟨a, _, b⟩ <;> first | exact b | (exfalso; grind)
theorem num_neg (q : Rat) : q.num < 0 ↔ q < 0 := by
  have a := num_pos (-q)
  rw [Rat.neg_num] at a
  constructor
  · intro h
    have := a.mp (by omega)
    grind
  · intro h
    have := a.mpr (by grind)
    omega
theorem F_law_sign_eq (i : Int) : F_law_sign [.int i] = some (.int (sgn i)) := by
  unfold sgn
  by_cases c : i = 0
  · subst c
    rfl
  · by_cases d : 0 < i
    · simp [F_law_sign, runD, m_law_sign, dRet, dIf, dTest, dOp, dVar, dC, enOf, Res.bind, gGt, gLt, g2B, c, d]
    · have e : i < 0 := by omega
      simp [F_law_sign, runD, m_law_sign, dRet, dIf, dTest, dOp, dVar, dC, enOf, Res.bind, gGt, gLt, g2B, c, d, e, dUn, gNeg]
theorem L_sign (q : Rat) : F_law_sign [.int q.num] = some (.int (sR q)) := by rw [F_law_sign_eq, sgn_num]
theorem wx0 (a b c : Dx.D) : gIx (.list [a, b, c]) (.int 0) = some a := rfl
theorem wx1 (a b c : Dx.D) : gIx (.list [a, b, c]) (.int 1) = some b := rfl
theorem wxm (a b c : Dx.D) : gIx (.list [a, b, c]) (.int (-1)) = some c := rfl
theorem L_word (N E : Rat) : F_law_word [fq N, fq E] = some (.str (wd N E)) := by
  have s := L_sign N
  unfold wd
  rcases sR_cases E with ⟨q, v⟩ | ⟨q, v⟩ | ⟨q, v⟩
  · have a : ¬ E.num = 0 := by rw [num_z]; grind
    have b : ¬ 0 < E.num := by rw [num_pos]; grind
    rw [v]
    simp [F_law_word, m_law_word, runD, enOf, dSeq, dIfS, dTest, dOp, dVar, dC, Res.bind, gI0, gNeA_int, a, b, gGt, g2B, dRet, dIf, wdS, -Rat.num_eq_zero]
  · have a : E.num = 0 := by rw [num_z]; exact q
    rw [v]
    rcases sR_cases N with ⟨p, u⟩ | ⟨p, u⟩ | ⟨p, u⟩ <;> rw [u] at s ⊢ <;> simp [F_law_word, m_law_word, runD, enOf, dSeq, dIfS, dTest, dOp, dVar, dC, Res.bind, gI0, gNeA_int, a, gGt, g2B, dRet, dIf, wdS, dNext, dLst, dCons, dNil, dCall, s, wx0, wx1, wxm, -Rat.num_eq_zero]
  · have a : ¬ E.num = 0 := by rw [num_z]; grind
    have b : 0 < E.num := by rw [num_pos]; exact q
    rw [v]
    simp [F_law_word, m_law_word, runD, enOf, dSeq, dIfS, dTest, dOp, dVar, dC, Res.bind, gI0, gNeA_int, a, b, gGt, g2B, dRet, dIf, wdS, -Rat.num_eq_zero]
/-- a fraction or none -/
def oq : Option Rat → Dx.D
  | none => .none
  | some q => fq q
noncomputable def tg (N E : Rat) : Option Rat := if N = 0 then none else some (E / N)
section
variable {a b c d e x y : Rat} (f : Fv 400 a b c d e) (hx : Z 40 x) (hy : Z 40 y) (h : x * x + y * y = 1)
include f hx hy h
theorem P_tan {n : Nat} (zN : Z n (nP a b c d e x y)) (zE : Z n (eP a b c d e x y)) (hn : n ≤ 4000) : F_tangent_at [pv5 a b c d e, pr x y] = some (oq (tg (nP a b c d e x y) (eP a b c d e x y))) := by
  have p1 := P_north f hx hy h
  have p2 := P_east f hx hy h
  unfold tg
  by_cases z : nP a b c d e x y = 0
  · rw [if_pos z]
    simp [enOf, runD, runL, dSeq, dIfS, dTest, dOp, dVar, dC, Res.bind, dNext, dSet, dCall, dCallK, perm, dCallL, dCons, dNil, dTup, dLst, dRet, dUn, gNeg, dPar, dAsg, dGTup, dGCons, dName, dGNil, dSetOwn, dNew, dApp, dFrz, dFor, dIt, dZip, zipD, dCB, dDrop, forL, dLc, lcL, wipeE, dYes, gTuple, gList, gLen, gAll, blsD, dIf, dAnd, dOr, dNot, dAndV, dOrV, dNotV, Kb.f0, Kb.f1, Kb.f2, Kb.f4, Kb.fh, Kb.fm, Kb.kn, Kb.k1, F_tangent_at, m_tangent_at, p1, p2, gEqA_fq, z, oq]
  · rw [if_neg z]
    have p3 := P_over (zE.up hn) (zN.up hn) z
    simp [enOf, runD, runL, dSeq, dIfS, dTest, dOp, dVar, dC, Res.bind, dNext, dSet, dCall, dCallK, perm, dCallL, dCons, dNil, dTup, dLst, dRet, dUn, gNeg, dPar, dAsg, dGTup, dGCons, dName, dGNil, dSetOwn, dNew, dApp, dFrz, dFor, dIt, dZip, zipD, dCB, dDrop, forL, dLc, lcL, wipeE, dYes, gTuple, gList, gLen, gAll, blsD, dIf, dAnd, dOr, dNot, dAndV, dOrV, dNotV, Kb.f0, Kb.f1, Kb.f2, Kb.f4, Kb.fh, Kb.fm, Kb.kn, Kb.k1, F_tangent_at, m_tangent_at, p1, p2, gEqA_fq, z, oq, p3]
end
/-! a five without a part -/
/-- sizes of A, B, C together -/
structure Ft (K : Nat) (a b c d e : Rat) : Prop where
  s : ∃ ka kb kc, Z ka a ∧ Z kb b ∧ Z kc c ∧ ka + kb + kc ≤ K
  zd : Z 3 d
  ze : Z 3 e
theorem Ft.fv {K : Nat} {a b c d e : Rat} (h : Ft K a b c d e) (hK : K ≤ 400) : Fv 400 a b c d e := by
  obtain ⟨ka, kb, kc, h1, h2, h3, h4⟩ := h.s
  exact ⟨h1.up (by omega), h2.up (by omega), h3.up (by omega), h.zd.up (by decide), h.ze.up (by decide)⟩
theorem Ft.zN {K : Nat} {a b c d e x y : Rat} (h : Ft K a b c d e) (H : Hd x y) : Z (K + 105) (nP a b c d e x y) := by
  obtain ⟨ka, kb, kc, h1, h2, h3, h4⟩ := h.s
  unfold nP wv
  exact (((((z1.mul z1).add (h2.mul H.zc)).add (h3.neg.mul H.zs)).add (h.zd.mul H.z2)).add (h.ze.neg.mul H.z3)).up (by omega)
theorem Ft.zE {K : Nat} {a b c d e x y : Rat} (h : Ft K a b c d e) (H : Hd x y) : Z (K + 105) (eP a b c d e x y) := by
  obtain ⟨ka, kb, kc, h1, h2, h3, h4⟩ := h.s
  unfold eP wv
  exact (((((h1.mul z1).add (h3.mul H.zc)).add (h2.mul H.zs)).add (h.ze.mul H.z2)).add (h.zd.mul H.z3)).up (by omega)
theorem sl00 (a b c d e : Dx.D) : gSl (.tuple [a, b, c, d, e]) none (some 2) = some (.tuple [a, b]) := rfl
theorem sl2_ (a b c d e : Dx.D) : gSl (.tuple [a, b, c, d, e]) (some 2) none = some (.tuple [c, d, e]) := rfl
theorem sl3_ (a b c d e : Dx.D) : gSl (.tuple [a, b, c, d, e]) (some 3) none = some (.tuple [d, e]) := rfl
theorem ad11 (a b : Dx.D) : gAdd (.tuple [a]) (.tuple [b]) = some (.tuple [a, b]) := rfl
theorem ad21 (a b c : Dx.D) : gAdd (.tuple [a, b]) (.tuple [c]) = some (.tuple [a, b, c]) := rfl
theorem ad23 (a b c d e : Dx.D) : gAdd (.tuple [a, b]) (.tuple [c, d, e]) = some (.tuple [a, b, c, d, e]) := rfl
theorem turned_yl {K : Nat} {a b c d e x y : Rat} (h : Ft K a b c d e) (H : Hd x y) (hK : K ≤ 139) : Yl 1 (F_law_turned_to [pv5 a b c d e, pr x y]) fun z => ∃ a b c d e, z = pv5 a b c d e ∧ Ft (2 * K + 121) a b c d e := by
  intro n l hl
  obtain ⟨_, l1, e1, ⟨i, rfl, i0, i1⟩, k1⟩ := deal_yl (m := 3) (by decide) (by decide) n l hl
  have hx : Z 40 x := H.zc.up (by decide)
  have hy : Z 40 y := H.zs.up (by decide)
  have n0 := L_needle (h.fv (by omega)) hx hy
  have zN := h.zN H
  have zE := h.zE H
  obtain ⟨ka, kb, kc, h1, h2, h3, h4⟩ := h.s
  have zN' : Z (kb + kc + 105) (nP a b c d e x y) := by
    unfold nP wv
    exact (((((z1.mul z1).add (h2.mul H.zc)).add (h3.neg.mul H.zs)).add (h.zd.mul H.z2)).add (h.ze.neg.mul H.z3)).up (by omega)
  have zE' : Z (ka + kb + kc + 105) (eP a b c d e x y) := by
    unfold eP wv
    exact (((((h1.mul z1).add (h3.mul H.zc)).add (h2.mul H.zs)).add (h.ze.mul H.z2)).add (h.zd.mul H.z3)).up (by omega)
  have by' := L_back y
  obtain rfl | rfl | rfl : i = 0 ∨ i = 1 ∨ i = 2 := by omega
  · have g := L_gap (p := a) (q := eP a b c d e x y) (h1.up (by omega)) (zE.up (by omega))
    refine ⟨_, l1, ?_, ⟨a - eP a b c d e x y, b, c, d, e, rfl, ⟨_, _, _, h1.sub zE', h2, h3, by omega⟩, h.zd, h.ze⟩, k1⟩
    simp [enOf, runD, runL, dSeq, dIfS, dTest, dOp, dVar, dC, Res.bind, dNext, dSet, dCall, dCallK, perm, dCallL, dCons, dNil, dTup, dLst, dRet, dUn, gNeg, dPar, dAsg, dGTup, dGCons, dName, dGNil, dSetOwn, dNew, dApp, dFrz, dFor, dIt, dZip, zipD, dCB, dDrop, forL, dLc, lcL, wipeE, dYes, gTuple, gList, gLen, gAll, blsD, dIf, dAnd, dOr, dNot, dAndV, dOrV, dNotV, Kb.f0, Kb.f1, Kb.f2, Kb.f4, Kb.fh, Kb.fm, Kb.kn, Kb.k1, F_law_turned_to, m_law_turned_to, n0, e1, gEqA_int, ix50, g, dSl, dONone, dOSome, sl1_, ad14]
  · by_cases z : x = 0
    · refine ⟨_, l1, ?_, ⟨a, b, c, d, e, rfl, ⟨_, _, _, h1, h2, h3, by omega⟩, h.zd, h.ze⟩, k1⟩
      have z' := decide_eq_true z
      simp [enOf, runD, runL, dSeq, dIfS, dTest, dOp, dVar, dC, Res.bind, dNext, dSet, dCall, dCallK, perm, dCallL, dCons, dNil, dTup, dLst, dRet, dUn, gNeg, dPar, dAsg, dGTup, dGCons, dName, dGNil, dSetOwn, dNew, dApp, dFrz, dFor, dIt, dZip, zipD, dCB, dDrop, forL, dLc, lcL, wipeE, dYes, gTuple, gList, gLen, gAll, blsD, dIf, dAnd, dOr, dNot, dAndV, dOrV, dNotV, Kb.f0, Kb.f1, Kb.f2, Kb.f4, Kb.fh, Kb.fm, Kb.kn, Kb.k1, F_law_turned_to, m_law_turned_to, n0, e1, gEqA_int, ix20, gI0, z']
    · have q := L_div (p := nP a b c d e x y) (q := x) (zN.up (by omega)) (by walk_at "zz") z
      have g := L_gap (p := b) (q := nP a b c d e x y / x) (h2.up (by omega)) ((zN.div H.zc z).up (by omega))
      refine ⟨_, l1, ?_, ⟨a, b - nP a b c d e x y / x, c, d, e, rfl, ⟨_, _, _, h1, h2.sub (zN'.div H.zc z), h3, by omega⟩, h.zd, h.ze⟩, k1⟩
      simp [enOf, runD, runL, dSeq, dIfS, dTest, dOp, dVar, dC, Res.bind, dNext, dSet, dCall, dCallK, perm, dCallL, dCons, dNil, dTup, dLst, dRet, dUn, gNeg, dPar, dAsg, dGTup, dGCons, dName, dGNil, dSetOwn, dNew, dApp, dFrz, dFor, dIt, dZip, zipD, dCB, dDrop, forL, dLc, lcL, wipeE, dYes, gTuple, gList, gLen, gAll, blsD, dIf, dAnd, dOr, dNot, dAndV, dOrV, dNotV, Kb.f0, Kb.f1, Kb.f2, Kb.f4, Kb.fh, Kb.fm, Kb.kn, Kb.k1, F_law_turned_to, m_law_turned_to, n0, e1, gEqA_int, ix20, gI0, z, q, ix51, g, dSl, dONone, dOSome, sl01, sl2_, ad11, ad23, gAdd, g2I]
  · by_cases z : y = 0
    · refine ⟨_, l1, ?_, ⟨a, b, c, d, e, rfl, ⟨_, _, _, h1, h2, h3, by omega⟩, h.zd, h.ze⟩, k1⟩
      have z' := decide_eq_true z
      simp [enOf, runD, runL, dSeq, dIfS, dTest, dOp, dVar, dC, Res.bind, dNext, dSet, dCall, dCallK, perm, dCallL, dCons, dNil, dTup, dLst, dRet, dUn, gNeg, dPar, dAsg, dGTup, dGCons, dName, dGNil, dSetOwn, dNew, dApp, dFrz, dFor, dIt, dZip, zipD, dCB, dDrop, forL, dLc, lcL, wipeE, dYes, gTuple, gList, gLen, gAll, blsD, dIf, dAnd, dOr, dNot, dAndV, dOrV, dNotV, Kb.f0, Kb.f1, Kb.f2, Kb.f4, Kb.fh, Kb.fm, Kb.kn, Kb.k1, F_law_turned_to, m_law_turned_to, n0, e1, gEqA_int, ix21, gI0, by', z']
    · have z' : -y ≠ 0 := by grind
      have q := L_div (p := nP a b c d e x y) (q := -y) (zN.up (by omega)) (by walk_at "zz") z'
      have g := L_gap (p := c) (q := nP a b c d e x y / -y) (h3.up (by omega)) ((zN.div H.zs.neg z').up (by omega))
      refine ⟨_, l1, ?_, ⟨a, b, c - nP a b c d e x y / -y, d, e, rfl, ⟨_, _, _, h1, h2, h3.sub (zN'.div H.zs.neg z'), by omega⟩, h.zd, h.ze⟩, k1⟩
      simp [enOf, runD, runL, dSeq, dIfS, dTest, dOp, dVar, dC, Res.bind, dNext, dSet, dCall, dCallK, perm, dCallL, dCons, dNil, dTup, dLst, dRet, dUn, gNeg, dPar, dAsg, dGTup, dGCons, dName, dGNil, dSetOwn, dNew, dApp, dFrz, dFor, dIt, dZip, zipD, dCB, dDrop, forL, dLc, lcL, wipeE, dYes, gTuple, gList, gLen, gAll, blsD, dIf, dAnd, dOr, dNot, dAndV, dOrV, dNotV, Kb.f0, Kb.f1, Kb.f2, Kb.f4, Kb.fh, Kb.fm, Kb.kn, Kb.k1, F_law_turned_to, m_law_turned_to, n0, e1, gEqA_int, ix21, gI0, by', z, q, ix52, g, dSl, dONone, dOSome, sl00, sl3_, ad21, ad32, gAdd, g2I]
end Kb
end
section
set_option Elab.async false
set_option linter.all false
set_option maxRecDepth 100000
set_option maxHeartbeats 4000000
set_option exponentiation.threshold 100
namespace Kb
open PySem Dx Fc
/-! irons and places -/
abbrev r4 (a b c d : Rat) : Dx.D := .tuple [fq a, fq b, fq c, fq d]
structure Z4 (k : Nat) (a b c d : Rat) : Prop where
  a : Z k a
  b : Z k b
  c : Z k c
  d : Z k d
theorem Z4.up {k m : Nat} {a b c d : Rat} (h : Z4 k a b c d) (n : k ≤ m) : Z4 m a b c d := ⟨h.a.up n, h.b.up n, h.c.up n, h.d.up n⟩
theorem z4_0 : Z4 1 0 0 0 0 := ⟨z0, z0, z0, z0⟩
noncomputable def keptE : DE := dOrV (dOp gGt (dVar 3) (dC (.int 1))) (dOrV (dAndV (dOp gEqA (dVar 3) (dC (.int 0))) (dOp gEqA (dVar 6) (dC (.int 3)))) (dAndV (dOp gEqA (dVar 3) (dC (.int 1))) (dOp gLt (dVar 6) (dC (.int 3)))))
noncomputable def cellS : DS := dSeq (dSet 7 keptE)
    (dApp 5 (dIf (dTest (dVar 7)) (dCallL 0 1 F_law_any_part (dCons (dVar 1) dNil)) (dTup (dCons (dC (.int 0)) (dCons (dC (.int 1)) dNil)))))
theorem kept_b (w i j : Int) (o2 o5 : List Dx.D) (lap : Option Sl) (v7 : Option Sl) (l : Ld) : ∃ b, keptE [some .lode, dd (.int w), some (.own o2), dd (.int i), lap, some (.own o5), dd (.int j), v7] l = .ok (.bool b) l := by
  by_cases h1 : 1 < i
  · refine ⟨true, ?_⟩
    simp [keptE, dOrV, dAndV, dTest, dOp, dVar, dC, Res.bind, gGt, g2B, h1]
  · by_cases h2 : i = 0
    · refine ⟨decide (j = 3), ?_⟩
      subst h2
      by_cases h4 : j = 3
      · simp [keptE, dOrV, dAndV, dTest, dOp, dVar, dC, Res.bind, gGt, g2B, gEqA_int, h4]
      · simp [keptE, dOrV, dAndV, dTest, dOp, dVar, dC, Res.bind, gGt, g2B, gEqA_int, h4]
    · by_cases h3 : i = 1
      · subst h3
        refine ⟨decide (j < 3), ?_⟩
        simp [keptE, dOrV, dAndV, dTest, dOp, dVar, dC, Res.bind, gGt, g2B, gEqA_int, gLt]
      · refine ⟨false, ?_⟩
        simp [keptE, dOrV, dAndV, dTest, dOp, dVar, dC, Res.bind, gGt, g2B, gEqA_int, h1, h2, h3]
theorem cell_yl {w : Int} {k : Nat} (h0 : 1 ≤ w) (h1 : w ≤ 1000000000) (h2 : w < ((2 ^ k : Nat) : Int)) (h3 : 3 ≤ k) (i j : Int) (o2 o5 : List Dx.D) (lap v7 : Option Sl) (n : Nat) (l : Ld) (h : Lk (n + 4) l) (hl5 : o5.length ≤ 100) : ∃ q l' v, cellS [some .lode, dd (.int w), some (.own o2), dd (.int i), lap, some (.own o5), dd (.int j), v7] l = .nx [some .lode, dd (.int w), some (.own o2), dd (.int i), lap, some (.own (o5 ++ [fq q])), dd (.int j), v] l' ∧ Z k q ∧ Lk n l' := by
  obtain ⟨b, hb⟩ := kept_b w i j o2 o5 lap v7 l
  cases b
  · refine ⟨0, l, dd (.bool false), ?_, z0.up (by omega), h.dn (by omega)⟩
    simp [enOf, runD, runL, dSeq, dIfS, dTest, dOp, dVar, dC, Res.bind, dNext, dSet, dCall, dCallK, perm, dCallL, dCons, dNil, dTup, dLst, dRet, dUn, gNeg, dPar, dAsg, dGTup, dGCons, dName, dGNil, dSetOwn, dNew, dApp, dFrz, dFor, dIt, dZip, zipD, dCB, dDrop, forL, dLc, lcL, wipeE, dYes, gTuple, gList, gLen, gAll, blsD, dIf, dAnd, dOr, dNot, dAndV, dOrV, dNotV, Kb.f0, Kb.f1, Kb.f2, Kb.f4, Kb.fh, Kb.fm, Kb.kn, Kb.k1, cellS, hb]
    omega
  · obtain ⟨_, l1, e1, ⟨q, rfl, z⟩, k1⟩ := any_yl h0 h1 h2 h3 n l h
    refine ⟨q, l1, dd (.bool true), ?_, z, k1⟩
    simp [enOf, runD, runL, dSeq, dIfS, dTest, dOp, dVar, dC, Res.bind, dNext, dSet, dCall, dCallK, perm, dCallL, dCons, dNil, dTup, dLst, dRet, dUn, gNeg, dPar, dAsg, dGTup, dGCons, dName, dGNil, dSetOwn, dNew, dApp, dFrz, dFor, dIt, dZip, zipD, dCB, dDrop, forL, dLc, lcL, wipeE, dYes, gTuple, gList, gLen, gAll, blsD, dIf, dAnd, dOr, dNot, dAndV, dOrV, dNotV, Kb.f0, Kb.f1, Kb.f2, Kb.f4, Kb.fh, Kb.fm, Kb.kn, Kb.k1, cellS, hb, e1]
    omega
noncomputable def rowS : DS := dSeq (dSetOwn 5 (dNew dNil))
    (dSeq (dFor (dRng1 (dCons (dC (.int 4)) dNil)) (dName 6) cellS)
    (dFrz 5 (dApp 2 (dCB gTuple (dCons (dVar 5) dNil)))))
theorem row_yl {w : Int} {k : Nat} (h0 : 1 ≤ w) (h1 : w ≤ 1000000000) (h2 : w < ((2 ^ k : Nat) : Int)) (h3 : 3 ≤ k) (i : Int) (o2 : List Dx.D) (lap v5 v6 v7 : Option Sl) (n : Nat) (l : Ld) (h : Lk (n + 16) l) (hl2 : o2.length ≤ 100) : ∃ a b c d l' w5 w6 w7, rowS [some .lode, dd (.int w), some (.own o2), dd (.int i), lap, v5, v6, v7] l = .nx [some .lode, dd (.int w), some (.own (o2 ++ [r4 a b c d])), dd (.int i), lap, w5, w6, w7] l' ∧ Z4 k a b c d ∧ Lk n l' := by
  obtain ⟨a, l1, u1, e1, za, k1⟩ := cell_yl h0 h1 h2 h3 i 0 o2 [] lap v7 (n + 12) l h (by simp)
  obtain ⟨b, l2, u2, e2, zb, k2⟩ := cell_yl h0 h1 h2 h3 i 1 o2 [fq a] lap u1 (n + 8) l1 k1 (by simp)
  obtain ⟨c, l3, u3, e3, zc, k3⟩ := cell_yl h0 h1 h2 h3 i 2 o2 [fq a, fq b] lap u2 (n + 4) l2 k2 (by simp)
  obtain ⟨d, l4, u4, e4, zd, k4⟩ := cell_yl h0 h1 h2 h3 i 3 o2 [fq a, fq b, fq c] lap u3 n l3 k3 (by simp)
  refine ⟨a, b, c, d, l4, dd (.list [fq a, fq b, fq c, fq d]), dd (.int 3), u4, ?_, ⟨za, zb, zc, zd⟩, k4⟩
  have rg : dRng1 (dCons (dC (.int 4)) dNil) [some .lode, dd (.int w), some (.own o2), dd (.int i), lap, some (.own []), v6, v7] l = .ok [.int 0, .int 1, .int 2, .int 3] l := rfl
  simp only [List.nil_append, List.cons_append] at e1 e2 e3 e4
  simp [enOf, runD, runL, dSeq, dIfS, dTest, dOp, dVar, dC, Res.bind, dNext, dSet, dCall, dCallK, perm, dCallL, dCons, dNil, dTup, dLst, dRet, dUn, gNeg, dPar, dAsg, dGTup, dGCons, dName, dGNil, dSetOwn, dNew, dApp, dFrz, dFor, dIt, dZip, zipD, dCB, dDrop, forL, dLc, lcL, wipeE, dYes, gTuple, gList, gLen, gAll, blsD, dIf, dAnd, dOr, dNot, dAndV, dOrV, dNotV, Kb.f0, Kb.f1, Kb.f2, Kb.f4, Kb.fh, Kb.fm, Kb.kn, Kb.k1, rowS, rg, e1, e2, e3, e4]
  omega
abbrev ir (R S T : Dx.D) : Dx.D := .tuple [R, S, T]
theorem iron_yl {w : Int} {k : Nat} (h0 : 1 ≤ w) (h1 : w ≤ 1000000000) (h2 : w < ((2 ^ k : Nat) : Int)) (h3 : 3 ≤ k) : Yl 49 (F_law_iron [.int w]) fun z => ∃ a b c p d e f q g j m r, z = ir (r4 a b c p) (r4 d e f q) (r4 g j m r) ∧ Z4 k a b c p ∧ Z4 k d e f q ∧ Z4 k g j m r := by
  intro n l h
  obtain ⟨_, l1, e1, ⟨i, rfl, i0, i1⟩, k1⟩ := deal_yl (m := 6) (by decide) (by decide) (n + 48) l h
  obtain ⟨a, b, c, p, l2, u5, u6, u7, e2, z2, k2⟩ := row_yl h0 h1 h2 h3 i [] (dd (.int 0)) none none none (n + 32) l1 k1 (by simp)
  obtain ⟨d, e, f, q, l3, v5, v6, v7, e3, z3, k3⟩ := row_yl h0 h1 h2 h3 i [r4 a b c p] (dd (.int 1)) u5 u6 u7 (n + 16) l2 k2 (by simp)
  obtain ⟨g, j, m, r, l4, w5, w6, w7, e4, z4, k4⟩ := row_yl h0 h1 h2 h3 i [r4 a b c p, r4 d e f q] (dd (.int 2)) v5 v6 v7 n l3 k3 (by simp)
  refine ⟨_, l4, ?_, ⟨a, b, c, p, d, e, f, q, g, j, m, r, rfl, z2, z3, z4⟩, k4⟩
  have rg : ∀ en l, dRng1 (dCons (dC (.int 3)) dNil) en l = .ok [.int 0, .int 1, .int 2] l := fun _ _ => rfl
  have un : m_law_iron = dSeq (dOPar 2 3 (dNew dNil) (dCallL 0 1 F_law_deal (dCons (dC (.int 6)) dNil)))
    (dSeq (dFor (dRng1 (dCons (dC (.int 3)) dNil)) (dName 4) rowS)
    (dFrz 2 (dRet (dCB gTuple (dCons (dVar 2) dNil))))) := rfl
  simp only [List.nil_append, List.cons_append] at e2 e3 e4
  unfold F_law_iron runL
  rw [un]
  simp [enOf, runD, runL, dSeq, dIfS, dTest, dOp, dVar, dC, Res.bind, dNext, dSet, dCall, dCallK, perm, dCallL, dCons, dNil, dTup, dLst, dRet, dUn, gNeg, dPar, dAsg, dGTup, dGCons, dName, dGNil, dSetOwn, dNew, dApp, dFrz, dFor, dIt, dZip, zipD, dCB, dDrop, forL, dLc, lcL, wipeE, dYes, gTuple, gList, gLen, gAll, blsD, dIf, dAnd, dOr, dNot, dAndV, dOrV, dNotV, Kb.f0, Kb.f1, Kb.f2, Kb.f4, Kb.fh, Kb.fm, Kb.kn, Kb.k1, dOPar, e1, rg, e2, e3, e4]
theorem over_yl {w : Int} {k : Nat} (h0 : 1 ≤ w) (h1 : w ≤ 1000000000) (h2 : w + 1 < ((2 ^ k : Nat) : Int)) (h3 : 3 ≤ k) : Yl 4 (F_law_over [.int w]) fun d => ∃ q, d = fq q ∧ Z k q ∧ 0 < q := by
  intro n l h
  have k8 : 2 ^ 3 ≤ 2 ^ k := Nat.pow_le_pow_right (by decide) h3
  obtain ⟨_, l1, e1, ⟨i, rfl, i0, i1⟩, k1⟩ := about_yl h0 h1 (n + 2) l h
  obtain ⟨d, l2, e2, hd, k2⟩ := some_yl (ds := [.int 1, .int 1, .int 2, .int 3, .int 7]) (by simp) (by simp) (n + 1) l1 k1
  obtain ⟨m, rfl, m0, m1⟩ : ∃ m, d = .int m ∧ 1 ≤ m ∧ m ≤ 7 := by
    simp at hd
    rcases hd with rfl | rfl | rfl | rfl <;> exact ⟨_, rfl, by decide, by decide⟩
  obtain ⟨_, l3, e3, ⟨j, rfl, j0, j1⟩, k3⟩ := deal_yl (m := m) (by omega) (by omega) n l2 k2
  have bj : Bd k (1 + j) := by
    unfold Bd
    omega
  have habs : gAbs [.int i] = some (.int (if i < 0 then -i else i)) := rfl
  obtain ⟨a, ha⟩ : ∃ a, (if i < 0 then -i else i) = a := ⟨_, rfl⟩
  have a0 : 0 ≤ a ∧ a ≤ w := by
    rw [← ha]
    split <;> omega
  rw [ha] at habs
  have bi : Bd k (1 + a) := by
    unfold Bd
    omega
  have bj' : Bd 9000 (1 + j) := bd_of 20 (by omega) (by omega) (by decide)
  have e4 := P_part (t := 1 + a) (b := 1 + j) (by omega) bj'
  refine ⟨_, l3, ?_, ⟨_, rfl, Z.of (by omega) bi bj, ?_⟩, k3⟩
  · simp only [F_law_over, runL, m_law_over, enOf, dRet, dCall, dCallL, dCons, dNil, dOp, dC, dVar, Res.bind, dLst, dCB]
    simp [e1, habs, e2, e3, gAdd, g2I, e4]
  · have x : (0 : Rat) < ((1 + a : Int) : Rat) := by exact_mod_cast (show (0 : Int) < 1 + a by omega)
    have y : (0 : Rat) < ((1 + j : Int) : Rat) := by exact_mod_cast (show (0 : Int) < 1 + j by omega)
    rw [Rat.div_def]
    exact Rat.mul_pos x (Rat.inv_pos.mpr y)
theorem place_yl {w : Int} {k : Nat} (h0 : 1 ≤ w) (h1 : w ≤ 1000000000) (h2 : w + 1 < ((2 ^ k : Nat) : Int)) (h3 : 3 ≤ k) : Yl 8 (F_law_place [.int w]) fun d => ∃ h v, d = pr h v ∧ Z k h ∧ Z k v ∧ 0 < h := by
  intro n l h
  obtain ⟨_, l1, e1, ⟨a, rfl, za, pa⟩, k1⟩ := over_yl h0 h1 h2 h3 (n + 4) l h
  obtain ⟨_, l2, e2, ⟨b, rfl, zb⟩, k2⟩ := any_yl (k := k) h0 h1 (by omega) h3 n l1 k1
  refine ⟨_, l2, ?_, ⟨a, b, rfl, za, zb, pa⟩, k2⟩
  simp [enOf, runD, runL, dSeq, dIfS, dTest, dOp, dVar, dC, Res.bind, dNext, dSet, dCall, dCallK, perm, dCallL, dCons, dNil, dTup, dLst, dRet, dUn, gNeg, dPar, dAsg, dGTup, dGCons, dName, dGNil, dSetOwn, dNew, dApp, dFrz, dFor, dIt, dZip, zipD, dCB, dDrop, forL, dLc, lcL, wipeE, dYes, gTuple, gList, gLen, gAll, blsD, dIf, dAnd, dOr, dNot, dAndV, dOrV, dNotV, Kb.f0, Kb.f1, Kb.f2, Kb.f4, Kb.fh, Kb.fm, Kb.kn, Kb.k1, F_law_place, m_law_place, e1, e2]
theorem ix30 (a b c : Dx.D) : gIx (.tuple [a, b, c]) (.int 0) = some a := rfl
theorem ix31 (a b c : Dx.D) : gIx (.tuple [a, b, c]) (.int 1) = some b := rfl
theorem ix32 (a b c : Dx.D) : gIx (.tuple [a, b, c]) (.int 2) = some c := rfl
theorem ix40 (a b c d : Dx.D) : gIx (.tuple [a, b, c, d]) (.int 0) = some a := rfl
theorem ix41 (a b c d : Dx.D) : gIx (.tuple [a, b, c, d]) (.int 1) = some b := rfl
theorem ix42 (a b c d : Dx.D) : gIx (.tuple [a, b, c, d]) (.int 2) = some c := rfl
theorem ix43 (a b c d : Dx.D) : gIx (.tuple [a, b, c, d]) (.int 3) = some d := rfl
noncomputable def sgt (a e : Rat) : Rat := 1 + 1 / 2 * (a + e)
theorem L_strength {a b c p d e f q : Rat} {T : Dx.D} (ha : Z 900 a) (he : Z 900 e) : F_law_strength [ir (r4 a b c p) (r4 d e f q) T] = some (fq (sgt a e)) := by
  have m1 := L_add (p := a) (q := e) (by walk_at "zz") (by walk_at "zz")
  have m2 := L_mul (p := 1 / 2) (q := a + e) (by walk_at "zz") (by walk_at "zz")
  have m3 := L_add (p := 1) (q := 1 / 2 * (a + e)) (by walk_at "zz") (by walk_at "zz")
  unfold sgt
  simp [enOf, runD, runL, dSeq, dIfS, dTest, dOp, dVar, dC, Res.bind, dNext, dSet, dCall, dCallK, perm, dCallL, dCons, dNil, dTup, dLst, dRet, dUn, gNeg, dPar, dAsg, dGTup, dGCons, dName, dGNil, dSetOwn, dNew, dApp, dFrz, dFor, dIt, dZip, zipD, dCB, dDrop, forL, dLc, lcL, wipeE, dYes, gTuple, gList, gLen, gAll, blsD, dIf, dAnd, dOr, dNot, dAndV, dOrV, dNotV, Kb.f0, Kb.f1, Kb.f2, Kb.f4, Kb.fh, Kb.fm, Kb.kn, Kb.k1, F_law_strength, m_law_strength, ix30, ix31, ix40, ix41, m1, m2, m3]
theorem P_row4 (a b c d : Rat) : F_is_row [r4 a b c d, .int 4] = some (.bool true) := by
  simp [F_is_row, runD, m_is_row, enOf, dRet, dAndV, dTest, dIsi, dVar, Res.bind, tyN, kb0, dOp, dCB, gLen, dCons, dNil, dC, gEqA_int, gAll, blsD, dLc, dIt, lcL, wipeE, dName, dYes, dCall, P_isf]
theorem P_piece (a b c p d e f q g j m r : Rat) : F_is_piece [ir (r4 a b c p) (r4 d e f q) (r4 g j m r)] = some (.bool true) := by
  simp [F_is_piece, runD, m_is_piece, enOf, dRet, dAndV, dTest, dIsi, dVar, Res.bind, tyN, kb0, dOp, dCB, gLen, dCons, dNil, dC, gEqA_int, gAll, blsD, dLc, dIt, lcL, wipeE, dName, dYes, dCall, P_row4]
section
variable {a b c p d e f q g j m r : Rat} (ha : Z 900 a) (he : Z 900 e) (hs : 0 < sgt a e)
include ha he hs
theorem P_iron : F_is_iron [ir (r4 a b c p) (r4 d e f q) (r4 g j m r)] = some (.bool true) := by
  have m1 := P_plus (p := a) (q := e) (by walk_at "zz") (by walk_at "zz")
  have m2 := P_plus (p := 2) (q := a + e) (by walk_at "zz") (by walk_at "zz")
  have s := P_sign (2 + (a + e))
  have s1 : sR (2 + (a + e)) = 1 := by
    unfold sgt at hs
    rcases sR_cases (2 + (a + e)) with ⟨x, y⟩ | ⟨x, y⟩ | ⟨x, y⟩
    · grind
    · grind
    · exact y
  rw [s1] at s
  simp [enOf, runD, runL, dSeq, dIfS, dTest, dOp, dVar, dC, Res.bind, dNext, dSet, dCall, dCallK, perm, dCallL, dCons, dNil, dTup, dLst, dRet, dUn, gNeg, dPar, dAsg, dGTup, dGCons, dName, dGNil, dSetOwn, dNew, dApp, dFrz, dFor, dIt, dZip, zipD, dCB, dDrop, forL, dLc, lcL, wipeE, dYes, gTuple, gList, gLen, gAll, blsD, dIf, dAnd, dOr, dNot, dAndV, dOrV, dNotV, Kb.f0, Kb.f1, Kb.f2, Kb.f4, Kb.fh, Kb.fm, Kb.kn, Kb.k1, F_is_iron, m_is_iron, P_piece, ix30, ix31, ix40, ix41, m1, m2, s, gGt, g2B]
theorem P_ciron : F_check_iron [ir (r4 a b c p) (r4 d e f q) (r4 g j m r)] = some .none := by
  have h := P_iron (b := b) (c := c) (p := p) (d := d) (f := f) (q := q) (g := g) (j := j) (m := m) (r := r) ha he hs
  simp [enOf, runD, runL, dSeq, dIfS, dTest, dOp, dVar, dC, Res.bind, dNext, dSet, dCall, dCallK, perm, dCallL, dCons, dNil, dTup, dLst, dRet, dUn, gNeg, dPar, dAsg, dGTup, dGCons, dName, dGNil, dSetOwn, dNew, dApp, dFrz, dFor, dIt, dZip, zipD, dCB, dDrop, forL, dLc, lcL, wipeE, dYes, gTuple, gList, gLen, gAll, blsD, dIf, dAnd, dOr, dNot, dAndV, dOrV, dNotV, Kb.f0, Kb.f1, Kb.f2, Kb.f4, Kb.fh, Kb.fm, Kb.kn, Kb.k1, F_check_iron, m_check_iron, h]
theorem P_strength : F_strength_of [ir (r4 a b c p) (r4 d e f q) (r4 g j m r)] = some (fq (sgt a e)) := by
  have h := P_ciron (b := b) (c := c) (p := p) (d := d) (f := f) (q := q) (g := g) (j := j) (m := m) (r := r) ha he hs
  have m1 := P_plus (p := a) (q := e) (by walk_at "zz") (by walk_at "zz")
  have m2 := P_times (p := 1 / 2) (q := a + e) (by walk_at "zz") (by walk_at "zz")
  have m3 := P_plus (p := 1) (q := 1 / 2 * (a + e)) (by walk_at "zz") (by walk_at "zz")
  unfold sgt
  simp [enOf, runD, runL, dSeq, dIfS, dTest, dOp, dVar, dC, Res.bind, dNext, dSet, dCall, dCallK, perm, dCallL, dCons, dNil, dTup, dLst, dRet, dUn, gNeg, dPar, dAsg, dGTup, dGCons, dName, dGNil, dSetOwn, dNew, dApp, dFrz, dFor, dIt, dZip, zipD, dCB, dDrop, forL, dLc, lcL, wipeE, dYes, gTuple, gList, gLen, gAll, blsD, dIf, dAnd, dOr, dNot, dAndV, dOrV, dNotV, Kb.f0, Kb.f1, Kb.f2, Kb.f4, Kb.fh, Kb.fm, Kb.kn, Kb.k1, F_strength_of, m_strength_of, h, kh, ix30, ix31, ix40, ix41, m1, m2, m3]
end
theorem P_cplace {h v : Rat} (hh : 0 < h) : F_check_place [pr h v] = some .none := by
  have s := P_sign h
  have s1 : sR h = 1 := by
    rcases sR_cases h with ⟨x, y⟩ | ⟨x, y⟩ | ⟨x, y⟩
    · grind
    · grind
    · exact y
  rw [s1] at s
  have e : F_is_place [pr h v] = some (.bool true) := by
    simp [enOf, runD, runL, dSeq, dIfS, dTest, dOp, dVar, dC, Res.bind, dNext, dSet, dCall, dCallK, perm, dCallL, dCons, dNil, dTup, dLst, dRet, dUn, gNeg, dPar, dAsg, dGTup, dGCons, dName, dGNil, dSetOwn, dNew, dApp, dFrz, dFor, dIt, dZip, zipD, dCB, dDrop, forL, dLc, lcL, wipeE, dYes, gTuple, gList, gLen, gAll, blsD, dIf, dAnd, dOr, dNot, dAndV, dOrV, dNotV, Kb.f0, Kb.f1, Kb.f2, Kb.f4, Kb.fh, Kb.fm, Kb.kn, Kb.k1, F_is_place, m_is_place, P_row2, ix20, s, gGt, g2B]
  simp [enOf, runD, runL, dSeq, dIfS, dTest, dOp, dVar, dC, Res.bind, dNext, dSet, dCall, dCallK, perm, dCallL, dCons, dNil, dTup, dLst, dRet, dUn, gNeg, dPar, dAsg, dGTup, dGCons, dName, dGNil, dSetOwn, dNew, dApp, dFrz, dFor, dIt, dZip, zipD, dCB, dDrop, forL, dLc, lcL, wipeE, dYes, gTuple, gList, gLen, gAll, blsD, dIf, dAnd, dOr, dNot, dAndV, dOrV, dNotV, Kb.f0, Kb.f1, Kb.f2, Kb.f4, Kb.fh, Kb.fm, Kb.kn, Kb.k1, F_check_place, m_check_place, e]
/-- the five -/
noncomputable def fvA (S d b : Rat) : Rat := (d - b) / (2 * S)
noncomputable def fvB (S c v p h : Rat) : Rat := (c * v + p) / (S * h)
noncomputable def fvD (S a e : Rat) : Rat := (a - e) / (2 * S)
noncomputable def fvE (S d b : Rat) : Rat := (d + b) / (2 * S)
noncomputable abbrev fiv (a b c p d e f q h v : Rat) : Dx.D := pv5 (fvA (sgt a e) d b) (fvB (sgt a e) c v p h) (fvB (sgt a e) f v q h) (fvD (sgt a e) a e) (fvE (sgt a e) d b)
theorem mul_ne {a b : Rat} (h : a ≠ 0) (k : b ≠ 0) : a * b ≠ 0 := fun z => by
  rcases Rat.mul_eq_zero.mp z with z | z
  · exact h z
  · exact k z
section
variable {a b c p d e f q g j m r h v : Rat} {T : Dx.D} (h1 : Z4 200 a b c p) (h2 : Z4 200 d e f q) (zh : Z 260 h) (zv : Z 260 v) (hs : 0 < sgt a e) (hh : 0 < h)
include h1 h2 zh zv hs hh
theorem L_five : F_law_five [ir (r4 a b c p) (r4 d e f q) T, pr h v] = some (fiv a b c p d e f q h v) := by
  obtain ⟨ha, hb, hc, hp⟩ := h1
  obtain ⟨hd, he, hf, hq⟩ := h2
  have s := L_strength (b := b) (c := c) (p := p) (d := d) (f := f) (q := q) (T := T) (ha.up (by decide)) (he.up (by decide))
  have zS : Z 410 (sgt a e) := by unfold sgt; walk_at "zz"
  unfold fiv fvA fvB fvD fvE
  generalize sgt a e = S at *
  have n1 : 2 * S ≠ 0 := by grind
  have n2 : S * h ≠ 0 := mul_ne (by grind) (by grind)
  have m1 := L_mul (p := 2) (q := S) (by walk_at "zz") (by walk_at "zz")
  have m2 := L_mul (p := S) (q := h) (by walk_at "zz") (by walk_at "zz")
  have m3 := L_mul (p := c) (q := v) (by walk_at "zz") (by walk_at "zz")
  have m4 := L_add (p := c * v) (q := p) (by walk_at "zz") (by walk_at "zz")
  have m5 := L_div (p := c * v + p) (q := S * h) (by walk_at "zz") (by walk_at "zz") n2
  have m6 := L_mul (p := f) (q := v) (by walk_at "zz") (by walk_at "zz")
  have m7 := L_add (p := f * v) (q := q) (by walk_at "zz") (by walk_at "zz")
  have m8 := L_div (p := f * v + q) (q := S * h) (by walk_at "zz") (by walk_at "zz") n2
  have m9 := L_gap (p := d) (q := b) (by walk_at "zz") (by walk_at "zz")
  have m10 := L_div (p := d - b) (q := 2 * S) (by walk_at "zz") (by walk_at "zz") n1
  have m11 := L_add (p := d) (q := b) (by walk_at "zz") (by walk_at "zz")
  have m12 := L_div (p := d + b) (q := 2 * S) (by walk_at "zz") (by walk_at "zz") n1
  have m13 := L_gap (p := a) (q := e) (by walk_at "zz") (by walk_at "zz")
  have m14 := L_div (p := a - e) (q := 2 * S) (by walk_at "zz") (by walk_at "zz") n1
  simp [enOf, runD, runL, dSeq, dIfS, dTest, dOp, dVar, dC, Res.bind, dNext, dSet, dCall, dCallK, perm, dCallL, dCons, dNil, dTup, dLst, dRet, dUn, gNeg, dPar, dAsg, dGTup, dGCons, dName, dGNil, dSetOwn, dNew, dApp, dFrz, dFor, dIt, dZip, zipD, dCB, dDrop, forL, dLc, lcL, wipeE, dYes, gTuple, gList, gLen, gAll, blsD, dIf, dAnd, dOr, dNot, dAndV, dOrV, dNotV, Kb.f0, Kb.f1, Kb.f2, Kb.f4, Kb.fh, Kb.fm, Kb.kn, Kb.k1, F_law_five, m_law_five, s, m1, m2, m3, m4, m5, m6, m7, m8, m9, m10, m11, m12, m13, m14]
theorem P_fiveof : F_five_of [ir (r4 a b c p) (r4 d e f q) (r4 g j m r), pr h v] = some (fiv a b c p d e f q h v) := by
  obtain ⟨ha, hb, hc, hp⟩ := h1
  obtain ⟨hd, he, hf, hq⟩ := h2
  have s := P_strength (b := b) (c := c) (p := p) (d := d) (f := f) (q := q) (g := g) (j := j) (m := m) (r := r) (ha.up (by decide)) (he.up (by decide)) hs
  have cp := P_cplace (v := v) hh
  have zS : Z 410 (sgt a e) := by unfold sgt; walk_at "zz"
  unfold fiv fvA fvB fvD fvE
  generalize sgt a e = S at *
  have n1 : S + S ≠ 0 := by grind
  have n2 : S * h ≠ 0 := mul_ne (by grind) (by grind)
  have m1 := P_plus (p := S) (q := S) (by walk_at "zz") (by walk_at "zz")
  have m2 := P_times (p := S) (q := h) (by walk_at "zz") (by walk_at "zz")
  have m3 := P_times (p := c) (q := v) (by walk_at "zz") (by walk_at "zz")
  have m4 := P_plus (p := c * v) (q := p) (by walk_at "zz") (by walk_at "zz")
  have m5 := P_over (p := c * v + p) (q := S * h) (by walk_at "zz") (by walk_at "zz") n2
  have m6 := P_times (p := f) (q := v) (by walk_at "zz") (by walk_at "zz")
  have m7 := P_plus (p := f * v) (q := q) (by walk_at "zz") (by walk_at "zz")
  have m8 := P_over (p := f * v + q) (q := S * h) (by walk_at "zz") (by walk_at "zz") n2
  have m9 := P_minus (p := d) (q := b) (by walk_at "zz") (by walk_at "zz")
  have m10 := P_over (p := d - b) (q := S + S) (by walk_at "zz") (by walk_at "zz") n1
  have m11 := P_plus (p := d) (q := b) (by walk_at "zz") (by walk_at "zz")
  have m12 := P_over (p := d + b) (q := S + S) (by walk_at "zz") (by walk_at "zz") n1
  have m13 := P_minus (p := a) (q := e) (by walk_at "zz") (by walk_at "zz")
  have m14 := P_over (p := a - e) (q := S + S) (by walk_at "zz") (by walk_at "zz") n1
  rw [show 2 * S = S + S from by grind]
  simp [enOf, runD, runL, dSeq, dIfS, dTest, dOp, dVar, dC, Res.bind, dNext, dSet, dCall, dCallK, perm, dCallL, dCons, dNil, dTup, dLst, dRet, dUn, gNeg, dPar, dAsg, dGTup, dGCons, dName, dGNil, dSetOwn, dNew, dApp, dFrz, dFor, dIt, dZip, zipD, dCB, dDrop, forL, dLc, lcL, wipeE, dYes, gTuple, gList, gLen, gAll, blsD, dIf, dAnd, dOr, dNot, dAndV, dOrV, dNotV, Kb.f0, Kb.f1, Kb.f2, Kb.f4, Kb.fh, Kb.fm, Kb.kn, Kb.k1, F_five_of, m_five_of, s, cp, m1, m2, m3, m4, m5, m6, m7, m8, m9, m10, m11, m12, m13, m14]
end
theorem L_strong_yl {w : Int} {k : Nat} (h0 : 1 ≤ w) (h1 : w ≤ 1000000000) (h2 : w + 1 < ((2 ^ k : Nat) : Int)) (h3 : 3 ≤ k) (h4 : k ≤ 100) : Yl 53 (F_law_strong [.int w]) fun z => ∃ a b c p d e f q g j m r, z = ir (r4 a b c p) (r4 d e f q) (r4 g j m r) ∧ Z4 (2 * k + 5) a b c p ∧ Z4 (2 * k + 5) d e f q ∧ Z4 (2 * k + 5) g j m r ∧ 0 < sgt a e := by
  intro n l h
  obtain ⟨_, l1, e1, ⟨a, b, c, p, d, e, f, q, g, j, m, r, rfl, z1', z2', z3'⟩, k1⟩ := iron_yl (k := k) h0 h1 (by omega) h3 (n + 4) l h
  have s := L_strength (b := b) (c := c) (p := p) (d := d) (f := f) (q := q) (T := r4 g j m r) (z1'.a.up (by omega)) (z2'.b.up (by omega))
  by_cases hs : 0 < sgt a e
  · refine ⟨_, l1, ?_, ⟨a, b, c, p, d, e, f, q, g, j, m, r, rfl, z1'.up (by omega), z2'.up (by omega), z3'.up (by omega), hs⟩, k1.dn (by omega)⟩
    have hn := (num_pos (sgt a e)).mpr hs
    simp only [F_law_strong, m_law_strong]
    simp [enOf, runD, runL, dSeq, dIfS, dTest, dOp, dVar, dC, Res.bind, dNext, dSet, dCall, dCallK, perm, dCallL, dCons, dNil, dTup, dLst, dRet, dUn, gNeg, dPar, dAsg, dGTup, dGCons, dName, dGNil, dSetOwn, dNew, dApp, dFrz, dFor, dIt, dZip, zipD, dCB, dDrop, forL, dLc, lcL, wipeE, dYes, gTuple, gList, gLen, gAll, blsD, dIf, dAnd, dOr, dNot, dAndV, dOrV, dNotV, Kb.f0, Kb.f1, Kb.f2, Kb.f4, Kb.fh, Kb.fm, Kb.kn, Kb.k1, e1, s, gI0, gGt, g2B, hn]
  · obtain ⟨_, l2, e2, ⟨o, rfl, zo, po⟩, k2⟩ := over_yl h0 h1 h2 h3 n l1 k1
    have m1 := L_gap (p := 0) (q := a) (by walk_at "zz") (z1'.a.up (by omega))
    have m2 := L_add (p := 0 - a) (q := o) ((z0.sub z1'.a).up (by omega)) (zo.up (by omega))
    have hn : ¬ 0 < (sgt a e).num := fun z => hs ((num_pos _).mp z)
    refine ⟨_, l2, ?_, ⟨a, b, c, p, d, 0 - a + o, f, q, g, j, m, r, rfl, z1'.up (by omega), ⟨z2'.a.up (by omega), ((z0.sub z1'.a).add zo).up (by omega), z2'.c.up (by omega), z2'.d.up (by omega)⟩, z3'.up (by omega), ?_⟩, k2⟩
    · simp only [F_law_strong, m_law_strong]
      simp [enOf, runD, runL, dSeq, dIfS, dTest, dOp, dVar, dC, Res.bind, dNext, dSet, dCall, dCallK, perm, dCallL, dCons, dNil, dTup, dLst, dRet, dUn, gNeg, dPar, dAsg, dGTup, dGCons, dName, dGNil, dSetOwn, dNew, dApp, dFrz, dFor, dIt, dZip, zipD, dCB, dDrop, forL, dLc, lcL, wipeE, dYes, gTuple, gList, gLen, gAll, blsD, dIf, dAnd, dOr, dNot, dAndV, dOrV, dNotV, Kb.f0, Kb.f1, Kb.f2, Kb.f4, Kb.fh, Kb.fm, Kb.kn, Kb.k1, e1, s, gI0, gGt, g2B, hn, e2, ix40, ix41, ix42, ix43, m1, m2]
    · unfold sgt
      grind
theorem fvB_times {S c p h v t : Rat} (n : S * h ≠ 0) (nt : t ≠ 0) : fvB S c (v * t) (p * t) (h * t) = fvB S c v p h := by
  unfold fvB
  rw [show S * (h * t) = S * h * t from by grind, show c * (v * t) + p * t = (c * v + p) * t from by grind]
  generalize S * h = X at *
  generalize c * v + p = u at *
  grind
end Kb
end
section
set_option Elab.async false
set_option linter.all false
set_option maxRecDepth 100000
set_option maxHeartbeats 4000000
set_option exponentiation.threshold 100
namespace Kb
open PySem Dx Fc
/-! fives printed and compared -/
theorem tt5 (A B C D E : Str) : tupleText [A, B, C, D, E] = (Str.ofString "(" ++ (A ++ Str.ofString ", " ++ (B ++ Str.ofString ", " ++ (C ++ Str.ofString ", " ++ (D ++ Str.ofString ", " ++ E))))) ++ Str.ofString ")" := rfl
theorem Sh.five {a b c d e : Rat} (ha : Z 1900 a) (hb : Z 1900 b) (hc : Z 1900 c) (hd : Z 1900 d) (he : Z 1900 e) : Sh (pv5 a b c d e) 3 21000 := by
  have s1 := Sh.fq ha
  have s2 := Sh.fq hb
  have s3 := Sh.fq hc
  have s4 := Sh.fq hd
  have s5 := Sh.fq he
  refine ⟨?_, ?_, ?_, ?_⟩
  · simp [PyData.canLay0, PyData.canLayAll0, s1.lay, s2.lay, s3.lay, s4.lay, s5.lay]
  · simp [PyData.showable, PyData.showableAll, s1.show', s2.show', s3.show', s4.show', s5.show']
  · have := s1.deep
    have := s2.deep
    have := s3.deep
    have := s4.deep
    have := s5.deep
    simp only [PyData.depth, PyData.depthAll]
    omega
  · have := s1.len
    have := s2.len
    have := s3.len
    have := s4.len
    have := s5.len
    simp only [PyData.shown, PyData.shownAll, tt5, strLen_append, sl3, sl4, sl5]
    omega
theorem repr5 {a b c d e : Rat} (h1 : Z 1900 a) (h2 : Z 1900 b) (h3 : Z 1900 c) (h4 : Z 1900 d) (h5 : Z 1900 e) : ∃ x, gRepr [.list [pv5 a b c d e, pv5 a b c d e]] = some (.str x) := by
  have s := Sh.five h1 h2 h3 h4 h5
  exact repr_of (Sh.list (sha_cons s (sha_cons s sha_nil))) (by decide) (by simp)
theorem P_isfive (a b c d e : Rat) : F_is_five [pv5 a b c d e] = some (.bool true) := by
  simp [enOf, runD, runL, dSeq, dIfS, dTest, dOp, dVar, dC, Res.bind, dNext, dSet, dCall, dCallK, perm, dCallL, dCons, dNil, dTup, dLst, dRet, dUn, gNeg, dPar, dAsg, dGTup, dGCons, dName, dGNil, dSetOwn, dNew, dApp, dFrz, dFor, dIt, dZip, zipD, dCB, dDrop, forL, dLc, lcL, wipeE, dYes, gTuple, gList, gLen, gAll, blsD, dIf, dAnd, dOr, dNot, dAndV, dOrV, dNotV, Kb.f0, Kb.f1, Kb.f2, Kb.f4, Kb.fh, Kb.fm, Kb.kn, Kb.k1, F_is_five, m_is_five, P_row5]
theorem gNe5 (a b c d e : Rat) : gNeA (pv5 a b c d e) (pv5 a b c d e) = some (.bool false) := by
  have h : gNeA (pv5 a b c d e) (pv5 a b c d e) = some (.bool (!PyData.eqv (pv5 a b c d e) (pv5 a b c d e))) := rfl
  rw [h]
  simp [PyData.eqv, PyData.eqvAll, eqv_fq]
theorem gEq5 (a b c d e : Rat) : gEqA (pv5 a b c d e) (pv5 a b c d e) = some (.bool true) := by
  have h : gEqA (pv5 a b c d e) (pv5 a b c d e) = some (.bool (PyData.eqv (pv5 a b c d e) (pv5 a b c d e))) := rfl
  rw [h]
  simp [PyData.eqv, PyData.eqvAll, eqv_fq]
theorem sl43 (a b c d : Dx.D) : gSl (.tuple [a, b, c, d]) none (some 3) = some (.tuple [a, b, c]) := rfl
theorem ad31 (a b c d : Dx.D) : gAdd (.tuple [a, b, c]) (.tuple [d]) = some (.tuple [a, b, c, d]) := rfl
theorem mu4 (a : Dx.D) : gMul (.tuple [a]) (.int 4) = some (.tuple [a, a, a, a]) := rfl
theorem gNotB_t : gNotB (.bool true) (.bool true) = some (.bool false) := rfl
theorem tt3 (A B C : Str) : tupleText [A, B, C] = (Str.ofString "(" ++ (A ++ Str.ofString ", " ++ (B ++ Str.ofString ", " ++ C))) ++ Str.ofString ")" := rfl
theorem tt4 (A B C D : Str) : tupleText [A, B, C, D] = (Str.ofString "(" ++ (A ++ Str.ofString ", " ++ (B ++ Str.ofString ", " ++ (C ++ Str.ofString ", " ++ D)))) ++ Str.ofString ")" := rfl
theorem Sh.r4 {a b c d : Rat} (h : Z4 1900 a b c d) : Sh (Kb.r4 a b c d) 3 17000 := by
  have s1 := Sh.fq h.a
  have s2 := Sh.fq h.b
  have s3 := Sh.fq h.c
  have s4 := Sh.fq h.d
  refine ⟨?_, ?_, ?_, ?_⟩
  · simp [PyData.canLay0, PyData.canLayAll0, s1.lay, s2.lay, s3.lay, s4.lay]
  · simp [PyData.showable, PyData.showableAll, s1.show', s2.show', s3.show', s4.show']
  · have := s1.deep
    have := s2.deep
    have := s3.deep
    have := s4.deep
    simp only [PyData.depth, PyData.depthAll]
    omega
  · have := s1.len
    have := s2.len
    have := s3.len
    have := s4.len
    simp only [PyData.shown, PyData.shownAll, tt4, strLen_append, sl3, sl4, sl5]
    omega
theorem Sh.tup3 {R S T : Dx.D} {n m : Nat} (h1 : Sh R n m) (h2 : Sh S n m) (h3 : Sh T n m) : Sh (.tuple [R, S, T]) (n + 1) (3 * m + 10) := by
  refine ⟨?_, ?_, ?_, ?_⟩
  · simp [PyData.canLay0, PyData.canLayAll0, h1.lay, h2.lay, h3.lay]
  · simp [PyData.showable, PyData.showableAll, h1.show', h2.show', h3.show']
  · have := h1.deep
    have := h2.deep
    have := h3.deep
    simp only [PyData.depth, PyData.depthAll]
    omega
  · have := h1.len
    have := h2.len
    have := h3.len
    simp only [PyData.shown, PyData.shownAll, tt3, strLen_append, sl3, sl4, sl5]
    omega
theorem repr_ir {a b c p d e f q g j m r : Rat} (h1 : Z4 1900 a b c p) (h2 : Z4 1900 d e f q) (h3 : Z4 1900 g j m r) : ∃ x, gRepr [.list [ir (Kb.r4 a b c p) (Kb.r4 d e f q) (Kb.r4 g j m r), ir (Kb.r4 a b c p) (Kb.r4 d e f q) (Kb.r4 g j m r)]] = some (.str x) := by
  have s := Sh.tup3 (Sh.r4 h1) (Sh.r4 h2) (Sh.r4 h3)
  exact repr_of (Sh.list (sha_cons s (sha_cons s sha_nil))) (by decide) (by simp)
theorem P_plain {a b c d e h v : Rat} (f : Fv 900 a b c d e) (zh : Z 260 h) (hh : 0 < h) : F_plain_iron [pv5 a b c d e, pr h v] = some (ir (Kb.r4 d (e - a) 0 (h * b)) (Kb.r4 (e + a) (-d) 0 (h * c)) (Kb.r4 0 0 0 0)) := by
  obtain ⟨ha, hb, hc, hd, he⟩ := f
  have c1 := P_five a b c d e
  have c2 := P_cplace (v := v) hh
  have m1 := P_minus (p := e) (q := a) (by walk_at "zz") (by walk_at "zz")
  have m2 := P_times (p := h) (q := b) (by walk_at "zz") (by walk_at "zz")
  have m3 := P_plus (p := e) (q := a) (by walk_at "zz") (by walk_at "zz")
  have m4 := P_neg d
  have m5 := P_times (p := h) (q := c) (by walk_at "zz") (by walk_at "zz")
  simp [enOf, runD, runL, dSeq, dIfS, dTest, dOp, dVar, dC, Res.bind, dNext, dSet, dCall, dCallK, perm, dCallL, dCons, dNil, dTup, dLst, dRet, dUn, gNeg, dPar, dAsg, dGTup, dGCons, dName, dGNil, dSetOwn, dNew, dApp, dFrz, dFor, dIt, dZip, zipD, dCB, dDrop, forL, dLc, lcL, wipeE, dYes, gTuple, gList, gLen, gAll, blsD, dIf, dAnd, dOr, dNot, dAndV, dOrV, dNotV, Kb.f0, Kb.f1, Kb.f2, Kb.f4, Kb.fh, Kb.fm, Kb.kn, Kb.k1, F_plain_iron, m_plain_iron, c1, c2, m1, m2, m3, m4, m5, ix20]
theorem wx2 (a b c : Dx.D) : gIx (.list [a, b, c]) (.int 2) = some c := rfl
theorem ad21r (a b c : Dx.D) : gAdd (.tuple [a, b]) (.tuple [c]) = some (.tuple [a, b, c]) := rfl
end Kb
end
section
set_option Elab.async false
set_option linter.all false
set_option maxRecDepth 100000
set_option maxHeartbeats 4000000
set_option exponentiation.threshold 100
namespace Kb
open PySem Dx Fc
/-! headings of any halves; odd values -/
theorem L_heading' {u : Rat} (h : Z 300 u) : F_law_heading [fq u] = some (pr ((1 - u * u) / (1 + u * u)) (2 * u / (1 + u * u))) := by
  have p := sq_nn u
  have nz : 1 + u * u ≠ 0 := by grind
  have a1 := L_mul (p := u) (q := u) (by walk_at "zz") (by walk_at "zz")
  have a2 := L_add (p := 1) (q := u * u) (by walk_at "zz") (by walk_at "zz")
  have a3 := L_gap (p := 1) (q := u * u) (by walk_at "zz") (by walk_at "zz")
  have a4 := L_div (p := 1 - u * u) (q := 1 + u * u) (by walk_at "zz") (by walk_at "zz") nz
  have a5 := L_mul (p := 2) (q := u) (by walk_at "zz") (by walk_at "zz")
  have a6 := L_div (p := 2 * u) (q := 1 + u * u) (by walk_at "zz") (by walk_at "zz") nz
  simp [enOf, runD, runL, dSeq, dIfS, dTest, dOp, dVar, dC, Res.bind, dNext, dSet, dCall, dCallK, perm, dCallL, dCons, dNil, dTup, dLst, dRet, dUn, gNeg, dPar, dAsg, dGTup, dGCons, dName, dGNil, dSetOwn, dNew, dApp, dFrz, dFor, dIt, dZip, zipD, dCB, dDrop, forL, dLc, lcL, wipeE, dYes, gTuple, gList, gLen, gAll, blsD, dIf, dAnd, dOr, dNot, dAndV, dOrV, dNotV, Kb.f0, Kb.f1, Kb.f2, Kb.f4, Kb.fh, Kb.fm, Kb.kn, Kb.k1, F_law_heading, m_law_heading, isN_fq, a1, a2, a3, a4, a5, a6]
theorem P_isheading {a b : Rat} (ha : Z 900 a) (hb : Z 900 b) : F_is_heading [pr a b] = some (.bool (decide (a * a + b * b = 1))) := by
  have d := P_dot2 ha hb ha hb (by decide)
  simp [enOf, runD, runL, dSeq, dIfS, dTest, dOp, dVar, dC, Res.bind, dNext, dSet, dCall, dCallK, perm, dCallL, dCons, dNil, dTup, dLst, dRet, dUn, gNeg, dPar, dAsg, dGTup, dGCons, dName, dGNil, dSetOwn, dNew, dApp, dFrz, dFor, dIt, dZip, zipD, dCB, dDrop, forL, dLc, lcL, wipeE, dYes, gTuple, gList, gLen, gAll, blsD, dIf, dAnd, dOr, dNot, dAndV, dOrV, dNotV, Kb.f0, Kb.f1, Kb.f2, Kb.f4, Kb.fh, Kb.fm, Kb.kn, Kb.k1, F_is_heading, m_is_heading, P_row2, d, gEqA_fq]
theorem half_c {u : Rat} : (1 - u * u) / (1 + u * u) ≠ -1 := by
  have p := sq_nn u
  have nz : 1 + u * u ≠ 0 := by grind
  intro h
  grind
theorem half_back {u : Rat} : 2 * u / (1 + u * u) / (1 + (1 - u * u) / (1 + u * u)) = u := by
  have p := sq_nn u
  have nz : 1 + u * u ≠ 0 := by grind
  have e : (1 - u * u) / (1 + u * u) = 2 / (1 + u * u) - 1 := by grind
  rw [e]
  have e2 : 1 + (2 / (1 + u * u) - 1) = 2 / (1 + u * u) := by grind
  rw [e2]
  grind
theorem half_one {u : Rat} : (1 - u * u) / (1 + u * u) * ((1 - u * u) / (1 + u * u)) + 2 * u / (1 + u * u) * (2 * u / (1 + u * u)) = 1 := by
  have p := sq_nn u
  have nz : 1 + u * u ≠ 0 := by grind
  grind
def T1 (a b : Int) : Dx.D := .tuple [.int a, .int b]
def oddP : List Dx.D := [.none, .int 1, .int 0, .str "1", .tuple [], .tuple [.int 1], T1 2 4, T1 1 0, T1 1 (-2), T1 0 3, T1 (-3) (-1), .list [.int 1, .int 2], .tuple [.bool true, .int 2], .tuple [.int 1, .bool true], .tuple [.int 1, .int 2, .int 3], .dict [], .tuple [.none, .int 1], .tuple [.str "1", .int 2], .tuple [T1 1 2, .int 1], .bool true, T1 0 0]
theorem oddP_eq : F_law_odd_parts [] = some (.list oddP) := rfl
theorem oddP_no : ∀ d ∈ oddP, F_is_fraction [d] = some (.bool false) := by
  intro d hd
  unfold oddP at hd
  simp only [List.mem_cons, List.not_mem_nil, or_false] at hd
  rcases hd with rfl | rfl | rfl | rfl | rfl | rfl | rfl | rfl | rfl | rfl | rfl | rfl | rfl | rfl | rfl | rfl | rfl | rfl | rfl | rfl | rfl
  all_goals rfl
theorem gIsB_ff : gIsB (.bool false) (.bool false) = some (.bool true) := rfl
theorem repr_pp {a b : Rat} (h1 : Z 1900 a) (h2 : Z 1900 b) : ∃ x, gRepr [.list [pr a b, pr a b]] = some (.str x) := repr_l (sha_cons (Sh.pr h1 h2) (sha_cons (Sh.pr h1 h2) sha_nil)) (by simp)
theorem rnn : gRepr [.list [.none, .none]] = some (.str (PyData.list [.none, .none]).shown) := rfl
/-- what is no heading -/
theorem nh_tup (ds : List Dx.D) (h : ds.length ≠ 2) : F_is_heading [.tuple ds] = some (.bool false) := by
  have e : F_is_row [.tuple ds, .int 2] = some (.bool false) := by
    have h' : ¬ ((ds.length : Int) = 2) := by omega
    simp [F_is_row, runD, m_is_row, enOf, dRet, dAndV, dTest, dIsi, dVar, Res.bind, tyN, kb0, dOp, dCB, gLen, dCons, dNil, dC, gEqA_int, h']
  simp [enOf, runD, runL, dSeq, dIfS, dTest, dOp, dVar, dC, Res.bind, dNext, dSet, dCall, dCallK, perm, dCallL, dCons, dNil, dTup, dLst, dRet, dUn, gNeg, dPar, dAsg, dGTup, dGCons, dName, dGNil, dSetOwn, dNew, dApp, dFrz, dFor, dIt, dZip, zipD, dCB, dDrop, forL, dLc, lcL, wipeE, dYes, gTuple, gList, gLen, gAll, blsD, dIf, dAnd, dOr, dNot, dAndV, dOrV, dNotV, Kb.f0, Kb.f1, Kb.f2, Kb.f4, Kb.fh, Kb.fm, Kb.kn, Kb.k1, F_is_heading, m_is_heading, e]
theorem nh_no {d : Dx.D} (h : F_is_row [d, .int 2] = some (.bool false)) : F_is_heading [d] = some (.bool false) := by
  simp [enOf, runD, runL, dSeq, dIfS, dTest, dOp, dVar, dC, Res.bind, dNext, dSet, dCall, dCallK, perm, dCallL, dCons, dNil, dTup, dLst, dRet, dUn, gNeg, dPar, dAsg, dGTup, dGCons, dName, dGNil, dSetOwn, dNew, dApp, dFrz, dFor, dIt, dZip, zipD, dCB, dDrop, forL, dLc, lcL, wipeE, dYes, gTuple, gList, gLen, gAll, blsD, dIf, dAnd, dOr, dNot, dAndV, dOrV, dNotV, Kb.f0, Kb.f1, Kb.f2, Kb.f4, Kb.fh, Kb.fm, Kb.kn, Kb.k1, F_is_heading, m_is_heading, h]
theorem nr_1 {d e : Dx.D} (h : F_is_fraction [d] = some (.bool false)) {b : Bool} (k : F_is_fraction [e] = some (.bool b)) : F_is_row [.tuple [d, e], .int 2] = some (.bool false) := by
  simp [F_is_row, runD, m_is_row, enOf, dRet, dAndV, dTest, dIsi, dVar, Res.bind, tyN, kb0, dOp, dCB, gLen, dCons, dNil, dC, gEqA_int, gAll, blsD, dLc, dIt, lcL, wipeE, dName, dYes, dCall, h, k]
theorem nr_2 {d e : Dx.D} {b : Bool} (k : F_is_fraction [d] = some (.bool b)) (h : F_is_fraction [e] = some (.bool false)) : F_is_row [.tuple [d, e], .int 2] = some (.bool false) := by
  simp [F_is_row, runD, m_is_row, enOf, dRet, dAndV, dTest, dIsi, dVar, Res.bind, tyN, kb0, dOp, dCB, gLen, dCons, dNil, dC, gEqA_int, gAll, blsD, dLc, dIt, lcL, wipeE, dName, dYes, dCall, h, k]
end Kb
end
section
set_option Elab.async false
set_option linter.all false
set_option maxRecDepth 100000
set_option maxHeartbeats 4000000
set_option exponentiation.threshold 100
namespace Kb
open PySem Dx Fc
/-! courses: the reduced pair along two fractions -/
def cg (t b : Int) : Int := (Int.gcd t b : Int)
def crp (t b : Int) : Int × Int := (t.fdiv (cg t b), b.fdiv (cg t b))
def ct (x y : Rat) : Int := x.num * y.den
def cb (x y : Rat) : Int := y.num * x.den
def co (x y : Rat) : Int × Int := crp (ct x y) (cb x y)
def cD (p : Int × Int) : Dx.D := .tuple [.int p.1, .int p.2]
theorem cg_pos {t b : Int} (h : t ≠ 0 ∨ b ≠ 0) : 0 < cg t b := by
  unfold cg
  have : 0 < Int.gcd t b := by
    rcases h with h | h
    · exact Int.gcd_pos_of_ne_zero_left _ h
    · exact Int.gcd_pos_of_ne_zero_right _ h
  omega
theorem crp_spec {t b : Int} (h : t ≠ 0 ∨ b ≠ 0) : t = (crp t b).1 * cg t b ∧ b = (crp t b).2 * cg t b ∧ Int.gcd (crp t b).1 (crp t b).2 = 1 := by
  have h1 : cg t b ∣ t := Int.gcd_dvd_left ..
  have h2 : cg t b ∣ b := Int.gcd_dvd_right ..
  have e1 : t = (crp t b).1 * cg t b := (Int.fdiv_mul_cancel h1).symm
  have e2 : b = (crp t b).2 * cg t b := (Int.fdiv_mul_cancel h2).symm
  refine ⟨e1, e2, ?_⟩
  have g := cg_pos h
  have k : Int.gcd t b = Int.gcd (crp t b).1 (crp t b).2 * (cg t b).natAbs := by
    have z : Int.gcd ((crp t b).1 * cg t b) ((crp t b).2 * cg t b) = Int.gcd t b := by rw [← e1, ← e2]
    rw [← z, Int.gcd_mul_right]
  have ga : (cg t b).natAbs = Int.gcd t b := by
    unfold cg
    omega
  rw [ga] at k
  have p : 0 < Int.gcd t b := by
    unfold cg at g
    omega
  have := Nat.eq_of_mul_eq_mul_right p (show 1 * Int.gcd t b = Int.gcd (crp t b).1 (crp t b).2 * Int.gcd t b by omega)
  omega
theorem ct_z {x y : Rat} : (ct x y ≠ 0 ∨ cb x y ≠ 0) ↔ (x ≠ 0 ∨ y ≠ 0) := by
  unfold ct cb
  have a := den_pos x
  have b := den_pos y
  constructor
  · rintro (h | h)
    · left
      rintro rfl
      exact h (by show (0 : Int) * _ = 0; exact Int.zero_mul _)
    · right
      rintro rfl
      exact h (by show (0 : Int) * _ = 0; exact Int.zero_mul _)
  · rintro (h | h)
    · left
      intro e
      rcases Int.mul_eq_zero.mp e with z | z
      · exact num_ne h z
      · omega
    · right
      intro e
      rcases Int.mul_eq_zero.mp e with z | z
      · exact num_ne h z
      · omega
theorem scale_one {x : Rat} {n d d' a g : Int} (q : (n : Rat) / (d : Rat) = x) (hd : (d : Rat) ≠ 0) (hd' : (d' : Rat) ≠ 0) (e : ((n * d' : Int) : Rat) = (a : Rat) * (g : Rat)) : x = (g : Rat) / ((d * d' : Int) : Rat) * (a : Rat) := by
  rw [Rat.intCast_mul] at e
  rw [Rat.intCast_mul]
  generalize (n : Rat) = N at *
  generalize (d : Rat) = D at *
  generalize (d' : Rat) = E at *
  generalize (a : Rat) = A at *
  generalize (g : Rat) = G at *
  subst q
  have u : G / (D * E) * A * E = N / D * E := by
    have : G / (D * E) * A * E = (A * G) / D := by grind
    rw [this, ← e]
    grind
  grind
/-- the pair times something above 0 -/
theorem co_scale {x y : Rat} (h : x ≠ 0 ∨ y ≠ 0) : ∃ k : Rat, 0 < k ∧ x = k * ((co x y).1 : Rat) ∧ y = k * ((co x y).2 : Rat) ∧ Int.gcd (co x y).1 (co x y).2 = 1 := by
  have hz := ct_z.mpr h
  obtain ⟨e1, e2, e3⟩ := crp_spec hz
  have g := cg_pos hz
  have a := den_pos x
  have b := den_pos y
  have pab : 0 < (x.den : Int) * (y.den : Int) := Int.mul_pos a b
  refine ⟨(cg (ct x y) (cb x y) : Rat) / (((x.den : Int) * (y.den : Int) : Int) : Rat), ?_, ?_, ?_, e3⟩
  · have u : (0 : Rat) < ((cg (ct x y) (cb x y) : Int) : Rat) := by exact_mod_cast g
    have v : (0 : Rat) < (((x.den : Int) * (y.den : Int) : Int) : Rat) := by exact_mod_cast pab
    rw [Rat.div_def]
    exact Rat.mul_pos u (Rat.inv_pos.mpr v)
  · have q := v_q x
    unfold vR qp at q
    dsimp only at q
    have da := cast_den x
    have db := cast_den y
    have e : ((ct x y : Int) : Rat) = ((co x y).1 : Rat) * ((cg (ct x y) (cb x y) : Int) : Rat) := by
      rw [← Rat.intCast_mul]
      exact congrArg _ e1
    exact scale_one q da db e
  · have q := v_q y
    unfold vR qp at q
    dsimp only at q
    have da := cast_den x
    have db := cast_den y
    have e : ((cb x y : Int) : Rat) = ((co x y).2 : Rat) * ((cg (ct x y) (cb x y) : Int) : Rat) := by
      rw [← Rat.intCast_mul]
      exact congrArg _ e2
    have r := scale_one (x := y) (n := y.num) (d := y.den) (d' := x.den) q db da e
    rw [Int.mul_comm (y.den : Int)] at r
    exact r
/-- reduced pairs along one another are the same -/
theorem pair_uniq {P Q P' Q' : Int} {k : Rat} (hk : 0 < k) (g : Int.gcd P Q = 1) (g' : Int.gcd P' Q' = 1) (h1 : (P : Rat) = k * (P' : Rat)) (h2 : (Q : Rat) = k * (Q' : Rat)) : P = P' ∧ Q = Q' := by
  have dn := den_pos k
  have nn := (num_pos k).mpr hk
  have q := v_q k
  unfold vR qp at q
  dsimp only at q
  have dk := cast_den k
  have i1 : (k.den : Int) * P = k.num * P' := by
    apply Rat.intCast_inj.mp
    rw [Rat.intCast_mul, Rat.intCast_mul]
    grind
  have i2 : (k.den : Int) * Q = k.num * Q' := by
    apply Rat.intCast_inj.mp
    rw [Rat.intCast_mul, Rat.intCast_mul]
    grind
  have e1 : Int.gcd ((k.den : Int) * P) ((k.den : Int) * Q) = (k.den : Int).natAbs := by
    rw [Int.gcd_mul_left, g]
    omega
  have e2 : Int.gcd (k.num * P') (k.num * Q') = k.num.natAbs := by
    rw [Int.gcd_mul_left, g']
    omega
  rw [i1, i2, e2] at e1
  have e : k.num = (k.den : Int) := by omega
  rw [e] at i1 i2
  exact ⟨Int.eq_of_mul_eq_mul_left (by omega) i1, Int.eq_of_mul_eq_mul_left (by omega) i2⟩
theorem co_of {x y : Rat} (h : x ≠ 0 ∨ y ≠ 0) {P Q : Int} {k : Rat} (hk : 0 < k) (g : Int.gcd P Q = 1) (h1 : x = k * (P : Rat)) (h2 : y = k * (Q : Rat)) : co x y = (P, Q) := by
  obtain ⟨j, hj, e1, e2, e3⟩ := co_scale h
  have nj : j ≠ 0 := by grind
  have nk : k ≠ 0 := by grind
  have pos : 0 < k / j := by
    rw [Rat.div_def]
    exact Rat.mul_pos hk (Rat.inv_pos.mpr hj)
  have a : ((co x y).1 : Rat) = k / j * (P : Rat) := by
    have : j * ((co x y).1 : Rat) = k * (P : Rat) := by rw [← e1, h1]
    grind
  have b : ((co x y).2 : Rat) = k / j * (Q : Rat) := by
    have : j * ((co x y).2 : Rat) = k * (Q : Rat) := by rw [← e2, h2]
    grind
  obtain ⟨u, v⟩ := pair_uniq pos e3 g a b
  exact Prod.ext u v
theorem co_eq {x y x' y' : Rat} (h : x ≠ 0 ∨ y ≠ 0) (h' : x' ≠ 0 ∨ y' ≠ 0) : co x y = co x' y' ↔ ∃ k : Rat, 0 < k ∧ x = k * x' ∧ y = k * y' := by
  obtain ⟨j', hj', e1', e2', e3'⟩ := co_scale h'
  constructor
  · intro e
    obtain ⟨j, hj, e1, e2, e3⟩ := co_scale h
    have nj' : j' ≠ 0 := by grind
    refine ⟨j / j', ?_, ?_, ?_⟩
    · rw [Rat.div_def]
      exact Rat.mul_pos hj (Rat.inv_pos.mpr hj')
    · rw [e] at e1
      generalize ((co x' y').1 : Rat) = A at *
      generalize ((co x' y').2 : Rat) = B at *
      grind
    · rw [e] at e2
      generalize ((co x' y').1 : Rat) = A at *
      generalize ((co x' y').2 : Rat) = B at *
      grind
  · rintro ⟨k, hk, e1, e2⟩
    refine co_of h (k := k * j') (Rat.mul_pos hk hj') e3' ?_ ?_
    · rw [e1, Rat.mul_assoc]
      exact congrArg _ e1'
    · rw [e2, Rat.mul_assoc]
      exact congrArg _ e2'
theorem co_mul {x y k : Rat} (hk : 0 < k) (h : x ≠ 0 ∨ y ≠ 0) : co (k * x) (k * y) = co x y := by
  have nk : k ≠ 0 := by grind
  refine (co_eq ?_ h).mpr ⟨k, hk, rfl, rfl⟩
  rcases h with h | h
  · exact .inl (mul_ne nk h)
  · exact .inr (mul_ne nk h)
/-! the program's and the statement's -/
theorem log_gcd {n : Nat} {t b : Int} (h : t ≠ 0 ∨ b ≠ 0) (ht : Bd n t) (hb : Bd n b) (hn : 0 < n) (hn' : n ≤ 9000) : ∀ x, cDiv x (cg t b) = true := by
  intro x
  have g := cg_pos h
  have le : (cg t b).natAbs < 2 ^ n := by
    unfold cg
    rcases h with h | h
    · have : Int.gcd t b ≤ t.natAbs := Nat.le_of_dvd (by omega) (Int.gcd_dvd_natAbs_left t b)
      unfold Bd at ht
      omega
    · have : Int.gcd t b ≤ b.natAbs := Nat.le_of_dvd (by omega) (Int.gcd_dvd_natAbs_right t b)
      unfold Bd at hb
      omega
  have := log2_lt le hn
  unfold cDiv
  exact decide_eq_true ⟨by omega, by omega⟩
theorem P_along {n : Nat} {x y : Rat} (hx : Z n x) (hy : Z n y) (h : x ≠ 0 ∨ y ≠ 0) (hn : 0 < n) (hn' : n ≤ 4000) : F_course_along [pr x y] = some (cD (co x y)) := by
  have c1 : cMul x.num y.den = true := cMul_ok hx.t hy.b (by omega) hn hn
  have c2 : cMul y.num x.den = true := cMul_ok hy.t hx.b (by omega) hn hn
  have b1 : Bd (n + n) (ct x y) := hx.t.mul hy.b
  have b2 : Bd (n + n) (cb x y) := hy.t.mul hx.b
  have d := log_gcd (ct_z.mpr h) b1 b2 (by omega) (by omega)
  have g : ((Nat.gcd (ct x y).natAbs (cb x y).natAbs : Nat) : Int) = cg (ct x y) (cb x y) := rfl
  have e1 : x.num * (y.den : Int) = ct x y := rfl
  have e2 : y.num * (x.den : Int) = cb x y := rfl
  unfold co crp cD pr fq fr qp
  simp [enOf, runD, runL, dSeq, dIfS, dTest, dOp, dVar, dC, Res.bind, dNext, dSet, dCall, dCallK, perm, dCallL, dCons, dNil, dTup, dLst, dRet, dUn, gNeg, dPar, dAsg, dGTup, dGCons, dName, dGNil, dSetOwn, dNew, dApp, dFrz, dFor, dIt, dZip, zipD, dCB, dDrop, forL, dLc, lcL, wipeE, dYes, gTuple, gList, gLen, gAll, blsD, dIf, dAnd, dOr, dNot, dAndV, dOrV, dNotV, Kb.f0, Kb.f1, Kb.f2, Kb.f4, Kb.fh, Kb.fm, Kb.kn, Kb.k1, F_course_along, m_course_along, gMul, c1, c2, e1, e2, gGcd, g2L, gDiv, g2IC, d, g]
theorem low_loop {t b : Int} {n : Nat} (h : t ≠ 0 ∨ b ≠ 0) (ht : Bd n t) (hb : Bd n b) (hn : 0 < n) (hn' : n ≤ 9000) : F_law_low [.tuple [.int t, .int b]] = some (cD (crp t b)) := by
  have g1 := F_law_gcd_eq 0 t
  have g2 := F_law_gcd_eq ((Int.gcd 0 t : Nat) : Int) b
  have e : Int.gcd ((Int.gcd 0 t : Nat) : Int) b = Int.gcd t b := by
    rw [Int.gcd_zero_left]
    rfl
  rw [e] at g2
  have d := log_gcd h ht hb hn hn'
  unfold cD crp cg at *
  generalize (Int.gcd 0 t : Nat) = z at *
  generalize Int.gcd t b = g at *
  simp [F_law_low, runD, m_law_low, dSeq, dSet, dC, enOf, dFor, dIt, dVar, Res.bind, forL, dName, dCall, dCons, dNil, g1, g2, dRet, dCB, gTuple, dLc, lcL, wipeE, dYes, dOp, gDiv, g2IC, d]
theorem L_ray {n : Nat} {x y : Rat} (hx : Z n x) (hy : Z n y) (h : x ≠ 0 ∨ y ≠ 0) (hn : 0 < n) (hn' : n ≤ 4000) : F_law_ray [fq x, fq y] = some (cD (co x y)) := by
  have c1 : cMul x.num y.den = true := cMul_ok hx.t hy.b (by omega) hn hn
  have c2 : cMul y.num x.den = true := cMul_ok hy.t hx.b (by omega) hn hn
  have b1 : Bd (n + n) (ct x y) := hx.t.mul hy.b
  have b2 : Bd (n + n) (cb x y) := hy.t.mul hx.b
  have l := low_loop (ct_z.mpr h) b1 b2 (by omega) (by omega)
  have e1 : x.num * (y.den : Int) = ct x y := rfl
  have e2 : y.num * (x.den : Int) = cb x y := rfl
  unfold co
  simp [enOf, runD, runL, dSeq, dIfS, dTest, dOp, dVar, dC, Res.bind, dNext, dSet, dCall, dCallK, perm, dCallL, dCons, dNil, dTup, dLst, dRet, dUn, gNeg, dPar, dAsg, dGTup, dGCons, dName, dGNil, dSetOwn, dNew, dApp, dFrz, dFor, dIt, dZip, zipD, dCB, dDrop, forL, dLc, lcL, wipeE, dYes, gTuple, gList, gLen, gAll, blsD, dIf, dAnd, dOr, dNot, dAndV, dOrV, dNotV, Kb.f0, Kb.f1, Kb.f2, Kb.f4, Kb.fh, Kb.fm, Kb.kn, Kb.k1, F_law_ray, m_law_ray, gI0, gI1, gMul, c1, c2, e1, e2, l]
theorem co_bd {n : Nat} {x y : Rat} (hx : Z n x) (hy : Z n y) (h : x ≠ 0 ∨ y ≠ 0) : Bd (n + n) (co x y).1 ∧ Bd (n + n) (co x y).2 := by
  have b1 : Bd (n + n) (ct x y) := hx.t.mul hy.b
  have b2 : Bd (n + n) (cb x y) := hy.t.mul hx.b
  obtain ⟨e1, e2, _⟩ := crp_spec (ct_z.mpr h)
  have g := cg_pos (ct_z.mpr h)
  unfold Bd at *
  constructor
  · refine Nat.lt_of_le_of_lt ?_ b1
    conv => rhs; rw [e1]
    rw [Int.natAbs_mul]
    exact Nat.le_mul_of_pos_right _ (by omega)
  · refine Nat.lt_of_le_of_lt ?_ b2
    conv => rhs; rw [e2]
    rw [Int.natAbs_mul]
    exact Nat.le_mul_of_pos_right _ (by omega)
theorem Sh.cD {p : Int × Int} (h1 : Bd 1900 p.1) (h2 : Bd 1900 p.2) : Sh (Kb.cD p) 3 9000 := by
  have g : ∀ {i : Int}, Bd 1900 i → i.natAbs.log2 < 1920 := fun h => Nat.lt_trans (log2_lt h (by decide)) (by decide)
  have a1 := intLen h1
  have a2 := intLen h2
  refine ⟨rfl, ?_, ?_, ?_⟩
  · simp [Kb.cD, PyData.showable, PyData.showableAll, g h1, g h2]
  · simp [Kb.cD, PyData.depth, PyData.depthAll]
  · simp only [Kb.cD, PyData.shown, PyData.shownAll, tt2, strLen_append, sl1, sl2, sl3, sl4, sl5, sl6]
    omega
theorem gEqC (p q : Int × Int) : gEqA (cD p) (cD q) = some (.bool (decide (p = q))) := by
  have e : gEqA (cD p) (cD q) = some (.bool (PyData.eqv (cD p) (cD q))) := rfl
  rw [e]
  obtain ⟨a, b⟩ := p
  obtain ⟨c, d⟩ := q
  have e1 := eqv_int a c
  have e2 := eqv_int b d
  simp [cD, PyData.eqv, PyData.eqvAll] at e1 e2 ⊢
  rw [e1, e2]
theorem gNeC (p q : Int × Int) : gNeA (cD p) (cD q) = some (.bool (!decide (p = q))) := by
  have e : gNeA (cD p) (cD q) = some (.bool (!PyData.eqv (cD p) (cD q))) := rfl
  have f : gEqA (cD p) (cD q) = some (.bool (PyData.eqv (cD p) (cD q))) := rfl
  rw [gEqC] at f
  rw [e]
  injection f with f
  injection f with f
  rw [f]
theorem isN_c (p : Int × Int) : gIsN (cD p) .none = some (.bool false) := rfl
theorem notN_c (p : Int × Int) : gNotN (cD p) .none = some (.bool true) := rfl
theorem ixc0 (p : Int × Int) : gIx (cD p) (.int 0) = some (.int p.1) := rfl
theorem ixc1 (p : Int × Int) : gIx (cD p) (.int 1) = some (.int p.2) := rfl
end Kb
end
section
set_option Elab.async false
set_option linter.all false
set_option maxRecDepth 100000
set_option maxHeartbeats 4000000
set_option exponentiation.threshold 100
namespace Kb
open PySem Dx Fc
/-! fives of all kinds -/
theorem f16 : PyData.tuple [.int 1, .int 6] = fq (1 / 6) := by
  have e : qp (1 / 6) = (1, 6) := by decide +kernel
  unfold fq
  rw [e]
  rfl
theorem f15 : PyData.tuple [.int 1, .int 5] = fq (1 / 5) := by
  have e : qp (1 / 5) = (1, 5) := by decide +kernel
  unfold fq
  rw [e]
  rfl
theorem f19 : PyData.tuple [.int 1, .int 9] = fq (1 / 9) := by
  have e : qp (1 / 9) = (1, 9) := by decide +kernel
  unfold fq
  rw [e]
  rfl
theorem fm2 : PyData.tuple [.int (-2), .int 1] = fq (-2) := by
  have e : qp (-2) = (-2, 1) := by decide +kernel
  unfold fq
  rw [e]
  rfl
theorem zs6 : Z 3 (1 / 6) := ⟨by unfold Bd; decide +kernel, by unfold Bd; decide +kernel⟩
theorem zs5 : Z 3 (1 / 5) := ⟨by unfold Bd; decide +kernel, by unfold Bd; decide +kernel⟩
theorem zs9 : Z 4 (1 / 9) := ⟨by unfold Bd; decide +kernel, by unfold Bd; decide +kernel⟩
theorem zm2 : Z 2 (-2) := ⟨by unfold Bd; decide +kernel, by unfold Bd; decide +kernel⟩
theorem few_yl : Yl 1 (F_law_some [.list [.int 1, .int 3, .int 9]]) fun d => ∃ w, d = .int w ∧ 1 ≤ w ∧ w ≤ 9 := by
  intro n l h
  obtain ⟨d, l1, e1, hd, k1⟩ := some_yl (ds := [.int 1, .int 3, .int 9]) (by simp) (by simp) n l h
  refine ⟨d, l1, e1, ?_, k1⟩
  simp at hd
  rcases hd with rfl | rfl | rfl <;> exact ⟨_, rfl, by decide, by decide⟩
def Wn (a b c d e : Rat) : Rat := 1 + a * a - (d * d + e * e)
def Tn (a b c d e : Rat) : Rat := b + a * c - (d * b + e * c)
def Un (a b c d e : Rat) : Rat := c + d * c - (a * b + e * b)
theorem flat_yl : Yl 17 (F_law_flat_five []) fun z => ∃ a b c d e, z = pv5 a b c d e ∧ Fv 70 a b c d e ∧ Wn a b c d e = 0 ∧ Tn a b c d e = 0 ∧ Un a b c d e = 0 := by
  intro n l h
  obtain ⟨_, l1, e1, ⟨a, rfl, za⟩, k1⟩ := any_yl (w := 2) (k := 3) (by decide) (by decide) (by decide) (by decide) (n + 13) l h
  obtain ⟨_, l2, e2, ⟨x, y, rfl, H⟩, k2⟩ := heading_yl (n + 7) l1 k1
  obtain ⟨_, l3, e3, ⟨w, rfl, w0, w1⟩, k3⟩ := few_yl (n + 6) l2 k2
  obtain ⟨_, l4, e4, ⟨r, rfl, zr⟩, k4⟩ := any_yl (w := w) (k := 4) w0 (by omega) (by omega) (by decide) (n + 2) l3 k3
  have t := L_turn H.hh H.hh (by decide) (by decide)
  rw [show y * x + x * y = 2 * (x * y) from by grind] at t
  have zx := H.zc
  have zy := H.zs
  have g2 := H.z2
  have g3 := H.z3
  obtain ⟨_, l5, e5, ⟨i, rfl, i0, i1⟩, k5⟩ := deal_yl (m := 4) (by decide) (by decide) (n + 1) l4 k4
  have fin : ∀ (A R : Rat) (L : Ld), Z 3 A → Z 4 R → (∃ z, dSeq (dSet 5 (dCall 2 F_law_add (dCons (dOp gIx (dVar 4) (dC (.int 0))) (dCons (dCall 2 F_law_mul (dCons (dVar 1) (dCons (dOp gIx (dVar 4) (dC (.int 1))) dNil))) dNil)))) (dSeq (dSet 6 (dCall 2 F_law_gap (dCons (dOp gIx (dVar 4) (dC (.int 1))) (dCons (dCall 2 F_law_mul (dCons (dVar 1) (dCons (dOp gIx (dVar 4) (dC (.int 0))) dNil))) dNil)))) (dRet (dTup (dCons (dVar 1) (dCons (dCall 2 F_law_mul (dCons (dVar 3) (dCons (dOp gIx (dVar 2) (dC (.int 0))) dNil))) (dCons (dCall 2 F_law_mul (dCons (dVar 3) (dCons (dOp gIx (dVar 2) (dC (.int 1))) dNil))) (dCons (dVar 5) (dCons (dVar 6) dNil)))))))) [some .lode, dd (fq A), dd (pr x y), dd (fq R), dd (pr (x * x - y * y) (2 * (x * y))), none, none] L = .rt z L ∧ ∃ a b c d e, z = pv5 a b c d e ∧ Fv 70 a b c d e ∧ Wn a b c d e = 0 ∧ Tn a b c d e = 0 ∧ Un a b c d e = 0) := by
    intro A R L zA zR
    have m1 := L_mul (p := A) (q := 2 * (x * y)) (by walk_at "zz") (by walk_at "zz")
    have m2 := L_add (p := x * x - y * y) (q := A * (2 * (x * y))) (by walk_at "zz") (by walk_at "zz")
    have m3 := L_mul (p := A) (q := x * x - y * y) (by walk_at "zz") (by walk_at "zz")
    have m4 := L_gap (p := 2 * (x * y)) (q := A * (x * x - y * y)) (by walk_at "zz") (by walk_at "zz")
    have m5 := L_mul (p := R) (q := x) (by walk_at "zz") (by walk_at "zz")
    have m6 := L_mul (p := R) (q := y) (by walk_at "zz") (by walk_at "zz")
    refine ⟨pv5 A (R * x) (R * y) (x * x - y * y + A * (2 * (x * y))) (2 * (x * y) - A * (x * x - y * y)), ?_, _, _, _, _, _, rfl, ⟨by walk_at "zz", by walk_at "zz", by walk_at "zz", by walk_at "zz", by walk_at "zz"⟩, ?_, ?_, ?_⟩
    simp [enOf, runD, runL, dSeq, dIfS, dTest, dOp, dVar, dC, Res.bind, dNext, dSet, dCall, dCallK, perm, dCallL, dCons, dNil, dTup, dLst, dRet, dUn, gNeg, dPar, dAsg, dGTup, dGCons, dName, dGNil, dSetOwn, dNew, dApp, dFrz, dFor, dIt, dZip, zipD, dCB, dDrop, forL, dLc, lcL, wipeE, dYes, gTuple, gList, gLen, gAll, blsD, dIf, dAnd, dOr, dNot, dAndV, dOrV, dNotV, Kb.f0, Kb.f1, Kb.f2, Kb.f4, Kb.fh, Kb.fm, Kb.kn, Kb.k1, ix20, ix21, m1, m2, m3, m4, m5, m6]
    · have he := H.e
      unfold Wn
      have : (x * x - y * y) * (x * x - y * y) + 2 * (x * y) * (2 * (x * y)) = 1 := by
        have : (x * x - y * y) * (x * x - y * y) + 2 * (x * y) * (2 * (x * y)) = (x * x + y * y) * (x * x + y * y) := by grind
        rw [this, he]
        grind
      generalize x * x - y * y = p at *
      generalize 2 * (x * y) = q at *
      grind
    · have he := H.e
      unfold Tn
      have u : (x * x - y * y) * x + 2 * (x * y) * y = x := by grind
      have v : 2 * (x * y) * x - (x * x - y * y) * y = y := by grind
      generalize x * x - y * y = p at *
      generalize 2 * (x * y) = q at *
      grind
    · have he := H.e
      unfold Un
      have u : (x * x - y * y) * x + 2 * (x * y) * y = x := by grind
      have v : 2 * (x * y) * x - (x * x - y * y) * y = y := by grind
      generalize x * x - y * y = p at *
      generalize 2 * (x * y) = q at *
      grind
  unfold F_law_flat_five runL
  by_cases c : i = 0
  · subst c
    obtain ⟨d, l6, e6, hd, k6⟩ := some_yl (ds := [fq 2, fq (-2), fq 0]) (by simp) (by simp) n l5 k5
    obtain ⟨R, rfl, zR⟩ : ∃ R, d = fq R ∧ Z 4 R := by
      simp at hd
      rcases hd with rfl | rfl | rfl
      · exact ⟨_, rfl, z2.up (by decide)⟩
      · exact ⟨_, rfl, zm2.up (by decide)⟩
      · exact ⟨_, rfl, z0.up (by decide)⟩
    obtain ⟨z, hz, hv⟩ := fin 0 R l6 (z0.up (by decide)) zR
    refine ⟨z, l6, ?_, hv, k6⟩
    have st : ∀ (r : SRes), r = .rt z l6 → (match r with
      | .rt d l' => Res.ok d l'
      | .nx _ l' => Res.ok PyData.none l'
      | _ => Res.no) = Res.ok z l6 := fun r h => by rw [h]
    refine st _ ?_
    show m_law_flat_five [some .lode, none, none, none, none, none, none] l = _
    unfold m_law_flat_five
    rw [seq_nx (show _ = SRes.nx [some .lode, dd (fq a), dd (pr x y), dd (fq r), none, none, none] l4 from by simp [enOf, runD, runL, dSeq, dIfS, dTest, dOp, dVar, dC, Res.bind, dNext, dSet, dCall, dCallK, perm, dCallL, dCons, dNil, dTup, dLst, dRet, dUn, gNeg, dPar, dAsg, dGTup, dGCons, dName, dGNil, dSetOwn, dNew, dApp, dFrz, dFor, dIt, dZip, zipD, dCB, dDrop, forL, dLc, lcL, wipeE, dYes, gTuple, gList, gLen, gAll, blsD, dIf, dAnd, dOr, dNot, dAndV, dOrV, dNotV, Kb.f0, Kb.f1, Kb.f2, Kb.f4, Kb.fh, Kb.fm, Kb.kn, Kb.k1, e1, e2, e3, e4])]
    rw [seq_nx (show _ = SRes.nx [some .lode, dd (fq a), dd (pr x y), dd (fq r), dd (pr (x * x - y * y) (2 * (x * y))), none, none] l4 from by simp [enOf, runD, runL, dSeq, dIfS, dTest, dOp, dVar, dC, Res.bind, dNext, dSet, dCall, dCallK, perm, dCallL, dCons, dNil, dTup, dLst, dRet, dUn, gNeg, dPar, dAsg, dGTup, dGCons, dName, dGNil, dSetOwn, dNew, dApp, dFrz, dFor, dIt, dZip, zipD, dCB, dDrop, forL, dLc, lcL, wipeE, dYes, gTuple, gList, gLen, gAll, blsD, dIf, dAnd, dOr, dNot, dAndV, dOrV, dNotV, Kb.f0, Kb.f1, Kb.f2, Kb.f4, Kb.fh, Kb.fm, Kb.kn, Kb.k1, t])]
    rw [seq_nx (show _ = SRes.nx [some .lode, dd (fq 0), dd (pr x y), dd (fq R), dd (pr (x * x - y * y) (2 * (x * y))), none, none] l6 from by simp [enOf, runD, runL, dSeq, dIfS, dTest, dOp, dVar, dC, Res.bind, dNext, dSet, dCall, dCallK, perm, dCallL, dCons, dNil, dTup, dLst, dRet, dUn, gNeg, dPar, dAsg, dGTup, dGCons, dName, dGNil, dSetOwn, dNew, dApp, dFrz, dFor, dIt, dZip, zipD, dCB, dDrop, forL, dLc, lcL, wipeE, dYes, gTuple, gList, gLen, gAll, blsD, dIf, dAnd, dOr, dNot, dAndV, dOrV, dNotV, Kb.f0, Kb.f1, Kb.f2, Kb.f4, Kb.fh, Kb.fm, Kb.kn, Kb.k1, e5, gEqA_int, fm2, e6])]
    exact hz
  · obtain ⟨z, hz, hv⟩ := fin a r l5 za zr
    refine ⟨z, l5, ?_, hv, k5.dn (by omega)⟩
    have st : ∀ (r : SRes), r = .rt z l5 → (match r with
      | .rt d l' => Res.ok d l'
      | .nx _ l' => Res.ok PyData.none l'
      | _ => Res.no) = Res.ok z l5 := fun r h => by rw [h]
    refine st _ ?_
    show m_law_flat_five [some .lode, none, none, none, none, none, none] l = _
    unfold m_law_flat_five
    rw [seq_nx (show _ = SRes.nx [some .lode, dd (fq a), dd (pr x y), dd (fq r), none, none, none] l4 from by simp [enOf, runD, runL, dSeq, dIfS, dTest, dOp, dVar, dC, Res.bind, dNext, dSet, dCall, dCallK, perm, dCallL, dCons, dNil, dTup, dLst, dRet, dUn, gNeg, dPar, dAsg, dGTup, dGCons, dName, dGNil, dSetOwn, dNew, dApp, dFrz, dFor, dIt, dZip, zipD, dCB, dDrop, forL, dLc, lcL, wipeE, dYes, gTuple, gList, gLen, gAll, blsD, dIf, dAnd, dOr, dNot, dAndV, dOrV, dNotV, Kb.f0, Kb.f1, Kb.f2, Kb.f4, Kb.fh, Kb.fm, Kb.kn, Kb.k1, e1, e2, e3, e4])]
    rw [seq_nx (show _ = SRes.nx [some .lode, dd (fq a), dd (pr x y), dd (fq r), dd (pr (x * x - y * y) (2 * (x * y))), none, none] l4 from by simp [enOf, runD, runL, dSeq, dIfS, dTest, dOp, dVar, dC, Res.bind, dNext, dSet, dCall, dCallK, perm, dCallL, dCons, dNil, dTup, dLst, dRet, dUn, gNeg, dPar, dAsg, dGTup, dGCons, dName, dGNil, dSetOwn, dNew, dApp, dFrz, dFor, dIt, dZip, zipD, dCB, dDrop, forL, dLc, lcL, wipeE, dYes, gTuple, gList, gLen, gAll, blsD, dIf, dAnd, dOr, dNot, dAndV, dOrV, dNotV, Kb.f0, Kb.f1, Kb.f2, Kb.f4, Kb.fh, Kb.fm, Kb.kn, Kb.k1, t])]
    rw [seq_nx (show _ = SRes.nx [some .lode, dd (fq a), dd (pr x y), dd (fq r), dd (pr (x * x - y * y) (2 * (x * y))), none, none] l5 from by simp [enOf, runD, runL, dSeq, dIfS, dTest, dOp, dVar, dC, Res.bind, dNext, dSet, dCall, dCallK, perm, dCallL, dCons, dNil, dTup, dLst, dRet, dUn, gNeg, dPar, dAsg, dGTup, dGCons, dName, dGNil, dSetOwn, dNew, dApp, dFrz, dFor, dIt, dZip, zipD, dCB, dDrop, forL, dLc, lcL, wipeE, dYes, gTuple, gList, gLen, gAll, blsD, dIf, dAnd, dOr, dNot, dAndV, dOrV, dNotV, Kb.f0, Kb.f1, Kb.f2, Kb.f4, Kb.fh, Kb.fm, Kb.kn, Kb.k1, e5, gEqA_int, c])]
    exact hz
theorem kind_yl : Yl 60 (F_law_kind_five []) fun z => ∃ a b c d e, z = pv5 a b c d e ∧ Fv 70 a b c d e := by
  intro n l h
  obtain ⟨_, l1, e1, ⟨i, rfl, i0, i1⟩, k1⟩ := deal_yl (m := 7) (by decide) (by decide) (n + 59) l h
  by_cases c0 : i = 0
  · subst c0
    obtain ⟨z, l2, e2, ⟨a, b, c, d, e, rfl, hz, _⟩, k2⟩ := flat_yl n l1 (k1.dn (by omega))
    refine ⟨_, l2, ?_, ⟨a, b, c, d, e, rfl, hz⟩, k2⟩
    simp [enOf, runD, runL, dSeq, dIfS, dTest, dOp, dVar, dC, Res.bind, dNext, dSet, dCall, dCallK, perm, dCallL, dCons, dNil, dTup, dLst, dRet, dUn, gNeg, dPar, dAsg, dGTup, dGCons, dName, dGNil, dSetOwn, dNew, dApp, dFrz, dFor, dIt, dZip, zipD, dCB, dDrop, forL, dLc, lcL, wipeE, dYes, gTuple, gList, gLen, gAll, blsD, dIf, dAnd, dOr, dNot, dAndV, dOrV, dNotV, Kb.f0, Kb.f1, Kb.f2, Kb.f4, Kb.fh, Kb.fm, Kb.kn, Kb.k1, F_law_kind_five, m_law_kind_five, e1, gEqA_int, e2]
  by_cases c1 : i = 1
  · subst c1
    obtain ⟨_, l2, e2, ⟨x, y, rfl, H⟩, k2⟩ := heading_yl (n + 25) l1 (k1.dn (by omega))
    obtain ⟨_, l3, e3, ⟨a, b, c, d, e, rfl, F⟩, k3⟩ := dead_yl H n l2 k2
    refine ⟨_, l3, ?_, ⟨a, b, c, d, e, rfl, F.za.up (by decide), F.zb.up (by decide), F.zc.up (by decide), F.zd.up (by decide), F.ze.up (by decide)⟩, k3⟩
    simp [enOf, runD, runL, dSeq, dIfS, dTest, dOp, dVar, dC, Res.bind, dNext, dSet, dCall, dCallK, perm, dCallL, dCons, dNil, dTup, dLst, dRet, dUn, gNeg, dPar, dAsg, dGTup, dGCons, dName, dGNil, dSetOwn, dNew, dApp, dFrz, dFor, dIt, dZip, zipD, dCB, dDrop, forL, dLc, lcL, wipeE, dYes, gTuple, gList, gLen, gAll, blsD, dIf, dAnd, dOr, dNot, dAndV, dOrV, dNotV, Kb.f0, Kb.f1, Kb.f2, Kb.f4, Kb.fh, Kb.fm, Kb.kn, Kb.k1, F_law_kind_five, m_law_kind_five, e1, gEqA_int, e2, e3]
  obtain ⟨_, l2, e2, ⟨w, rfl, w0, w1⟩, k2⟩ := few_yl (n + 46) l1 (k1.dn (by omega))
  obtain ⟨_, l3, e3, ⟨a, b, c, d, e, rfl, F⟩, k3⟩ := five_yl (w := w) (k := 4) w0 (by omega) (by omega) (by decide) (n + 21) l2 k2
  by_cases c2 : i = 2
  · subst c2
    refine ⟨_, l3, ?_, ⟨a, b, c, d, e, rfl, F.up (by decide)⟩, k3.dn (by omega)⟩
    simp [enOf, runD, runL, dSeq, dIfS, dTest, dOp, dVar, dC, Res.bind, dNext, dSet, dCall, dCallK, perm, dCallL, dCons, dNil, dTup, dLst, dRet, dUn, gNeg, dPar, dAsg, dGTup, dGCons, dName, dGNil, dSetOwn, dNew, dApp, dFrz, dFor, dIt, dZip, zipD, dCB, dDrop, forL, dLc, lcL, wipeE, dYes, gTuple, gList, gLen, gAll, blsD, dIf, dAnd, dOr, dNot, dAndV, dOrV, dNotV, Kb.f0, Kb.f1, Kb.f2, Kb.f4, Kb.fh, Kb.fm, Kb.kn, Kb.k1, F_law_kind_five, m_law_kind_five, e1, gEqA_int, e2, e3]
  by_cases c3 : i = 3
  · subst c3
    obtain ⟨_, l4, e4, ⟨a', b', c', d', e', rfl, F', _⟩, k4⟩ := flat_yl n l3 (k3.dn (by omega))
    refine ⟨_, l4, ?_, ⟨a', b, c, d', e', rfl, F'.a, F.b.up (by decide), F.c.up (by decide), F'.d, F'.e⟩, k4⟩
    simp [enOf, runD, runL, dSeq, dIfS, dTest, dOp, dVar, dC, Res.bind, dNext, dSet, dCall, dCallK, perm, dCallL, dCons, dNil, dTup, dLst, dRet, dUn, gNeg, dPar, dAsg, dGTup, dGCons, dName, dGNil, dSetOwn, dNew, dApp, dFrz, dFor, dIt, dZip, zipD, dCB, dDrop, forL, dLc, lcL, wipeE, dYes, gTuple, gList, gLen, gAll, blsD, dIf, dAnd, dOr, dNot, dAndV, dOrV, dNotV, Kb.f0, Kb.f1, Kb.f2, Kb.f4, Kb.fh, Kb.fm, Kb.kn, Kb.k1, F_law_kind_five, m_law_kind_five, e1, gEqA_int, e2, e3, e4, ix50, ix51, ix52, ix53, ix54]
  obtain ⟨ha, hb, hc, hd, he⟩ := F
  have s5 := zs5
  have s6 := zs6
  have s9 := zs9
  by_cases c4 : i = 4
  · subst c4
    have m1 := L_mul (p := a) (q := 1 / 6) (by walk_at "zz") (by walk_at "zz")
    have m2 := L_mul (p := b) (q := 1 / 6) (by walk_at "zz") (by walk_at "zz")
    have m3 := L_mul (p := c) (q := 1 / 6) (by walk_at "zz") (by walk_at "zz")
    have m4 := L_mul (p := d) (q := 1 / 6) (by walk_at "zz") (by walk_at "zz")
    have m5 := L_mul (p := e) (q := 1 / 6) (by walk_at "zz") (by walk_at "zz")
    refine ⟨_, l3, ?_, ⟨a * (1 / 6), b * (1 / 6), c * (1 / 6), d * (1 / 6), e * (1 / 6), rfl, by walk_at "zz", by walk_at "zz", by walk_at "zz", by walk_at "zz", by walk_at "zz"⟩, k3.dn (by omega)⟩
    simp [enOf, runD, runL, dSeq, dIfS, dTest, dOp, dVar, dC, Res.bind, dNext, dSet, dCall, dCallK, perm, dCallL, dCons, dNil, dTup, dLst, dRet, dUn, gNeg, dPar, dAsg, dGTup, dGCons, dName, dGNil, dSetOwn, dNew, dApp, dFrz, dFor, dIt, dZip, zipD, dCB, dDrop, forL, dLc, lcL, wipeE, dYes, gTuple, gList, gLen, gAll, blsD, dIf, dAnd, dOr, dNot, dAndV, dOrV, dNotV, Kb.f0, Kb.f1, Kb.f2, Kb.f4, Kb.fh, Kb.fm, Kb.kn, Kb.k1, F_law_kind_five, m_law_kind_five, e1, gEqA_int, e2, e3, f16, m1, m2, m3, m4, m5]
  obtain ⟨_, l4, e4, ⟨o, rfl, zo, _⟩, k4⟩ := over_yl (w := 3) (k := 3) (by decide) (by decide) (by decide) (by decide) n l3 (k3.dn (by omega))
  have g := L_add (p := 2) (q := o) (by walk_at "zz") (by walk_at "zz")
  have m1 := L_mul (p := a) (q := 1 / 5) (by walk_at "zz") (by walk_at "zz")
  by_cases c5 : i = 5
  · subst c5
    have m2 := L_mul (p := b) (q := 1 / 5) (by walk_at "zz") (by walk_at "zz")
    have m5 := L_mul (p := e) (q := 1 / 5) (by walk_at "zz") (by walk_at "zz")
    refine ⟨_, l4, ?_, ⟨a * (1 / 5), b * (1 / 5), 0, 2 + o, e * (1 / 5), rfl, by walk_at "zz", by walk_at "zz", by walk_at "zz", by walk_at "zz", by walk_at "zz"⟩, k4⟩
    simp [enOf, runD, runL, dSeq, dIfS, dTest, dOp, dVar, dC, Res.bind, dNext, dSet, dCall, dCallK, perm, dCallL, dCons, dNil, dTup, dLst, dRet, dUn, gNeg, dPar, dAsg, dGTup, dGCons, dName, dGNil, dSetOwn, dNew, dApp, dFrz, dFor, dIt, dZip, zipD, dCB, dDrop, forL, dLc, lcL, wipeE, dYes, gTuple, gList, gLen, gAll, blsD, dIf, dAnd, dOr, dNot, dAndV, dOrV, dNotV, Kb.f0, Kb.f1, Kb.f2, Kb.f4, Kb.fh, Kb.fm, Kb.kn, Kb.k1, F_law_kind_five, m_law_kind_five, e1, gEqA_int, e2, e3, e4, f15, g, m1, m2, m5, ix50, ix51, ix54]
  · have m4 := L_mul (p := d) (q := 1 / 9) (by walk_at "zz") (by walk_at "zz")
    have m5 := L_mul (p := e) (q := 1 / 9) (by walk_at "zz") (by walk_at "zz")
    refine ⟨_, l4, ?_, ⟨a * (1 / 5), 2 + o, c, d * (1 / 9), e * (1 / 9), rfl, by walk_at "zz", by walk_at "zz", by walk_at "zz", by walk_at "zz", by walk_at "zz"⟩, k4⟩
    simp [enOf, runD, runL, dSeq, dIfS, dTest, dOp, dVar, dC, Res.bind, dNext, dSet, dCall, dCallK, perm, dCallL, dCons, dNil, dTup, dLst, dRet, dUn, gNeg, dPar, dAsg, dGTup, dGCons, dName, dGNil, dSetOwn, dNew, dApp, dFrz, dFor, dIt, dZip, zipD, dCB, dDrop, forL, dLc, lcL, wipeE, dYes, gTuple, gList, gLen, gAll, blsD, dIf, dAnd, dOr, dNot, dAndV, dOrV, dNotV, Kb.f0, Kb.f1, Kb.f2, Kb.f4, Kb.fh, Kb.fm, Kb.kn, Kb.k1, F_law_kind_five, m_law_kind_five, e1, gEqA_int, c0, c1, c2, c3, c4, c5, e2, e3, e4, f15, f19, g, m1, m4, m5, ix50, ix52, ix53, ix54]
/-! the three numbers -/
abbrev tr (a b c : Rat) : Dx.D := .tuple [fq a, fq b, fq c]
theorem L_rounds {a b c d e : Rat} (f : Fv 200 a b c d e) : F_law_rounds [pv5 a b c d e] = some (tr (Wn a b c d e) (Tn a b c d e) (Un a b c d e)) := by
  obtain ⟨ha, hb, hc, hd, he⟩ := f
  have m1 := L_mul (p := a) (q := a) (by walk_at "zz") (by walk_at "zz")
  have m2 := L_add (p := 1) (q := a * a) (by walk_at "zz") (by walk_at "zz")
  have m3 := L_mul (p := d) (q := d) (by walk_at "zz") (by walk_at "zz")
  have m4 := L_mul (p := e) (q := e) (by walk_at "zz") (by walk_at "zz")
  have m5 := L_add (p := d * d) (q := e * e) (by walk_at "zz") (by walk_at "zz")
  have m6 := L_gap (p := 1 + a * a) (q := d * d + e * e) (by walk_at "zz") (by walk_at "zz")
  have n1 := L_mul (p := a) (q := c) (by walk_at "zz") (by walk_at "zz")
  have n2 := L_add (p := b) (q := a * c) (by walk_at "zz") (by walk_at "zz")
  have n3 := L_mul (p := d) (q := b) (by walk_at "zz") (by walk_at "zz")
  have n4 := L_mul (p := e) (q := c) (by walk_at "zz") (by walk_at "zz")
  have n5 := L_add (p := d * b) (q := e * c) (by walk_at "zz") (by walk_at "zz")
  have n6 := L_gap (p := b + a * c) (q := d * b + e * c) (by walk_at "zz") (by walk_at "zz")
  have o1 := L_mul (p := d) (q := c) (by walk_at "zz") (by walk_at "zz")
  have o2 := L_add (p := c) (q := d * c) (by walk_at "zz") (by walk_at "zz")
  have o3 := L_mul (p := a) (q := b) (by walk_at "zz") (by walk_at "zz")
  have o4 := L_mul (p := e) (q := b) (by walk_at "zz") (by walk_at "zz")
  have o5 := L_add (p := a * b) (q := e * b) (by walk_at "zz") (by walk_at "zz")
  have o6 := L_gap (p := c + d * c) (q := a * b + e * b) (by walk_at "zz") (by walk_at "zz")
  unfold Wn Tn Un
  simp [enOf, runD, runL, dSeq, dIfS, dTest, dOp, dVar, dC, Res.bind, dNext, dSet, dCall, dCallK, perm, dCallL, dCons, dNil, dTup, dLst, dRet, dUn, gNeg, dPar, dAsg, dGTup, dGCons, dName, dGNil, dSetOwn, dNew, dApp, dFrz, dFor, dIt, dZip, zipD, dCB, dDrop, forL, dLc, lcL, wipeE, dYes, gTuple, gList, gLen, gAll, blsD, dIf, dAnd, dOr, dNot, dAndV, dOrV, dNotV, Kb.f0, Kb.f1, Kb.f2, Kb.f4, Kb.fh, Kb.fm, Kb.kn, Kb.k1, F_law_rounds, m_law_rounds, m1, m2, m3, m4, m5, m6, n1, n2, n3, n4, n5, n6, o1, o2, o3, o4, o5, o6]
theorem P_rounds {a b c d e : Rat} (f : Fv 200 a b c d e) : F_round_numbers [pv5 a b c d e] = some (tr (Wn a b c d e) (Tn a b c d e) (Un a b c d e)) := by
  obtain ⟨ha, hb, hc, hd, he⟩ := f
  have c1 := P_five a b c d e
  have m1 := P_times (p := a) (q := a) (by walk_at "zz") (by walk_at "zz")
  have m2 := P_plus (p := 1) (q := a * a) (by walk_at "zz") (by walk_at "zz")
  have m5 := P_dot2 hd he hd he (by decide)
  have m6 := P_minus (p := 1 + a * a) (q := d * d + e * e) (by walk_at "zz") (by walk_at "zz")
  have n1 := P_times (p := a) (q := c) (by walk_at "zz") (by walk_at "zz")
  have n2 := P_plus (p := b) (q := a * c) (by walk_at "zz") (by walk_at "zz")
  have n5 := P_dot2 hd he hb hc (by decide)
  have n6 := P_minus (p := b + a * c) (q := d * b + e * c) (by walk_at "zz") (by walk_at "zz")
  have o1 := P_times (p := a) (q := b) (by walk_at "zz") (by walk_at "zz")
  have o2 := P_minus (p := c) (q := a * b) (by walk_at "zz") (by walk_at "zz")
  have o3 := P_times (p := d) (q := c) (by walk_at "zz") (by walk_at "zz")
  have o4 := P_times (p := e) (q := b) (by walk_at "zz") (by walk_at "zz")
  have o5 := P_minus (p := d * c) (q := e * b) (by walk_at "zz") (by walk_at "zz")
  have o6 := P_plus (p := c - a * b) (q := d * c - e * b) (by walk_at "zz") (by walk_at "zz")
  rw [show c - a * b + (d * c - e * b) = Un a b c d e from by unfold Un; grind] at o6
  unfold Wn Tn
  simp [enOf, runD, runL, dSeq, dIfS, dTest, dOp, dVar, dC, Res.bind, dNext, dSet, dCall, dCallK, perm, dCallL, dCons, dNil, dTup, dLst, dRet, dUn, gNeg, dPar, dAsg, dGTup, dGCons, dName, dGNil, dSetOwn, dNew, dApp, dFrz, dFor, dIt, dZip, zipD, dCB, dDrop, forL, dLc, lcL, wipeE, dYes, gTuple, gList, gLen, gAll, blsD, dIf, dAnd, dOr, dNot, dAndV, dOrV, dNotV, Kb.f0, Kb.f1, Kb.f2, Kb.f4, Kb.fh, Kb.fm, Kb.kn, Kb.k1, F_round_numbers, m_round_numbers, c1, m1, m2, m5, m6, n1, n2, n5, n6, o1, o2, o3, o4, o5, o6]
theorem zW {a b c d e : Rat} (f : Fv 200 a b c d e) : Z 1500 (Wn a b c d e) ∧ Z 1500 (Tn a b c d e) ∧ Z 1500 (Un a b c d e) := by
  obtain ⟨ha, hb, hc, hd, he⟩ := f
  unfold Wn Tn Un
  exact ⟨by walk_at "zz", by walk_at "zz", by walk_at "zz"⟩
theorem L_times {n : Nat} {a b c d : Rat} (ha : Z n a) (hb : Z n b) (hc : Z n c) (hd : Z n d) (hn : n ≤ 400) : F_law_times [pr a b, pr c d] = some (pr (a * c - b * d) (a * d + b * c)) := by
  have ya := ha.up hn
  have yb := hb.up hn
  have yc := hc.up hn
  have yd := hd.up hn
  have m1 := L_mul (p := a) (q := c) (by walk_at "zz") (by walk_at "zz")
  have m2 := L_mul (p := b) (q := d) (by walk_at "zz") (by walk_at "zz")
  have m3 := L_mul (p := a) (q := d) (by walk_at "zz") (by walk_at "zz")
  have m4 := L_mul (p := b) (q := c) (by walk_at "zz") (by walk_at "zz")
  have m5 := L_gap (p := a * c) (q := b * d) (by walk_at "zz") (by walk_at "zz")
  have m6 := L_add (p := a * d) (q := b * c) (by walk_at "zz") (by walk_at "zz")
  simp [enOf, runD, runL, dSeq, dIfS, dTest, dOp, dVar, dC, Res.bind, dNext, dSet, dCall, dCallK, perm, dCallL, dCons, dNil, dTup, dLst, dRet, dUn, gNeg, dPar, dAsg, dGTup, dGCons, dName, dGNil, dSetOwn, dNew, dApp, dFrz, dFor, dIt, dZip, zipD, dCB, dDrop, forL, dLc, lcL, wipeE, dYes, gTuple, gList, gLen, gAll, blsD, dIf, dAnd, dOr, dNot, dAndV, dOrV, dNotV, Kb.f0, Kb.f1, Kb.f2, Kb.f4, Kb.fh, Kb.fm, Kb.kn, Kb.k1, F_law_times, m_law_times, m1, m2, m3, m4, m5, m6]
theorem L_conj (a b : Rat) : F_law_conjugate [pr a b] = some (pr a (-b)) := by
  have bk := L_back b
  simp [enOf, runD, runL, dSeq, dIfS, dTest, dOp, dVar, dC, Res.bind, dNext, dSet, dCall, dCallK, perm, dCallL, dCons, dNil, dTup, dLst, dRet, dUn, gNeg, dPar, dAsg, dGTup, dGCons, dName, dGNil, dSetOwn, dNew, dApp, dFrz, dFor, dIt, dZip, zipD, dCB, dDrop, forL, dLc, lcL, wipeE, dYes, gTuple, gList, gLen, gAll, blsD, dIf, dAnd, dOr, dNot, dAndV, dOrV, dNotV, Kb.f0, Kb.f1, Kb.f2, Kb.f4, Kb.fh, Kb.fm, Kb.kn, Kb.k1, F_law_conjugate, m_law_conjugate, ix20, ix21, bk]
theorem gNeT (a b c d e f : Rat) : gNeA (tr a b c) (tr d e f) = some (.bool (!decide (a = d ∧ b = e ∧ c = f))) := by
  have h : gNeA (tr a b c) (tr d e f) = some (.bool (!PyData.eqv (tr a b c) (tr d e f))) := rfl
  rw [h]
  simp [PyData.eqv, PyData.eqvAll, eqv_fq]
theorem gEqT (a b c d e f : Rat) : gEqA (tr a b c) (tr d e f) = some (.bool (decide (a = d ∧ b = e ∧ c = f))) := by
  have h : gEqA (tr a b c) (tr d e f) = some (.bool (PyData.eqv (tr a b c) (tr d e f))) := rfl
  rw [h]
  simp [PyData.eqv, PyData.eqvAll, eqv_fq]
end Kb
end
section
set_option Elab.async false
set_option linter.all false
set_option maxRecDepth 100000
set_option maxHeartbeats 4000000
set_option exponentiation.threshold 100
namespace Kb
open PySem Dx Fc
/-! the round word -/
def whB (a b c d e : Rat) : Rat := Tn a b c d e * Tn a b c d e + Un a b c d e * Un a b c d e - Wn a b c d e * Wn a b c d e
def whF (a b c : Rat) : Rat := b * b + c * c - 4 * (1 + a * a)
def whS (B W F : Int) : Str := if 0 < B then "swings" else if B < 0 then (if 0 < W then "round" else "backward") else if W = 0 ∧ 0 < F then "stuck" else "dead"
def wh (a b c d e : Rat) : Str := whS (sR (whB a b c d e)) (sR (Wn a b c d e)) (sR (whF a b c))
theorem zT {a b c d e : Rat} (f : Fv 90 a b c d e) : Z 700 (Wn a b c d e) ∧ Z 700 (Tn a b c d e) ∧ Z 700 (Un a b c d e) := by
  obtain ⟨ha, hb, hc, hd, he⟩ := f
  unfold Wn Tn Un
  exact ⟨by walk_at "zz", by walk_at "zz", by walk_at "zz"⟩
theorem P_sided {a b c d e : Rat} (f : Fv 90 a b c d e) : F_is_one_sided [pv5 a b c d e] = some (.bool (decide (0 < sR (whF a b c)))) := by
  obtain ⟨ha, hb, hc, hd, he⟩ := f
  have m1 := P_dot2 hb hc hb hc (by decide)
  have m2 := P_times (p := a) (q := a) (by walk_at "zz") (by walk_at "zz")
  have m3 := P_plus (p := 1) (q := a * a) (by walk_at "zz") (by walk_at "zz")
  have m4 := P_times (p := 4) (q := 1 + a * a) (by walk_at "zz") (by walk_at "zz")
  have m5 := P_minus (p := b * b + c * c) (q := 4 * (1 + a * a)) (by walk_at "zz") (by walk_at "zz")
  have s := P_sign (whF a b c)
  unfold whF at s ⊢
  simp [enOf, runD, runL, dSeq, dIfS, dTest, dOp, dVar, dC, Res.bind, dNext, dSet, dCall, dCallK, perm, dCallL, dCons, dNil, dTup, dLst, dRet, dUn, gNeg, dPar, dAsg, dGTup, dGCons, dName, dGNil, dSetOwn, dNew, dApp, dFrz, dFor, dIt, dZip, zipD, dCB, dDrop, forL, dLc, lcL, wipeE, dYes, gTuple, gList, gLen, gAll, blsD, dIf, dAnd, dOr, dNot, dAndV, dOrV, dNotV, Kb.f0, Kb.f1, Kb.f2, Kb.f4, Kb.fh, Kb.fm, Kb.kn, Kb.k1, F_is_one_sided, m_is_one_sided, m1, m2, m3, m4, m5, s, gGt, g2B]
theorem P_wheel {a b c d e : Rat} (f : Fv 90 a b c d e) : F_round_word [pv5 a b c d e] = some (.str (wh a b c d e)) := by
  have r := P_rounds (f.up (by decide))
  obtain ⟨zw, zt', zu⟩ := zT f
  have o := P_sided f
  have m1 := P_dot2 zt' zu zt' zu (by decide)
  have m2 := P_times (p := Wn a b c d e) (q := Wn a b c d e) (by walk_at "zz") (by walk_at "zz")
  have m3 := P_minus (p := Tn a b c d e * Tn a b c d e + Un a b c d e * Un a b c d e) (q := Wn a b c d e * Wn a b c d e) (by walk_at "zz") (by walk_at "zz")
  have s := P_sign (whB a b c d e)
  have s2 := P_sign (Wn a b c d e)
  have e1 : Tn a b c d e * Tn a b c d e + Un a b c d e * Un a b c d e - Wn a b c d e * Wn a b c d e = whB a b c d e := rfl
  rw [e1] at m3
  unfold wh
  have wz : decide (Wn a b c d e = 0) = decide (sR (Wn a b c d e) = 0) := by
    rcases sR_cases (Wn a b c d e) with ⟨p, q⟩ | ⟨p, q⟩ | ⟨p, q⟩ <;> rw [q]
    · rw [decide_eq_false (by grind)]; rfl
    · rw [decide_eq_true p]; rfl
    · rw [decide_eq_false (by grind)]; rfl
  generalize whB a b c d e = B at *
  generalize whF a b c = F at *
  generalize Wn a b c d e = W at *
  generalize Tn a b c d e = T at *
  generalize Un a b c d e = U at *
  rcases sR_cases B with ⟨_, u⟩ | ⟨_, u⟩ | ⟨_, u⟩ <;> rw [u] at s ⊢
  · rcases sR_cases W with ⟨_, v⟩ | ⟨_, v⟩ | ⟨_, v⟩ <;> rw [v] at s2 ⊢ <;> simp [enOf, runD, runL, dSeq, dIfS, dTest, dOp, dVar, dC, Res.bind, dNext, dSet, dCall, dCallK, perm, dCallL, dCons, dNil, dTup, dLst, dRet, dUn, gNeg, dPar, dAsg, dGTup, dGCons, dName, dGNil, dSetOwn, dNew, dApp, dFrz, dFor, dIt, dZip, zipD, dCB, dDrop, forL, dLc, lcL, wipeE, dYes, gTuple, gList, gLen, gAll, blsD, dIf, dAnd, dOr, dNot, dAndV, dOrV, dNotV, Kb.f0, Kb.f1, Kb.f2, Kb.f4, Kb.fh, Kb.fm, Kb.kn, Kb.k1, F_round_word, m_round_word, r, m1, m2, m3, s, s2, gGt, gLt, g2B, whS]
  · rcases sR_cases W with ⟨_, v⟩ | ⟨_, v⟩ | ⟨_, v⟩ <;> rw [v] at wz ⊢ <;> rcases sR_cases F with ⟨_, w⟩ | ⟨_, w⟩ | ⟨_, w⟩ <;> rw [w] at o ⊢ <;> simp [enOf, runD, runL, dSeq, dIfS, dTest, dOp, dVar, dC, Res.bind, dNext, dSet, dCall, dCallK, perm, dCallL, dCons, dNil, dTup, dLst, dRet, dUn, gNeg, dPar, dAsg, dGTup, dGCons, dName, dGNil, dSetOwn, dNew, dApp, dFrz, dFor, dIt, dZip, zipD, dCB, dDrop, forL, dLc, lcL, wipeE, dYes, gTuple, gList, gLen, gAll, blsD, dIf, dAnd, dOr, dNot, dAndV, dOrV, dNotV, Kb.f0, Kb.f1, Kb.f2, Kb.f4, Kb.fh, Kb.fm, Kb.kn, Kb.k1, F_round_word, m_round_word, r, m1, m2, m3, s, o, gGt, gLt, g2B, gEqA_fq, wz, whS]
  · simp [enOf, runD, runL, dSeq, dIfS, dTest, dOp, dVar, dC, Res.bind, dNext, dSet, dCall, dCallK, perm, dCallL, dCons, dNil, dTup, dLst, dRet, dUn, gNeg, dPar, dAsg, dGTup, dGCons, dName, dGNil, dSetOwn, dNew, dApp, dFrz, dFor, dIt, dZip, zipD, dCB, dDrop, forL, dLc, lcL, wipeE, dYes, gTuple, gList, gLen, gAll, blsD, dIf, dAnd, dOr, dNot, dAndV, dOrV, dNotV, Kb.f0, Kb.f1, Kb.f2, Kb.f4, Kb.fh, Kb.fm, Kb.kn, Kb.k1, F_round_word, m_round_word, r, m1, m2, m3, s, gGt, g2B, whS]
theorem sl03 (a b c d e : Dx.D) : gSl (.tuple [a, b, c, d, e]) none (some 3) = some (.tuple [a, b, c]) := rfl
theorem L_wheel {a b c d e : Rat} (f : Fv 90 a b c d e) : F_law_wheel [pv5 a b c d e] = some (.str (wh a b c d e)) := by
  have r := L_rounds (f.up (by decide))
  obtain ⟨zw, zt', zu⟩ := zT f
  have m1 := L_mul (p := Tn a b c d e) (q := Tn a b c d e) (by walk_at "zz") (by walk_at "zz")
  have m2 := L_mul (p := Un a b c d e) (q := Un a b c d e) (by walk_at "zz") (by walk_at "zz")
  have m3 := L_add (p := Tn a b c d e * Tn a b c d e) (q := Un a b c d e * Un a b c d e) (by walk_at "zz") (by walk_at "zz")
  have m4 := L_mul (p := Wn a b c d e) (q := Wn a b c d e) (by walk_at "zz") (by walk_at "zz")
  have m5 := L_gap (p := Tn a b c d e * Tn a b c d e + Un a b c d e * Un a b c d e) (q := Wn a b c d e * Wn a b c d e) (by walk_at "zz") (by walk_at "zz")
  have e1 : Tn a b c d e * Tn a b c d e + Un a b c d e * Un a b c d e - Wn a b c d e * Wn a b c d e = whB a b c d e := rfl
  have sB := L_sign (whB a b c d e)
  obtain ⟨ha, hb, hc, hd, he⟩ := f
  have n1 := L_mul (p := b) (q := b) (by walk_at "zz") (by walk_at "zz")
  have n2 := L_mul (p := c) (q := c) (by walk_at "zz") (by walk_at "zz")
  have n3 := L_add (p := b * b) (q := c * c) (by walk_at "zz") (by walk_at "zz")
  have n4 := L_mul (p := a) (q := a) (by walk_at "zz") (by walk_at "zz")
  have n5 := L_add (p := 1) (q := a * a) (by walk_at "zz") (by walk_at "zz")
  have n6 := L_mul (p := 4) (q := 1 + a * a) (by walk_at "zz") (by walk_at "zz")
  have n7 := L_gap (p := b * b + c * c) (q := 4 * (1 + a * a)) (by walk_at "zz") (by walk_at "zz")
  have e2 : b * b + c * c - 4 * (1 + a * a) = whF a b c := rfl
  rw [e1] at m5
  rw [e2] at n7
  have sq := sq_nn (Wn a b c d e)
  have B0 : Wn a b c d e = 0 → Tn a b c d e * Tn a b c d e + Un a b c d e * Un a b c d e = 0 → whB a b c d e = 0 := fun p q => by
    unfold whB
    rw [p, q]
    grind
  have B1 : Wn a b c d e = 0 → whB a b c d e = 0 → Tn a b c d e * Tn a b c d e + Un a b c d e * Un a b c d e = 0 := fun p q => by
    unfold whB at q
    rw [p] at q
    grind
  unfold wh
  have pF := num_pos (whF a b c)
  have pW := num_pos (Wn a b c d e)
  generalize whB a b c d e = B at *
  generalize whF a b c = F at *
  generalize Tn a b c d e * Tn a b c d e + Un a b c d e * Un a b c d e = S at *
  by_cases hW : Wn a b c d e = 0
  · have hW' := decide_eq_true hW
    have sW : sR (Wn a b c d e) = 0 := if_pos hW
    rw [sW]
    by_cases hS : S = 0
    · have hB := B0 hW hS
      have hS' := decide_eq_true hS
      subst hB
      have sB0 : sR 0 = 0 := if_pos rfl
      rw [sB0] at sB ⊢
      rw [show (0 : Rat).num = 0 from rfl] at sB
      rcases sR_cases F with ⟨p, w⟩ | ⟨p, w⟩ | ⟨p, w⟩ <;> rw [w]
      · have nF : decide (0 < F.num) = false := decide_eq_false (fun z => by have := pF.mp z; grind)
        simp [enOf, runD, runL, dSeq, dIfS, dTest, dOp, dVar, dC, Res.bind, dNext, dSet, dCall, dCallK, perm, dCallL, dCons, dNil, dTup, dLst, dRet, dUn, gNeg, dPar, dAsg, dGTup, dGCons, dName, dGNil, dSetOwn, dNew, dApp, dFrz, dFor, dIt, dZip, zipD, dCB, dDrop, forL, dLc, lcL, wipeE, dYes, gTuple, gList, gLen, gAll, blsD, dIf, dAnd, dOr, dNot, dAndV, dOrV, dNotV, Kb.f0, Kb.f1, Kb.f2, Kb.f4, Kb.fh, Kb.fm, Kb.kn, Kb.k1, F_law_wheel, m_law_wheel, r, dSl, dONone, dOSome, sl03, m1, m2, m3, m4, m5, sB, gI0, gEqA_int, hW', hS', n1, n2, n3, n4, n5, n6, n7, gGt, g2B, nF, whS]
      · have nF : decide (0 < F.num) = false := decide_eq_false (fun z => by have := pF.mp z; grind)
        simp [enOf, runD, runL, dSeq, dIfS, dTest, dOp, dVar, dC, Res.bind, dNext, dSet, dCall, dCallK, perm, dCallL, dCons, dNil, dTup, dLst, dRet, dUn, gNeg, dPar, dAsg, dGTup, dGCons, dName, dGNil, dSetOwn, dNew, dApp, dFrz, dFor, dIt, dZip, zipD, dCB, dDrop, forL, dLc, lcL, wipeE, dYes, gTuple, gList, gLen, gAll, blsD, dIf, dAnd, dOr, dNot, dAndV, dOrV, dNotV, Kb.f0, Kb.f1, Kb.f2, Kb.f4, Kb.fh, Kb.fm, Kb.kn, Kb.k1, F_law_wheel, m_law_wheel, r, dSl, dONone, dOSome, sl03, m1, m2, m3, m4, m5, sB, gI0, gEqA_int, hW', hS', n1, n2, n3, n4, n5, n6, n7, gGt, g2B, nF, whS]
      · have nF : decide (0 < F.num) = true := decide_eq_true (pF.mpr p)
        simp [enOf, runD, runL, dSeq, dIfS, dTest, dOp, dVar, dC, Res.bind, dNext, dSet, dCall, dCallK, perm, dCallL, dCons, dNil, dTup, dLst, dRet, dUn, gNeg, dPar, dAsg, dGTup, dGCons, dName, dGNil, dSetOwn, dNew, dApp, dFrz, dFor, dIt, dZip, zipD, dCB, dDrop, forL, dLc, lcL, wipeE, dYes, gTuple, gList, gLen, gAll, blsD, dIf, dAnd, dOr, dNot, dAndV, dOrV, dNotV, Kb.f0, Kb.f1, Kb.f2, Kb.f4, Kb.fh, Kb.fm, Kb.kn, Kb.k1, F_law_wheel, m_law_wheel, r, dSl, dONone, dOSome, sl03, m1, m2, m3, m4, m5, sB, gI0, gEqA_int, hW', hS', n1, n2, n3, n4, n5, n6, n7, gGt, g2B, nF, whS]
    · have hS' := decide_eq_false hS
      have nB : B ≠ 0 := fun z => hS (B1 hW z)
      rcases sR_cases B with ⟨p, u⟩ | ⟨p, u⟩ | ⟨p, u⟩
      · have nW : decide (0 < (Wn a b c d e).num) = false := decide_eq_false (fun z => by have := pW.mp z; grind)
        rw [u] at sB ⊢
        simp [enOf, runD, runL, dSeq, dIfS, dTest, dOp, dVar, dC, Res.bind, dNext, dSet, dCall, dCallK, perm, dCallL, dCons, dNil, dTup, dLst, dRet, dUn, gNeg, dPar, dAsg, dGTup, dGCons, dName, dGNil, dSetOwn, dNew, dApp, dFrz, dFor, dIt, dZip, zipD, dCB, dDrop, forL, dLc, lcL, wipeE, dYes, gTuple, gList, gLen, gAll, blsD, dIf, dAnd, dOr, dNot, dAndV, dOrV, dNotV, Kb.f0, Kb.f1, Kb.f2, Kb.f4, Kb.fh, Kb.fm, Kb.kn, Kb.k1, F_law_wheel, m_law_wheel, r, dSl, dONone, dOSome, sl03, m1, m2, m3, m4, m5, sB, gI0, gEqA_int, hW', hS', gGt, gLt, g2B, nW, whS]
      · exact absurd p nB
      · rw [u] at sB ⊢
        simp [enOf, runD, runL, dSeq, dIfS, dTest, dOp, dVar, dC, Res.bind, dNext, dSet, dCall, dCallK, perm, dCallL, dCons, dNil, dTup, dLst, dRet, dUn, gNeg, dPar, dAsg, dGTup, dGCons, dName, dGNil, dSetOwn, dNew, dApp, dFrz, dFor, dIt, dZip, zipD, dCB, dDrop, forL, dLc, lcL, wipeE, dYes, gTuple, gList, gLen, gAll, blsD, dIf, dAnd, dOr, dNot, dAndV, dOrV, dNotV, Kb.f0, Kb.f1, Kb.f2, Kb.f4, Kb.fh, Kb.fm, Kb.kn, Kb.k1, F_law_wheel, m_law_wheel, r, dSl, dONone, dOSome, sl03, m1, m2, m3, m4, m5, sB, gI0, gEqA_int, hW', hS', gGt, gLt, g2B, whS]
  · have hW' := decide_eq_false hW
    have sW : sR (Wn a b c d e) ≠ 0 := by
      rcases sR_cases (Wn a b c d e) with ⟨p, u⟩ | ⟨p, u⟩ | ⟨p, u⟩
      · rw [u]; decide
      · exact absurd p hW
      · rw [u]; decide
    rcases sR_cases B with ⟨p, u⟩ | ⟨p, u⟩ | ⟨p, u⟩ <;> rw [u] at sB ⊢
    · rcases sR_cases (Wn a b c d e) with ⟨q, v⟩ | ⟨q, v⟩ | ⟨q, v⟩ <;> rw [v]
      · have nW : decide (0 < (Wn a b c d e).num) = false := decide_eq_false (fun z => by have := pW.mp z; grind)
        simp [enOf, runD, runL, dSeq, dIfS, dTest, dOp, dVar, dC, Res.bind, dNext, dSet, dCall, dCallK, perm, dCallL, dCons, dNil, dTup, dLst, dRet, dUn, gNeg, dPar, dAsg, dGTup, dGCons, dName, dGNil, dSetOwn, dNew, dApp, dFrz, dFor, dIt, dZip, zipD, dCB, dDrop, forL, dLc, lcL, wipeE, dYes, gTuple, gList, gLen, gAll, blsD, dIf, dAnd, dOr, dNot, dAndV, dOrV, dNotV, Kb.f0, Kb.f1, Kb.f2, Kb.f4, Kb.fh, Kb.fm, Kb.kn, Kb.k1, F_law_wheel, m_law_wheel, r, dSl, dONone, dOSome, sl03, m1, m2, m3, m4, m5, sB, gI0, gEqA_int, hW', gGt, gLt, g2B, nW, whS]
      · exact absurd q hW
      · have nW : decide (0 < (Wn a b c d e).num) = true := decide_eq_true (pW.mpr q)
        simp [enOf, runD, runL, dSeq, dIfS, dTest, dOp, dVar, dC, Res.bind, dNext, dSet, dCall, dCallK, perm, dCallL, dCons, dNil, dTup, dLst, dRet, dUn, gNeg, dPar, dAsg, dGTup, dGCons, dName, dGNil, dSetOwn, dNew, dApp, dFrz, dFor, dIt, dZip, zipD, dCB, dDrop, forL, dLc, lcL, wipeE, dYes, gTuple, gList, gLen, gAll, blsD, dIf, dAnd, dOr, dNot, dAndV, dOrV, dNotV, Kb.f0, Kb.f1, Kb.f2, Kb.f4, Kb.fh, Kb.fm, Kb.kn, Kb.k1, F_law_wheel, m_law_wheel, r, dSl, dONone, dOSome, sl03, m1, m2, m3, m4, m5, sB, gI0, gEqA_int, hW', gGt, gLt, g2B, nW, whS]
    · simp [enOf, runD, runL, dSeq, dIfS, dTest, dOp, dVar, dC, Res.bind, dNext, dSet, dCall, dCallK, perm, dCallL, dCons, dNil, dTup, dLst, dRet, dUn, gNeg, dPar, dAsg, dGTup, dGCons, dName, dGNil, dSetOwn, dNew, dApp, dFrz, dFor, dIt, dZip, zipD, dCB, dDrop, forL, dLc, lcL, wipeE, dYes, gTuple, gList, gLen, gAll, blsD, dIf, dAnd, dOr, dNot, dAndV, dOrV, dNotV, Kb.f0, Kb.f1, Kb.f2, Kb.f4, Kb.fh, Kb.fm, Kb.kn, Kb.k1, F_law_wheel, m_law_wheel, r, dSl, dONone, dOSome, sl03, m1, m2, m3, m4, m5, sB, gI0, gEqA_int, hW', gGt, gLt, g2B, whS, sW]
    · simp [enOf, runD, runL, dSeq, dIfS, dTest, dOp, dVar, dC, Res.bind, dNext, dSet, dCall, dCallK, perm, dCallL, dCons, dNil, dTup, dLst, dRet, dUn, gNeg, dPar, dAsg, dGTup, dGCons, dName, dGNil, dSetOwn, dNew, dApp, dFrz, dFor, dIt, dZip, zipD, dCB, dDrop, forL, dLc, lcL, wipeE, dYes, gTuple, gList, gLen, gAll, blsD, dIf, dAnd, dOr, dNot, dAndV, dOrV, dNotV, Kb.f0, Kb.f1, Kb.f2, Kb.f4, Kb.fh, Kb.fm, Kb.kn, Kb.k1, F_law_wheel, m_law_wheel, r, dSl, dONone, dOSome, sl03, m1, m2, m3, m4, m5, sB, gI0, gEqA_int, hW', gGt, gLt, g2B, whS]
theorem wh_repr (a b c d e : Rat) : ∃ r, gRepr [.list [.str (wh a b c d e), .str (wh a b c d e)]] = some (.str r) := by
  unfold wh whS
  split
  · exact ⟨_, if_pos (by decide +kernel)⟩
  · split
    · split
      · exact ⟨_, if_pos (by decide +kernel)⟩
      · exact ⟨_, if_pos (by decide +kernel)⟩
    · split
      · exact ⟨_, if_pos (by decide +kernel)⟩
      · exact ⟨_, if_pos (by decide +kernel)⟩
theorem forL_cons {g : DG} {b : DS} {x : Dx.D} {xs : List Dx.D} {en en1 en2 : En} {l l2 : Ld} (h1 : g x en = some en1) (h2 : b en1 l = .nx en2 l2) : forL g b (x :: xs) en l = forL g b xs en2 l2 := by
  conv => lhs; unfold forL
  simp only [h1, h2]
theorem L_below (p q : Rat) (hp : Z 4000 p) (hq : Z 4000 q) : F_law_below [fq p, fq q] = some (.bool (decide (p < q))) := by
  have c1 := cmul (n := 0) (m := 0) hp.t hq.b
  have c2 := cmul (n := 0) (m := 0) hq.t hp.b
  have e : decide (p < q) = decide (p.num * (q.den : Int) < q.num * (p.den : Int)) := decide_eq_decide.mpr (Rat.lt_iff p q)
  rw [e]
  simp [enOf, runD, runL, dSeq, dIfS, dTest, dOp, dVar, dC, Res.bind, dNext, dSet, dCall, dCallK, perm, dCallL, dCons, dNil, dTup, dLst, dRet, dUn, gNeg, dPar, dAsg, dGTup, dGCons, dName, dGNil, dSetOwn, dNew, dApp, dFrz, dFor, dIt, dZip, zipD, dCB, dDrop, forL, dLc, lcL, wipeE, dYes, gTuple, gList, gLen, gAll, blsD, dIf, dAnd, dOr, dNot, dAndV, dOrV, dNotV, Kb.f0, Kb.f1, Kb.f2, Kb.f4, Kb.fh, Kb.fm, Kb.kn, Kb.k1, F_law_below, m_law_below, gI0, gI1, gMul, c1, c2, gLt, g2B]
/-- a five without force at a heading is dead -/
theorem wh_dead {a b c d e x y : Rat} (h : x * x + y * y = 1) (eb : b = -((1 + d) * x + (a - e) * y)) (ec : c = -((a + e) * x + (d - 1) * y)) : wh a b c d e = "dead" := by
  have B0 : whB a b c d e = 0 := by
    unfold whB Tn Un Wn
    subst eb
    subst ec
    grind
  have F0 : Wn a b c d e = 0 → whF a b c ≤ 0 := by
    intro w
    have p := sq_nn ((1 - d) * x + (a + e) * y)
    have q := sq_nn ((a - e) * x + (-d - 1) * y)
    have k : 4 * (1 + a * a) - (b * b + c * c) = ((1 - d) * x + (a + e) * y) * ((1 - d) * x + (a + e) * y) + ((a - e) * x + (-d - 1) * y) * ((a - e) * x + (-d - 1) * y) := by
      unfold Wn at w
      subst eb
      subst ec
      grind
    unfold whF
    grind
  unfold wh
  rw [B0, show sR 0 = 0 from if_pos rfl]
  rcases sR_cases (Wn a b c d e) with ⟨p, u⟩ | ⟨p, u⟩ | ⟨p, u⟩ <;> rw [u]
  · rfl
  · have f := F0 p
    rcases sR_cases (whF a b c) with ⟨q, v⟩ | ⟨q, v⟩ | ⟨q, v⟩ <;> rw [v]
    · rfl
    · rfl
    · exfalso; grind
  · rfl
end Kb
end
section
set_option Elab.async false
set_option linter.all false
set_option maxRecDepth 100000
set_option maxHeartbeats 4000000
set_option exponentiation.threshold 100
namespace Kb
open PySem Dx Fc
/-! courses and the headings along them -/
theorem cD_e (a b : Int) : cD (a, b) = .tuple [.int a, .int b] := rfl
theorem P_iscourse (p : Int × Int) : F_is_course [cD p] = some (.bool (decide (Int.gcd p.1 p.2 = 1))) := by
  have g : ((Nat.gcd p.1.natAbs p.2.natAbs : Nat) : Int) = (Int.gcd p.1 p.2 : Int) := rfl
  have e : decide (((Int.gcd p.1 p.2 : Nat) : Int) = 1) = decide (Int.gcd p.1 p.2 = 1) := decide_eq_decide.mpr (by omega)
  simp [F_is_course, runD, m_is_course, cD, enOf, dSeq, dIfS, dOr, dNot, dTest, dIsi, dVar, Res.bind, tyN, kb0, dOp, dCB, gLen, dCons, dNil, dC, gNeA_int, dNext, dRet, dAndV, ix20, ix21, dCall, F_is_whole_int, gGcd, g2L, gEqA_int, g]
  omega
theorem P_ccourse {p : Int × Int} (h : Int.gcd p.1 p.2 = 1) : F_check_course [cD p] = some .none := by
  have e := P_iscourse p
  rw [decide_eq_true h] at e
  simp [enOf, runD, runL, dSeq, dIfS, dTest, dOp, dVar, dC, Res.bind, dNext, dSet, dCall, dCallK, perm, dCallL, dCons, dNil, dTup, dLst, dRet, dUn, gNeg, dPar, dAsg, dGTup, dGCons, dName, dGNil, dSetOwn, dNew, dApp, dFrz, dFor, dIt, dZip, zipD, dCB, dDrop, forL, dLc, lcL, wipeE, dYes, gTuple, gList, gLen, gAll, blsD, dIf, dAnd, dOr, dNot, dAndV, dOrV, dNotV, Kb.kn, Kb.k1, F_check_course, m_check_course, e]
def nn2 (P Q : Int) : Int := P * P + Q * Q
def rt (P Q : Int) : Nat := Float64.isqrt (nn2 P Q).toNat
theorem nn2_nn (P Q : Int) : 0 ≤ nn2 P Q := by
  have h : ∀ x : Int, 0 ≤ x * x := fun x => by
    rcases Int.le_total 0 x with z | z
    · exact Int.mul_nonneg z z
    · exact Int.mul_nonneg_of_nonpos_of_nonpos z z
  have := h P
  have := h Q
  unfold nn2
  omega
theorem nn2_pos {P Q : Int} (g : Int.gcd P Q = 1) : 0 < nn2 P Q := by
  have h := nn2_nn P Q
  apply Classical.byContradiction
  intro z
  have e : nn2 P Q = 0 := by omega
  unfold nn2 at e
  have s : ∀ x : Int, 0 ≤ x * x := fun x => by
    rcases Int.le_total 0 x with z | z
    · exact Int.mul_nonneg z z
    · exact Int.mul_nonneg_of_nonpos_of_nonpos z z
  have a := s P
  have b := s Q
  have p0 : P * P = 0 := by omega
  have q0 : Q * Q = 0 := by omega
  have p1 : P = 0 := by rcases Int.mul_eq_zero.mp p0 with z | z <;> exact z
  have q1 : Q = 0 := by rcases Int.mul_eq_zero.mp q0 with z | z <;> exact z
  subst p1
  subst q1
  exact absurd g (by decide)
theorem rt_pos {P Q : Int} (g : Int.gcd P Q = 1) : 0 < rt P Q := by
  have h := nn2_pos g
  have sp := PySem.Float64.isqrt_spec (nn2 P Q).toNat
  apply Classical.byContradiction
  intro z
  have e : rt P Q = 0 := by omega
  unfold rt at e
  rw [e] at sp
  omega
def isq (P Q : Int) : Prop := (rt P Q : Int) * (rt P Q : Int) = nn2 P Q
instance (P Q : Int) : Decidable (isq P Q) := inferInstanceAs (Decidable ((rt P Q : Int) * (rt P Q : Int) = nn2 P Q))
noncomputable def oh (P Q : Int) : Dx.D := if isq P Q then pr ((P : Rat) / ((rt P Q : Int) : Rat)) ((Q : Rat) / ((rt P Q : Int) : Rat)) else .none
structure Cr (n : Nat) (P Q : Int) : Prop where
  g : Int.gcd P Q = 1
  p : Bd n P
  q : Bd n Q
theorem Cr.up {n m : Nat} {P Q : Int} (h : Cr n P Q) (k : n ≤ m) : Cr m P Q := ⟨h.g, h.p.up k, h.q.up k⟩
theorem rt_bd {n : Nat} {P Q : Int} (h : Cr n P Q) : Bd (n + n + 1) (nn2 P Q) ∧ Bd (n + n + 1) (rt P Q : Int) := by
  have b : Bd (n + n + 1) (nn2 P Q) := bdAdd (h.p.mul h.p) (h.q.mul h.q)
  refine ⟨b, ?_⟩
  have sp := PySem.Float64.isqrt_spec (nn2 P Q).toNat
  have z := nn2_nn P Q
  have le : rt P Q ≤ (nn2 P Q).toNat := Nat.le_trans (Nat.le_mul_self _) sp.1
  unfold Bd at *
  omega
theorem P_halong {P Q : Int} (h : Cr 40 P Q) : F_heading_along [cD (P, Q)] = some (oh P Q) := by
  have c := P_ccourse (p := (P, Q)) h.g
  have c1 : cMul P P = true := cMul_ok h.p h.p (by decide) (by decide) (by decide)
  have c2 : cMul Q Q = true := cMul_ok h.q h.q (by decide) (by decide) (by decide)
  obtain ⟨b1, b2⟩ := rt_bd h
  have c3 : cMul (rt P Q : Int) (rt P Q : Int) = true := cMul_ok b2 b2 (by decide) (by decide) (by decide)
  have lg : 0 ≤ nn2 P Q ∧ (nn2 P Q).toNat.log2 < 13000 := by
    refine ⟨nn2_nn P Q, ?_⟩
    have z := nn2_nn P Q
    have : (nn2 P Q).toNat < 2 ^ (40 + 40 + 1) := by
      unfold Bd at b1
      omega
    exact Nat.lt_trans (log2_lt this (by decide)) (by decide)
  have e : P * P + Q * Q = nn2 P Q := rfl
  have er : ((Float64.isqrt (nn2 P Q).toNat : Nat) : Int) = (rt P Q : Int) := rfl
  have rp := rt_pos h.g
  have rn : (rt P Q : Int) ≠ 0 := by omega
  have p1 := P_red (t := P) rn (b2.up (by decide))
  have p2 := P_red (t := Q) rn (b2.up (by decide))
  rw [cD_e] at c ⊢
  unfold oh
  by_cases z : isq P Q
  · rw [if_pos z]
    have z' : (rt P Q : Int) * (rt P Q : Int) = nn2 P Q := z
    simp [enOf, runD, runL, dSeq, dIfS, dTest, dOp, dVar, dC, Res.bind, dNext, dSet, dCall, dCallK, perm, dCallL, dCons, dNil, dTup, dLst, dRet, dUn, gNeg, dPar, dAsg, dGTup, dGCons, dName, dGNil, dSetOwn, dNew, dApp, dFrz, dFor, dIt, dZip, zipD, dCB, dDrop, forL, dLc, lcL, wipeE, dYes, gTuple, gList, gLen, gAll, blsD, dIf, dAnd, dOr, dNot, dAndV, dOrV, dNotV, Kb.kn, Kb.k1, F_heading_along, m_heading_along, c, gMul, c1, c2, c3, gAdd, g2I, e, gIsqrt, lg, er, gNeA_int, z', p1, p2]
  · rw [if_neg z]
    have z' : decide ((rt P Q : Int) * (rt P Q : Int) = nn2 P Q) = false := decide_eq_false z
    simp [enOf, runD, runL, dSeq, dIfS, dTest, dOp, dVar, dC, Res.bind, dNext, dSet, dCall, dCallK, perm, dCallL, dCons, dNil, dTup, dLst, dRet, dUn, gNeg, dPar, dAsg, dGTup, dGCons, dName, dGNil, dSetOwn, dNew, dApp, dFrz, dFor, dIt, dZip, zipD, dCB, dDrop, forL, dLc, lcL, wipeE, dYes, gTuple, gList, gLen, gAll, blsD, dIf, dAnd, dOr, dNot, dAndV, dOrV, dNotV, Kb.kn, Kb.k1, F_heading_along, m_heading_along, c, gMul, c1, c2, c3, gAdd, g2I, e, gIsqrt, lg, er, gNeA_int, z', p1, p2]
theorem oh_heading {P Q : Int} (h : Cr 40 P Q) (z : isq P Q) : Hh 90 ((P : Rat) / ((rt P Q : Int) : Rat)) ((Q : Rat) / ((rt P Q : Int) : Rat)) ∧ co ((P : Rat) / ((rt P Q : Int) : Rat)) ((Q : Rat) / ((rt P Q : Int) : Rat)) = (P, Q) := by
  have rp := rt_pos h.g
  have rn : (rt P Q : Int) ≠ 0 := by omega
  obtain ⟨b1, b2⟩ := rt_bd h
  have rq := cast_ne rn
  have e : (((rt P Q : Int) * (rt P Q : Int) : Int) : Rat) = ((P * P + Q * Q : Int) : Rat) := congrArg _ (show (rt P Q : Int) * (rt P Q : Int) = P * P + Q * Q from z)
  rw [Rat.intCast_mul, Rat.intCast_add, Rat.intCast_mul, Rat.intCast_mul] at e
  have one : (P : Rat) / ((rt P Q : Int) : Rat) * ((P : Rat) / ((rt P Q : Int) : Rat)) + (Q : Rat) / ((rt P Q : Int) : Rat) * ((Q : Rat) / ((rt P Q : Int) : Rat)) = 1 := by grind
  refine ⟨⟨Z.of rn (h.p.up (by decide)) (b2.up (by decide)), Z.of rn (h.q.up (by decide)) (b2.up (by decide)), one⟩, ?_⟩
  have kp : (0 : Rat) < 1 / ((rt P Q : Int) : Rat) := by
    have : (0 : Rat) < ((rt P Q : Int) : Rat) := by exact_mod_cast (show (0 : Int) < rt P Q by omega)
    rw [Rat.div_def, Rat.one_mul]
    exact Rat.inv_pos.mpr this
  refine co_of ?_ kp h.g (by grind) (by grind)
  by_cases c : (P : Rat) / ((rt P Q : Int) : Rat) = 0
  · right
    intro d
    rw [c, d] at one
    grind
  · exact .inl c
theorem P_courseof' {n : Nat} {x y : Rat} (H : Hh n x y) (h0 : 0 < n) (hn : n ≤ 900) : F_course_of [pr x y] = some (cD (co x y)) := by
  have h1 := P_hd H hn
  have nz : x ≠ 0 ∨ y ≠ 0 := by
    have := H.e
    by_cases c : x = 0
    · right
      intro z
      grind
    · exact .inl c
  have al := P_along H.zc H.zs nz h0 (by omega)
  simp [enOf, runD, runL, dSeq, dIfS, dTest, dOp, dVar, dC, Res.bind, dNext, dSet, dCall, dCallK, perm, dCallL, dCons, dNil, dTup, dLst, dRet, dUn, gNeg, dPar, dAsg, dGTup, dGCons, dName, dGNil, dSetOwn, dNew, dApp, dFrz, dFor, dIt, dZip, zipD, dCB, dDrop, forL, dLc, lcL, wipeE, dYes, gTuple, gList, gLen, gAll, blsD, dIf, dAnd, dOr, dNot, dAndV, dOrV, dNotV, Kb.f0, Kb.f1, Kb.f2, Kb.f4, Kb.fh, Kb.fm, Kb.kn, Kb.k1, F_course_of, m_course_of, h1, al]
/-- along a heading's own course -/
theorem along_own {c s : Rat} (h : c * c + s * s = 1) : isq (co c s).1 (co c s).2 ∧ (((co c s).1 : Rat) / ((rt (co c s).1 (co c s).2 : Int) : Rat)) = c ∧ (((co c s).2 : Rat) / ((rt (co c s).1 (co c s).2 : Int) : Rat)) = s := by
  have nz : c ≠ 0 ∨ s ≠ 0 := by
    by_cases z : c = 0
    · right
      intro z2
      grind
    · exact .inl z
  obtain ⟨k, hk, e1, e2, g⟩ := co_scale nz
  generalize (co c s).1 = P at *
  generalize (co c s).2 = Q at *
  have nk : k ≠ 0 := by grind
  have e : (1 / k) * (1 / k) = ((nn2 P Q : Int) : Rat) := by
    unfold nn2
    rw [Rat.intCast_add, Rat.intCast_mul, Rat.intCast_mul]
    generalize (P : Rat) = p at *
    generalize (Q : Rat) = q at *
    have : k * k * (p * p + q * q) = 1 := by grind
    grind
  have jp : 0 < 1 / k := by
    rw [Rat.div_def, Rat.one_mul]
    exact Rat.inv_pos.mpr hk
  generalize hj : 1 / k = j at *
  have d1 : (j ^ 2).den = 1 := by
    have : j ^ 2 = ((nn2 P Q : Int) : Rat) := by rw [← e]; grind
    rw [this]
    rfl
  rw [Rat.den_pow] at d1
  have dj : j.den = 1 := by
    have : j.den * j.den = 1 := by rw [← d1, Nat.pow_two]
    exact Nat.eq_one_of_mul_eq_one_left this
  have jn : j = (j.num : Rat) := by
    have := v_q j
    unfold vR qp at this
    dsimp only at this
    rw [dj] at this
    conv => lhs; rw [← this]
    show (j.num : Rat) / ((1 : Int) : Rat) = _
    grind
  have jpos : 0 < j.num := (num_pos j).mpr jp
  have jsq : j.num * j.num = nn2 P Q := by
    apply Rat.intCast_inj.mp
    rw [Rat.intCast_mul, ← jn]
    exact e
  have rj : (rt P Q : Int) = j.num := by
    have sp := PySem.Float64.isqrt_spec (nn2 P Q).toNat
    have t : (nn2 P Q).toNat = j.num.toNat * j.num.toNat := by
      have : ((j.num.toNat * j.num.toNat : Nat) : Int) = j.num * j.num := by
        rw [Int.natCast_mul, Int.toNat_of_nonneg (by omega)]
      omega
    have : rt P Q = j.num.toNat := by
      refine sq_uniq (n := (nn2 P Q).toNat) sp.1 sp.2 (by omega) ?_
      rw [t]
      have : j.num.toNat * j.num.toNat < (j.num.toNat + 1) * (j.num.toNat + 1) := Nat.mul_lt_mul'' (by omega) (by omega)
      exact this
    omega
  have rjq : ((rt P Q : Int) : Rat) = j := by
    rw [rj]
    exact jn.symm
  refine ⟨?_, ?_, ?_⟩
  · unfold isq
    rw [rj]
    exact jsq
  · rw [rjq, ← hj, e1]
    grind
  · rw [rjq, ← hj, e2]
    grind
theorem oh_own {c s : Rat} (h : c * c + s * s = 1) : oh (co c s).1 (co c s).2 = pr c s := by
  obtain ⟨a, b, d⟩ := along_own h
  unfold oh
  rw [if_pos a, b, d]
theorem rt_neg (P Q : Int) : rt (-P) (-Q) = rt P Q := by
  unfold rt nn2
  rw [Int.neg_mul_neg, Int.neg_mul_neg]
theorem isq_neg (P Q : Int) : isq (-P) (-Q) = isq P Q := by
  unfold isq nn2
  rw [rt_neg, Int.neg_mul_neg, Int.neg_mul_neg]
theorem co_mir {x y : Rat} (h : x ≠ 0 ∨ y ≠ 0) : co x (-y) = ((co x y).1, -(co x y).2) := by
  obtain ⟨k, hk, e1, e2, g⟩ := co_scale h
  refine co_of ?_ hk ?_ e1 ?_
  · rcases h with h | h
    · exact .inl h
    · right
      grind
  · rw [Int.gcd_neg]
    exact g
  · rw [Rat.intCast_neg]
    generalize ((co x y).2 : Rat) = q at *
    grind
end Kb
end
section
set_option Elab.async false
set_option linter.all false
set_option maxRecDepth 100000
set_option maxHeartbeats 4000000
/-! lists of unlike length are told apart whatever they hold -/
namespace Dx
open PySem PySem.Spec PyProof.Rows L2
section
variable {K : PySem.W.Frag} {X : Cx}
def rEqN : R2 := fun x y H Q => ∃ l b xs zs, x = .ref l ∧ y = .ref b ∧ H l = some (.lst xs) ∧ H b = some (.lst zs) ∧ xs.length ≠ zs.length ∧ Q (.bl false) H
theorem op_eqN (hu : X.A.units + 64 < cLine) : OpR X (compareOp .Eq) rEqN := by
  intro pins s σ H x y v u Q I rx ry h
  obtain ⟨l, b, xs, zs, rfl, rfl, hH, hB, hz, q⟩ := h
  cases rx
  cases ry
  obtain ⟨z, its, n, r, hl, e⟩ := I.lstM hH
  obtain ⟨z2, its2, n2, r2, hl2, e2⟩ := I.lstM hB
  refine PySem.SeqAt.eq_list_lengthsAt ⟨_, e, rfl, _, rfl⟩ ⟨_, e2, rfl, _, rfl⟩ ?_ (by omega) ?_
  · rw [List.size_toArray, List.size_toArray]
    simp only [bne_iff_ne]
    omega
  · exact ⟨.bl _, H, I, rfl, q⟩
def gEqN : D → D → Option D
  | .list a, .list b => if a.length = b.length then none else some (.bool false)
  | _, _ => none
theorem os_eqN : OpS K rEqN gEqN := fun L l H P x y dx dy d e hl rx ry hg Q q => by
  unfold gEqN at hg
  split at hg
  · split at hg
    · cases hg
    · rename_i a b z
      cases hg
      obtain ⟨p1, xs, rfl, s1, r1⟩ := rx.isLst
      obtain ⟨p2, ys, rfl, s2, r2⟩ := ry.isLst
      exact ⟨p1, p2, xs, ys, rfl, rfl, e _ _ s1, e _ _ s2, by rw [r1.length, r2.length]; exact z, q _ _ _ (.refl e hl) (.bl _)⟩
  · cases hg
def gEqB : D → D → Option D := fun a b => match gEqN a b with
  | some d => some d
  | none => gEqA a b
abbrev rEqB (K : PySem.W.Frag) : R2 := fun x y H Q => rEqN x y H Q ∨ rEqA K x y H Q
theorem os_eqB : OpS K (rEqB K) gEqB := or_ok os_eqN os_eqA
theorem op_eqB (hu : X.A.units + 64 < cLine) : OpR X (compareOp .Eq) (rEqB X.K) := (op_eqN hu).or (op_eqA hu)
theorem gEqB_c (d : D) (ds : List D) : gEqB (.list (d :: ds)) (.list []) = some (.bool false) := rfl
theorem gEqB_n : gEqB (.list []) (.list []) = some (.bool true) := rfl
end
end Dx
end
section
set_option Elab.async false
set_option linter.all false
set_option maxRecDepth 100000
set_option maxHeartbeats 2000000
namespace Kb
open PySem Dx Fc TL
/-! unlike fractions print unlike -/
def iT (i : Int) : List Nat := match i with
  | .ofNat n => numL n
  | .negSucc n => 45 :: numL (n + 1)
theorem tl_int (i : Int) : tl (Str.ofString (toString i)) = iT i := by
  cases i with
  | ofNat n => exact tl_num n
  | negSucc n =>
    have e : toString (Int.negSucc n) = "-" ++ toString ((n + 1 : Nat) : Int) := rfl
    have h := tl_num (n + 1)
    rw [tl_ofString] at h ⊢
    rw [e, String.toList_append, List.map_append, h]
    rfl
theorem iT_free (i : Int) : 44 ∉ iT i := by
  cases i with
  | ofNat n => exact numL_free (.inl (by decide))
  | negSucc n =>
    intro h
    rcases List.mem_cons.mp h with h | h
    · exact absurd h (by decide)
    · exact numL_free (.inl (by decide)) h
theorem iT_inj {i j : Int} (h : iT i = iT j) : i = j := by
  cases i with
  | ofNat n =>
    cases j with
    | ofNat m => exact congrArg Int.ofNat (numL_inj h)
    | negSucc m =>
      have z : 45 ∈ numL n := by
        have h2 : numL n = 45 :: numL (m + 1) := h
        rw [h2]; exact List.mem_cons_self
      exact absurd z (numL_free (.inl (by decide)))
  | negSucc n =>
    cases j with
    | ofNat m =>
      have z : 45 ∈ numL m := by
        have h2 : 45 :: numL (n + 1) = numL m := h
        rw [← h2]; exact List.mem_cons_self
      exact absurd z (numL_free (.inl (by decide)))
    | negSucc m =>
      have h2 : 45 :: numL (n + 1) = 45 :: numL (m + 1) := h
      have h3 : numL (n + 1) = numL (m + 1) := by injection h2
      have h4 := numL_inj h3
      have h5 : n = m := by omega
      rw [h5]
theorem cut_at {c : Nat} : ∀ {a b r s : List Nat}, c ∉ a → c ∉ b → a ++ c :: r = b ++ c :: s → a = b ∧ r = s
  | [], [], r, s, _, _, h => ⟨rfl, by injection h⟩
  | [], y :: b, r, s, _, hb, h => by
    rw [List.nil_append, List.cons_append] at h
    injection h with h1 h2
    exact absurd (h1 ▸ List.mem_cons_self) hb
  | x :: a, [], r, s, ha, _, h => by
    rw [List.nil_append, List.cons_append] at h
    injection h with h1 h2
    exact absurd (h1 ▸ List.mem_cons_self) ha
  | x :: a, y :: b, r, s, ha, hb, h => by
    rw [List.cons_append, List.cons_append] at h
    injection h with h1 h2
    obtain ⟨h3, h4⟩ := cut_at (fun z => ha (List.mem_cons_of_mem _ z)) (fun z => hb (List.mem_cons_of_mem _ z)) h2
    exact ⟨by rw [h1, h3], h4⟩
theorem tl_fq (q : Rat) : tl (fq q).shown = [40] ++ (iT q.num ++ 44 :: (32 :: (iT (q.den : Int) ++ [41]))) := by
  simp only [Kb.fq, fr, qp, PyData.shown, PyData.shownAll, tt2, tl_append, tl_int]
  rw [tl_ofString, tl_ofString, tl_ofString]
  show ([40] ++ (iT q.num ++ [44, 32] ++ iT (q.den : Int))) ++ [41] = _
  simp
theorem shown_inj {p q : Rat} (h : (fq p).shown = (fq q).shown) : p = q := by
  have h1 := congrArg tl h
  rw [tl_fq, tl_fq] at h1
  obtain ⟨h2, h3⟩ := cut_at (iT_free _) (iT_free _) (List.append_cancel_left h1)
  have h4 : iT (p.den : Int) ++ [41] = iT (q.den : Int) ++ [41] := by injection h3
  have h5 := iT_inj (List.append_cancel_right h4)
  exact Rat.ext (iT_inj h2) (by exact_mod_cast h5)
theorem repr_fq {q : Rat} (h : Z 1900 q) : gRepr [fq q] = some (.str (fq q).shown) := by
  have s := Sh.fq h
  exact if_pos ⟨s.lay, s.show', by have := s.deep; omega, by have := s.len; omega⟩
theorem eq_repr {p q : Rat} : gEqA (.str (fq p).shown) (.str (fq q).shown) = some (.bool (decide (p = q))) := by
  have z : gEqA (.str (fq p).shown) (.str (fq q).shown) = some (.bool (PyData.eqv (.str (fq p).shown) (.str (fq q).shown))) := rfl
  rw [z]
  by_cases e : p = q
  · subst e
    simp [PyData.eqv]
  · have n : (fq p).shown ≠ (fq q).shown := fun h => e (shown_inj h)
    simp [PyData.eqv, e, n]
end Kb
end
section
set_option Elab.async false
set_option linter.all false
set_option maxRecDepth 100000
set_option maxHeartbeats 4000000
namespace K34
open PySem PySem.Spec PyProof.Rows L2 Dx Kb
def top (i : Nat) : Stmt := PySem.Challenge.pw_ironships_k34_waves_known_and_worth.main.body.getD i (.Pass ⟨0, 0, 0, 0⟩)
abbrev s_is_whole : Stmt := top 8
abbrev N_is_whole : List Str := ["value"]
abbrev p_is_whole : List Str := ["value"]
abbrev s_reduced : Stmt := top 9
abbrev N_reduced : List Str := ["top", "bottom", "common"]
abbrev p_reduced : List Str := ["top", "bottom"]
abbrev s_plus : Stmt := top 10
abbrev N_plus : List Str := ["fraction", "other"]
abbrev p_plus : List Str := ["fraction", "other"]
abbrev s_negative : Stmt := top 11
abbrev N_negative : List Str := ["fraction"]
abbrev p_negative : List Str := ["fraction"]
abbrev s_minus : Stmt := top 12
abbrev N_minus : List Str := ["fraction", "other"]
abbrev p_minus : List Str := ["fraction", "other"]
abbrev s_times : Stmt := top 13
abbrev N_times : List Str := ["fraction", "other"]
abbrev p_times : List Str := ["fraction", "other"]
abbrev s_dot : Stmt := top 14
abbrev N_dot : List Str := ["fractions", "others", "total", "fraction", "other"]
abbrev p_dot : List Str := ["fractions", "others"]
abbrev s_is_fraction : Stmt := top 16
abbrev N_is_fraction : List Str := ["value", "top", "bottom"]
abbrev p_is_fraction : List Str := ["value"]
abbrev s_is_row : Stmt := top 17
abbrev N_is_row : List Str := ["value", "many", "number"]
abbrev p_is_row : List Str := ["value", "many"]
abbrev s_is_heading : Stmt := top 19
abbrev N_is_heading : List Str := ["value"]
abbrev p_is_heading : List Str := ["value"]
abbrev s_check_heading : Stmt := top 20
abbrev N_check_heading : List Str := ["given"]
abbrev p_check_heading : List Str := ["given"]
abbrev s_is_wave : Stmt := top 22
abbrev N_is_wave : List Str := ["value"]
abbrev p_is_wave : List Str := ["value"]
abbrev s_wave_at : Stmt := top 23
abbrev N_wave_at : List Str := ["wave", "heading"]
abbrev p_wave_at : List Str := ["wave", "heading"]
abbrev s_check_wave : Stmt := top 24
abbrev N_check_wave : List Str := ["given"]
abbrev p_check_wave : List Str := ["given"]
abbrev s_doubled : Stmt := top 25
abbrev N_doubled : List Str := ["heading", "cosine", "sine"]
abbrev p_doubled : List Str := ["heading"]
abbrev s_law_store : Stmt := top 27
abbrev N_law_store : List Str := ["_law_script", "_law_turn", "_law_own", "_law_stir", "_law_each"]
abbrev p_law_store : List Str := ["_law_script", "_law_turn"]
abbrev s_law_take : Stmt := top 28
abbrev N_law_take : List Str := ["_law_store_here", "_law_many", "_law_found", "_law_lap"]
abbrev p_law_take : List Str := ["_law_store_here", "_law_many"]
abbrev s_law_of : Stmt := top 29
abbrev N_law_of : List Str := ["_law_store_here", "_law_some"]
abbrev p_law_of : List Str := ["_law_store_here", "_law_some"]
abbrev s_law_frac : Stmt := top 30
abbrev N_law_frac : List Str := ["_law_top", "_law_under", "_law_one", "_law_two"]
abbrev p_law_frac : List Str := ["_law_top", "_law_under"]
abbrev s_law_add : Stmt := top 31
abbrev N_law_add : List Str := ["_law_one", "_law_two"]
abbrev p_law_add : List Str := ["_law_one", "_law_two"]
abbrev s_law_sub : Stmt := top 32
abbrev N_law_sub : List Str := ["_law_one", "_law_two"]
abbrev p_law_sub : List Str := ["_law_one", "_law_two"]
abbrev s_law_mul : Stmt := top 33
abbrev N_law_mul : List Str := ["_law_one", "_law_two"]
abbrev p_law_mul : List Str := ["_law_one", "_law_two"]
abbrev s_law_div : Stmt := top 34
abbrev N_law_div : List Str := ["_law_one", "_law_two"]
abbrev p_law_div : List Str := ["_law_one", "_law_two"]
abbrev s_law_total : Stmt := top 35
abbrev N_law_total : List Str := ["_law_some", "_law_found", "_law_each"]
abbrev p_law_total : List Str := ["_law_some"]
abbrev s_law_low : Stmt := top 36
abbrev N_law_low : List Str := ["_law_store_here", "_law_size"]
abbrev p_law_low : List Str := ["_law_store_here"]
abbrev s_law_part : Stmt := top 37
abbrev N_law_part : List Str := ["_law_store_here", "_law_top"]
abbrev p_law_part : List Str := ["_law_store_here"]
abbrev s_law_heading_of : Stmt := top 38
abbrev N_law_heading_of : List Str := ["_law_half_here", "_law_p", "_law_q"]
abbrev p_law_heading_of : List Str := ["_law_half_here"]
abbrev s_law_half : Stmt := top 39
abbrev N_law_half : List Str := ["_law_store_here", "_law_way", "_law_top"]
abbrev p_law_half : List Str := ["_law_store_here"]
abbrev s_law_heading : Stmt := top 40
abbrev N_law_heading : List Str := ["_law_store_here"]
abbrev p_law_heading : List Str := ["_law_store_here"]
abbrev s_law_flipped : Stmt := top 41
abbrev N_law_flipped : List Str := ["_law_point"]
abbrev p_law_flipped : List Str := ["_law_point"]
abbrev s_law_worth : Stmt := top 42
abbrev N_law_worth : List Str := ["_law_wave_here", "_law_point", "_law_c", "_law_s", "_law_squares", "_law_product_here", "_law_some"]
abbrev p_law_worth : List Str := ["_law_wave_here", "_law_point"]
abbrev s_law_chord : Stmt := top 43
abbrev N_law_chord : List Str := ["_law_one", "_law_two", "_law_b", "_law_c"]
abbrev p_law_chord : List Str := ["_law_one", "_law_two"]
abbrev s_law_product : Stmt := top 44
abbrev N_law_product : List Str := ["_law_one", "_law_two", "_law_a", "_law_b", "_law_c", "_law_p", "_law_q", "_law_r", "_law_cosines", "_law_sines", "_law_first", "_law_last"]
abbrev p_law_product : List Str := ["_law_one", "_law_two"]
abbrev s_law_wave : Stmt := top 45
abbrev N_law_wave : List Str := ["_law_store_here", "_law_way", "_law_one", "_law_two", "_law_three", "_law_four", "_law_found", "_law_k", "_law_keep"]
abbrev p_law_wave : List Str := ["_law_store_here"]
abbrev s_law_is_whole : Stmt := top 46
abbrev N_law_is_whole : List Str := ["_law_value"]
abbrev p_law_is_whole : List Str := ["_law_value"]
abbrev s_law_is_frac : Stmt := top 47
abbrev N_law_is_frac : List Str := ["_law_value", "_law_each"]
abbrev p_law_is_frac : List Str := ["_law_value"]
abbrev s_law_are_fracs : Stmt := top 48
abbrev N_law_are_fracs : List Str := ["_law_value", "_law_many", "_law_each"]
abbrev p_law_are_fracs : List Str := ["_law_value", "_law_many"]
abbrev s_law_strange : Stmt := top 49
abbrev N_law_strange : List Str := ["_law_store_here", "_law_some"]
abbrev p_law_strange : List Str := ["_law_store_here"]
abbrev s_law_bent : Stmt := top 50
abbrev N_law_bent : List Str := ["_law_store_here", "_law_thing", "_law_at", "_law_way"]
abbrev p_law_bent : List Str := ["_law_store_here", "_law_thing"]
abbrev s_law_are_forms_right : Stmt := top 51
abbrev N_law_are_forms_right : List Str := ["_law_store_here", "_law_wave_here", "_law_thing"]
abbrev p_law_are_forms_right : List Str := ["_law_store_here", "_law_wave_here"]
abbrev s_law_are_ends_right : Stmt := top 52
abbrev N_law_are_ends_right : List Str := ["_law_wave_here", "_law_a", "_law_b", "_law_c", "_law_d", "_law_points", "_law_due", "_law_each"]
abbrev p_law_are_ends_right : List Str := ["_law_wave_here"]
abbrev s_law_right : Stmt := top 53
abbrev N_law_right : List Str := ["_law_store_here", "_law_wave_here", "_law_point", "_law_due", "_law_other"]
abbrev p_law_right : List Str := ["_law_store_here"]
abbrev s_law : Stmt := top 54
abbrev N_law : List Str := ["_law_script", "_law_turn"]
abbrev p_law : List Str := ["_law_script"]
/-- what the text's top has written: A where each def stands, Fd its function -/
structure Txt (K : PySem.W.Frag) (mg : Str → Option Value) (A : Nat → Addr) (Fd : Nat → FuncData) : Prop where
  f_is_whole : Fun K "is_whole" "is_whole" s_is_whole (A 0) (Fd 0)
  g_is_whole : mg "is_whole" = some (.ref (A 0))
  kp_is_whole : PySem.W.keepIn K (.ref (A 0)) = true
  t_is_whole : Binds K (Fd 0) p_is_whole []
  f_reduced : Fun K "reduced" "reduced" s_reduced (A 1) (Fd 1)
  g_reduced : mg "reduced" = some (.ref (A 1))
  kp_reduced : PySem.W.keepIn K (.ref (A 1)) = true
  t_reduced : Binds K (Fd 1) p_reduced []
  f_plus : Fun K "plus" "plus" s_plus (A 2) (Fd 2)
  g_plus : mg "plus" = some (.ref (A 2))
  kp_plus : PySem.W.keepIn K (.ref (A 2)) = true
  t_plus : Binds K (Fd 2) p_plus []
  f_negative : Fun K "negative" "negative" s_negative (A 3) (Fd 3)
  g_negative : mg "negative" = some (.ref (A 3))
  kp_negative : PySem.W.keepIn K (.ref (A 3)) = true
  t_negative : Binds K (Fd 3) p_negative []
  f_minus : Fun K "minus" "minus" s_minus (A 4) (Fd 4)
  g_minus : mg "minus" = some (.ref (A 4))
  kp_minus : PySem.W.keepIn K (.ref (A 4)) = true
  t_minus : Binds K (Fd 4) p_minus []
  f_times : Fun K "times" "times" s_times (A 5) (Fd 5)
  g_times : mg "times" = some (.ref (A 5))
  kp_times : PySem.W.keepIn K (.ref (A 5)) = true
  t_times : Binds K (Fd 5) p_times []
  f_dot : Fun K "dot" "dot" s_dot (A 6) (Fd 6)
  g_dot : mg "dot" = some (.ref (A 6))
  kp_dot : PySem.W.keepIn K (.ref (A 6)) = true
  t_dot : Binds K (Fd 6) p_dot []
  f_is_fraction : Fun K "is_fraction" "is_fraction" s_is_fraction (A 7) (Fd 7)
  g_is_fraction : mg "is_fraction" = some (.ref (A 7))
  kp_is_fraction : PySem.W.keepIn K (.ref (A 7)) = true
  t_is_fraction : Binds K (Fd 7) p_is_fraction []
  f_is_row : Fun K "is_row" "is_row" s_is_row (A 8) (Fd 8)
  g_is_row : mg "is_row" = some (.ref (A 8))
  kp_is_row : PySem.W.keepIn K (.ref (A 8)) = true
  t_is_row : Binds K (Fd 8) p_is_row []
  f_is_heading : Fun K "is_heading" "is_heading" s_is_heading (A 9) (Fd 9)
  g_is_heading : mg "is_heading" = some (.ref (A 9))
  kp_is_heading : PySem.W.keepIn K (.ref (A 9)) = true
  t_is_heading : Binds K (Fd 9) p_is_heading []
  f_check_heading : Fun K "check_heading" "check_heading" s_check_heading (A 10) (Fd 10)
  g_check_heading : mg "check_heading" = some (.ref (A 10))
  kp_check_heading : PySem.W.keepIn K (.ref (A 10)) = true
  t_check_heading : Binds K (Fd 10) p_check_heading []
  f_is_wave : Fun K "is_wave" "is_wave" s_is_wave (A 11) (Fd 11)
  g_is_wave : mg "is_wave" = some (.ref (A 11))
  kp_is_wave : PySem.W.keepIn K (.ref (A 11)) = true
  t_is_wave : Binds K (Fd 11) p_is_wave []
  f_wave_at : Fun K "wave_at" "wave_at" s_wave_at (A 12) (Fd 12)
  g_wave_at : mg "wave_at" = some (.ref (A 12))
  kp_wave_at : PySem.W.keepIn K (.ref (A 12)) = true
  t_wave_at : Binds K (Fd 12) p_wave_at []
  f_check_wave : Fun K "check_wave" "check_wave" s_check_wave (A 13) (Fd 13)
  g_check_wave : mg "check_wave" = some (.ref (A 13))
  kp_check_wave : PySem.W.keepIn K (.ref (A 13)) = true
  t_check_wave : Binds K (Fd 13) p_check_wave []
  f_doubled : Fun K "_doubled" "_doubled" s_doubled (A 14) (Fd 14)
  g_doubled : mg "_doubled" = some (.ref (A 14))
  kp_doubled : PySem.W.keepIn K (.ref (A 14)) = true
  t_doubled : Binds K (Fd 14) p_doubled []
  f_law_store : Fun K "_law_store" "_law_store" s_law_store (A 15) (Fd 15)
  g_law_store : mg "_law_store" = some (.ref (A 15))
  kp_law_store : PySem.W.keepIn K (.ref (A 15)) = true
  t_law_store : Binds K (Fd 15) p_law_store []
  f_law_take : Fun K "_law_take" "_law_take" s_law_take (A 16) (Fd 16)
  g_law_take : mg "_law_take" = some (.ref (A 16))
  kp_law_take : PySem.W.keepIn K (.ref (A 16)) = true
  t_law_take : Binds K (Fd 16) p_law_take []
  f_law_of : Fun K "_law_of" "_law_of" s_law_of (A 17) (Fd 17)
  g_law_of : mg "_law_of" = some (.ref (A 17))
  kp_law_of : PySem.W.keepIn K (.ref (A 17)) = true
  t_law_of : Binds K (Fd 17) p_law_of []
  f_law_frac : Fun K "_law_frac" "_law_frac" s_law_frac (A 18) (Fd 18)
  g_law_frac : mg "_law_frac" = some (.ref (A 18))
  kp_law_frac : PySem.W.keepIn K (.ref (A 18)) = true
  t_law_frac : Binds K (Fd 18) p_law_frac []
  f_law_add : Fun K "_law_add" "_law_add" s_law_add (A 19) (Fd 19)
  g_law_add : mg "_law_add" = some (.ref (A 19))
  kp_law_add : PySem.W.keepIn K (.ref (A 19)) = true
  t_law_add : Binds K (Fd 19) p_law_add []
  f_law_sub : Fun K "_law_sub" "_law_sub" s_law_sub (A 20) (Fd 20)
  g_law_sub : mg "_law_sub" = some (.ref (A 20))
  kp_law_sub : PySem.W.keepIn K (.ref (A 20)) = true
  t_law_sub : Binds K (Fd 20) p_law_sub []
  f_law_mul : Fun K "_law_mul" "_law_mul" s_law_mul (A 21) (Fd 21)
  g_law_mul : mg "_law_mul" = some (.ref (A 21))
  kp_law_mul : PySem.W.keepIn K (.ref (A 21)) = true
  t_law_mul : Binds K (Fd 21) p_law_mul []
  f_law_div : Fun K "_law_div" "_law_div" s_law_div (A 22) (Fd 22)
  g_law_div : mg "_law_div" = some (.ref (A 22))
  kp_law_div : PySem.W.keepIn K (.ref (A 22)) = true
  t_law_div : Binds K (Fd 22) p_law_div []
  f_law_total : Fun K "_law_total" "_law_total" s_law_total (A 23) (Fd 23)
  g_law_total : mg "_law_total" = some (.ref (A 23))
  kp_law_total : PySem.W.keepIn K (.ref (A 23)) = true
  t_law_total : Binds K (Fd 23) p_law_total []
  f_law_low : Fun K "_law_low" "_law_low" s_law_low (A 24) (Fd 24)
  g_law_low : mg "_law_low" = some (.ref (A 24))
  kp_law_low : PySem.W.keepIn K (.ref (A 24)) = true
  t_law_low : Binds K (Fd 24) p_law_low []
  f_law_part : Fun K "_law_part" "_law_part" s_law_part (A 25) (Fd 25)
  g_law_part : mg "_law_part" = some (.ref (A 25))
  kp_law_part : PySem.W.keepIn K (.ref (A 25)) = true
  t_law_part : Binds K (Fd 25) p_law_part []
  f_law_heading_of : Fun K "_law_heading_of" "_law_heading_of" s_law_heading_of (A 26) (Fd 26)
  g_law_heading_of : mg "_law_heading_of" = some (.ref (A 26))
  kp_law_heading_of : PySem.W.keepIn K (.ref (A 26)) = true
  t_law_heading_of : Binds K (Fd 26) p_law_heading_of []
  f_law_half : Fun K "_law_half" "_law_half" s_law_half (A 27) (Fd 27)
  g_law_half : mg "_law_half" = some (.ref (A 27))
  kp_law_half : PySem.W.keepIn K (.ref (A 27)) = true
  t_law_half : Binds K (Fd 27) p_law_half []
  f_law_heading : Fun K "_law_heading" "_law_heading" s_law_heading (A 28) (Fd 28)
  g_law_heading : mg "_law_heading" = some (.ref (A 28))
  kp_law_heading : PySem.W.keepIn K (.ref (A 28)) = true
  t_law_heading : Binds K (Fd 28) p_law_heading []
  f_law_flipped : Fun K "_law_flipped" "_law_flipped" s_law_flipped (A 29) (Fd 29)
  g_law_flipped : mg "_law_flipped" = some (.ref (A 29))
  kp_law_flipped : PySem.W.keepIn K (.ref (A 29)) = true
  t_law_flipped : Binds K (Fd 29) p_law_flipped []
  f_law_worth : Fun K "_law_worth" "_law_worth" s_law_worth (A 30) (Fd 30)
  g_law_worth : mg "_law_worth" = some (.ref (A 30))
  kp_law_worth : PySem.W.keepIn K (.ref (A 30)) = true
  t_law_worth : Binds K (Fd 30) p_law_worth []
  f_law_chord : Fun K "_law_chord" "_law_chord" s_law_chord (A 31) (Fd 31)
  g_law_chord : mg "_law_chord" = some (.ref (A 31))
  kp_law_chord : PySem.W.keepIn K (.ref (A 31)) = true
  t_law_chord : Binds K (Fd 31) p_law_chord []
  f_law_product : Fun K "_law_product" "_law_product" s_law_product (A 32) (Fd 32)
  g_law_product : mg "_law_product" = some (.ref (A 32))
  kp_law_product : PySem.W.keepIn K (.ref (A 32)) = true
  t_law_product : Binds K (Fd 32) p_law_product []
  f_law_wave : Fun K "_law_wave" "_law_wave" s_law_wave (A 33) (Fd 33)
  g_law_wave : mg "_law_wave" = some (.ref (A 33))
  kp_law_wave : PySem.W.keepIn K (.ref (A 33)) = true
  t_law_wave : Binds K (Fd 33) p_law_wave []
  f_law_is_whole : Fun K "_law_is_whole" "_law_is_whole" s_law_is_whole (A 34) (Fd 34)
  g_law_is_whole : mg "_law_is_whole" = some (.ref (A 34))
  kp_law_is_whole : PySem.W.keepIn K (.ref (A 34)) = true
  t_law_is_whole : Binds K (Fd 34) p_law_is_whole []
  f_law_is_frac : Fun K "_law_is_frac" "_law_is_frac" s_law_is_frac (A 35) (Fd 35)
  g_law_is_frac : mg "_law_is_frac" = some (.ref (A 35))
  kp_law_is_frac : PySem.W.keepIn K (.ref (A 35)) = true
  t_law_is_frac : Binds K (Fd 35) p_law_is_frac []
  f_law_are_fracs : Fun K "_law_are_fracs" "_law_are_fracs" s_law_are_fracs (A 36) (Fd 36)
  g_law_are_fracs : mg "_law_are_fracs" = some (.ref (A 36))
  kp_law_are_fracs : PySem.W.keepIn K (.ref (A 36)) = true
  t_law_are_fracs : Binds K (Fd 36) p_law_are_fracs []
  f_law_strange : Fun K "_law_strange" "_law_strange" s_law_strange (A 37) (Fd 37)
  g_law_strange : mg "_law_strange" = some (.ref (A 37))
  kp_law_strange : PySem.W.keepIn K (.ref (A 37)) = true
  t_law_strange : Binds K (Fd 37) p_law_strange []
  f_law_bent : Fun K "_law_bent" "_law_bent" s_law_bent (A 38) (Fd 38)
  g_law_bent : mg "_law_bent" = some (.ref (A 38))
  kp_law_bent : PySem.W.keepIn K (.ref (A 38)) = true
  t_law_bent : Binds K (Fd 38) p_law_bent []
  f_law_are_forms_right : Fun K "_law_are_forms_right" "_law_are_forms_right" s_law_are_forms_right (A 39) (Fd 39)
  g_law_are_forms_right : mg "_law_are_forms_right" = some (.ref (A 39))
  kp_law_are_forms_right : PySem.W.keepIn K (.ref (A 39)) = true
  t_law_are_forms_right : Binds K (Fd 39) p_law_are_forms_right []
  f_law_are_ends_right : Fun K "_law_are_ends_right" "_law_are_ends_right" s_law_are_ends_right (A 40) (Fd 40)
  g_law_are_ends_right : mg "_law_are_ends_right" = some (.ref (A 40))
  kp_law_are_ends_right : PySem.W.keepIn K (.ref (A 40)) = true
  t_law_are_ends_right : Binds K (Fd 40) p_law_are_ends_right []
  f_law_right : Fun K "_law_right" "_law_right" s_law_right (A 41) (Fd 41)
  g_law_right : mg "_law_right" = some (.ref (A 41))
  kp_law_right : PySem.W.keepIn K (.ref (A 41)) = true
  t_law_right : Binds K (Fd 41) p_law_right []
  f_law : Fun K "law" "law" s_law (A 42) (Fd 42)
  g_law : mg "law" = some (.ref (A 42))
  kp_law : PySem.W.keepIn K (.ref (A 42)) = true
  t_law : Binds K (Fd 42) p_law []
  w_is_wave_0 : KwB K (Fd 11) p_is_wave ["value"] [0]
  w_wave_at_1_0 : KwB K (Fd 12) p_wave_at ["heading", "wave"] [1, 0]
  b_isinstance : mg "isinstance" = none
  b_int : mg "int" = none
  b_bool : mg "bool" = none
  b_zip : mg "zip" = none
  b_tuple : mg "tuple" = none
  b_len : mg "len" = none
  b_all : mg "all" = none
  b_sum : mg "sum" = none
  b_abs : mg "abs" = none
  b_divmod : mg "divmod" = none
  b_range : mg "range" = none
  b_str : mg "str" = none
  b_list : mg "list" = none
  b_repr : mg "repr" = none
  b_max : mg "max" = none
  b_min : mg "min" = none
  m_gcd : mg "gcd" = some (.builtin "math.gcd")
  u_NOUGHT : ∃ u, mg "NOUGHT" = some u ∧ KRp K u k_NOUGHT
  u_ONE : ∃ u, mg "ONE" = some u ∧ KRp K u k_ONE
theorem boot_isinstance : bootBuiltins "isinstance" = some (.builtin "isinstance") := by decide +kernel
theorem boot_int : bootBuiltins "int" = some (.type "int") := by decide +kernel
theorem boot_bool : bootBuiltins "bool" = some (.type "bool") := by decide +kernel
theorem boot_zip : bootBuiltins "zip" = some (.type "zip") := by decide +kernel
theorem boot_tuple : bootBuiltins "tuple" = some (.type "tuple") := by decide +kernel
theorem boot_len : bootBuiltins "len" = some (.builtin "len") := by decide +kernel
theorem boot_all : bootBuiltins "all" = some (.builtin "all") := by decide +kernel
theorem boot_sum : bootBuiltins "sum" = some (.builtin "sum") := by decide +kernel
theorem boot_abs : bootBuiltins "abs" = some (.builtin "abs") := by decide +kernel
theorem boot_divmod : bootBuiltins "divmod" = some (.builtin "divmod") := by decide +kernel
theorem boot_range : bootBuiltins "range" = some (.type "range") := by decide +kernel
theorem boot_str : bootBuiltins "str" = some (.type "str") := by decide +kernel
theorem boot_list : bootBuiltins "list" = some (.type "list") := by decide +kernel
theorem boot_repr : bootBuiltins "repr" = some (.builtin "repr") := by decide +kernel
theorem boot_max : bootBuiltins "max" = some (.builtin "max") := by decide +kernel
theorem boot_min : bootBuiltins "min" = some (.builtin "min") := by decide +kernel
theorem room70 {k : Nat} {A : Around} (r : Room k A) : A.units + 70 < cLine := by
  have := r.un
  omega
theorem room65 {k : Nat} {A : Around} (r : Room k A) : A.units + 65 < cLine := by
  have := r.un
  omega
theorem sc_is_whole : FnScope N_is_whole p_is_whole (defScope s_is_whole) := ⟨rfl, rfl, rfl, by decide +kernel, rfl, by decide +kernel, by decide +kernel⟩
theorem sc_reduced : FnScope N_reduced p_reduced (defScope s_reduced) := ⟨rfl, rfl, rfl, by decide +kernel, rfl, by decide +kernel, by decide +kernel⟩
theorem sc_plus : FnScope N_plus p_plus (defScope s_plus) := ⟨rfl, rfl, rfl, by decide +kernel, rfl, by decide +kernel, by decide +kernel⟩
theorem sc_negative : FnScope N_negative p_negative (defScope s_negative) := ⟨rfl, rfl, rfl, by decide +kernel, rfl, by decide +kernel, by decide +kernel⟩
theorem sc_minus : FnScope N_minus p_minus (defScope s_minus) := ⟨rfl, rfl, rfl, by decide +kernel, rfl, by decide +kernel, by decide +kernel⟩
theorem sc_times : FnScope N_times p_times (defScope s_times) := ⟨rfl, rfl, rfl, by decide +kernel, rfl, by decide +kernel, by decide +kernel⟩
theorem sc_dot : FnScope N_dot p_dot (defScope s_dot) := ⟨rfl, rfl, rfl, by decide +kernel, rfl, by decide +kernel, by decide +kernel⟩
theorem sc_is_fraction : FnScope N_is_fraction p_is_fraction (defScope s_is_fraction) := ⟨rfl, rfl, rfl, by decide +kernel, rfl, by decide +kernel, by decide +kernel⟩
theorem sc_is_row : FnScope N_is_row p_is_row (defScope s_is_row) := ⟨rfl, rfl, rfl, by decide +kernel, rfl, by decide +kernel, by decide +kernel⟩
theorem sc_is_heading : FnScope N_is_heading p_is_heading (defScope s_is_heading) := ⟨rfl, rfl, rfl, by decide +kernel, rfl, by decide +kernel, by decide +kernel⟩
theorem sc_check_heading : FnScope N_check_heading p_check_heading (defScope s_check_heading) := ⟨rfl, rfl, rfl, by decide +kernel, rfl, by decide +kernel, by decide +kernel⟩
theorem sc_is_wave : FnScope N_is_wave p_is_wave (defScope s_is_wave) := ⟨rfl, rfl, rfl, by decide +kernel, rfl, by decide +kernel, by decide +kernel⟩
theorem sc_wave_at : FnScope N_wave_at p_wave_at (defScope s_wave_at) := ⟨rfl, rfl, rfl, by decide +kernel, rfl, by decide +kernel, by decide +kernel⟩
theorem sc_check_wave : FnScope N_check_wave p_check_wave (defScope s_check_wave) := ⟨rfl, rfl, rfl, by decide +kernel, rfl, by decide +kernel, by decide +kernel⟩
theorem sc_doubled : FnScope N_doubled p_doubled (defScope s_doubled) := ⟨rfl, rfl, rfl, by decide +kernel, rfl, by decide +kernel, by decide +kernel⟩
theorem sc_law_store : FnScope N_law_store p_law_store (defScope s_law_store) := ⟨rfl, rfl, rfl, by decide +kernel, rfl, by decide +kernel, by decide +kernel⟩
theorem sc_law_take : FnScope N_law_take p_law_take (defScope s_law_take) := ⟨rfl, rfl, rfl, by decide +kernel, rfl, by decide +kernel, by decide +kernel⟩
theorem sc_law_of : FnScope N_law_of p_law_of (defScope s_law_of) := ⟨rfl, rfl, rfl, by decide +kernel, rfl, by decide +kernel, by decide +kernel⟩
theorem sc_law_frac : FnScope N_law_frac p_law_frac (defScope s_law_frac) := ⟨rfl, rfl, rfl, by decide +kernel, rfl, by decide +kernel, by decide +kernel⟩
theorem sc_law_add : FnScope N_law_add p_law_add (defScope s_law_add) := ⟨rfl, rfl, rfl, by decide +kernel, rfl, by decide +kernel, by decide +kernel⟩
theorem sc_law_sub : FnScope N_law_sub p_law_sub (defScope s_law_sub) := ⟨rfl, rfl, rfl, by decide +kernel, rfl, by decide +kernel, by decide +kernel⟩
theorem sc_law_mul : FnScope N_law_mul p_law_mul (defScope s_law_mul) := ⟨rfl, rfl, rfl, by decide +kernel, rfl, by decide +kernel, by decide +kernel⟩
theorem sc_law_div : FnScope N_law_div p_law_div (defScope s_law_div) := ⟨rfl, rfl, rfl, by decide +kernel, rfl, by decide +kernel, by decide +kernel⟩
theorem sc_law_total : FnScope N_law_total p_law_total (defScope s_law_total) := ⟨rfl, rfl, rfl, by decide +kernel, rfl, by decide +kernel, by decide +kernel⟩
theorem sc_law_low : FnScope N_law_low p_law_low (defScope s_law_low) := ⟨rfl, rfl, rfl, by decide +kernel, rfl, by decide +kernel, by decide +kernel⟩
theorem sc_law_part : FnScope N_law_part p_law_part (defScope s_law_part) := ⟨rfl, rfl, rfl, by decide +kernel, rfl, by decide +kernel, by decide +kernel⟩
theorem sc_law_heading_of : FnScope N_law_heading_of p_law_heading_of (defScope s_law_heading_of) := ⟨rfl, rfl, rfl, by decide +kernel, rfl, by decide +kernel, by decide +kernel⟩
theorem sc_law_half : FnScope N_law_half p_law_half (defScope s_law_half) := ⟨rfl, rfl, rfl, by decide +kernel, rfl, by decide +kernel, by decide +kernel⟩
theorem sc_law_heading : FnScope N_law_heading p_law_heading (defScope s_law_heading) := ⟨rfl, rfl, rfl, by decide +kernel, rfl, by decide +kernel, by decide +kernel⟩
theorem sc_law_flipped : FnScope N_law_flipped p_law_flipped (defScope s_law_flipped) := ⟨rfl, rfl, rfl, by decide +kernel, rfl, by decide +kernel, by decide +kernel⟩
theorem sc_law_worth : FnScope N_law_worth p_law_worth (defScope s_law_worth) := ⟨rfl, rfl, rfl, by decide +kernel, rfl, by decide +kernel, by decide +kernel⟩
theorem sc_law_chord : FnScope N_law_chord p_law_chord (defScope s_law_chord) := ⟨rfl, rfl, rfl, by decide +kernel, rfl, by decide +kernel, by decide +kernel⟩
theorem sc_law_product : FnScope N_law_product p_law_product (defScope s_law_product) := ⟨rfl, rfl, rfl, by decide +kernel, rfl, by decide +kernel, by decide +kernel⟩
theorem sc_law_wave : FnScope N_law_wave p_law_wave (defScope s_law_wave) := ⟨rfl, rfl, rfl, by decide +kernel, rfl, by decide +kernel, by decide +kernel⟩
theorem sc_law_is_whole : FnScope N_law_is_whole p_law_is_whole (defScope s_law_is_whole) := ⟨rfl, rfl, rfl, by decide +kernel, rfl, by decide +kernel, by decide +kernel⟩
theorem sc_law_is_frac : FnScope N_law_is_frac p_law_is_frac (defScope s_law_is_frac) := ⟨rfl, rfl, rfl, by decide +kernel, rfl, by decide +kernel, by decide +kernel⟩
theorem sc_law_are_fracs : FnScope N_law_are_fracs p_law_are_fracs (defScope s_law_are_fracs) := ⟨rfl, rfl, rfl, by decide +kernel, rfl, by decide +kernel, by decide +kernel⟩
theorem sc_law_strange : FnScope N_law_strange p_law_strange (defScope s_law_strange) := ⟨rfl, rfl, rfl, by decide +kernel, rfl, by decide +kernel, by decide +kernel⟩
theorem sc_law_bent : FnScope N_law_bent p_law_bent (defScope s_law_bent) := ⟨rfl, rfl, rfl, by decide +kernel, rfl, by decide +kernel, by decide +kernel⟩
theorem sc_law_are_forms_right : FnScope N_law_are_forms_right p_law_are_forms_right (defScope s_law_are_forms_right) := ⟨rfl, rfl, rfl, by decide +kernel, rfl, by decide +kernel, by decide +kernel⟩
theorem sc_law_are_ends_right : FnScope N_law_are_ends_right p_law_are_ends_right (defScope s_law_are_ends_right) := ⟨rfl, rfl, rfl, by decide +kernel, rfl, by decide +kernel, by decide +kernel⟩
theorem sc_law_right : FnScope N_law_right p_law_right (defScope s_law_right) := ⟨rfl, rfl, rfl, by decide +kernel, rfl, by decide +kernel, by decide +kernel⟩
theorem sc_law : FnScope N_law p_law (defScope s_law) := ⟨rfl, rfl, rfl, by decide +kernel, rfl, by decide +kernel, by decide +kernel⟩
section
variable {P : Program} {w : World} {K : PySem.W.Frag} {mg : Str → Option Value} {base : Heap} {A : Nat → Addr} {Fd : Nat → FuncData}
theorem ok_is_whole (T : Txt K mg A Fd) : FnG P w K mg base CX0 1 (A 0) (Fd 0) p_is_whole (spD K 1 F_is_whole) := fnD (ds := m_is_whole) (k := 0) T.f_is_whole sc_is_whole fun cdv A0 outer s H E hg hr => by
  unfold m_is_whole
  exact (pds_one (pds_ret (pd_and (pd_isi (by rfl) T.b_isinstance (by rfl) T.b_int boot_int (pd_var 0)) (pd_bone (pd_not (pd_isi (by rfl) T.b_isinstance (by rfl) T.b_bool boot_bool (pd_var 0)))))))
theorem ok_reduced (T : Txt K mg A Fd) : FnG P w K mg base CX0 1 (A 1) (Fd 1) p_reduced (spD K 2 F_reduced) := fnD (ds := m_reduced) (k := 0) T.f_reduced sc_reduced fun cdv A0 outer s H E hg hr => by
  unfold m_reduced
  exact (pds_cons (pds_set (i := 2) sc_reduced.nd (pd_callM cr_gcd cs_gcd (by rfl) T.m_gcd (pda_cons (pd_var 0) (pda_cons (pd_var 1) pda_nil))))
    (pds_cons (pds_if (pdt_cmp op_lt os_lt (pd_var 1) pd_int (nomark _))
    (pds_one (pds_set (i := 2) sc_reduced.nd (pd_un un_neg us_neg (pd_var 2)))) pds_nil)
    (pds_one (pds_ret (pd_tup (pda_cons (pd_op op_fdivA os_div (pd_var 0) (pd_var 2)) (pda_cons (pd_op op_fdivA os_div (pd_var 1) (pd_var 2)) pda_nil)))))))
theorem ok_plus (T : Txt K mg A Fd) : FnG P w K mg base CX0 2 (A 2) (Fd 2) p_plus (spD K 2 F_plus) := fnD (ds := m_plus) (k := 1) T.f_plus sc_plus fun cdv A0 outer s H E hg hr => by
  unfold m_plus
  exact (pds_one (pds_ret (pd_call (ok_reduced T) hg (hr.mono (by decide)) (by rfl) T.g_reduced T.kp_reduced T.t_reduced (pda_cons (pd_op op_addA os_add (pd_op op_mulA os_mul (pd_ix ix_seq os_ix (pd_var 0) pd_int (fun _ _ => rfl)) (pd_ix ix_seq os_ix (pd_var 1) pd_int (fun _ _ => rfl))) (pd_op op_mulA os_mul (pd_ix ix_seq os_ix (pd_var 1) pd_int (fun _ _ => rfl)) (pd_ix ix_seq os_ix (pd_var 0) pd_int (fun _ _ => rfl)))) (pda_cons (pd_op op_mulA os_mul (pd_ix ix_seq os_ix (pd_var 0) pd_int (fun _ _ => rfl)) (pd_ix ix_seq os_ix (pd_var 1) pd_int (fun _ _ => rfl))) pda_nil)))))
theorem ok_negative (T : Txt K mg A Fd) : FnG P w K mg base CX0 1 (A 3) (Fd 3) p_negative (spD K 1 F_negative) := fnD (ds := m_negative) (k := 0) T.f_negative sc_negative fun cdv A0 outer s H E hg hr => by
  unfold m_negative
  exact (pds_one (pds_ret (pd_tup (pda_cons (pd_un un_neg us_neg (pd_ix ix_seq os_ix (pd_var 0) pd_int (fun _ _ => rfl))) (pda_cons (pd_ix ix_seq os_ix (pd_var 0) pd_int (fun _ _ => rfl)) pda_nil)))))
theorem ok_minus (T : Txt K mg A Fd) : FnG P w K mg base CX0 3 (A 4) (Fd 4) p_minus (spD K 2 F_minus) := fnD (ds := m_minus) (k := 2) T.f_minus sc_minus fun cdv A0 outer s H E hg hr => by
  unfold m_minus
  exact (pds_one (pds_ret (pd_call (ok_plus T) hg (hr.mono (by decide)) (by rfl) T.g_plus T.kp_plus T.t_plus (pda_cons (pd_var 0) (pda_cons (pd_call (ok_negative T) hg (hr.mono (by decide)) (by rfl) T.g_negative T.kp_negative T.t_negative (pda_cons (pd_var 1) pda_nil)) pda_nil)))))
theorem ok_times (T : Txt K mg A Fd) : FnG P w K mg base CX0 2 (A 5) (Fd 5) p_times (spD K 2 F_times) := fnD (ds := m_times) (k := 1) T.f_times sc_times fun cdv A0 outer s H E hg hr => by
  unfold m_times
  exact (pds_one (pds_ret (pd_call (ok_reduced T) hg (hr.mono (by decide)) (by rfl) T.g_reduced T.kp_reduced T.t_reduced (pda_cons (pd_op op_mulA os_mul (pd_ix ix_seq os_ix (pd_var 0) pd_int (fun _ _ => rfl)) (pd_ix ix_seq os_ix (pd_var 1) pd_int (fun _ _ => rfl))) (pda_cons (pd_op op_mulA os_mul (pd_ix ix_seq os_ix (pd_var 0) pd_int (fun _ _ => rfl)) (pd_ix ix_seq os_ix (pd_var 1) pd_int (fun _ _ => rfl))) pda_nil)))))
theorem ok_dot (T : Txt K mg A Fd) : FnG P w K mg base CX0 3 (A 6) (Fd 6) p_dot (spD K 2 F_dot) := fnD (ds := m_dot) (k := 2) T.f_dot sc_dot fun cdv A0 outer s H E hg hr => by
  unfold m_dot
  exact (pds_cons (pds_set (i := 2) sc_dot.nd (pd_konst (by rfl) T.u_NOUGHT.choose_spec.1 T.u_NOUGHT.choose_spec.2))
    (pds_cons (pds_for rfl (pdi_zip (by rfl) T.b_zip (pda_cons (pd_var 0) (pda_cons (pd_var 1) pda_nil))) (pdg_tup rfl (pdg_cons (pdg_name sc_dot.nd) (pdg_cons (pdg_name sc_dot.nd) pdg_nil))) (pds_one (pds_set (i := 2) sc_dot.nd (pd_call (ok_plus T) hg (hr.mono (by decide)) (by rfl) T.g_plus T.kp_plus T.t_plus (pda_cons (pd_var 2) (pda_cons (pd_call (ok_times T) hg (hr.mono (by decide)) (by rfl) T.g_times T.kp_times T.t_times (pda_cons (pd_var 3) (pda_cons (pd_var 4) pda_nil))) pda_nil))))) PassesOwn.never)
    (pds_one (pds_ret (pd_var 2)))))
theorem ok_is_fraction (T : Txt K mg A Fd) : FnG P w K mg base CX0 2 (A 7) (Fd 7) p_is_fraction (spD K 1 F_is_fraction) := fnD (ds := m_is_fraction) (k := 1) T.f_is_fraction sc_is_fraction fun cdv A0 outer s H E hg hr => by
  unfold m_is_fraction
  exact (pds_cons (pds_if (pdt_w (pdw_or (pdt_not (pdt_v (pd_isi (by rfl) T.b_isinstance (by rfl) T.b_tuple boot_tuple (pd_var 0)))) (pdw_or1 (pdt_cmp (op_neA hr.units) os_neA (pd_callB call_len cs_len (by rfl) T.b_len boot_len (pda_cons (pd_var 0) pda_nil)) pd_int (nomark _)))))
    (pds_one (pds_ret pd_bl)) pds_nil)
    (pds_cons (pds_asg (pd_var 0) (pdg_tup rfl (pdg_cons (pdg_name sc_is_fraction.nd) (pdg_cons (pdg_name sc_is_fraction.nd) pdg_nil))))
    (pds_one (pds_ret (pd_and (pd_call (ok_is_whole T) hg (hr.mono (by decide)) (by rfl) T.g_is_whole T.kp_is_whole T.t_is_whole (pda_cons (pd_var 1) pda_nil)) (pd_and (pd_call (ok_is_whole T) hg (hr.mono (by decide)) (by rfl) T.g_is_whole T.kp_is_whole T.t_is_whole (pda_cons (pd_var 2) pda_nil)) (pd_and (pd_cmp op_gt os_gt (pd_var 2) pd_int (nomark _)) (pd_bone (pd_cmp (op_eqA hr.units) os_eqA (pd_callM cr_gcd cs_gcd (by rfl) T.m_gcd (pda_cons (pd_var 1) (pda_cons (pd_var 2) pda_nil))) pd_int (nomark _))))))))))
theorem ok_is_row (T : Txt K mg A Fd) : FnG P w K mg base CX0 3 (A 8) (Fd 8) p_is_row (spD K 2 F_is_row) := fnD (ds := m_is_row) (k := 2) T.f_is_row sc_is_row fun cdv A0 outer s H E hg hr => by
  unfold m_is_row
  exact (pds_one (pds_ret (pd_and (pd_isi (by rfl) T.b_isinstance (by rfl) T.b_tuple boot_tuple (pd_var 0)) (pd_and (pd_cmp (op_eqA hr.units) os_eqA (pd_callB call_len cs_len (by rfl) T.b_len boot_len (pda_cons (pd_var 0) pda_nil)) (pd_var 1) (nomark _)) (pd_bone (pd_callB (cr_all rfl) cs_all (by rfl) T.b_all boot_all (pda_cons (pd_lc (own := [("number", 2)]) rfl sc_is_row.nd (pdi_seq (pd_var 0)) (blkOk_by (own := [("number", 2)]) (N := N_is_row) (sc := defScope s_is_row) (by decide +kernel)) (fun _ => (pdg_name sc_is_row.nd)) (fun _ => pdts_nil) (fun _ => (pd_call (ok_is_fraction T) hg (hr.mono (by decide)) (by rfl) T.g_is_fraction T.kp_is_fraction T.t_is_fraction (pda_cons (pd_var 2) pda_nil)))) pda_nil)))))))
theorem ok_is_heading (T : Txt K mg A Fd) : FnG P w K mg base CX0 4 (A 9) (Fd 9) p_is_heading (spD K 1 F_is_heading) := fnD (ds := m_is_heading) (k := 3) T.f_is_heading sc_is_heading fun cdv A0 outer s H E hg hr => by
  unfold m_is_heading
  exact (pds_one (pds_ret (pd_and (pd_call (ok_is_row T) hg (hr.mono (by decide)) (by rfl) T.g_is_row T.kp_is_row T.t_is_row (pda_cons (pd_var 0) (pda_cons pd_int pda_nil))) (pd_bone (pd_cmp (op_eqA hr.units) os_eqA (pd_call (ok_dot T) hg (hr.mono (by decide)) (by rfl) T.g_dot T.kp_dot T.t_dot (pda_cons (pd_var 0) (pda_cons (pd_var 0) pda_nil))) (pd_konst (by rfl) T.u_ONE.choose_spec.1 T.u_ONE.choose_spec.2) (nomark _))))))
theorem ok_check_heading (T : Txt K mg A Fd) : FnG P w K mg base CX0 5 (A 10) (Fd 10) p_check_heading (spD K 1 F_check_heading) := fnD (ds := m_check_heading) (k := 4) T.f_check_heading sc_check_heading fun cdv A0 outer s H E hg hr => by
  unfold m_check_heading
  exact (pds_one (pds_if (pdt_not (pdt_v (pd_call (ok_is_heading T) hg (hr.mono (by decide)) (by rfl) T.g_is_heading T.kp_is_heading T.t_is_heading (pda_cons (pd_var 0) pda_nil))))
    (pds_one pds_never) pds_nil))
theorem ok_is_wave (T : Txt K mg A Fd) : FnG P w K mg base CX0 4 (A 11) (Fd 11) p_is_wave (spD K 1 F_is_wave) := fnD (ds := m_is_wave) (k := 3) T.f_is_wave sc_is_wave fun cdv A0 outer s H E hg hr => by
  unfold m_is_wave
  exact (pds_one (pds_ret (pd_call (ok_is_row T) hg (hr.mono (by decide)) (by rfl) T.g_is_row T.kp_is_row T.t_is_row (pda_cons (pd_var 0) (pda_cons pd_int pda_nil)))))
theorem ok_check_wave (T : Txt K mg A Fd) : FnG P w K mg base CX0 5 (A 13) (Fd 13) p_check_wave (spD K 1 F_check_wave) := fnD (ds := m_check_wave) (k := 4) T.f_check_wave sc_check_wave fun cdv A0 outer s H E hg hr => by
  unfold m_check_wave
  exact (pds_one (pds_if (pdt_not (pdt_v (pd_call (ok_is_wave T) hg (hr.mono (by decide)) (by rfl) T.g_is_wave T.kp_is_wave T.t_is_wave (pda_cons (pd_var 0) pda_nil))))
    (pds_one pds_never) pds_nil))
theorem ok_doubled (T : Txt K mg A Fd) : FnG P w K mg base CX0 4 (A 14) (Fd 14) p_doubled (spD K 1 F_doubled) := fnD (ds := m_doubled) (k := 3) T.f_doubled sc_doubled fun cdv A0 outer s H E hg hr => by
  unfold m_doubled
  exact (pds_cons (pds_asg (pd_var 0) (pdg_tup rfl (pdg_cons (pdg_name sc_doubled.nd) (pdg_cons (pdg_name sc_doubled.nd) pdg_nil))))
    (pds_one (pds_ret (pd_tup (pda_cons (pd_call (ok_minus T) hg (hr.mono (by decide)) (by rfl) T.g_minus T.kp_minus T.t_minus (pda_cons (pd_call (ok_times T) hg (hr.mono (by decide)) (by rfl) T.g_times T.kp_times T.t_times (pda_cons (pd_var 1) (pda_cons (pd_var 1) pda_nil))) (pda_cons (pd_call (ok_times T) hg (hr.mono (by decide)) (by rfl) T.g_times T.kp_times T.t_times (pda_cons (pd_var 2) (pda_cons (pd_var 2) pda_nil))) pda_nil))) (pda_cons (pd_call (ok_times T) hg (hr.mono (by decide)) (by rfl) T.g_times T.kp_times T.t_times (pda_cons (pd_tup (pda_cons pd_int (pda_cons pd_int pda_nil))) (pda_cons (pd_call (ok_times T) hg (hr.mono (by decide)) (by rfl) T.g_times T.kp_times T.t_times (pda_cons (pd_var 1) (pda_cons (pd_var 2) pda_nil))) pda_nil))) pda_nil))))))
theorem ok_wave_at (T : Txt K mg A Fd) : FnG P w K mg base CX0 6 (A 12) (Fd 12) p_wave_at (spD K 2 F_wave_at) := fnD (ds := m_wave_at) (k := 5) T.f_wave_at sc_wave_at fun cdv A0 outer s H E hg hr => by
  unfold m_wave_at
  exact (pds_cons (pds_drop (pd_call (ok_check_wave T) hg (hr.mono (by decide)) (by rfl) T.g_check_wave T.kp_check_wave T.t_check_wave (pda_cons (pd_var 0) pda_nil)))
    (pds_cons (pds_drop (pd_call (ok_check_heading T) hg (hr.mono (by decide)) (by rfl) T.g_check_heading T.kp_check_heading T.t_check_heading (pda_cons (pd_var 1) pda_nil)))
    (pds_one (pds_ret (pd_call (ok_dot T) hg (hr.mono (by decide)) (by rfl) T.g_dot T.kp_dot T.t_dot (pda_cons (pd_var 0) (pda_cons (pd_op op_addA os_add (pd_op op_addA os_add (pd_tup (pda_cons (pd_konst (by rfl) T.u_ONE.choose_spec.1 T.u_ONE.choose_spec.2) pda_nil)) (pd_var 1)) (pd_call (ok_doubled T) hg (hr.mono (by decide)) (by rfl) T.g_doubled T.kp_doubled T.t_doubled (pda_cons (pd_var 1) pda_nil))) pda_nil)))))))
noncomputable def m_law_store : DS := (dSeq (dSet 2 (dIf (dTest (dOp gLt (dVar 1) (dCB gLen (dCons (dVar 0) dNil)))) (dCB gInt (dCons (dOp gIx (dVar 0) (dVar 1)) dNil)) (dOp gAdd (dOp gAdd (dOp gMul (dC (.int 6181)) (dVar 1)) (dC (.int 123))) (dOp gMod (dCB gInt (dCons (dCB gSum (dCons (dSl (dVar 0) dONone (dOSome (dC (.int 4)))) dNil)) dNil)) (dC (.int 999979))))))
    (dSeq (dSet 3 (dOp gAdd (dC (.int 65461)) (dOp gMul (dC (.int 2231)) (dVar 1))))
    (dSeq (dFor (dIt (dOp gAdd (dSl (dVar 0) dONone (dOSome (dC (.int 10)))) (dLst (dCons (dVar 2) dNil)))) (dName 4) (dSet 3 (dOp gMod (dCB gInt (dCons (dOp gAdd (dOp gAdd (dOp gMul (dVar 3) (dC (.int 40693))) (dOp gMod (dCB gInt (dCons (dVar 4) dNil)) (dC (.int 2147483399)))) (dC (.int 23))) dNil)) (dC (.int 2147483629)))))
    (dRet (dLst (dCons (dIf (dOr (dTest (dOp gLt (dVar 2) (dC (.int 0)))) (dTest (dOp gGe (dVar 2) (dOp gPow (dC (.int 10)) (dC (.int 18)))))) (dCB gAbs (dCons (dVar 2) dNil)) (dC (.int 0))) (dCons (dVar 3) (dCons (dC (.int 0)) dNil))))))))
noncomputable def F_law_store : List Dx.D → Option Dx.D := runD 5 m_law_store
theorem ok_law_store (T : Txt K mg A Fd) : FnG P w K mg base CX0 1 (A 15) (Fd 15) p_law_store (spD K 2 F_law_store) := fnD (ds := m_law_store) (k := 0) T.f_law_store sc_law_store fun cdv A0 outer s H E hg hr => by
  unfold m_law_store
  exact (pds_cons (pds_set (i := 2) sc_law_store.nd (pd_ite (pdt_cmp op_lt os_lt (pd_var 1) (pd_callB call_len cs_len (by rfl) T.b_len boot_len (pda_cons (pd_var 0) pda_nil)) (nomark _)) (pd_callTy call_int1 cs_int (by rfl) T.b_int boot_int (pda_cons (pd_ix ix_seq os_ix (pd_var 0) (pd_var 1) (fun _ _ => rfl)) pda_nil)) (pd_op op_addA os_add (pd_op op_addA os_add (pd_op op_mulA os_mul pd_int (pd_var 1)) pd_int) (pd_op op_modN os_mod (pd_callTy call_int1 cs_int (by rfl) T.b_int boot_int (pda_cons (pd_callB (cr_sum rfl) cs_sum (by rfl) T.b_sum boot_sum (pda_cons (pd_sl (pd_var 0) pdo_none (pdo_some pd_int)) pda_nil)) pda_nil)) pd_int))))
    (pds_cons (pds_set (i := 3) sc_law_store.nd (pd_op op_addA os_add pd_int (pd_op op_mulA os_mul pd_int (pd_var 1))))
    (pds_cons (pds_for rfl (pdi_seq (pd_op op_addA os_add (pd_sl (pd_var 0) pdo_none (pdo_some pd_int)) (pd_lst (pda_cons (pd_var 2) pda_nil)))) (pdg_name sc_law_store.nd) (pds_one (pds_set (i := 3) sc_law_store.nd (pd_op op_modN os_mod (pd_callTy call_int1 cs_int (by rfl) T.b_int boot_int (pda_cons (pd_op op_addA os_add (pd_op op_addA os_add (pd_op op_mulA os_mul (pd_var 3) pd_int) (pd_op op_modN os_mod (pd_callTy call_int1 cs_int (by rfl) T.b_int boot_int (pda_cons (pd_var 4) pda_nil)) pd_int)) pd_int) pda_nil)) pd_int))) PassesOwn.never)
    (pds_one (pds_ret (pd_lst (pda_cons (pd_ite (pdt_w (pdw_or (pdt_cmp op_lt os_lt (pd_var 2) pd_int (nomark _)) (pdw_or1 (pdt_cmp op_ge os_ge (pd_var 2) (pd_op op_pow os_pow pd_int pd_int) (nomark _))))) (pd_callB call_abs cs_abs (by rfl) T.b_abs boot_abs (pda_cons (pd_var 2) pda_nil)) pd_int) (pda_cons (pd_var 3) (pda_cons pd_int pda_nil)))))))))
noncomputable def m_law_take : DS := (dSeq (dIfS (dTest (dOp gGt (dLo 0 0) (dC (.int 0))))
    (dSeq (dDivLo 0 2 1)
    (dRet (dVar 2))) dNext)
    (dSeq (dSetLo 0 2 (dOp gAdd (dLo 0 2) (dC (.int 1))))
    (dSeq (dSet 3 (dOp gMod (dCB gInt (dCons (dOp gAdd (dOp gAdd (dOp gMul (dLo 0 1) (dC (.int 39373))) (dOp gMul (dLo 0 2) (dC (.int 60013)))) (dC (.int 11))) dNil)) (dC (.int 2147483629))))
    (dSeq (dSetLo 0 1 (dOp gMod (dCB gInt (dCons (dOp gAdd (dOp gMul (dVar 3) (dOp gAdd (dOp gMul (dC (.int 3)) (dOp gDiv (dVar 3) (dC (.int 19)))) (dC (.int 25013)))) (dLo 0 2)) dNil)) (dC (.int 2147483629))))
    (dRet (dOp gMod (dCB gInt (dCons (dOp gDiv (dLo 0 1) (dC (.int 157))) dNil)) (dVar 1)))))))
noncomputable def F_law_take : List Dx.D → Ld → Res Dx.D := runL 4 m_law_take
theorem ok_law_take (T : Txt K mg A Fd) : FnG P w K mg base CX0 1 (A 16) (Fd 16) p_law_take (spL K 1 F_law_take) := fnL (ds := m_law_take) (k := 0) T.f_law_take sc_law_take (by decide) (by decide) fun cdv A0 outer s H E hg hr => by
  unfold m_law_take
  exact (pds_cons (pds_if (pdt_cmp op_gt os_gt (pd_lo 0 0 (pv 0)) pd_int (nomark _))
    (pds_cons (pds_divLo (i := 0) (x := 2) (y := 1) sc_law_take.nd rfl (pv 0) (pv 0) (pv 1) (by rfl) T.b_divmod)
    (pds_one (pds_ret (pd_var 2)))) pds_nil)
    (pds_cons (pds_setLo 0 2 (pv 0) (pd_op op_addA os_add (pd_lo 0 2 (pv 0)) pd_int))
    (pds_cons (pds_set (i := 3) sc_law_take.nd (pd_op op_modN os_mod (pd_callTy call_int1 cs_int (by rfl) T.b_int boot_int (pda_cons (pd_op op_addA os_add (pd_op op_addA os_add (pd_op op_mulA os_mul (pd_lo 0 1 (pv 0)) pd_int) (pd_op op_mulA os_mul (pd_lo 0 2 (pv 0)) pd_int)) pd_int) pda_nil)) pd_int))
    (pds_cons (pds_setLo 0 1 (pv 0) (pd_op op_modN os_mod (pd_callTy call_int1 cs_int (by rfl) T.b_int boot_int (pda_cons (pd_op op_addA os_add (pd_op op_mulA os_mul (pd_var 3) (pd_op op_addA os_add (pd_op op_mulA os_mul pd_int (pd_op op_fdivA os_div (pd_var 3) pd_int)) pd_int)) (pd_lo 0 2 (pv 0))) pda_nil)) pd_int))
    (pds_one (pds_ret (pd_op op_modN os_mod (pd_callTy call_int1 cs_int (by rfl) T.b_int boot_int (pda_cons (pd_op op_fdivA os_div (pd_lo 0 1 (pv 0)) pd_int) pda_nil)) (pd_var 1))))))))
noncomputable def m_law_of : DS := (dRet (dOp gIx (dVar 1) (dCallL 0 1 F_law_take (dCons (dCB gLen (dCons (dVar 1) dNil)) dNil))))
noncomputable def F_law_of : List Dx.D → Ld → Res Dx.D := runL 2 m_law_of
theorem ok_law_of (T : Txt K mg A Fd) : FnG P w K mg base CX0 2 (A 17) (Fd 17) p_law_of (spL K 1 F_law_of) := fnL (ds := m_law_of) (k := 1) T.f_law_of sc_law_of (by decide) (by decide) fun cdv A0 outer s H E hg hr => by
  unfold m_law_of
  exact (pds_one (pds_ret (pd_ix ix_seq os_ix (pd_var 1) (pd_callL (ok_law_take T) hg (hr.mono (by decide)) (by rfl) T.g_law_take T.kp_law_take T.t_law_take (pv 0) (pda_cons (pd_callB call_len cs_len (by rfl) T.b_len boot_len (pda_cons (pd_var 1) pda_nil)) pda_nil)) (fun _ _ => rfl))))
noncomputable def m_law_frac : DS := (dSeq (dPar [2, 3] (dCons (dCB gAbs (dCons (dVar 0) dNil)) (dCons (dCB gAbs (dCons (dVar 1) dNil)) dNil)))
    (dSeq (dWhile (dTest (dOp gNeA (dVar 3) (dC (.int 0)))) (dPar [2, 3] (dCons (dVar 3) (dCons (dOp gMod (dCB gInt (dCons (dVar 2) dNil)) (dVar 3)) dNil))))
    (dSeq (dSet 2 (dIf (dTest (dOp gGt (dVar 1) (dC (.int 0)))) (dVar 2) (dOp gSub (dC (.int 0)) (dVar 2))))
    (dRet (dTup (dCons (dOp gDiv (dVar 0) (dVar 2)) (dCons (dOp gDiv (dVar 1) (dVar 2)) dNil)))))))
noncomputable def F_law_frac : List Dx.D → Option Dx.D := runD 4 m_law_frac
theorem ok_law_frac (T : Txt K mg A Fd) : FnG P w K mg base CX0 1 (A 18) (Fd 18) p_law_frac (spD K 2 F_law_frac) := fnD (ds := m_law_frac) (k := 0) T.f_law_frac sc_law_frac fun cdv A0 outer s H E hg hr => by
  unfold m_law_frac
  exact (pds_cons (pds_par (i := 2) (j := 3) rfl sc_law_frac.nd (pda_cons (pd_callB call_abs cs_abs (by rfl) T.b_abs boot_abs (pda_cons (pd_var 0) pda_nil)) (pda_cons (pd_callB call_abs cs_abs (by rfl) T.b_abs boot_abs (pda_cons (pd_var 1) pda_nil)) pda_nil)))
    (pds_cons (pds_while (pdt_cmp (op_neA hr.units) os_neA (pd_var 3) pd_int (nomark _)) (pds_one (pds_par (i := 2) (j := 3) rfl sc_law_frac.nd (pda_cons (pd_var 3) (pda_cons (pd_op op_modN os_mod (pd_callTy call_int1 cs_int (by rfl) T.b_int boot_int (pda_cons (pd_var 2) pda_nil)) (pd_var 3)) pda_nil)))) PassesOwn.never)
    (pds_cons (pds_set (i := 2) sc_law_frac.nd (pd_ite (pdt_cmp op_gt os_gt (pd_var 1) pd_int (nomark _)) (pd_var 2) (pd_op op_sub os_sub pd_int (pd_var 2))))
    (pds_one (pds_ret (pd_tup (pda_cons (pd_op op_fdivA os_div (pd_var 0) (pd_var 2)) (pda_cons (pd_op op_fdivA os_div (pd_var 1) (pd_var 2)) pda_nil))))))))
noncomputable def m_law_add : DS := (dRet (dCall 2 F_law_frac (dCons (dOp gAdd (dOp gMul (dOp gIx (dVar 0) (dC (.int 0))) (dOp gIx (dVar 1) (dC (.int 1)))) (dOp gMul (dOp gIx (dVar 1) (dC (.int 0))) (dOp gIx (dVar 0) (dC (.int 1))))) (dCons (dOp gMul (dOp gIx (dVar 0) (dC (.int 1))) (dOp gIx (dVar 1) (dC (.int 1)))) dNil))))
noncomputable def F_law_add : List Dx.D → Option Dx.D := runD 2 m_law_add
theorem ok_law_add (T : Txt K mg A Fd) : FnG P w K mg base CX0 2 (A 19) (Fd 19) p_law_add (spD K 2 F_law_add) := fnD (ds := m_law_add) (k := 1) T.f_law_add sc_law_add fun cdv A0 outer s H E hg hr => by
  unfold m_law_add
  exact (pds_one (pds_ret (pd_call (ok_law_frac T) hg (hr.mono (by decide)) (by rfl) T.g_law_frac T.kp_law_frac T.t_law_frac (pda_cons (pd_op op_addA os_add (pd_op op_mulA os_mul (pd_ix ix_seq os_ix (pd_var 0) pd_int (fun _ _ => rfl)) (pd_ix ix_seq os_ix (pd_var 1) pd_int (fun _ _ => rfl))) (pd_op op_mulA os_mul (pd_ix ix_seq os_ix (pd_var 1) pd_int (fun _ _ => rfl)) (pd_ix ix_seq os_ix (pd_var 0) pd_int (fun _ _ => rfl)))) (pda_cons (pd_op op_mulA os_mul (pd_ix ix_seq os_ix (pd_var 0) pd_int (fun _ _ => rfl)) (pd_ix ix_seq os_ix (pd_var 1) pd_int (fun _ _ => rfl))) pda_nil)))))
noncomputable def m_law_sub : DS := (dRet (dCall 2 F_law_frac (dCons (dOp gSub (dOp gMul (dOp gIx (dVar 0) (dC (.int 0))) (dOp gIx (dVar 1) (dC (.int 1)))) (dOp gMul (dOp gIx (dVar 1) (dC (.int 0))) (dOp gIx (dVar 0) (dC (.int 1))))) (dCons (dOp gMul (dOp gIx (dVar 0) (dC (.int 1))) (dOp gIx (dVar 1) (dC (.int 1)))) dNil))))
noncomputable def F_law_sub : List Dx.D → Option Dx.D := runD 2 m_law_sub
theorem ok_law_sub (T : Txt K mg A Fd) : FnG P w K mg base CX0 2 (A 20) (Fd 20) p_law_sub (spD K 2 F_law_sub) := fnD (ds := m_law_sub) (k := 1) T.f_law_sub sc_law_sub fun cdv A0 outer s H E hg hr => by
  unfold m_law_sub
  exact (pds_one (pds_ret (pd_call (ok_law_frac T) hg (hr.mono (by decide)) (by rfl) T.g_law_frac T.kp_law_frac T.t_law_frac (pda_cons (pd_op op_sub os_sub (pd_op op_mulA os_mul (pd_ix ix_seq os_ix (pd_var 0) pd_int (fun _ _ => rfl)) (pd_ix ix_seq os_ix (pd_var 1) pd_int (fun _ _ => rfl))) (pd_op op_mulA os_mul (pd_ix ix_seq os_ix (pd_var 1) pd_int (fun _ _ => rfl)) (pd_ix ix_seq os_ix (pd_var 0) pd_int (fun _ _ => rfl)))) (pda_cons (pd_op op_mulA os_mul (pd_ix ix_seq os_ix (pd_var 0) pd_int (fun _ _ => rfl)) (pd_ix ix_seq os_ix (pd_var 1) pd_int (fun _ _ => rfl))) pda_nil)))))
noncomputable def m_law_mul : DS := (dRet (dCall 2 F_law_frac (dCons (dOp gMul (dOp gIx (dVar 0) (dC (.int 0))) (dOp gIx (dVar 1) (dC (.int 0)))) (dCons (dOp gMul (dOp gIx (dVar 0) (dC (.int 1))) (dOp gIx (dVar 1) (dC (.int 1)))) dNil))))
noncomputable def F_law_mul : List Dx.D → Option Dx.D := runD 2 m_law_mul
theorem ok_law_mul (T : Txt K mg A Fd) : FnG P w K mg base CX0 2 (A 21) (Fd 21) p_law_mul (spD K 2 F_law_mul) := fnD (ds := m_law_mul) (k := 1) T.f_law_mul sc_law_mul fun cdv A0 outer s H E hg hr => by
  unfold m_law_mul
  exact (pds_one (pds_ret (pd_call (ok_law_frac T) hg (hr.mono (by decide)) (by rfl) T.g_law_frac T.kp_law_frac T.t_law_frac (pda_cons (pd_op op_mulA os_mul (pd_ix ix_seq os_ix (pd_var 0) pd_int (fun _ _ => rfl)) (pd_ix ix_seq os_ix (pd_var 1) pd_int (fun _ _ => rfl))) (pda_cons (pd_op op_mulA os_mul (pd_ix ix_seq os_ix (pd_var 0) pd_int (fun _ _ => rfl)) (pd_ix ix_seq os_ix (pd_var 1) pd_int (fun _ _ => rfl))) pda_nil)))))
noncomputable def m_law_div : DS := (dRet (dCall 2 F_law_frac (dCons (dOp gMul (dOp gIx (dVar 0) (dC (.int 0))) (dOp gIx (dVar 1) (dC (.int 1)))) (dCons (dOp gMul (dOp gIx (dVar 0) (dC (.int 1))) (dOp gIx (dVar 1) (dC (.int 0)))) dNil))))
noncomputable def F_law_div : List Dx.D → Option Dx.D := runD 2 m_law_div
theorem ok_law_div (T : Txt K mg A Fd) : FnG P w K mg base CX0 2 (A 22) (Fd 22) p_law_div (spD K 2 F_law_div) := fnD (ds := m_law_div) (k := 1) T.f_law_div sc_law_div fun cdv A0 outer s H E hg hr => by
  unfold m_law_div
  exact (pds_one (pds_ret (pd_call (ok_law_frac T) hg (hr.mono (by decide)) (by rfl) T.g_law_frac T.kp_law_frac T.t_law_frac (pda_cons (pd_op op_mulA os_mul (pd_ix ix_seq os_ix (pd_var 0) pd_int (fun _ _ => rfl)) (pd_ix ix_seq os_ix (pd_var 1) pd_int (fun _ _ => rfl))) (pda_cons (pd_op op_mulA os_mul (pd_ix ix_seq os_ix (pd_var 0) pd_int (fun _ _ => rfl)) (pd_ix ix_seq os_ix (pd_var 1) pd_int (fun _ _ => rfl))) pda_nil)))))
noncomputable def m_law_total : DS := (dSeq (dSet 1 (dTup (dCons (dC (.int 0)) (dCons (dC (.int 1)) dNil))))
    (dSeq (dFor (dIt (dVar 0)) (dName 2) (dSet 1 (dCall 2 F_law_add (dCons (dVar 1) (dCons (dVar 2) dNil)))))
    (dRet (dVar 1))))
noncomputable def F_law_total : List Dx.D → Option Dx.D := runD 3 m_law_total
theorem ok_law_total (T : Txt K mg A Fd) : FnG P w K mg base CX0 3 (A 23) (Fd 23) p_law_total (spD K 1 F_law_total) := fnD (ds := m_law_total) (k := 2) T.f_law_total sc_law_total fun cdv A0 outer s H E hg hr => by
  unfold m_law_total
  exact (pds_cons (pds_set (i := 1) sc_law_total.nd (pd_tup (pda_cons pd_int (pda_cons pd_int pda_nil))))
    (pds_cons (pds_for rfl (pdi_seq (pd_var 0)) (pdg_name sc_law_total.nd) (pds_one (pds_set (i := 1) sc_law_total.nd (pd_call (ok_law_add T) hg (hr.mono (by decide)) (by rfl) T.g_law_add T.kp_law_add T.t_law_add (pda_cons (pd_var 1) (pda_cons (pd_var 2) pda_nil))))) PassesOwn.never)
    (pds_one (pds_ret (pd_var 1)))))
noncomputable def m_law_low : DS := (dSeq (dSet 1 (dCallL 0 1 F_law_of (dCons (dTup (dCons (dC (.int 3)) (dCons (dC (.int 3)) (dCons (dC (.int 3)) (dCons (dC (.int 2)) (dCons (dC (.int 1)) (dCons (dC (.int 5)) (dCons (dC (.int 12)) (dCons (dC (.int 80)) dNil))))))))) dNil)))
    (dRet (dOp gSub (dCallL 0 1 F_law_take (dCons (dOp gAdd (dOp gMul (dC (.int 2)) (dVar 1)) (dC (.int 1))) dNil)) (dVar 1))))
noncomputable def F_law_low : List Dx.D → Ld → Res Dx.D := runL 2 m_law_low
theorem ok_law_low (T : Txt K mg A Fd) : FnG P w K mg base CX0 3 (A 24) (Fd 24) p_law_low (spL K 0 F_law_low) := fnL (ds := m_law_low) (k := 2) T.f_law_low sc_law_low (by decide) (by decide) fun cdv A0 outer s H E hg hr => by
  unfold m_law_low
  exact (pds_cons (pds_set (i := 1) sc_law_low.nd (pd_callL (ok_law_of T) hg (hr.mono (by decide)) (by rfl) T.g_law_of T.kp_law_of T.t_law_of (pv 0) (pda_cons (pd_tup (pda_cons pd_int (pda_cons pd_int (pda_cons pd_int (pda_cons pd_int (pda_cons pd_int (pda_cons pd_int (pda_cons pd_int (pda_cons pd_int pda_nil))))))))) pda_nil)))
    (pds_one (pds_ret (pd_op op_sub os_sub (pd_callL (ok_law_take T) hg (hr.mono (by decide)) (by rfl) T.g_law_take T.kp_law_take T.t_law_take (pv 0) (pda_cons (pd_op op_addA os_add (pd_op op_mulA os_mul pd_int (pd_var 1)) pd_int) pda_nil)) (pd_var 1)))))
noncomputable def m_law_part : DS := (dSeq (dSet 1 (dCallL 0 0 F_law_low dNil))
    (dRet (dCall 2 F_law_frac (dCons (dVar 1) (dCons (dCallL 0 1 F_law_of (dCons (dTup (dCons (dC (.int 1)) (dCons (dC (.int 1)) (dCons (dC (.int 1)) (dCons (dC (.int 2)) (dCons (dC (.int 2)) (dCons (dC (.int 3)) (dCons (dC (.int 4)) (dCons (dC (.int 7)) dNil))))))))) dNil)) dNil)))))
noncomputable def F_law_part : List Dx.D → Ld → Res Dx.D := runL 2 m_law_part
theorem ok_law_part (T : Txt K mg A Fd) : FnG P w K mg base CX0 4 (A 25) (Fd 25) p_law_part (spL K 0 F_law_part) := fnL (ds := m_law_part) (k := 3) T.f_law_part sc_law_part (by decide) (by decide) fun cdv A0 outer s H E hg hr => by
  unfold m_law_part
  exact (pds_cons (pds_set (i := 1) sc_law_part.nd (pd_callL (ok_law_low T) hg (hr.mono (by decide)) (by rfl) T.g_law_low T.kp_law_low T.t_law_low (pv 0) pda_nil))
    (pds_one (pds_ret (pd_call (ok_law_frac T) hg (hr.mono (by decide)) (by rfl) T.g_law_frac T.kp_law_frac T.t_law_frac (pda_cons (pd_var 1) (pda_cons (pd_callL (ok_law_of T) hg (hr.mono (by decide)) (by rfl) T.g_law_of T.kp_law_of T.t_law_of (pv 0) (pda_cons (pd_tup (pda_cons pd_int (pda_cons pd_int (pda_cons pd_int (pda_cons pd_int (pda_cons pd_int (pda_cons pd_int (pda_cons pd_int (pda_cons pd_int pda_nil))))))))) pda_nil)) pda_nil))))))
noncomputable def m_law_heading_of : DS := (dSeq (dIfS (dTest (dOp gIsN (dVar 0) (dC .none)))
    (dRet (dTup (dCons (dTup (dCons (dUn gNeg (dC (.int 1))) (dCons (dC (.int 1)) dNil))) (dCons (dTup (dCons (dC (.int 0)) (dCons (dC (.int 1)) dNil))) dNil)))) dNext)
    (dSeq (dAsg (dGTup 2 (dGCons (dName 1) (dGCons (dName 2) dGNil))) (dVar 0))
    (dRet (dTup (dCons (dCall 2 F_law_frac (dCons (dOp gSub (dOp gMul (dVar 2) (dVar 2)) (dOp gMul (dVar 1) (dVar 1))) (dCons (dOp gAdd (dOp gMul (dVar 2) (dVar 2)) (dOp gMul (dVar 1) (dVar 1))) dNil))) (dCons (dCall 2 F_law_frac (dCons (dOp gMul (dOp gMul (dC (.int 2)) (dVar 1)) (dVar 2)) (dCons (dOp gAdd (dOp gMul (dVar 2) (dVar 2)) (dOp gMul (dVar 1) (dVar 1))) dNil))) dNil))))))
noncomputable def F_law_heading_of : List Dx.D → Option Dx.D := runD 3 m_law_heading_of
theorem ok_law_heading_of (T : Txt K mg A Fd) : FnG P w K mg base CX0 2 (A 26) (Fd 26) p_law_heading_of (spD K 1 F_law_heading_of) := fnD (ds := m_law_heading_of) (k := 1) T.f_law_heading_of sc_law_heading_of fun cdv A0 outer s H E hg hr => by
  unfold m_law_heading_of
  exact (pds_cons (pds_if (pdt_cmp op_isN os_isN (pd_var 0) pd_non (nomark _))
    (pds_one (pds_ret (pd_tup (pda_cons (pd_tup (pda_cons (pd_un un_neg us_neg pd_int) (pda_cons pd_int pda_nil))) (pda_cons (pd_tup (pda_cons pd_int (pda_cons pd_int pda_nil))) pda_nil))))) pds_nil)
    (pds_cons (pds_asg (pd_var 0) (pdg_tup rfl (pdg_cons (pdg_name sc_law_heading_of.nd) (pdg_cons (pdg_name sc_law_heading_of.nd) pdg_nil))))
    (pds_one (pds_ret (pd_tup (pda_cons (pd_call (ok_law_frac T) hg (hr.mono (by decide)) (by rfl) T.g_law_frac T.kp_law_frac T.t_law_frac (pda_cons (pd_op op_sub os_sub (pd_op op_mulA os_mul (pd_var 2) (pd_var 2)) (pd_op op_mulA os_mul (pd_var 1) (pd_var 1))) (pda_cons (pd_op op_addA os_add (pd_op op_mulA os_mul (pd_var 2) (pd_var 2)) (pd_op op_mulA os_mul (pd_var 1) (pd_var 1))) pda_nil))) (pda_cons (pd_call (ok_law_frac T) hg (hr.mono (by decide)) (by rfl) T.g_law_frac T.kp_law_frac T.t_law_frac (pda_cons (pd_op op_mulA os_mul (pd_op op_mulA os_mul pd_int (pd_var 1)) (pd_var 2)) (pda_cons (pd_op op_addA os_add (pd_op op_mulA os_mul (pd_var 2) (pd_var 2)) (pd_op op_mulA os_mul (pd_var 1) (pd_var 1))) pda_nil))) pda_nil)))))))
noncomputable def m_law_half : DS := (dSeq (dSet 1 (dCallL 0 1 F_law_take (dCons (dC (.int 12)) dNil)))
    (dSeq (dIfS (dTest (dOp gLt (dVar 1) (dC (.int 5))))
    (dRet (dCallL 0 1 F_law_of (dCons (dTup (dCons (dTup (dCons (dC (.int 0)) (dCons (dC (.int 1)) dNil))) (dCons (dTup (dCons (dC (.int 1)) (dCons (dC (.int 1)) dNil))) (dCons (dC .none) (dCons (dTup (dCons (dUn gNeg (dC (.int 1))) (dCons (dC (.int 1)) dNil))) (dCons (dTup (dCons (dC (.int 1)) (dCons (dC (.int 2)) dNil))) dNil)))))) dNil))) dNext)
    (dSeq (dSet 2 (dIf (dTest (dOp gEqA (dVar 1) (dC (.int 5)))) (dCallL 0 0 F_law_low dNil) (dOp gSub (dCallL 0 1 F_law_take (dCons (dC (.int 13)) dNil)) (dC (.int 6)))))
    (dRet (dCall 2 F_law_frac (dCons (dVar 2) (dCons (dCallL 0 1 F_law_of (dCons (dTup (dCons (dC (.int 1)) (dCons (dC (.int 2)) (dCons (dC (.int 3)) (dCons (dC (.int 3)) (dCons (dC (.int 4)) (dCons (dC (.int 5)) dNil))))))) dNil)) dNil)))))))
noncomputable def F_law_half : List Dx.D → Ld → Res Dx.D := runL 3 m_law_half
theorem ok_law_half (T : Txt K mg A Fd) : FnG P w K mg base CX0 4 (A 27) (Fd 27) p_law_half (spL K 0 F_law_half) := fnL (ds := m_law_half) (k := 3) T.f_law_half sc_law_half (by decide) (by decide) fun cdv A0 outer s H E hg hr => by
  unfold m_law_half
  exact (pds_cons (pds_set (i := 1) sc_law_half.nd (pd_callL (ok_law_take T) hg (hr.mono (by decide)) (by rfl) T.g_law_take T.kp_law_take T.t_law_take (pv 0) (pda_cons pd_int pda_nil)))
    (pds_cons (pds_if (pdt_cmp op_lt os_lt (pd_var 1) pd_int (nomark _))
    (pds_one (pds_ret (pd_callL (ok_law_of T) hg (hr.mono (by decide)) (by rfl) T.g_law_of T.kp_law_of T.t_law_of (pv 0) (pda_cons (pd_tup (pda_cons (pd_tup (pda_cons pd_int (pda_cons pd_int pda_nil))) (pda_cons (pd_tup (pda_cons pd_int (pda_cons pd_int pda_nil))) (pda_cons pd_non (pda_cons (pd_tup (pda_cons (pd_un un_neg us_neg pd_int) (pda_cons pd_int pda_nil))) (pda_cons (pd_tup (pda_cons pd_int (pda_cons pd_int pda_nil))) pda_nil)))))) pda_nil)))) pds_nil)
    (pds_cons (pds_set (i := 2) sc_law_half.nd (pd_ite (pdt_cmp (op_eqA hr.units) os_eqA (pd_var 1) pd_int (nomark _)) (pd_callL (ok_law_low T) hg (hr.mono (by decide)) (by rfl) T.g_law_low T.kp_law_low T.t_law_low (pv 0) pda_nil) (pd_op op_sub os_sub (pd_callL (ok_law_take T) hg (hr.mono (by decide)) (by rfl) T.g_law_take T.kp_law_take T.t_law_take (pv 0) (pda_cons pd_int pda_nil)) pd_int)))
    (pds_one (pds_ret (pd_call (ok_law_frac T) hg (hr.mono (by decide)) (by rfl) T.g_law_frac T.kp_law_frac T.t_law_frac (pda_cons (pd_var 2) (pda_cons (pd_callL (ok_law_of T) hg (hr.mono (by decide)) (by rfl) T.g_law_of T.kp_law_of T.t_law_of (pv 0) (pda_cons (pd_tup (pda_cons pd_int (pda_cons pd_int (pda_cons pd_int (pda_cons pd_int (pda_cons pd_int (pda_cons pd_int pda_nil))))))) pda_nil)) pda_nil))))))))
noncomputable def m_law_heading : DS := (dRet (dCall 1 F_law_heading_of (dCons (dCallL 0 0 F_law_half dNil) dNil)))
noncomputable def F_law_heading : List Dx.D → Ld → Res Dx.D := runL 1 m_law_heading
theorem ok_law_heading (T : Txt K mg A Fd) : FnG P w K mg base CX0 5 (A 28) (Fd 28) p_law_heading (spL K 0 F_law_heading) := fnL (ds := m_law_heading) (k := 4) T.f_law_heading sc_law_heading (by decide) (by decide) fun cdv A0 outer s H E hg hr => by
  unfold m_law_heading
  exact (pds_one (pds_ret (pd_call (ok_law_heading_of T) hg (hr.mono (by decide)) (by rfl) T.g_law_heading_of T.kp_law_heading_of T.t_law_heading_of (pda_cons (pd_callL (ok_law_half T) hg (hr.mono (by decide)) (by rfl) T.g_law_half T.kp_law_half T.t_law_half (pv 0) pda_nil) pda_nil))))
noncomputable def m_law_flipped : DS := (dRet (dTup (dCons (dOp gIx (dVar 0) (dC (.int 0))) (dCons (dTup (dCons (dOp gSub (dC (.int 0)) (dOp gIx (dOp gIx (dVar 0) (dC (.int 1))) (dC (.int 0)))) (dCons (dOp gIx (dOp gIx (dVar 0) (dC (.int 1))) (dC (.int 1))) dNil))) dNil))))
noncomputable def F_law_flipped : List Dx.D → Option Dx.D := runD 1 m_law_flipped
theorem ok_law_flipped (T : Txt K mg A Fd) : FnG P w K mg base CX0 1 (A 29) (Fd 29) p_law_flipped (spD K 1 F_law_flipped) := fnD (ds := m_law_flipped) (k := 0) T.f_law_flipped sc_law_flipped fun cdv A0 outer s H E hg hr => by
  unfold m_law_flipped
  exact (pds_one (pds_ret (pd_tup (pda_cons (pd_ix ix_seq os_ix (pd_var 0) pd_int (fun _ _ => rfl)) (pda_cons (pd_tup (pda_cons (pd_op op_sub os_sub pd_int (pd_ix ix_seq os_ix (pd_ix ix_seq os_ix (pd_var 0) pd_int (fun _ _ => rfl)) pd_int (fun _ _ => rfl))) (pda_cons (pd_ix ix_seq os_ix (pd_ix ix_seq os_ix (pd_var 0) pd_int (fun _ _ => rfl)) pd_int (fun _ _ => rfl)) pda_nil))) pda_nil)))))
noncomputable def m_law_worth : DS := (dSeq (dAsg (dGTup 2 (dGCons (dName 2) (dGCons (dName 3) dGNil))) (dVar 1))
    (dSeq (dSet 4 (dCall 2 F_law_sub (dCons (dCall 2 F_law_mul (dCons (dVar 2) (dCons (dVar 2) dNil))) (dCons (dCall 2 F_law_mul (dCons (dVar 3) (dCons (dVar 3) dNil))) dNil))))
    (dSeq (dSet 5 (dCall 2 F_law_mul (dCons (dTup (dCons (dC (.int 2)) (dCons (dC (.int 1)) dNil))) (dCons (dCall 2 F_law_mul (dCons (dVar 2) (dCons (dVar 3) dNil))) dNil))))
    (dSeq (dSet 6 (dLst (dCons (dOp gIx (dVar 0) (dC (.int 0))) (dCons (dCall 2 F_law_mul (dCons (dOp gIx (dVar 0) (dC (.int 1))) (dCons (dVar 2) dNil))) (dCons (dCall 2 F_law_mul (dCons (dOp gIx (dVar 0) (dC (.int 2))) (dCons (dVar 3) dNil))) (dCons (dCall 2 F_law_mul (dCons (dOp gIx (dVar 0) (dC (.int 3))) (dCons (dVar 4) dNil))) (dCons (dCall 2 F_law_mul (dCons (dOp gIx (dVar 0) (dC (.int 4))) (dCons (dVar 5) dNil))) dNil)))))))
    (dRet (dCall 1 F_law_total (dCons (dVar 6) dNil)))))))
noncomputable def F_law_worth : List Dx.D → Option Dx.D := runD 7 m_law_worth
theorem ok_law_worth (T : Txt K mg A Fd) : FnG P w K mg base CX0 4 (A 30) (Fd 30) p_law_worth (spD K 2 F_law_worth) := fnD (ds := m_law_worth) (k := 3) T.f_law_worth sc_law_worth fun cdv A0 outer s H E hg hr => by
  unfold m_law_worth
  exact (pds_cons (pds_asg (pd_var 1) (pdg_tup rfl (pdg_cons (pdg_name sc_law_worth.nd) (pdg_cons (pdg_name sc_law_worth.nd) pdg_nil))))
    (pds_cons (pds_set (i := 4) sc_law_worth.nd (pd_call (ok_law_sub T) hg (hr.mono (by decide)) (by rfl) T.g_law_sub T.kp_law_sub T.t_law_sub (pda_cons (pd_call (ok_law_mul T) hg (hr.mono (by decide)) (by rfl) T.g_law_mul T.kp_law_mul T.t_law_mul (pda_cons (pd_var 2) (pda_cons (pd_var 2) pda_nil))) (pda_cons (pd_call (ok_law_mul T) hg (hr.mono (by decide)) (by rfl) T.g_law_mul T.kp_law_mul T.t_law_mul (pda_cons (pd_var 3) (pda_cons (pd_var 3) pda_nil))) pda_nil))))
    (pds_cons (pds_set (i := 5) sc_law_worth.nd (pd_call (ok_law_mul T) hg (hr.mono (by decide)) (by rfl) T.g_law_mul T.kp_law_mul T.t_law_mul (pda_cons (pd_tup (pda_cons pd_int (pda_cons pd_int pda_nil))) (pda_cons (pd_call (ok_law_mul T) hg (hr.mono (by decide)) (by rfl) T.g_law_mul T.kp_law_mul T.t_law_mul (pda_cons (pd_var 2) (pda_cons (pd_var 3) pda_nil))) pda_nil))))
    (pds_cons (pds_set (i := 6) sc_law_worth.nd (pd_lst (pda_cons (pd_ix ix_seq os_ix (pd_var 0) pd_int (fun _ _ => rfl)) (pda_cons (pd_call (ok_law_mul T) hg (hr.mono (by decide)) (by rfl) T.g_law_mul T.kp_law_mul T.t_law_mul (pda_cons (pd_ix ix_seq os_ix (pd_var 0) pd_int (fun _ _ => rfl)) (pda_cons (pd_var 2) pda_nil))) (pda_cons (pd_call (ok_law_mul T) hg (hr.mono (by decide)) (by rfl) T.g_law_mul T.kp_law_mul T.t_law_mul (pda_cons (pd_ix ix_seq os_ix (pd_var 0) pd_int (fun _ _ => rfl)) (pda_cons (pd_var 3) pda_nil))) (pda_cons (pd_call (ok_law_mul T) hg (hr.mono (by decide)) (by rfl) T.g_law_mul T.kp_law_mul T.t_law_mul (pda_cons (pd_ix ix_seq os_ix (pd_var 0) pd_int (fun _ _ => rfl)) (pda_cons (pd_var 4) pda_nil))) (pda_cons (pd_call (ok_law_mul T) hg (hr.mono (by decide)) (by rfl) T.g_law_mul T.kp_law_mul T.t_law_mul (pda_cons (pd_ix ix_seq os_ix (pd_var 0) pd_int (fun _ _ => rfl)) (pda_cons (pd_var 5) pda_nil))) pda_nil)))))))
    (pds_one (pds_ret (pd_call (ok_law_total T) hg (hr.mono (by decide)) (by rfl) T.g_law_total T.kp_law_total T.t_law_total (pda_cons (pd_var 6) pda_nil))))))))
noncomputable def m_law_chord : DS := (dSeq (dIfS (dTest (dOp gEqA (dVar 0) (dVar 1)))
    (dRet (dTup (dCons (dTup (dCons (dUn gNeg (dC (.int 1))) (dCons (dC (.int 1)) dNil))) (dCons (dOp gIx (dVar 0) (dC (.int 0))) (dCons (dOp gIx (dVar 0) (dC (.int 1))) dNil))))) dNext)
    (dSeq (dPar [2, 3] (dCons (dCall 2 F_law_sub (dCons (dOp gIx (dVar 1) (dC (.int 1))) (dCons (dOp gIx (dVar 0) (dC (.int 1))) dNil))) (dCons (dCall 2 F_law_sub (dCons (dOp gIx (dVar 0) (dC (.int 0))) (dCons (dOp gIx (dVar 1) (dC (.int 0))) dNil))) dNil)))
    (dRet (dTup (dCons (dCall 2 F_law_sub (dCons (dTup (dCons (dC (.int 0)) (dCons (dC (.int 1)) dNil))) (dCons (dCall 2 F_law_add (dCons (dCall 2 F_law_mul (dCons (dVar 2) (dCons (dOp gIx (dVar 0) (dC (.int 0))) dNil))) (dCons (dCall 2 F_law_mul (dCons (dVar 3) (dCons (dOp gIx (dVar 0) (dC (.int 1))) dNil))) dNil))) dNil))) (dCons (dVar 2) (dCons (dVar 3) dNil)))))))
noncomputable def F_law_chord : List Dx.D → Option Dx.D := runD 4 m_law_chord
theorem ok_law_chord (T : Txt K mg A Fd) : FnG P w K mg base CX0 3 (A 31) (Fd 31) p_law_chord (spD K 2 F_law_chord) := fnD (ds := m_law_chord) (k := 2) T.f_law_chord sc_law_chord fun cdv A0 outer s H E hg hr => by
  unfold m_law_chord
  exact (pds_cons (pds_if (pdt_cmp (op_eqA hr.units) os_eqA (pd_var 0) (pd_var 1) (nomark _))
    (pds_one (pds_ret (pd_tup (pda_cons (pd_tup (pda_cons (pd_un un_neg us_neg pd_int) (pda_cons pd_int pda_nil))) (pda_cons (pd_ix ix_seq os_ix (pd_var 0) pd_int (fun _ _ => rfl)) (pda_cons (pd_ix ix_seq os_ix (pd_var 0) pd_int (fun _ _ => rfl)) pda_nil)))))) pds_nil)
    (pds_cons (pds_par (i := 2) (j := 3) rfl sc_law_chord.nd (pda_cons (pd_call (ok_law_sub T) hg (hr.mono (by decide)) (by rfl) T.g_law_sub T.kp_law_sub T.t_law_sub (pda_cons (pd_ix ix_seq os_ix (pd_var 1) pd_int (fun _ _ => rfl)) (pda_cons (pd_ix ix_seq os_ix (pd_var 0) pd_int (fun _ _ => rfl)) pda_nil))) (pda_cons (pd_call (ok_law_sub T) hg (hr.mono (by decide)) (by rfl) T.g_law_sub T.kp_law_sub T.t_law_sub (pda_cons (pd_ix ix_seq os_ix (pd_var 0) pd_int (fun _ _ => rfl)) (pda_cons (pd_ix ix_seq os_ix (pd_var 1) pd_int (fun _ _ => rfl)) pda_nil))) pda_nil)))
    (pds_one (pds_ret (pd_tup (pda_cons (pd_call (ok_law_sub T) hg (hr.mono (by decide)) (by rfl) T.g_law_sub T.kp_law_sub T.t_law_sub (pda_cons (pd_tup (pda_cons pd_int (pda_cons pd_int pda_nil))) (pda_cons (pd_call (ok_law_add T) hg (hr.mono (by decide)) (by rfl) T.g_law_add T.kp_law_add T.t_law_add (pda_cons (pd_call (ok_law_mul T) hg (hr.mono (by decide)) (by rfl) T.g_law_mul T.kp_law_mul T.t_law_mul (pda_cons (pd_var 2) (pda_cons (pd_ix ix_seq os_ix (pd_var 0) pd_int (fun _ _ => rfl)) pda_nil))) (pda_cons (pd_call (ok_law_mul T) hg (hr.mono (by decide)) (by rfl) T.g_law_mul T.kp_law_mul T.t_law_mul (pda_cons (pd_var 3) (pda_cons (pd_ix ix_seq os_ix (pd_var 0) pd_int (fun _ _ => rfl)) pda_nil))) pda_nil))) pda_nil))) (pda_cons (pd_var 2) (pda_cons (pd_var 3) pda_nil))))))))
noncomputable def m_law_product : DS := (dSeq (dAsg (dGTup 2 (dGCons (dGTup 3 (dGCons (dName 2) (dGCons (dName 3) (dGCons (dName 4) dGNil)))) (dGCons (dGTup 3 (dGCons (dName 5) (dGCons (dName 6) (dGCons (dName 7) dGNil)))) dGNil))) (dTup (dCons (dVar 0) (dCons (dVar 1) dNil))))
    (dSeq (dPar [8, 9] (dCons (dCall 2 F_law_mul (dCons (dVar 3) (dCons (dVar 6) dNil))) (dCons (dCall 2 F_law_mul (dCons (dVar 4) (dCons (dVar 7) dNil))) dNil)))
    (dSeq (dSet 10 (dCall 2 F_law_add (dCons (dCall 2 F_law_mul (dCons (dVar 2) (dCons (dVar 5) dNil))) (dCons (dCall 2 F_law_div (dCons (dCall 2 F_law_add (dCons (dVar 8) (dCons (dVar 9) dNil))) (dCons (dTup (dCons (dC (.int 2)) (dCons (dC (.int 1)) dNil))) dNil))) dNil))))
    (dSeq (dSet 11 (dCall 2 F_law_div (dCons (dCall 2 F_law_add (dCons (dCall 2 F_law_mul (dCons (dVar 3) (dCons (dVar 7) dNil))) (dCons (dCall 2 F_law_mul (dCons (dVar 4) (dCons (dVar 6) dNil))) dNil))) (dCons (dTup (dCons (dC (.int 2)) (dCons (dC (.int 1)) dNil))) dNil))))
    (dRet (dTup (dCons (dVar 10) (dCons (dCall 2 F_law_add (dCons (dCall 2 F_law_mul (dCons (dVar 2) (dCons (dVar 6) dNil))) (dCons (dCall 2 F_law_mul (dCons (dVar 3) (dCons (dVar 5) dNil))) dNil))) (dCons (dCall 2 F_law_add (dCons (dCall 2 F_law_mul (dCons (dVar 2) (dCons (dVar 7) dNil))) (dCons (dCall 2 F_law_mul (dCons (dVar 4) (dCons (dVar 5) dNil))) dNil))) (dCons (dCall 2 F_law_div (dCons (dCall 2 F_law_sub (dCons (dVar 8) (dCons (dVar 9) dNil))) (dCons (dTup (dCons (dC (.int 2)) (dCons (dC (.int 1)) dNil))) dNil))) (dCons (dVar 11) dNil)))))))))))
noncomputable def F_law_product : List Dx.D → Option Dx.D := runD 12 m_law_product
theorem ok_law_product (T : Txt K mg A Fd) : FnG P w K mg base CX0 3 (A 32) (Fd 32) p_law_product (spD K 2 F_law_product) := fnD (ds := m_law_product) (k := 2) T.f_law_product sc_law_product fun cdv A0 outer s H E hg hr => by
  unfold m_law_product
  exact (pds_cons (pds_asg (pd_tup (pda_cons (pd_var 0) (pda_cons (pd_var 1) pda_nil))) (pdg_tup rfl (pdg_cons (pdg_tup rfl (pdg_cons (pdg_name sc_law_product.nd) (pdg_cons (pdg_name sc_law_product.nd) (pdg_cons (pdg_name sc_law_product.nd) pdg_nil)))) (pdg_cons (pdg_tup rfl (pdg_cons (pdg_name sc_law_product.nd) (pdg_cons (pdg_name sc_law_product.nd) (pdg_cons (pdg_name sc_law_product.nd) pdg_nil)))) pdg_nil))))
    (pds_cons (pds_par (i := 8) (j := 9) rfl sc_law_product.nd (pda_cons (pd_call (ok_law_mul T) hg (hr.mono (by decide)) (by rfl) T.g_law_mul T.kp_law_mul T.t_law_mul (pda_cons (pd_var 3) (pda_cons (pd_var 6) pda_nil))) (pda_cons (pd_call (ok_law_mul T) hg (hr.mono (by decide)) (by rfl) T.g_law_mul T.kp_law_mul T.t_law_mul (pda_cons (pd_var 4) (pda_cons (pd_var 7) pda_nil))) pda_nil)))
    (pds_cons (pds_set (i := 10) sc_law_product.nd (pd_call (ok_law_add T) hg (hr.mono (by decide)) (by rfl) T.g_law_add T.kp_law_add T.t_law_add (pda_cons (pd_call (ok_law_mul T) hg (hr.mono (by decide)) (by rfl) T.g_law_mul T.kp_law_mul T.t_law_mul (pda_cons (pd_var 2) (pda_cons (pd_var 5) pda_nil))) (pda_cons (pd_call (ok_law_div T) hg (hr.mono (by decide)) (by rfl) T.g_law_div T.kp_law_div T.t_law_div (pda_cons (pd_call (ok_law_add T) hg (hr.mono (by decide)) (by rfl) T.g_law_add T.kp_law_add T.t_law_add (pda_cons (pd_var 8) (pda_cons (pd_var 9) pda_nil))) (pda_cons (pd_tup (pda_cons pd_int (pda_cons pd_int pda_nil))) pda_nil))) pda_nil))))
    (pds_cons (pds_set (i := 11) sc_law_product.nd (pd_call (ok_law_div T) hg (hr.mono (by decide)) (by rfl) T.g_law_div T.kp_law_div T.t_law_div (pda_cons (pd_call (ok_law_add T) hg (hr.mono (by decide)) (by rfl) T.g_law_add T.kp_law_add T.t_law_add (pda_cons (pd_call (ok_law_mul T) hg (hr.mono (by decide)) (by rfl) T.g_law_mul T.kp_law_mul T.t_law_mul (pda_cons (pd_var 3) (pda_cons (pd_var 7) pda_nil))) (pda_cons (pd_call (ok_law_mul T) hg (hr.mono (by decide)) (by rfl) T.g_law_mul T.kp_law_mul T.t_law_mul (pda_cons (pd_var 4) (pda_cons (pd_var 6) pda_nil))) pda_nil))) (pda_cons (pd_tup (pda_cons pd_int (pda_cons pd_int pda_nil))) pda_nil))))
    (pds_one (pds_ret (pd_tup (pda_cons (pd_var 10) (pda_cons (pd_call (ok_law_add T) hg (hr.mono (by decide)) (by rfl) T.g_law_add T.kp_law_add T.t_law_add (pda_cons (pd_call (ok_law_mul T) hg (hr.mono (by decide)) (by rfl) T.g_law_mul T.kp_law_mul T.t_law_mul (pda_cons (pd_var 2) (pda_cons (pd_var 6) pda_nil))) (pda_cons (pd_call (ok_law_mul T) hg (hr.mono (by decide)) (by rfl) T.g_law_mul T.kp_law_mul T.t_law_mul (pda_cons (pd_var 3) (pda_cons (pd_var 5) pda_nil))) pda_nil))) (pda_cons (pd_call (ok_law_add T) hg (hr.mono (by decide)) (by rfl) T.g_law_add T.kp_law_add T.t_law_add (pda_cons (pd_call (ok_law_mul T) hg (hr.mono (by decide)) (by rfl) T.g_law_mul T.kp_law_mul T.t_law_mul (pda_cons (pd_var 2) (pda_cons (pd_var 7) pda_nil))) (pda_cons (pd_call (ok_law_mul T) hg (hr.mono (by decide)) (by rfl) T.g_law_mul T.kp_law_mul T.t_law_mul (pda_cons (pd_var 4) (pda_cons (pd_var 5) pda_nil))) pda_nil))) (pda_cons (pd_call (ok_law_div T) hg (hr.mono (by decide)) (by rfl) T.g_law_div T.kp_law_div T.t_law_div (pda_cons (pd_call (ok_law_sub T) hg (hr.mono (by decide)) (by rfl) T.g_law_sub T.kp_law_sub T.t_law_sub (pda_cons (pd_var 8) (pda_cons (pd_var 9) pda_nil))) (pda_cons (pd_tup (pda_cons pd_int (pda_cons pd_int pda_nil))) pda_nil))) (pda_cons (pd_var 11) pda_nil))))))))))))
noncomputable def m_law_wave : DS := (dSeq (dSet 1 (dCallL 0 1 F_law_take (dCons (dC (.int 6)) dNil)))
    (dSeq (dIfS (dTest (dOp gEqA (dVar 1) (dC (.int 0))))
    (dSeq (dAsg (dGTup 4 (dGCons (dName 2) (dGCons (dName 3) (dGCons (dName 4) (dGCons (dName 5) dGNil))))) (dTup (dCons (dCallL 0 0 F_law_heading dNil) (dCons (dCallL 0 0 F_law_heading dNil) (dCons (dCallL 0 0 F_law_heading dNil) (dCons (dCallL 0 0 F_law_heading dNil) dNil))))))
    (dRet (dCall 2 F_law_product (dCons (dCall 2 F_law_chord (dCons (dVar 2) (dCons (dVar 3) dNil))) (dCons (dCall 2 F_law_chord (dCons (dVar 4) (dCons (dVar 5) dNil))) dNil))))) dNext)
    (dSeq (dSetOwn 6 (dNew dNil))
    (dSeq (dFor (dRng1 (dCons (dC (.int 5)) dNil)) (dName 7) (dApp 6 (dCallL 0 0 F_law_part dNil)))
    (dSeq (dSet 8 (dCallL 0 1 F_law_of (dCons (dTup (dCons (dC (.int 31)) (dCons (dC (.int 31)) (dCons (dC (.int 31)) (dCons (dC (.int 31)) (dCons (dC (.int 7)) (dCons (dC (.int 25)) (dCons (dC (.int 30)) (dCons (dC (.int 24)) (dCons (dC (.int 6)) dNil)))))))))) dNil)))
    (dRet (dCB gTuple (dCons (dLc [7] (dRng1 (dCons (dC (.int 5)) dNil)) (dName 7) dYes (dIf (dTest (dOp gEqA (dOp gMod (dCB gInt (dCons (dOp gDiv (dVar 8) (dOp gIx (dTup (dCons (dC (.int 1)) (dCons (dC (.int 2)) (dCons (dC (.int 4)) (dCons (dC (.int 8)) (dCons (dC (.int 16)) dNil)))))) (dVar 7))) dNil)) (dC (.int 2))) (dC (.int 1)))) (dIxO 6 (dVar 7)) (dTup (dCons (dC (.int 0)) (dCons (dC (.int 1)) dNil))))) dNil))))))))
noncomputable def F_law_wave : List Dx.D → Ld → Res Dx.D := runL 9 m_law_wave
theorem ok_law_wave (T : Txt K mg A Fd) : FnG P w K mg base CX0 6 (A 33) (Fd 33) p_law_wave (spL K 0 F_law_wave) := fnL (ds := m_law_wave) (k := 5) T.f_law_wave sc_law_wave (by decide) (by decide) fun cdv A0 outer s H E hg hr => by
  unfold m_law_wave
  exact (pds_cons (pds_set (i := 1) sc_law_wave.nd (pd_callL (ok_law_take T) hg (hr.mono (by decide)) (by rfl) T.g_law_take T.kp_law_take T.t_law_take (pv 0) (pda_cons pd_int pda_nil)))
    (pds_cons (pds_if (pdt_cmp (op_eqA hr.units) os_eqA (pd_var 1) pd_int (nomark _))
    (pds_cons (pds_asg (pd_tup (pda_cons (pd_callL (ok_law_heading T) hg (hr.mono (by decide)) (by rfl) T.g_law_heading T.kp_law_heading T.t_law_heading (pv 0) pda_nil) (pda_cons (pd_callL (ok_law_heading T) hg (hr.mono (by decide)) (by rfl) T.g_law_heading T.kp_law_heading T.t_law_heading (pv 0) pda_nil) (pda_cons (pd_callL (ok_law_heading T) hg (hr.mono (by decide)) (by rfl) T.g_law_heading T.kp_law_heading T.t_law_heading (pv 0) pda_nil) (pda_cons (pd_callL (ok_law_heading T) hg (hr.mono (by decide)) (by rfl) T.g_law_heading T.kp_law_heading T.t_law_heading (pv 0) pda_nil) pda_nil))))) (pdg_tup rfl (pdg_cons (pdg_name sc_law_wave.nd) (pdg_cons (pdg_name sc_law_wave.nd) (pdg_cons (pdg_name sc_law_wave.nd) (pdg_cons (pdg_name sc_law_wave.nd) pdg_nil))))))
    (pds_one (pds_ret (pd_call (ok_law_product T) hg (hr.mono (by decide)) (by rfl) T.g_law_product T.kp_law_product T.t_law_product (pda_cons (pd_call (ok_law_chord T) hg (hr.mono (by decide)) (by rfl) T.g_law_chord T.kp_law_chord T.t_law_chord (pda_cons (pd_var 2) (pda_cons (pd_var 3) pda_nil))) (pda_cons (pd_call (ok_law_chord T) hg (hr.mono (by decide)) (by rfl) T.g_law_chord T.kp_law_chord T.t_law_chord (pda_cons (pd_var 4) (pda_cons (pd_var 5) pda_nil))) pda_nil)))))) pds_nil)
    (pds_cons (pds_setOwn (i := 6) sc_law_wave.nd (pdn_lst pda_nil))
    (pds_cons (pds_for rfl (pdi_range1 (by rfl) T.b_range (pda_cons pd_int pda_nil)) (pdg_name sc_law_wave.nd) (pds_one (pds_app 6 (pv 6) (pd_callL (ok_law_part T) hg (hr.mono (by decide)) (by rfl) T.g_law_part T.kp_law_part T.t_law_part (pv 0) pda_nil))) PassesOwn.never)
    (pds_cons (pds_set (i := 8) sc_law_wave.nd (pd_callL (ok_law_of T) hg (hr.mono (by decide)) (by rfl) T.g_law_of T.kp_law_of T.t_law_of (pv 0) (pda_cons (pd_tup (pda_cons pd_int (pda_cons pd_int (pda_cons pd_int (pda_cons pd_int (pda_cons pd_int (pda_cons pd_int (pda_cons pd_int (pda_cons pd_int (pda_cons pd_int pda_nil)))))))))) pda_nil)))
    (pds_one (pds_ret (pd_callTy cr_tupC cs_tuple (by rfl) T.b_tuple boot_tuple (pda_cons (pd_lc (own := [("_law_k", 7)]) rfl sc_law_wave.nd (pdi_range1 (by rfl) T.b_range (pda_cons pd_int pda_nil)) (blkOk_by (own := [("_law_k", 7)]) (N := N_law_wave) (sc := defScope s_law_wave) (by decide +kernel)) (fun _ => (pdg_name sc_law_wave.nd)) (fun _ => pdts_nil) (fun _ => (pd_ite (pdt_cmp (op_eqA hr.units) os_eqA (pd_op op_modN os_mod (pd_callTy call_int1 cs_int (by rfl) T.b_int boot_int (pda_cons (pd_op op_fdivA os_div (pd_var 8) (pd_ix ix_seq os_ix (pd_tup (pda_cons pd_int (pda_cons pd_int (pda_cons pd_int (pda_cons pd_int (pda_cons pd_int pda_nil)))))) (pd_var 7) (fun _ _ => rfl))) pda_nil)) pd_int) pd_int (nomark _)) (pd_ixO 6 (pv 6) (pd_var 7) (fun _ _ => rfl)) (pd_tup (pda_cons pd_int (pda_cons pd_int pda_nil)))))) pda_nil)))))))))
noncomputable def m_law_is_whole : DS := (dRet (dAndV (dIsi "int" (dVar 0)) (dNotV (dIsi "bool" (dVar 0)))))
noncomputable def F_law_is_whole : List Dx.D → Option Dx.D := runD 1 m_law_is_whole
theorem ok_law_is_whole (T : Txt K mg A Fd) : FnG P w K mg base CX0 1 (A 34) (Fd 34) p_law_is_whole (spD K 1 F_law_is_whole) := fnD (ds := m_law_is_whole) (k := 0) T.f_law_is_whole sc_law_is_whole fun cdv A0 outer s H E hg hr => by
  unfold m_law_is_whole
  exact (pds_one (pds_ret (pd_and (pd_isi (by rfl) T.b_isinstance (by rfl) T.b_int boot_int (pd_var 0)) (pd_bone (pd_not (pd_isi (by rfl) T.b_isinstance (by rfl) T.b_bool boot_bool (pd_var 0)))))))
noncomputable def m_law_is_frac : DS := (dSeq (dIfS (dOr (dNot (dTest (dIsi "tuple" (dVar 0)))) (dOr (dTest (dOp gNeA (dCB gLen (dCons (dVar 0) dNil)) (dC (.int 2)))) (dTest (dOp gIn (dC (.bool false)) (dLc [1] (dIt (dVar 0)) (dName 1) dYes (dCall 1 F_law_is_whole (dCons (dVar 1) dNil)))))))
    (dRet (dC (.bool false))) dNext)
    (dRet (dAndV (dOp gGt (dOp gIx (dVar 0) (dC (.int 1))) (dC (.int 0))) (dOp gEqA (dCall 2 F_law_frac (dCons (dOp gIx (dVar 0) (dC (.int 0))) (dCons (dOp gIx (dVar 0) (dC (.int 1))) dNil))) (dVar 0)))))
noncomputable def F_law_is_frac : List Dx.D → Option Dx.D := runD 2 m_law_is_frac
theorem ok_law_is_frac (T : Txt K mg A Fd) : FnG P w K mg base CX0 2 (A 35) (Fd 35) p_law_is_frac (spD K 1 F_law_is_frac) := fnD (ds := m_law_is_frac) (k := 1) T.f_law_is_frac sc_law_is_frac fun cdv A0 outer s H E hg hr => by
  unfold m_law_is_frac
  exact (pds_cons (pds_if (pdt_w (pdw_or (pdt_not (pdt_v (pd_isi (by rfl) T.b_isinstance (by rfl) T.b_tuple boot_tuple (pd_var 0)))) (pdw_or (pdt_cmp (op_neA hr.units) os_neA (pd_callB call_len cs_len (by rfl) T.b_len boot_len (pda_cons (pd_var 0) pda_nil)) pd_int (nomark _)) (pdw_or1 (pdt_cmp (op_inA (room65 hr)) os_in pd_bl (pd_lc (own := [("_law_each", 1)]) rfl sc_law_is_frac.nd (pdi_seq (pd_var 0)) (blkOk_by (own := [("_law_each", 1)]) (N := N_law_is_frac) (sc := defScope s_law_is_frac) (by decide +kernel)) (fun _ => (pdg_name sc_law_is_frac.nd)) (fun _ => pdts_nil) (fun _ => (pd_call (ok_law_is_whole T) hg (hr.mono (by decide)) (by rfl) T.g_law_is_whole T.kp_law_is_whole T.t_law_is_whole (pda_cons (pd_var 1) pda_nil)))) rfl)))))
    (pds_one (pds_ret pd_bl)) pds_nil)
    (pds_one (pds_ret (pd_and (pd_cmp op_gt os_gt (pd_ix ix_seq os_ix (pd_var 0) pd_int (fun _ _ => rfl)) pd_int (nomark _)) (pd_bone (pd_cmp (op_eqA hr.units) os_eqA (pd_call (ok_law_frac T) hg (hr.mono (by decide)) (by rfl) T.g_law_frac T.kp_law_frac T.t_law_frac (pda_cons (pd_ix ix_seq os_ix (pd_var 0) pd_int (fun _ _ => rfl)) (pda_cons (pd_ix ix_seq os_ix (pd_var 0) pd_int (fun _ _ => rfl)) pda_nil))) (pd_var 0) (nomark _)))))))
noncomputable def m_law_are_fracs : DS := (dRet (dAndV (dIsi "tuple" (dVar 0)) (dAndV (dOp gEqA (dCB gLen (dCons (dVar 0) dNil)) (dVar 1)) (dOp gNotIn (dC (.bool false)) (dLc [2] (dIt (dVar 0)) (dName 2) dYes (dCall 1 F_law_is_frac (dCons (dVar 2) dNil)))))))
noncomputable def F_law_are_fracs : List Dx.D → Option Dx.D := runD 3 m_law_are_fracs
theorem ok_law_are_fracs (T : Txt K mg A Fd) : FnG P w K mg base CX0 3 (A 36) (Fd 36) p_law_are_fracs (spD K 2 F_law_are_fracs) := fnD (ds := m_law_are_fracs) (k := 2) T.f_law_are_fracs sc_law_are_fracs fun cdv A0 outer s H E hg hr => by
  unfold m_law_are_fracs
  exact (pds_one (pds_ret (pd_and (pd_isi (by rfl) T.b_isinstance (by rfl) T.b_tuple boot_tuple (pd_var 0)) (pd_and (pd_cmp (op_eqA hr.units) os_eqA (pd_callB call_len cs_len (by rfl) T.b_len boot_len (pda_cons (pd_var 0) pda_nil)) (pd_var 1) (nomark _)) (pd_bone (pd_cmp (op_notInA (room65 hr)) os_notIn pd_bl (pd_lc (own := [("_law_each", 2)]) rfl sc_law_are_fracs.nd (pdi_seq (pd_var 0)) (blkOk_by (own := [("_law_each", 2)]) (N := N_law_are_fracs) (sc := defScope s_law_are_fracs) (by decide +kernel)) (fun _ => (pdg_name sc_law_are_fracs.nd)) (fun _ => pdts_nil) (fun _ => (pd_call (ok_law_is_frac T) hg (hr.mono (by decide)) (by rfl) T.g_law_is_frac T.kp_law_is_frac T.t_law_is_frac (pda_cons (pd_var 2) pda_nil)))) rfl))))))
noncomputable def m_law_strange : DS := (dSeq (dSet 1 (dLst (dCons (dC .none) (dCons (dC (.bool true)) (dCons (dC (.bool false)) (dCons (dC (.int 0)) (dCons (dC (.int 1)) (dCons (dUn gNeg (dC (.int 1))) (dCons (dC (.int 2)) (dCons (dOp gPow (dC (.int 10)) (dC (.int 24))) (dCons (dC (.str "")) (dCons (dC (.str "all")) (dCons (dC (.str "1/2")) (dCons (dTup dNil) (dCons (dTup (dCons (dC (.int 1)) dNil)) (dCons (dTup (dCons (dC (.int 1)) (dCons (dC (.int 2)) dNil))) (dCons (dTup (dCons (dC (.int 2)) (dCons (dC (.int 4)) dNil))) (dCons (dTup (dCons (dC (.int 0)) (dCons (dC (.int 1)) dNil))) (dCons (dTup (dCons (dC (.int 0)) (dCons (dC (.int 3)) dNil))) dNil)))))))))))))))))))
    (dSeq (dSet 1 (dOp gAdd (dVar 1) (dLst (dCons (dTup (dCons (dC (.int 1)) (dCons (dC (.int 0)) dNil))) (dCons (dTup (dCons (dC (.int 3)) (dCons (dUn gNeg (dC (.int 5))) dNil))) (dCons (dTup (dCons (dC (.bool true)) (dCons (dC (.int 1)) dNil))) (dCons (dTup (dCons (dC (.int 1)) (dCons (dC (.bool true)) dNil))) (dCons (dLst (dCons (dC (.int 1)) (dCons (dC (.int 2)) dNil))) (dCons (dLst dNil) (dCons dDict0 (dCons (dDictSI "a" 1) (dCons (dTup (dCons (dC (.int 1)) (dCons (dC (.int 2)) (dCons (dC (.int 3)) dNil)))) (dCons (dTup (dCons (dTup (dCons (dC (.int 1)) (dCons (dC (.int 1)) dNil))) (dCons (dTup (dCons (dC (.int 0)) (dCons (dC (.int 1)) dNil))) dNil))) dNil)))))))))))))
    (dSeq (dSet 1 (dOp gAdd (dVar 1) (dLst (dCons (dTup (dCons (dTup (dCons (dC (.int 3)) (dCons (dC (.int 5)) dNil))) (dCons (dTup (dCons (dC (.int 4)) (dCons (dC (.int 5)) dNil))) dNil))) dNil))))
    (dSeq (dSet 1 (dOp gAdd (dVar 1) (dLst (dCons (dTup (dCons (dTup (dCons (dC (.int 3)) (dCons (dC (.int 5)) dNil))) (dCons (dTup (dCons (dC (.int 3)) (dCons (dC (.int 5)) dNil))) dNil))) (dCons (dLst (dCons (dTup (dCons (dC (.int 1)) (dCons (dC (.int 1)) dNil))) (dCons (dTup (dCons (dC (.int 0)) (dCons (dC (.int 1)) dNil))) dNil))) (dCons (dOp gMul (dTup (dCons (dTup (dCons (dC (.int 0)) (dCons (dC (.int 1)) dNil))) dNil)) (dC (.int 5))) (dCons (dTup (dCons (dTup (dCons (dC (.int 1)) (dCons (dC (.int 2)) dNil))) (dCons (dTup (dCons (dC (.int 0)) (dCons (dC (.int 1)) dNil))) (dCons (dTup (dCons (dC (.int 0)) (dCons (dC (.int 1)) dNil))) (dCons (dTup (dCons (dC (.int 1)) (dCons (dC (.int 3)) dNil))) (dCons (dTup (dCons (dC (.int 0)) (dCons (dC (.int 1)) dNil))) dNil)))))) dNil)))))))
    (dSeq (dSet 1 (dOp gAdd (dVar 1) (dLst (dCons (dTup (dCons (dC .none) (dCons (dC .none) dNil))) (dCons (dOp gMul (dTup (dCons (dTup (dCons (dC (.int 0)) (dCons (dC (.int 1)) dNil))) dNil)) (dC (.int 4))) (dCons (dOp gMul (dTup (dCons (dTup (dCons (dC (.int 1)) (dCons (dC (.int 1)) dNil))) dNil)) (dC (.int 6))) (dCons (dOp gMul (dLst (dCons (dTup (dCons (dC (.int 0)) (dCons (dC (.int 1)) dNil))) dNil)) (dC (.int 5))) (dCons (dTup (dCons (dTup (dCons (dC (.int 0)) (dCons (dC (.int 1)) dNil))) (dCons (dTup (dCons (dC (.int 0)) (dCons (dC (.int 1)) dNil))) (dCons (dTup (dCons (dC (.int 0)) (dCons (dC (.int 2)) dNil))) (dCons (dTup (dCons (dC (.int 0)) (dCons (dC (.int 1)) dNil))) (dCons (dTup (dCons (dC (.int 0)) (dCons (dC (.int 1)) dNil))) dNil)))))) dNil))))))))
    (dSeq (dSet 1 (dOp gAdd (dVar 1) (dLst (dCons (dOp gMul (dTup (dCons (dOp gMul (dTup (dCons (dTup (dCons (dC (.int 0)) (dCons (dC (.int 1)) dNil))) dNil)) (dC (.int 4))) dNil)) (dC (.int 3))) dNil))))
    (dRet (dCallL 0 1 F_law_of (dCons (dVar 1) dNil)))))))))
noncomputable def F_law_strange : List Dx.D → Ld → Res Dx.D := runL 2 m_law_strange
theorem ok_law_strange (T : Txt K mg A Fd) : FnG P w K mg base CX0 3 (A 37) (Fd 37) p_law_strange (spL K 0 F_law_strange) := fnL (ds := m_law_strange) (k := 2) T.f_law_strange sc_law_strange (by decide) (by decide) fun cdv A0 outer s H E hg hr => by
  unfold m_law_strange
  exact (pds_cons (pds_set (i := 1) sc_law_strange.nd (pd_lst (pda_cons pd_non (pda_cons pd_bl (pda_cons pd_bl (pda_cons pd_int (pda_cons pd_int (pda_cons (pd_un un_neg us_neg pd_int) (pda_cons pd_int (pda_cons (pd_op op_pow os_pow pd_int pd_int) (pda_cons pd_str (pda_cons pd_str (pda_cons pd_str (pda_cons (pd_tup pda_nil) (pda_cons (pd_tup (pda_cons pd_int pda_nil)) (pda_cons (pd_tup (pda_cons pd_int (pda_cons pd_int pda_nil))) (pda_cons (pd_tup (pda_cons pd_int (pda_cons pd_int pda_nil))) (pda_cons (pd_tup (pda_cons pd_int (pda_cons pd_int pda_nil))) (pda_cons (pd_tup (pda_cons pd_int (pda_cons pd_int pda_nil))) pda_nil)))))))))))))))))))
    (pds_cons (pds_set (i := 1) sc_law_strange.nd (pd_op op_addA os_add (pd_var 1) (pd_lst (pda_cons (pd_tup (pda_cons pd_int (pda_cons pd_int pda_nil))) (pda_cons (pd_tup (pda_cons pd_int (pda_cons (pd_un un_neg us_neg pd_int) pda_nil))) (pda_cons (pd_tup (pda_cons pd_bl (pda_cons pd_int pda_nil))) (pda_cons (pd_tup (pda_cons pd_int (pda_cons pd_bl pda_nil))) (pda_cons (pd_lst (pda_cons pd_int (pda_cons pd_int pda_nil))) (pda_cons (pd_lst pda_nil) (pda_cons pd_dict0 (pda_cons pd_dictSI (pda_cons (pd_tup (pda_cons pd_int (pda_cons pd_int (pda_cons pd_int pda_nil)))) (pda_cons (pd_tup (pda_cons (pd_tup (pda_cons pd_int (pda_cons pd_int pda_nil))) (pda_cons (pd_tup (pda_cons pd_int (pda_cons pd_int pda_nil))) pda_nil))) pda_nil)))))))))))))
    (pds_cons (pds_set (i := 1) sc_law_strange.nd (pd_op op_addA os_add (pd_var 1) (pd_lst (pda_cons (pd_tup (pda_cons (pd_tup (pda_cons pd_int (pda_cons pd_int pda_nil))) (pda_cons (pd_tup (pda_cons pd_int (pda_cons pd_int pda_nil))) pda_nil))) pda_nil))))
    (pds_cons (pds_set (i := 1) sc_law_strange.nd (pd_op op_addA os_add (pd_var 1) (pd_lst (pda_cons (pd_tup (pda_cons (pd_tup (pda_cons pd_int (pda_cons pd_int pda_nil))) (pda_cons (pd_tup (pda_cons pd_int (pda_cons pd_int pda_nil))) pda_nil))) (pda_cons (pd_lst (pda_cons (pd_tup (pda_cons pd_int (pda_cons pd_int pda_nil))) (pda_cons (pd_tup (pda_cons pd_int (pda_cons pd_int pda_nil))) pda_nil))) (pda_cons (pd_op op_mulA os_mul (pd_tup (pda_cons (pd_tup (pda_cons pd_int (pda_cons pd_int pda_nil))) pda_nil)) pd_int) (pda_cons (pd_tup (pda_cons (pd_tup (pda_cons pd_int (pda_cons pd_int pda_nil))) (pda_cons (pd_tup (pda_cons pd_int (pda_cons pd_int pda_nil))) (pda_cons (pd_tup (pda_cons pd_int (pda_cons pd_int pda_nil))) (pda_cons (pd_tup (pda_cons pd_int (pda_cons pd_int pda_nil))) (pda_cons (pd_tup (pda_cons pd_int (pda_cons pd_int pda_nil))) pda_nil)))))) pda_nil)))))))
    (pds_cons (pds_set (i := 1) sc_law_strange.nd (pd_op op_addA os_add (pd_var 1) (pd_lst (pda_cons (pd_tup (pda_cons pd_non (pda_cons pd_non pda_nil))) (pda_cons (pd_op op_mulA os_mul (pd_tup (pda_cons (pd_tup (pda_cons pd_int (pda_cons pd_int pda_nil))) pda_nil)) pd_int) (pda_cons (pd_op op_mulA os_mul (pd_tup (pda_cons (pd_tup (pda_cons pd_int (pda_cons pd_int pda_nil))) pda_nil)) pd_int) (pda_cons (pd_op op_mulA os_mul (pd_lst (pda_cons (pd_tup (pda_cons pd_int (pda_cons pd_int pda_nil))) pda_nil)) pd_int) (pda_cons (pd_tup (pda_cons (pd_tup (pda_cons pd_int (pda_cons pd_int pda_nil))) (pda_cons (pd_tup (pda_cons pd_int (pda_cons pd_int pda_nil))) (pda_cons (pd_tup (pda_cons pd_int (pda_cons pd_int pda_nil))) (pda_cons (pd_tup (pda_cons pd_int (pda_cons pd_int pda_nil))) (pda_cons (pd_tup (pda_cons pd_int (pda_cons pd_int pda_nil))) pda_nil)))))) pda_nil))))))))
    (pds_cons (pds_set (i := 1) sc_law_strange.nd (pd_op op_addA os_add (pd_var 1) (pd_lst (pda_cons (pd_op op_mulA os_mul (pd_tup (pda_cons (pd_op op_mulA os_mul (pd_tup (pda_cons (pd_tup (pda_cons pd_int (pda_cons pd_int pda_nil))) pda_nil)) pd_int) pda_nil)) pd_int) pda_nil))))
    (pds_one (pds_ret (pd_callL (ok_law_of T) hg (hr.mono (by decide)) (by rfl) T.g_law_of T.kp_law_of T.t_law_of (pv 0) (pda_cons (pd_var 1) pda_nil))))))))))
noncomputable def m_law_bent (Fr : List Dx.D → Ld → Res Dx.D) : DS := (dSeq (dIfS (dTest (dCall 1 F_law_is_whole (dCons (dVar 1) dNil)))
    (dRet (dCallL 0 1 F_law_of (dCons (dTup (dCons (dOp gAdd (dVar 1) (dC (.int 1))) (dCons (dOp gSub (dC (.int 0)) (dVar 1)) (dCons (dOp gMul (dC (.int 2)) (dVar 1)) (dCons (dOp gEqA (dVar 1) (dC (.int 1))) (dCons (dCB gStrI (dCons (dVar 1) dNil)) (dCons (dTup (dCons (dVar 1) (dCons (dC (.int 1)) dNil))) (dCons (dC .none) dNil)))))))) dNil))) dNext)
    (dSeq (dIfS (dOr (dNot (dTest (dIsi "tuple" (dVar 1)))) (dTest (dOp gEqA (dVar 1) (dTup dNil))))
    (dRet (dCallL 0 0 F_law_strange dNil)) dNext)
    (dSeq (dPar [2, 3] (dCons (dCallL 0 1 F_law_take (dCons (dCB gLen (dCons (dVar 1) dNil)) dNil)) (dCons (dCallL 0 1 F_law_take (dCons (dC (.int 10)) dNil)) dNil)))
    (dSeq (dIfS (dTest (dOp gLt (dVar 3) (dC (.int 6))))
    (dRet (dOp gAdd (dOp gAdd (dSl (dVar 1) dONone (dOSome (dVar 2))) (dTup (dCons (dCallL 0 1 Fr (dCons (dOp gIx (dVar 1) (dVar 2)) dNil)) dNil))) (dSl (dVar 1) (dOSome (dOp gAdd (dVar 2) (dC (.int 1)))) dONone))) dNext)
    (dSeq (dIfS (dTest (dOp gEqA (dVar 3) (dC (.int 6))))
    (dRet (dOp gAdd (dSl (dVar 1) dONone (dOSome (dVar 2))) (dSl (dVar 1) (dOSome (dOp gAdd (dVar 2) (dC (.int 1)))) dONone))) dNext)
    (dSeq (dIfS (dTest (dOp gEqA (dVar 3) (dC (.int 7))))
    (dRet (dOp gAdd (dOp gAdd (dSl (dVar 1) dONone (dOSome (dVar 2))) (dTup (dCons (dOp gIx (dVar 1) (dVar 2)) dNil))) (dSl (dVar 1) (dOSome (dVar 2)) dONone))) dNext)
    (dRet (dIf (dTest (dOp gEqA (dVar 3) (dC (.int 8)))) (dCB gList (dCons (dVar 1) dNil)) (dOp gAdd (dOp gAdd (dSl (dVar 1) dONone (dOSome (dVar 2))) (dTup (dCons (dCallL 0 0 F_law_strange dNil) dNil))) (dSl (dVar 1) (dOSome (dOp gAdd (dVar 2) (dC (.int 1)))) dONone))))))))))
noncomputable def Fn_law_bent : Nat → List Dx.D → Ld → Res Dx.D
  | 0 => runL 4 dNone'
  | n + 1 => runL 4 (m_law_bent (Fn_law_bent n))
theorem okn_law_bent (T : Txt K mg A Fd) : ∀ n : Nat, FnG P w K mg base CX0 (4 + n) (A 38) (Fd 38) p_law_bent (spL K 1 (Fn_law_bent n))
  | 0 => fnL (ds := dNone') (k := 3) T.f_law_bent sc_law_bent (by decide) (by decide) fun cdv A0 outer s H E hg hr => pdss_no
  | n + 1 => fnL (ds := m_law_bent (Fn_law_bent n)) (k := 4 + n) T.f_law_bent sc_law_bent (by decide) (by decide) fun cdv A0 outer s H E hg hr => by
    unfold m_law_bent
    exact (pds_cons (pds_if (pdt_v (pd_call (ok_law_is_whole T) hg (hr.mono (by omega)) (by rfl) T.g_law_is_whole T.kp_law_is_whole T.t_law_is_whole (pda_cons (pd_var 1) pda_nil)))
    (pds_one (pds_ret (pd_callL (ok_law_of T) hg (hr.mono (by omega)) (by rfl) T.g_law_of T.kp_law_of T.t_law_of (pv 0) (pda_cons (pd_tup (pda_cons (pd_op op_addA os_add (pd_var 1) pd_int) (pda_cons (pd_op op_sub os_sub pd_int (pd_var 1)) (pda_cons (pd_op op_mulA os_mul pd_int (pd_var 1)) (pda_cons (pd_cmp (op_eqA hr.units) os_eqA (pd_var 1) pd_int (nomark _)) (pda_cons (pd_callTy call_str_int cs_str (by rfl) T.b_str boot_str (pda_cons (pd_var 1) pda_nil)) (pda_cons (pd_tup (pda_cons (pd_var 1) (pda_cons pd_int pda_nil))) (pda_cons pd_non pda_nil)))))))) pda_nil)))) pds_nil)
    (pds_cons (pds_if (pdt_w (pdw_or (pdt_not (pdt_v (pd_isi (by rfl) T.b_isinstance (by rfl) T.b_tuple boot_tuple (pd_var 1)))) (pdw_or1 (pdt_cmp (op_eqA hr.units) os_eqA (pd_var 1) (pd_tup pda_nil) (nomark _)))))
    (pds_one (pds_ret (pd_callL (ok_law_strange T) hg (hr.mono (by omega)) (by rfl) T.g_law_strange T.kp_law_strange T.t_law_strange (pv 0) pda_nil))) pds_nil)
    (pds_cons (pds_par (i := 2) (j := 3) rfl sc_law_bent.nd (pda_cons (pd_callL (ok_law_take T) hg (hr.mono (by omega)) (by rfl) T.g_law_take T.kp_law_take T.t_law_take (pv 0) (pda_cons (pd_callB call_len cs_len (by rfl) T.b_len boot_len (pda_cons (pd_var 1) pda_nil)) pda_nil)) (pda_cons (pd_callL (ok_law_take T) hg (hr.mono (by omega)) (by rfl) T.g_law_take T.kp_law_take T.t_law_take (pv 0) (pda_cons pd_int pda_nil)) pda_nil)))
    (pds_cons (pds_if (pdt_cmp op_lt os_lt (pd_var 3) pd_int (nomark _))
    (pds_one (pds_ret (pd_op op_addA os_add (pd_op op_addA os_add (pd_sl (pd_var 1) pdo_none (pdo_some (pd_var 2))) (pd_tup (pda_cons (pd_callL (okn_law_bent T n) hg (hr.mono (by omega)) (by rfl) T.g_law_bent T.kp_law_bent T.t_law_bent (pv 0) (pda_cons (pd_ix ix_seq os_ix (pd_var 1) (pd_var 2) (fun _ _ => rfl)) pda_nil)) pda_nil))) (pd_sl (pd_var 1) (pdo_some (pd_op op_addA os_add (pd_var 2) pd_int)) pdo_none)))) pds_nil)
    (pds_cons (pds_if (pdt_cmp (op_eqA hr.units) os_eqA (pd_var 3) pd_int (nomark _))
    (pds_one (pds_ret (pd_op op_addA os_add (pd_sl (pd_var 1) pdo_none (pdo_some (pd_var 2))) (pd_sl (pd_var 1) (pdo_some (pd_op op_addA os_add (pd_var 2) pd_int)) pdo_none)))) pds_nil)
    (pds_cons (pds_if (pdt_cmp (op_eqA hr.units) os_eqA (pd_var 3) pd_int (nomark _))
    (pds_one (pds_ret (pd_op op_addA os_add (pd_op op_addA os_add (pd_sl (pd_var 1) pdo_none (pdo_some (pd_var 2))) (pd_tup (pda_cons (pd_ix ix_seq os_ix (pd_var 1) (pd_var 2) (fun _ _ => rfl)) pda_nil))) (pd_sl (pd_var 1) (pdo_some (pd_var 2)) pdo_none)))) pds_nil)
    (pds_one (pds_ret (pd_ite (pdt_cmp (op_eqA hr.units) os_eqA (pd_var 3) pd_int (nomark _)) (pd_callTy call_list_of cs_list (by rfl) T.b_list boot_list (pda_cons (pd_var 1) pda_nil)) (pd_op op_addA os_add (pd_op op_addA os_add (pd_sl (pd_var 1) pdo_none (pdo_some (pd_var 2))) (pd_tup (pda_cons (pd_callL (ok_law_strange T) hg (hr.mono (by omega)) (by rfl) T.g_law_strange T.kp_law_strange T.t_law_strange (pv 0) pda_nil) pda_nil))) (pd_sl (pd_var 1) (pdo_some (pd_op op_addA os_add (pd_var 2) pd_int)) pdo_none)))))))))))
noncomputable def F_law_bent : List Dx.D → Ld → Res Dx.D := Fn_law_bent 3
theorem ok_law_bent (T : Txt K mg A Fd) : FnG P w K mg base CX0 7 (A 38) (Fd 38) p_law_bent (spL K 1 F_law_bent) := okn_law_bent T 3
noncomputable def m_law_are_forms_right : DS := (dSeq (dFor (dIt (dLst (dCons (dVar 1) (dCons (dCallL 0 1 F_law_bent (dCons (dVar 1) dNil)) (dCons (dCallL 0 1 F_law_bent (dCons (dVar 1) dNil)) (dCons (dCallL 0 0 F_law_strange dNil) dNil)))))) (dName 2) (dIfS (dTest (dOp gNeA (dCB gRepr (dCons (dLst (dCons (dCall 1 F_is_wave (dCons (dVar 2) dNil)) (dCons (dCallK 1 1 [0] F_is_wave (dCons (dVar 2) dNil)) dNil))) dNil)) (dCB gRepr (dCons (dOp gMul (dLst (dCons (dCall 2 F_law_are_fracs (dCons (dVar 2) (dCons (dC (.int 5)) dNil))) dNil)) (dC (.int 2))) dNil))))
    (dRet (dC (.bool false))) dNext))
    (dRet (dC (.bool true))))
noncomputable def F_law_are_forms_right : List Dx.D → Ld → Res Dx.D := runL 3 m_law_are_forms_right
theorem ok_law_are_forms_right (T : Txt K mg A Fd) : FnG P w K mg base CX0 8 (A 39) (Fd 39) p_law_are_forms_right (spL K 1 F_law_are_forms_right) := fnL (ds := m_law_are_forms_right) (k := 7) T.f_law_are_forms_right sc_law_are_forms_right (by decide) (by decide) fun cdv A0 outer s H E hg hr => by
  unfold m_law_are_forms_right
  exact (pds_cons (pds_for rfl (pdi_seq (pd_lst (pda_cons (pd_var 1) (pda_cons (pd_callL (ok_law_bent T) hg (hr.mono (by decide)) (by rfl) T.g_law_bent T.kp_law_bent T.t_law_bent (pv 0) (pda_cons (pd_var 1) pda_nil)) (pda_cons (pd_callL (ok_law_bent T) hg (hr.mono (by decide)) (by rfl) T.g_law_bent T.kp_law_bent T.t_law_bent (pv 0) (pda_cons (pd_var 1) pda_nil)) (pda_cons (pd_callL (ok_law_strange T) hg (hr.mono (by decide)) (by rfl) T.g_law_strange T.kp_law_strange T.t_law_strange (pv 0) pda_nil) pda_nil)))))) (pdg_name sc_law_are_forms_right.nd) (pds_one (pds_if (pdt_cmp (op_neA hr.units) os_neA (pd_callB (cr_repr hg (room70 hr)) cs_repr (by rfl) T.b_repr boot_repr (pda_cons (pd_lst (pda_cons (pd_call (ok_is_wave T) hg (hr.mono (by decide)) (by rfl) T.g_is_wave T.kp_is_wave T.t_is_wave (pda_cons (pd_var 2) pda_nil)) (pda_cons (pd_callK (ok_is_wave T) hg (hr.mono (by decide)) (by rfl) T.g_is_wave T.kp_is_wave T.w_is_wave_0 (pdk_cons (pd_var 2) pdk_nil)) pda_nil))) pda_nil)) (pd_callB (cr_repr hg (room70 hr)) cs_repr (by rfl) T.b_repr boot_repr (pda_cons (pd_op op_mulA os_mul (pd_lst (pda_cons (pd_call (ok_law_are_fracs T) hg (hr.mono (by decide)) (by rfl) T.g_law_are_fracs T.kp_law_are_fracs T.t_law_are_fracs (pda_cons (pd_var 2) (pda_cons pd_int pda_nil))) pda_nil)) pd_int) pda_nil)) (nomark _))
    (pds_one (pds_ret pd_bl)) pds_nil)) PassesOwn.never)
    (pds_one (pds_ret pd_bl)))
noncomputable def m_law_are_ends_right : DS := (dSeq (dAsg (dGTup 4 (dGCons (dName 1) (dGCons (dName 2) (dGCons (dName 3) (dGCons (dName 4) dGNil))))) (dSl (dVar 0) dONone (dOSome (dC (.int 4)))))
    (dSeq (dSet 5 (dLst (dCons (dTup (dCons (dTup (dCons (dC (.int 1)) (dCons (dC (.int 1)) dNil))) (dCons (dTup (dCons (dC (.int 0)) (dCons (dC (.int 1)) dNil))) dNil))) (dCons (dTup (dCons (dTup (dCons (dC (.int 0)) (dCons (dC (.int 1)) dNil))) (dCons (dTup (dCons (dC (.int 1)) (dCons (dC (.int 1)) dNil))) dNil))) (dCons (dTup (dCons (dTup (dCons (dUn gNeg (dC (.int 1))) (dCons (dC (.int 1)) dNil))) (dCons (dTup (dCons (dC (.int 0)) (dCons (dC (.int 1)) dNil))) dNil))) (dCons (dTup (dCons (dTup (dCons (dC (.int 0)) (dCons (dC (.int 1)) dNil))) (dCons (dTup (dCons (dUn gNeg (dC (.int 1))) (dCons (dC (.int 1)) dNil))) dNil))) dNil))))))
    (dSeq (dSet 6 (dLst (dCons (dCall 1 F_law_total (dCons (dLst (dCons (dVar 1) (dCons (dVar 2) (dCons (dVar 4) dNil)))) dNil)) (dCons (dCall 2 F_law_sub (dCons (dCall 2 F_law_add (dCons (dVar 1) (dCons (dVar 3) dNil))) (dCons (dVar 4) dNil))) (dCons (dCall 2 F_law_sub (dCons (dCall 2 F_law_add (dCons (dVar 1) (dCons (dVar 4) dNil))) (dCons (dVar 2) dNil))) (dCons (dCall 2 F_law_sub (dCons (dVar 1) (dCons (dCall 2 F_law_add (dCons (dVar 3) (dCons (dVar 4) dNil))) dNil))) dNil))))))
    (dRet (dOp gEqA (dCB gRepr (dCons (dLc [7] (dIt (dVar 5)) (dName 7) dYes (dCall 2 F_wave_at (dCons (dVar 0) (dCons (dVar 7) dNil)))) dNil)) (dCB gRepr (dCons (dVar 6) dNil)))))))
noncomputable def F_law_are_ends_right : List Dx.D → Option Dx.D := runD 8 m_law_are_ends_right
theorem ok_law_are_ends_right (T : Txt K mg A Fd) : FnG P w K mg base CX0 7 (A 40) (Fd 40) p_law_are_ends_right (spD K 1 F_law_are_ends_right) := fnD (ds := m_law_are_ends_right) (k := 6) T.f_law_are_ends_right sc_law_are_ends_right fun cdv A0 outer s H E hg hr => by
  unfold m_law_are_ends_right
  exact (pds_cons (pds_asg (pd_sl (pd_var 0) pdo_none (pdo_some pd_int)) (pdg_tup rfl (pdg_cons (pdg_name sc_law_are_ends_right.nd) (pdg_cons (pdg_name sc_law_are_ends_right.nd) (pdg_cons (pdg_name sc_law_are_ends_right.nd) (pdg_cons (pdg_name sc_law_are_ends_right.nd) pdg_nil))))))
    (pds_cons (pds_set (i := 5) sc_law_are_ends_right.nd (pd_lst (pda_cons (pd_tup (pda_cons (pd_tup (pda_cons pd_int (pda_cons pd_int pda_nil))) (pda_cons (pd_tup (pda_cons pd_int (pda_cons pd_int pda_nil))) pda_nil))) (pda_cons (pd_tup (pda_cons (pd_tup (pda_cons pd_int (pda_cons pd_int pda_nil))) (pda_cons (pd_tup (pda_cons pd_int (pda_cons pd_int pda_nil))) pda_nil))) (pda_cons (pd_tup (pda_cons (pd_tup (pda_cons (pd_un un_neg us_neg pd_int) (pda_cons pd_int pda_nil))) (pda_cons (pd_tup (pda_cons pd_int (pda_cons pd_int pda_nil))) pda_nil))) (pda_cons (pd_tup (pda_cons (pd_tup (pda_cons pd_int (pda_cons pd_int pda_nil))) (pda_cons (pd_tup (pda_cons (pd_un un_neg us_neg pd_int) (pda_cons pd_int pda_nil))) pda_nil))) pda_nil))))))
    (pds_cons (pds_set (i := 6) sc_law_are_ends_right.nd (pd_lst (pda_cons (pd_call (ok_law_total T) hg (hr.mono (by decide)) (by rfl) T.g_law_total T.kp_law_total T.t_law_total (pda_cons (pd_lst (pda_cons (pd_var 1) (pda_cons (pd_var 2) (pda_cons (pd_var 4) pda_nil)))) pda_nil)) (pda_cons (pd_call (ok_law_sub T) hg (hr.mono (by decide)) (by rfl) T.g_law_sub T.kp_law_sub T.t_law_sub (pda_cons (pd_call (ok_law_add T) hg (hr.mono (by decide)) (by rfl) T.g_law_add T.kp_law_add T.t_law_add (pda_cons (pd_var 1) (pda_cons (pd_var 3) pda_nil))) (pda_cons (pd_var 4) pda_nil))) (pda_cons (pd_call (ok_law_sub T) hg (hr.mono (by decide)) (by rfl) T.g_law_sub T.kp_law_sub T.t_law_sub (pda_cons (pd_call (ok_law_add T) hg (hr.mono (by decide)) (by rfl) T.g_law_add T.kp_law_add T.t_law_add (pda_cons (pd_var 1) (pda_cons (pd_var 4) pda_nil))) (pda_cons (pd_var 2) pda_nil))) (pda_cons (pd_call (ok_law_sub T) hg (hr.mono (by decide)) (by rfl) T.g_law_sub T.kp_law_sub T.t_law_sub (pda_cons (pd_var 1) (pda_cons (pd_call (ok_law_add T) hg (hr.mono (by decide)) (by rfl) T.g_law_add T.kp_law_add T.t_law_add (pda_cons (pd_var 3) (pda_cons (pd_var 4) pda_nil))) pda_nil))) pda_nil))))))
    (pds_one (pds_ret (pd_cmp (op_eqA hr.units) os_eqA (pd_callB (cr_repr hg (room70 hr)) cs_repr (by rfl) T.b_repr boot_repr (pda_cons (pd_lc (own := [("_law_each", 7)]) rfl sc_law_are_ends_right.nd (pdi_seq (pd_var 5)) (blkOk_by (own := [("_law_each", 7)]) (N := N_law_are_ends_right) (sc := defScope s_law_are_ends_right) (by decide +kernel)) (fun _ => (pdg_name sc_law_are_ends_right.nd)) (fun _ => pdts_nil) (fun _ => (pd_call (ok_wave_at T) hg (hr.mono (by decide)) (by rfl) T.g_wave_at T.kp_wave_at T.t_wave_at (pda_cons (pd_var 0) (pda_cons (pd_var 7) pda_nil))))) pda_nil)) (pd_callB (cr_repr hg (room70 hr)) cs_repr (by rfl) T.b_repr boot_repr (pda_cons (pd_var 6) pda_nil)) (nomark _)))))))
noncomputable def m_law_right : DS := (dSeq (dPar [1, 2] (dCons (dCallL 0 0 F_law_wave dNil) (dCons (dCallL 0 0 F_law_heading dNil) dNil)))
    (dSeq (dSet 3 (dCall 2 F_law_worth (dCons (dVar 1) (dCons (dVar 2) dNil))))
    (dSeq (dIfS (dTest (dOp gNeA (dCB gRepr (dCons (dLst (dCons (dCall 2 F_wave_at (dCons (dVar 1) (dCons (dVar 2) dNil))) (dCons (dCallK 2 2 [1, 0] F_wave_at (dCons (dVar 2) (dCons (dVar 1) dNil))) dNil))) dNil)) (dCB gRepr (dCons (dLst (dCons (dVar 3) (dCons (dVar 3) dNil))) dNil))))
    (dRet (dC (.bool false))) dNext)
    (dSeq (dSet 4 (dTup (dCons (dOp gIx (dVar 1) (dC (.int 0))) (dCons (dOp gIx (dVar 1) (dC (.int 1))) (dCons (dTup (dCons (dOp gSub (dC (.int 0)) (dOp gIx (dOp gIx (dVar 1) (dC (.int 2))) (dC (.int 0)))) (dCons (dOp gIx (dOp gIx (dVar 1) (dC (.int 2))) (dC (.int 1))) dNil))) (dCons (dOp gIx (dVar 1) (dC (.int 3))) (dCons (dTup (dCons (dOp gSub (dC (.int 0)) (dOp gIx (dOp gIx (dVar 1) (dC (.int 4))) (dC (.int 0)))) (dCons (dOp gIx (dOp gIx (dVar 1) (dC (.int 4))) (dC (.int 1))) dNil))) dNil)))))))
    (dSeq (dIfS (dTest (dOp gNeA (dCB gRepr (dCons (dCall 2 F_wave_at (dCons (dVar 4) (dCons (dCall 1 F_law_flipped (dCons (dVar 2) dNil)) dNil))) dNil)) (dCB gRepr (dCons (dVar 3) dNil))))
    (dRet (dC (.bool false))) dNext)
    (dRet (dAndV (dCall 1 F_law_are_ends_right (dCons (dVar 1) dNil)) (dCallL 0 1 F_law_are_forms_right (dCons (dVar 1) dNil)))))))))
noncomputable def F_law_right : List Dx.D → Ld → Res Dx.D := runL 5 m_law_right
theorem ok_law_right (T : Txt K mg A Fd) : FnG P w K mg base CX0 9 (A 41) (Fd 41) p_law_right (spL K 0 F_law_right) := fnL (ds := m_law_right) (k := 8) T.f_law_right sc_law_right (by decide) (by decide) fun cdv A0 outer s H E hg hr => by
  unfold m_law_right
  exact (pds_cons (pds_par (i := 1) (j := 2) rfl sc_law_right.nd (pda_cons (pd_callL (ok_law_wave T) hg (hr.mono (by decide)) (by rfl) T.g_law_wave T.kp_law_wave T.t_law_wave (pv 0) pda_nil) (pda_cons (pd_callL (ok_law_heading T) hg (hr.mono (by decide)) (by rfl) T.g_law_heading T.kp_law_heading T.t_law_heading (pv 0) pda_nil) pda_nil)))
    (pds_cons (pds_set (i := 3) sc_law_right.nd (pd_call (ok_law_worth T) hg (hr.mono (by decide)) (by rfl) T.g_law_worth T.kp_law_worth T.t_law_worth (pda_cons (pd_var 1) (pda_cons (pd_var 2) pda_nil))))
    (pds_cons (pds_if (pdt_cmp (op_neA hr.units) os_neA (pd_callB (cr_repr hg (room70 hr)) cs_repr (by rfl) T.b_repr boot_repr (pda_cons (pd_lst (pda_cons (pd_call (ok_wave_at T) hg (hr.mono (by decide)) (by rfl) T.g_wave_at T.kp_wave_at T.t_wave_at (pda_cons (pd_var 1) (pda_cons (pd_var 2) pda_nil))) (pda_cons (pd_callK (ok_wave_at T) hg (hr.mono (by decide)) (by rfl) T.g_wave_at T.kp_wave_at T.w_wave_at_1_0 (pdk_cons (pd_var 2) (pdk_cons (pd_var 1) pdk_nil))) pda_nil))) pda_nil)) (pd_callB (cr_repr hg (room70 hr)) cs_repr (by rfl) T.b_repr boot_repr (pda_cons (pd_lst (pda_cons (pd_var 3) (pda_cons (pd_var 3) pda_nil))) pda_nil)) (nomark _))
    (pds_one (pds_ret pd_bl)) pds_nil)
    (pds_cons (pds_set (i := 4) sc_law_right.nd (pd_tup (pda_cons (pd_ix ix_seq os_ix (pd_var 1) pd_int (fun _ _ => rfl)) (pda_cons (pd_ix ix_seq os_ix (pd_var 1) pd_int (fun _ _ => rfl)) (pda_cons (pd_tup (pda_cons (pd_op op_sub os_sub pd_int (pd_ix ix_seq os_ix (pd_ix ix_seq os_ix (pd_var 1) pd_int (fun _ _ => rfl)) pd_int (fun _ _ => rfl))) (pda_cons (pd_ix ix_seq os_ix (pd_ix ix_seq os_ix (pd_var 1) pd_int (fun _ _ => rfl)) pd_int (fun _ _ => rfl)) pda_nil))) (pda_cons (pd_ix ix_seq os_ix (pd_var 1) pd_int (fun _ _ => rfl)) (pda_cons (pd_tup (pda_cons (pd_op op_sub os_sub pd_int (pd_ix ix_seq os_ix (pd_ix ix_seq os_ix (pd_var 1) pd_int (fun _ _ => rfl)) pd_int (fun _ _ => rfl))) (pda_cons (pd_ix ix_seq os_ix (pd_ix ix_seq os_ix (pd_var 1) pd_int (fun _ _ => rfl)) pd_int (fun _ _ => rfl)) pda_nil))) pda_nil)))))))
    (pds_cons (pds_if (pdt_cmp (op_neA hr.units) os_neA (pd_callB (cr_repr hg (room70 hr)) cs_repr (by rfl) T.b_repr boot_repr (pda_cons (pd_call (ok_wave_at T) hg (hr.mono (by decide)) (by rfl) T.g_wave_at T.kp_wave_at T.t_wave_at (pda_cons (pd_var 4) (pda_cons (pd_call (ok_law_flipped T) hg (hr.mono (by decide)) (by rfl) T.g_law_flipped T.kp_law_flipped T.t_law_flipped (pda_cons (pd_var 2) pda_nil)) pda_nil))) pda_nil)) (pd_callB (cr_repr hg (room70 hr)) cs_repr (by rfl) T.b_repr boot_repr (pda_cons (pd_var 3) pda_nil)) (nomark _))
    (pds_one (pds_ret pd_bl)) pds_nil)
    (pds_one (pds_ret (pd_and (pd_call (ok_law_are_ends_right T) hg (hr.mono (by decide)) (by rfl) T.g_law_are_ends_right T.kp_law_are_ends_right T.t_law_are_ends_right (pda_cons (pd_var 1) pda_nil)) (pd_bone (pd_callL (ok_law_are_forms_right T) hg (hr.mono (by decide)) (by rfl) T.g_law_are_forms_right T.kp_law_are_forms_right T.t_law_are_forms_right (pv 0) (pda_cons (pd_var 1) pda_nil)))))))))))
end
end K34
end
section
set_option Elab.async false
set_option linter.all false
set_option maxRecDepth 100000
set_option maxHeartbeats 4000000
namespace K34
open PySem PySem.Spec PyProof.Rows L2 Dx
/-! the store is made -/
def spLode (K : PySem.W.Frag) : Sp := fun vs H Q _ => ∃ (a : Addr) (ns : List Int) (lap : Int), vs = [.ref a, .int lap] ∧ SqL K H a (ns.map V.int) ∧ ns.length ≤ 63 ∧ 0 ≤ lap ∧ ∀ (p : Addr) (l : Ld) (H' : Hp), (0 ≤ l.s ∧ l.s < 2147483629 ∧ l.k = 0) → (∀ b o, H b = some o → H' b = some o) → H p = none → H' p = some l.ho → Q (.ref p) H'
def spLaw (K : PySem.W.Frag) : Sp := fun vs H Q _ => ∃ (a : Addr) (ns : List Int), vs = [.ref a] ∧ SqL K H a (ns.map V.int) ∧ ns.length ≤ 63 ∧ ∀ H', Q (.bl true) H'
theorem both2 {H : Hp} {G : Prop} (X : Int → Hp → Prop) (h : (∀ c H0, Same H H0 → X c H0) → G) (k : ∀ c H0, Same H H0 → X c H0) : G := h k
theorem cut_ints (ns : List Int) (lo hi : Option Int) : ∃ ms : List Int, cutV (ns.map V.int) lo hi = ms.map V.int := ⟨_, by
  unfold cutV
  rw [← List.map_drop, ← List.map_take]⟩
theorem boot_lode_len : bootBuiltins "len" = some (.builtin "len") := by decide +kernel
theorem boot_lode_sum : bootBuiltins "sum" = some (.builtin "sum") := by decide +kernel
theorem boot_lode_int : bootBuiltins "int" = some (.type "int") := by decide +kernel
theorem boot_lode_abs : bootBuiltins "abs" = some (.builtin "abs") := by decide +kernel
theorem boot_lode_all : bootBuiltins "all" = some (.builtin "all") := by decide +kernel
theorem boot_lode_min : bootBuiltins "min" = some (.builtin "min") := by decide +kernel
theorem boot_lode_max : bootBuiltins "max" = some (.builtin "max") := by decide +kernel
structure Bn (mg : Str → Option Value) : Prop where
  len : mg "len" = none
  sum : mg "sum" = none
  int : mg "int" = none
  abs : mg "abs" = none
  all : mg "all" = none
  min : mg "min" = none
  max : mg "max" = none
  range : mg "range" = none
section
variable {P : Program} {w : World} {K : PySem.W.Frag} {mg : Str → Option Value} {base : Heap} {A : Nat → Addr} {Fd : Nat → FuncData}
theorem ok_store (T : Txt K mg A Fd) (B : Bn mg) {f : Addr} {fd : FuncData} (F : Fun K "_law_store" "_law_store" s_law_store f fd) : FnG P w K mg base CX0 1 f fd p_law_store (spLode K) := by
  refine fnG_body F sc_law_store (fun vs H Q E h => ?_) fun cdv A0 outer s H vs Q E hg hr h => ?_
  · obtain ⟨a, ns, lap, rfl, _⟩ := h
    rfl
  · obtain ⟨a, ns, lap, rfl, hS, hl, h0, k⟩ := h
    have nd := sc_law_store.nd
    refine ⟨_, PSs.nox (pss_cons (ps_set (i := 2) nd rfl (Or.inl rfl) (pe_ifExp (pt_cmpR op_lt (pv 1) (pe_callB call_len_seq (by rfl) B.len boot_lode_len (pa_cons (pv 0) pa_nil)) (nomark _)) (pe_callTy call_int1 (by rfl) B.int boot_lode_int (pa_cons (pe_ix ix_list (pv 0) (pv 1) (fun _ _ => rfl)) pa_nil))
        (pe_op op_add (pe_op op_add (pe_op op_mul pe_int (pv 1)) pe_int) (pe_op op_modN (pe_callTy call_int1 (by rfl) B.int boot_lode_int (pa_cons (pe_callB (cr_sum rfl) (by rfl) B.sum boot_lode_sum (pa_cons (pe_slice sl_list (pv 0) po_none (po_some pe_int)) pa_nil)) pa_nil)) pe_int))))
      (pss_cons (ps_set (i := 3) nd rfl (Or.inl rfl) (pe_op op_add pe_int (pe_op op_mul pe_int (pv 1))))
      (pss_cons (ps_for PassesOwn.never rfl (pi_list (pe_op op_cat (pe_slice sl_list (pv 0) po_none (po_some pe_int)) (pe_lst (pa_cons (pv 2) pa_nil)))) (pg_name (i := 4) nd rfl (Or.inl rfl))
        (pss_one (ps_set (i := 3) nd rfl (Or.inl rfl) (pe_op op_modN (pe_callTy call_int1 (by rfl) B.int boot_lode_int (pa_cons (pe_op op_add (pe_op op_add (pe_op op_mul (pv 3) pe_int) (pe_op op_modN (pe_callTy call_int1 (by rfl) B.int boot_lode_int (pa_cons (pv 4) pa_nil)) pe_int)) pe_int) pa_nil)) pe_int))))
      (pss_one (ps_ret (pe_lst (pa_cons (pe_ifExp (PW.pt (pw_or (pt_cmpR op_lt (pv 2) pe_int (nomark _)) (pw_or1 (pt_cmpR op_ge (pv 2) (pe_op op_pow pe_int pe_int) (nomark _))))) (pe_callB call_abs (by rfl) B.abs boot_lode_abs (pa_cons (pv 2) pa_nil)) pe_int) (pa_cons (pv 3) (pa_cons pe_int pa_nil))))))))), ?_⟩
    apply both2 (H := H)
    · intro fol
      refine ⟨_, rfl, _, rfl, a, _, rfl, .inl hS, _, _, rfl, rfl, _, rfl, ?_⟩
      refine ite2 (fun hlt => ?_) (fun _ => ?_)
      · have hlt' : lap < ((ns.map V.int).length : Nat) := of_decide_eq_true hlt
        rw [List.length_map] at hlt'
        obtain ⟨n, hn⟩ : ∃ n, ns[lap.toNat]? = some n := ⟨_, List.getElem?_eq_getElem (by omega)⟩
        have hat : atI (ns.map V.int) lap = some (.int n) := by
          have e : lap = ((lap.toNat : Nat) : Int) := by omega
          rw [e]
          exact atI_nat (by rw [List.getElem?_map, hn]; rfl)
        exact ⟨.ref a, rfl, _, rfl, a, _, lap, _, rfl, rfl, hS, hat, .inl ⟨_, rfl, fol n H (Same.refl H)⟩⟩
      · refine ⟨_, rfl, _, _, rfl, rfl, .inl (by constructor <;> decide), _, _, rfl, rfl, ?_⟩
        refine ⟨.ref a, rfl, _, rfl, a, _, rfl, hS, fun p hp => ?_⟩
        obtain ⟨ms, hms⟩ := cut_ints ns none (some 4)
        refine ⟨p, ms, rfl, by rw [← hms]; exact SqL.of upd_same, .inl ⟨_, rfl, _, _, rfl, rfl, by show ¬ _ = (0 : Int); decide, _, _, rfl, rfl, fol _ _ fun b o e => ?_⟩⟩
        rw [upd_ne (ne_of_none e hp)]
        exact e
    · intro c H0 S0
      refine ⟨_, rfl, _, _, rfl, rfl, .inl (by constructor <;> decide), _, _, rfl, rfl, ?_⟩
      refine ⟨.ref a, rfl, _, rfl, a, _, rfl, S0.seq hS, fun p hp => ⟨_, rfl, by show 1 ≤ sizeLine; decide, fun q hq => ?_⟩⟩
      obtain ⟨ms, hms⟩ := cut_ints ns none (some 10)
      have npq : p ≠ q := fun e => by rw [e, upd_same] at hq; cases hq
      have hp2 : upd (upd H0 p (.lst (cutV (ns.map V.int) none (some 10)))) q (.lst [V.int c]) p = some (.lst (cutV (ns.map V.int) none (some 10))) := by rw [upd_ne npq, upd_same]
      have len1 : (cutV (ns.map V.int) none (some 10)).length ≤ 63 := Nat.le_trans (cutV_length _ _ _) (by rw [List.length_map]; exact hl)
      refine ⟨p, q, _, _, rfl, rfl, hp2, upd_same, ?_, fun r hr2 => ?_⟩
      · rw [List.length_singleton]
        exact Nat.le_trans (Nat.add_le_add_right len1 1) (by decide)
      have S3 : Same H0 (upd (upd (upd H0 p (.lst (cutV (ns.map V.int) none (some 10)))) q (.lst [V.int c])) r (.lst (cutV (ns.map V.int) none (some 10) ++ [V.int c]))) := fun b o e => by
        have e1 : (upd H0 p (.lst (cutV (ns.map V.int) none (some 10)))) b = some o := by rw [upd_ne (ne_of_none e hp)]; exact e
        have e2 : (upd (upd H0 p (.lst (cutV (ns.map V.int) none (some 10)))) q (.lst [V.int c])) b = some o := by rw [upd_ne (ne_of_none e1 hq)]; exact e1
        rw [upd_ne (ne_of_none e2 hr2)]
        exact e2
      have eL : cutV (ns.map V.int) none (some 10) ++ [V.int c] = (ms ++ [c]).map V.int := by rw [hms, List.map_append]; rfl
      refine ⟨r, rfl, ⟨_, SqL.of upd_same⟩, for_list (K := K) (a := r) (xs := (ms ++ [c]).map V.int) (fun i σ H' => ∃ (st : Int) (v : Option V), σ = [some (.ref a), some (.int lap), some (.int c), some (.int st), v] ∧ Same H H' ∧ H' r = some (.lst ((ms ++ [c]).map V.int)) ∧ (i = 0 ∨ (0 ≤ st ∧ st < 2147483629))) ⟨_, none, rfl, S0.trans S3, by rw [upd_same, eL], .inl rfl⟩ (fun i σ H' _ ⟨_, _, _, _, q, _⟩ => SqL.of q) ?_ ?_⟩
      · rintro i y σ H' hi ⟨st, v, rfl, s5, q5, _⟩
        obtain ⟨z, rfl⟩ : ∃ z, y = V.int z := by
          rw [List.getElem?_map] at hi
          cases e : (ms ++ [c])[i]? with
          | none => rw [e] at hi; cases hi
          | some z => rw [e] at hi; exact ⟨z, (Option.some.inj hi).symm⟩
        refine ⟨_, rfl, _, _, rfl, rfl, .inr (by constructor <;> decide), _, rfl, .inl ⟨_, rfl, _, _, rfl, rfl, by show ¬ _ = (0 : Int); decide, _, _, rfl, rfl, _, _, rfl, rfl, .inl ⟨_, rfl, _, _, rfl, rfl, by show ¬ _ = (0 : Int); decide, ?_⟩⟩⟩
        exact ⟨_, _, rfl, s5, q5, .inr ⟨Int.fmod_nonneg_of_pos _ (by decide), Int.fmod_lt_of_pos _ (by decide)⟩⟩
      · rintro σ H' ⟨st, v, rfl, s5, q5, b5⟩
        have fin : ∀ z : Int, tCons (fun σ H Q => Q (.int z) H) (tCons (tVar 3) (tCons (tC (.int 0)) tNil)) [some (.ref a), some (.int lap), some (.int c), some (.int st), v] H' fun xs H1 => xs.length ≤ sizeLine ∧ ∀ p, H1 p = none → Q (.ref p) (upd H1 p (.lst xs)) := fun z => by
          refine ⟨_, rfl, by show 3 ≤ sizeLine; decide, fun p hp => ?_⟩
          have b6 : 0 ≤ st ∧ st < 2147483629 := by
            rcases b5 with z | z
            · rw [List.length_map, List.length_append, List.length_singleton] at z
              omega
            · exact z
          refine k p ⟨z, st, 0⟩ _ ⟨b6.1, b6.2, rfl⟩ (fun b o e => ?_) (s5.free hp) upd_same
          rw [upd_ne (ne_of_none (s5 _ _ e) hp)]
          exact s5 _ _ e
        refine ⟨_, rfl, _, _, rfl, rfl, _, rfl, ?_⟩
        refine ite2 (fun _ => iteT ?_) (fun _ => ?_)
        · exact ⟨_, rfl, _, rfl, fin _⟩
        · refine ⟨_, rfl, _, _, rfl, rfl, ⟨by decide, by decide, by decide⟩, _, _, rfl, rfl, _, rfl, ?_⟩
          refine ite2 (fun _ => ?_) (fun _ => ?_)
          · exact ⟨_, rfl, _, rfl, fin _⟩
          · exact fin 0
end
end K34
end
section
set_option Elab.async false
set_option linter.all false
set_option maxRecDepth 100000
set_option maxHeartbeats 4000000
namespace K34
open PySem PySem.Spec PyProof.Rows L2 Dx
section
variable {P : Program} {w : World} {K : PySem.W.Frag} {mg : Str → Option Value} {base : Heap} {A : Nat → Addr} {Fd : Nat → FuncData}
theorem ok_law (T : Txt K mg A Fd) (B : Bn mg) (hR : ∀ l, (0 ≤ l.s ∧ l.s < 2147483629 ∧ l.k = 0) → ∃ l', F_law_right [] l = .ok (.bool true) l') {f : Addr} {fd : FuncData} (F : Fun K "law" "law" s_law f fd) : FnG P w K mg base CX0 10 f fd ["_law_script"] (spLaw K) := by
  refine fnG_body F sc_law (fun vs H Q E h => ?_) fun cdv A0 outer s H vs Q E hg hr h => ?_
  · obtain ⟨a, ns, rfl, _⟩ := h
    rfl
  · obtain ⟨a, ns, rfl, hS, hl, k⟩ := h
    have nd := sc_law.nd
    refine ⟨_, PSs.nox (pss_one (ps_ret (pe_callB (cr_all rfl) (by rfl) B.all boot_lode_all (pa_cons (pe_lc (own := [("_law_turn", 1)]) rfl nd (pi_range1 (by rfl) B.range (pa_cons (pe_callB (call_max2 rfl) (by rfl) B.max boot_lode_max (pa_cons pe_int (pa_cons (pe_callB (call_min2 rfl) (by rfl) B.min boot_lode_min (pa_cons (pe_callB call_len_seq (by rfl) B.len boot_lode_len (pa_cons (pv 0) pa_nil)) (pa_cons pe_int pa_nil))) pa_nil))) pa_nil))
      (blkOk_by (own := [("_law_turn", 1)]) (N := N_law) (sc := defScope s_law) (by decide +kernel)) (fun _ _ _ _ _ => pg_name (i := 1) nd rfl (Or.inl rfl)) (fun _ _ _ _ _ => pts_nil)
      (fun _ _ _ _ _ => pe_callG (ok_law_right T) hg (hr.mono (by decide)) (by rfl) T.g_law_right T.kp_law_right T.t_law_right pass0 (pa_cons (pe_callG (ok_store T B T.f_law_store) hg (hr.mono (by decide)) (by rfl) T.g_law_store T.kp_law_store T.t_law_store pass0 (pa_cons (pv 0) (pa_cons (pv 1) pa_nil))) pa_nil))) pa_nil)))), ?_⟩
    refine ⟨.ref a, rfl, a, _, rfl, .inl hS, _, _, rfl, _, _, rfl, ?_⟩
    rw [List.length_map]
    refine ⟨_, rfl, ?_, ?_, ?_⟩
    · repeat (first | omega | split)
    · repeat (first | omega | split)
    obtain ⟨n, hn, hj⟩ : ∃ n : Nat, n ≤ 1000 ∧ (if (if (5 : Int) < ((ns.length : Nat) : Int) then (5 : Int) else ((ns.length : Nat) : Int)) > 2 then (if (5 : Int) < ((ns.length : Nat) : Int) then (5 : Int) else ((ns.length : Nat) : Int)) else 2).toNat = n := ⟨_, by repeat (first | omega | split), rfl⟩
    rw [hj]
    intro D hD
    have nD : ∀ b o, H b = some o → b ≠ D := fun b o e z => by
      rw [z, hD] at e
      cases e
    refine lc_range (lo := 0) (n := n) (fun i H' => Same H H' ∧ H' D = some (.lst ((List.replicate i true).map V.bl)) ∧ i ≤ n) ?_ ?_ ?_
    · exact ⟨fun b o e => by rw [upd_ne (nD b o e)]; exact e, upd_same, Nat.zero_le _⟩
    · rintro i H' hi ⟨s5, d5, b5⟩
      refine ⟨rfl, ?_⟩
      unfold tYes
      dsimp only
      rw [if_pos rfl]
      refine ⟨.ref a, rfl, _, rfl, a, ns, 0 + (i : Int), rfl, s5.seq hS, hl, by omega, fun p l H2 kk k1 k2 k3 => ?_⟩
      obtain ⟨l', e'⟩ := hR l kk
      have pD : D ≠ p := fun z => by
        rw [z, k2] at d5
        cases d5
      refine ⟨fun _ => none, [], [], .bool true, p, l, l', rfl, rfl, (fun b o e => nomatch e), rfl, k3, .nil, e', fun v H3 P3 G3 r3 => ?_⟩
      rw [r3.isBl]
      have keep : ∀ b o, H' b = some o → H3 b = some o := fun b o e => G3.keep b o (fun z => by cases z; rw [k2] at e; cases e) (k1 b o e)
      refine ⟨_, keep D _ d5, ?_, fun b o e => ?_, ?_, ?_⟩
      · rw [List.length_map, List.length_replicate]
        exact Nat.lt_of_le_of_lt (Nat.le_trans b5 hn) (by decide)
      · rw [upd_ne (nD b o e)]
        exact keep b o (s5 b o e)
      · rw [upd_same, List.replicate_succ', List.map_append]
        rfl
      · exact hi
    · rintro H' ⟨s5, d5, b5⟩
      refine ⟨D, List.replicate n true, rfl, SqL.of d5, ?_⟩
      have e : (List.replicate n true).all id = true := by simp
      rw [e]
      exact k _
end
end K34
end
section
set_option Elab.async false
set_option linter.all false
set_option maxRecDepth 100000
set_option maxHeartbeats 4000000
set_option exponentiation.threshold 100
namespace K34
open PySem Dx Fc Kb
/-! the store's fractions -/
def frC : DT := dTest (dOp gNeA (dVar 3) (dC (.int 0)))
noncomputable def frB : DS := dPar [2, 3] (dCons (dVar 3) (dCons (dOp gMod (dCB gInt (dCons (dVar 2) dNil)) (dVar 3)) dNil))
def en4 (t b x y : Int) : En := [dd (.int t), dd (.int b), dd (.int x), dd (.int y)]
theorem frC_eq (t b x y : Int) (l : Ld) : frC (en4 t b x y) l = .ok (!decide (y = 0)) l := by
  simp [frC, en4, dTest, dOp, dVar, dC, Res.bind, gNeA_int]
theorem frB_eq (t b x y : Int) (l : Ld) (h : y ≠ 0) : frB (en4 t b x y) l = .nx (en4 t b y (x.fmod y)) l := by
  simp [frB, en4, dPar, dCons, dNil, dOp, gMod, g2IC, dCB, gInt, dVar, Res.bind, cMod, h]
theorem loop_fr (t b : Int) (l : Ld) : ∀ (y x : Nat), loopW frC frB (y + 1) (en4 t b x y) l = .nx (en4 t b (Nat.gcd y x) 0) l := by
  intro y
  induction y using Nat.strongRecOn with
  | ind y ih =>
    intro x
    cases y with
    | zero =>
      rw [Nat.gcd_zero_left]
      refine lw_f ?_
      rw [frC_eq]
      rfl
    | succ y =>
      have h := ih (x % (y + 1)) (Nat.mod_lt _ (by omega)) (y + 1)
      have e2 := frB_eq t b (x : Int) ((y + 1 : Nat) : Int) l (by omega)
      have e3 : (x : Int).fmod ((y + 1 : Nat) : Int) = ((x % (y + 1) : Nat) : Int) := by
        rw [Int.fmod_eq_emod_of_nonneg _ (by omega)]
        rfl
      rw [e3] at e2
      have e1 : frC (en4 t b (x : Int) ((y + 1 : Nat) : Int)) l = .ok true l := by
        rw [frC_eq]
        rw [decide_eq_false (by omega)]
        rfl
      rw [lw_t e1 e2, lw_up h (by simp) (Nat.succ_le_of_lt (Nat.mod_lt _ (by omega))), ← Nat.gcd_rec]
theorem S_frac {t b : Int} (hb : b ≠ 0) (h : Bd 9000 b) : F_law_frac [.int t, .int b] = some (fq ((t : Rat) / (b : Rat))) := by
  rw [← fr_red hb]
  have w := dWhile_eq (loop_fr t b ⟨0, 0, 0⟩ b.natAbs t.natAbs) (by simp)
  have g : ((Nat.gcd b.natAbs t.natAbs : Nat) : Int) = (Int.gcd t b : Int) := by
    rw [Nat.gcd_comm]
    rfl
  rw [g] at w
  have gp : 0 < Int.gcd t b := Int.gcd_pos_of_ne_zero_right _ hb
  have a1 : gAbs [.int t] = some (.int (t.natAbs : Int)) := by
    have z : gAbs [.int t] = some (.int (if t < 0 then -t else t)) := rfl
    rw [z]
    congr 2
    split <;> omega
  have a2 : gAbs [.int b] = some (.int (b.natAbs : Int)) := by
    have z : gAbs [.int b] = some (.int (if b < 0 then -b else b)) := rfl
    rw [z]
    congr 2
    split <;> omega
  have es : (if 0 < b then (Int.gcd t b : Int) else 0 - (Int.gcd t b : Int)) = Fc.sg b (Int.gcd t b) := by
    unfold Fc.sg
    by_cases c : 0 < b
    · rw [if_pos c, if_neg (by omega)]
    · rw [if_neg c, if_pos (by omega)]
      omega
  have dv : ∀ x, cDiv x (Fc.sg b (Int.gcd t b)) = true := by
    intro x
    have h1 : (Fc.sg b (Int.gcd t b)).natAbs ≤ b.natAbs := by
      have : Int.gcd t b ≤ b.natAbs := Nat.le_of_dvd (by omega) (Int.gcd_dvd_natAbs_right t b)
      unfold Fc.sg
      split <;> omega
    have h2 : (Fc.sg b (Int.gcd t b)).natAbs.log2 < 9000 := log2_lt (Nat.lt_of_le_of_lt h1 h) (by decide)
    unfold cDiv
    exact decide_eq_true ⟨sg_ne (by omega), h2⟩
  unfold F_law_frac runD m_law_frac
  have s1 : dPar [2, 3] (dCons (dCB gAbs (dCons (dVar 0) dNil)) (dCons (dCB gAbs (dCons (dVar 1) dNil)) dNil)) (enOf 4 [.int t, .int b]) ⟨0, 0, 0⟩ = .nx (en4 t b t.natAbs b.natAbs) ⟨0, 0, 0⟩ := by
    simp [enOf, dPar, dCons, dNil, dCB, dVar, Res.bind, a1, a2, en4]
  have w' : dWhile (dTest (dOp gNeA (dVar 3) (dC (.int 0)))) (dPar [2, 3] (dCons (dVar 3) (dCons (dOp gMod (dCB gInt (dCons (dVar 2) dNil)) (dVar 3)) dNil))) (en4 t b t.natAbs b.natAbs) ⟨0, 0, 0⟩ = .nx (en4 t b (Int.gcd t b) 0) ⟨0, 0, 0⟩ := w
  rw [seq_nx s1, seq_nx w']
  unfold fr red
  by_cases c : 0 < b
  · rw [if_pos c] at es
    rw [← es] at dv ⊢
    simp [en4, dSeq, dSet, dIf, dTest, dOp, dVar, dC, Res.bind, gGt, g2B, c, dRet, dTup, dCons, dNil, gDiv, g2IC, dv]
  · rw [if_neg c] at es
    rw [← es] at dv ⊢
    simp at dv
    simp [en4, dSeq, dSet, dIf, dTest, dOp, dVar, dC, Res.bind, gGt, g2B, c, gSub, g2I, dRet, dTup, dCons, dNil, gDiv, g2IC, dv]
section
variable {p q : Rat} (hp : Z 4000 p) (hq : Z 4000 q)
include hp hq
theorem S_add : F_law_add [fq p, fq q] = some (fq (p + q)) := by
  have c1 := cmul (n := 0) (m := 0) hp.t hq.b
  have c2 := cmul (n := 0) (m := 0) hq.t hp.b
  have c3 := cmul (n := 0) (m := 0) hp.b hq.b
  have h := S_frac (t := p.num * q.den + q.num * p.den) (den_mul_ne p q) ((hp.b.mul hq.b).up (by decide))
  rw [q_add] at h
  simp [F_law_add, runD, m_law_add, dRet, dCall, dCons, dOp, dVar, dC, dNil, Res.bind, enOf, gI0, gI1, gMul, gMulI, g2IC, gAdd, g2I, c1, c2, c3, h]
theorem S_sub : F_law_sub [fq p, fq q] = some (fq (p - q)) := by
  have c1 := cmul (n := 0) (m := 0) hp.t hq.b
  have c2 := cmul (n := 0) (m := 0) hq.t hp.b
  have c3 := cmul (n := 0) (m := 0) hp.b hq.b
  have h := S_frac (t := p.num * q.den - q.num * p.den) (den_mul_ne p q) ((hp.b.mul hq.b).up (by decide))
  rw [q_sub] at h
  simp [F_law_sub, runD, m_law_sub, dRet, dCall, dCons, dOp, dVar, dC, dNil, Res.bind, enOf, gI0, gI1, gMul, gMulI, g2IC, gSub, g2I, c1, c2, c3, h]
theorem S_mul : F_law_mul [fq p, fq q] = some (fq (p * q)) := by
  have c1 := cmul (n := 0) (m := 0) hp.t hq.t
  have c3 := cmul (n := 0) (m := 0) hp.b hq.b
  have h := S_frac (t := p.num * q.num) (den_mul_ne p q) ((hp.b.mul hq.b).up (by decide))
  rw [q_mul] at h
  simp [F_law_mul, runD, m_law_mul, dRet, dCall, dCons, dOp, dVar, dC, dNil, Res.bind, enOf, gI0, gI1, gMul, gMulI, g2IC, gAdd, g2I, c1, c3, h]
end
/-! the store's draws -/
structure Lj (n : Nat) (l : Ld) : Prop where
  s0 : 0 ≤ l.s
  s1 : l.s < 2147483629
  k0 : 0 ≤ l.k
  k1 : l.k + n ≤ 100000
def Yj (n : Nat) (r : Ld → Res Dx.D) (P : Dx.D → Prop) : Prop := ∀ m l, Lj (m + n) l → ∃ d l', r l = .ok d l' ∧ P d ∧ Lj m l'
theorem Lj.dn {n m : Nat} {l : Ld} (h : Lj n l) (k : m ≤ n) : Lj m l := ⟨h.s0, h.s1, h.k0, by have := h.k1; omega⟩
theorem take_yj {m : Int} (h0 : 0 < m) (h1 : m < 1073741824) : Yj 1 (F_law_take [.int m]) fun d => ∃ i, d = .int i ∧ 0 ≤ i ∧ i < m := by
  intro n l h
  obtain ⟨c, s, k⟩ := l
  have z0' := h.s0
  have z1' := h.s1
  have z2' := h.k0
  have z3' := h.k1
  dsimp only at z0' z1' z2' z3'
  by_cases p : 0 < c
  · refine ⟨.int (c % m), ⟨c / m, s, k⟩, ?_, ⟨_, rfl, Int.emod_nonneg _ (by omega), Int.emod_lt_of_pos _ h0⟩, ⟨z0', z1', z2', by show k + n ≤ 100000; omega⟩⟩
    simp [F_law_take, runL, m_law_take, enOf, dSeq, dIfS, dTest, dOp, dLo, Ld.at, dC, Res.bind, gGt, g2B, p, dDivLo, h0, h1, dRet, dVar, Ld.set]
  · have b1 : Bd 32 s := bd_of 2147483629 z0' z1' (by decide)
    have b3 : Bd 32 (k + 1) := bd_of 100002 (by omega) (by omega) (by decide)
    have c1 : cMul s 39373 = true := cMul_ok (m := 32) b1 (by unfold Bd; decide) (by decide) (by decide) (by decide)
    have c2 : cMul (k + 1) 60013 = true := cMul_ok (m := 32) b3 (by unfold Bd; decide) (by decide) (by decide) (by decide)
    obtain ⟨lap, hlap⟩ : ∃ x, (s * 39373 + (k + 1) * 60013 + 11).fmod 2147483629 = x := ⟨_, rfl⟩
    have l0 : 0 ≤ lap := by rw [← hlap]; exact Int.fmod_nonneg_of_pos _ (by decide)
    have l1 : lap < 2147483629 := by rw [← hlap]; exact Int.fmod_lt_of_pos _ (by decide)
    have b4 : Bd 32 lap := bd_of 2147483629 l0 l1 (by decide)
    have ef : lap.fdiv 19 = lap / 19 := Int.fdiv_eq_ediv_of_nonneg _ (by decide)
    have f0 : 0 ≤ lap.fdiv 19 := by rw [ef]; omega
    have f1 : lap.fdiv 19 < 2147483629 := by rw [ef]; omega
    have b5 : Bd 32 (lap.fdiv 19) := bd_of 2147483629 f0 f1 (by decide)
    have c3 : cMul 3 (lap.fdiv 19) = true := cMul_ok (n := 32) (by unfold Bd; decide) b5 (by decide) (by decide) (by decide)
    have b6 : Bd 40 (3 * lap.fdiv 19 + 25013) := bd_of 10000000000 (by omega) (by omega) (by decide)
    have c4 : cMul lap (3 * lap.fdiv 19 + 25013) = true := cMul_ok b4 b6 (by decide) (by decide) (by decide)
    have d2 : ∀ x, cMod x 2147483629 = true := fun _ => rfl
    have d3 : ∀ x, cMod x m = true := fun _ => decide_eq_true (by omega)
    have d4 : ∀ x, cDiv x 157 = true := fun _ => by
      unfold cDiv
      exact decide_eq_true ⟨by decide, by decide⟩
    have d5 : ∀ x, cDiv x 19 = true := fun _ => by
      unfold cDiv
      exact decide_eq_true ⟨by decide, by decide⟩
    refine ⟨.int ((((lap * (3 * lap.fdiv 19 + 25013) + (k + 1)).fmod 2147483629).fdiv 157).fmod m), ⟨c, (lap * (3 * lap.fdiv 19 + 25013) + (k + 1)).fmod 2147483629, k + 1⟩, ?_, ⟨_, rfl, Int.fmod_nonneg_of_pos _ h0, Int.fmod_lt_of_pos _ h0⟩, ⟨Int.fmod_nonneg_of_pos _ (by decide), Int.fmod_lt_of_pos _ (by decide), by show 0 ≤ k + 1; omega, by show k + 1 + n ≤ 100000; omega⟩⟩
    simp [F_law_take, runL, m_law_take, enOf, dSeq, dIfS, dTest, dOp, dLo, Ld.at, dC, Res.bind, gGt, g2B, p, dNext, dSetLo, Ld.set, gAdd, g2I, dSet, gMod, g2IC, d2, d3, d4, d5, dCB, gInt, dCons, dNil, gMul, gMulI, c1, c2, hlap, c3, c4, dRet, gDiv, dVar]
theorem of_yj {ds : List Dx.D} (h0 : ds ≠ []) (h1 : ds.length < 1000) : Yj 1 (F_law_of [.tuple ds]) fun d => d ∈ ds := by
  intro n l h
  have hl : 0 < ds.length := List.length_pos_iff.mpr h0
  obtain ⟨_, l1, e1, ⟨i, rfl, i0, i1⟩, k1⟩ := take_yj (m := (ds.length : Int)) (by omega) (by omega) n l h
  obtain ⟨j, rfl⟩ : ∃ j : Nat, i = j := ⟨i.toNat, by omega⟩
  have hj : j < ds.length := by omega
  have a : gIx (.tuple ds) (.int j) = some ds[j] := L2.atI_nat (List.getElem?_eq_getElem hj)
  refine ⟨ds[j], l1, ?_, List.getElem_mem _, k1⟩
  simp [F_law_of, runL, m_law_of, enOf, dRet, dOp, dVar, dCallL, dCons, dNil, dCB, gLen, Res.bind, e1, a]
theorem ofl_yj {ds : List Dx.D} (h0 : ds ≠ []) (h1 : ds.length < 1000) : Yj 1 (F_law_of [.list ds]) fun d => d ∈ ds := by
  intro n l h
  have hl : 0 < ds.length := List.length_pos_iff.mpr h0
  obtain ⟨_, l1, e1, ⟨i, rfl, i0, i1⟩, k1⟩ := take_yj (m := (ds.length : Int)) (by omega) (by omega) n l h
  obtain ⟨j, rfl⟩ : ∃ j : Nat, i = j := ⟨i.toNat, by omega⟩
  have hj : j < ds.length := by omega
  have a : gIx (.list ds) (.int j) = some ds[j] := L2.atI_nat (List.getElem?_eq_getElem hj)
  refine ⟨ds[j], l1, ?_, List.getElem_mem _, k1⟩
  simp [F_law_of, runL, m_law_of, enOf, dRet, dOp, dVar, dCallL, dCons, dNil, dCB, gLen, Res.bind, e1, a]
theorem low_yj : Yj 2 (F_law_low []) fun d => ∃ i, d = .int i ∧ -80 ≤ i ∧ i ≤ 80 := by
  intro n l h
  obtain ⟨d, l1, e1, hd, k1⟩ := of_yj (ds := [.int 3, .int 3, .int 3, .int 2, .int 1, .int 5, .int 12, .int 80]) (by simp) (by simp) (n + 1) l h
  obtain ⟨m, rfl, m0, m1⟩ : ∃ m, d = .int m ∧ 1 ≤ m ∧ m ≤ 80 := by
    simp at hd
    rcases hd with rfl | rfl | rfl | rfl | rfl | rfl <;> exact ⟨_, rfl, by decide, by decide⟩
  obtain ⟨_, l2, e2, ⟨i, rfl, i0, i1⟩, k2⟩ := take_yj (m := 2 * m + 1) (by omega) (by omega) n l1 k1
  have c : cMul 2 m = true := cMul_ok (n := 8) (m := 8) (by unfold Bd; decide) (bd_of 81 (by omega) (by omega) (by decide)) (by decide) (by decide) (by decide)
  refine ⟨_, l2, ?_, ⟨i - m, rfl, by omega, by omega⟩, k2⟩
  simp [enOf, runD, runL, dSeq, dIfS, dTest, dOp, dVar, dC, Res.bind, dNext, dSet, dCall, dCallK, perm, dCallL, dCons, dNil, dTup, dLst, dRet, dUn, gNeg, dPar, dAsg, dGTup, dGCons, dName, dGNil, dSetOwn, dNew, dApp, dFrz, dFor, dIt, dZip, zipD, dCB, dDrop, forL, dLc, lcL, wipeE, dYes, gTuple, gList, gLen, gAll, blsD, dIf, dAnd, dOr, dNot, dAndV, dOrV, dNotV, Kb.f0, Kb.f1, Kb.f2, Kb.f4, Kb.fh, Kb.fm, Kb.kn, Kb.k1, F_law_low, m_law_low, e1, gAdd, g2I, gMul, c, e2, gSub]
theorem part_yj : Yj 3 (F_law_part []) fun d => ∃ q, d = fq q ∧ Z 7 q := by
  intro n l h
  obtain ⟨_, l1, e1, ⟨i, rfl, i0, i1⟩, k1⟩ := low_yj (n + 1) l h
  obtain ⟨d, l2, e2, hd, k2⟩ := of_yj (ds := [.int 1, .int 1, .int 1, .int 2, .int 2, .int 3, .int 4, .int 7]) (by simp) (by simp) n l1 k1
  obtain ⟨m, rfl, m0, m1⟩ : ∃ m, d = .int m ∧ 1 ≤ m ∧ m ≤ 7 := by
    simp at hd
    rcases hd with rfl | rfl | rfl | rfl | rfl <;> exact ⟨_, rfl, by decide, by decide⟩
  have bm : Bd 7 m := bd_of 8 (by omega) (by omega) (by decide)
  have bi : Bd 7 i := by unfold Bd; have : (2 : Nat) ^ 7 = 128 := (by decide); omega
  have f := S_frac (t := i) (b := m) (by omega) (bm.up (by decide))
  refine ⟨_, l2, ?_, ⟨_, rfl, Z.of (by omega) bi bm⟩, k2⟩
  simp [enOf, runD, runL, dSeq, dIfS, dTest, dOp, dVar, dC, Res.bind, dNext, dSet, dCall, dCallK, perm, dCallL, dCons, dNil, dTup, dLst, dRet, dUn, gNeg, dPar, dAsg, dGTup, dGCons, dName, dGNil, dSetOwn, dNew, dApp, dFrz, dFor, dIt, dZip, zipD, dCB, dDrop, forL, dLc, lcL, wipeE, dYes, gTuple, gList, gLen, gAll, blsD, dIf, dAnd, dOr, dNot, dAndV, dOrV, dNotV, Kb.f0, Kb.f1, Kb.f2, Kb.f4, Kb.fh, Kb.fm, Kb.kn, Kb.k1, F_law_part, m_law_part, e1, e2, f]
end K34
end
section
set_option Elab.async false
set_option linter.all false
set_option maxRecDepth 100000
set_option maxHeartbeats 4000000
set_option exponentiation.threshold 100
namespace K34
open PySem Dx Fc Kb
/-! headings of small halves -/
structure Hw (c s : Rat) : Prop where
  zc : Z 13 c
  zs : Z 13 s
  e : c * c + s * s = 1
  z2 : Z 27 (c * c - s * s)
  z3 : Z 27 (2 * (c * s))
theorem hwXY {X Y R : Int} (h0 : 0 < R) (hX : Bd 13 X) (hY : Bd 13 Y) (hR : Bd 13 R) (e : X * X + Y * Y = R * R) : Hw ((X : Rat) / (R : Rat)) ((Y : Rat) / (R : Rat)) := by
  have n0 : R ≠ 0 := by omega
  have n1 := cast_ne n0
  have n2 : R * R ≠ 0 := fun z => by rcases Int.mul_eq_zero.mp z with z | z <;> exact n0 z
  have e' : ((X * X + Y * Y : Int) : Rat) = ((R * R : Int) : Rat) := by rw [e]
  rw [Rat.intCast_add, Rat.intCast_mul, Rat.intCast_mul, Rat.intCast_mul] at e'
  refine ⟨Z.of n0 hX hR, Z.of n0 hY hR, by grind, ?_, ?_⟩
  · have k := Z.of (n := 27) n2 (bdSub (hX.mul hX) (hY.mul hY)) ((hR.mul hR).up (by decide))
    rw [Rat.intCast_sub, Rat.intCast_mul, Rat.intCast_mul, Rat.intCast_mul] at k
    rw [show (X : Rat) / (R : Rat) * ((X : Rat) / (R : Rat)) - (Y : Rat) / (R : Rat) * ((Y : Rat) / (R : Rat)) = ((X : Rat) * X - (Y : Rat) * Y) / ((R : Rat) * R) from by grind]
    exact k
  · have b := hX.mul hY
    have k := Z.of (n := 27) (t := 2 * (X * Y)) n2 (by unfold Bd at *; rw [Int.natAbs_mul]; show 2 * _ < _; omega) ((hR.mul hR).up (by decide))
    rw [Rat.intCast_mul, Rat.intCast_mul, Rat.intCast_mul] at k
    rw [show 2 * ((X : Rat) / (R : Rat) * ((Y : Rat) / (R : Rat))) = ((2 : Int) : Rat) * ((X : Rat) * Y) / ((R : Rat) * R) from by grind]
    exact k
structure Hu (u : Rat) : Prop where
  n : u.num.natAbs ≤ 80
  d : u.den ≤ 5
theorem hu_of {t m : Int} (t0 : -80 ≤ t) (t1 : t ≤ 80) (m0 : 1 ≤ m) (m1 : m ≤ 5) : Hu ((t : Rat) / (m : Rat)) := by
  have hb : m ≠ 0 := by omega
  have a := red_abs (t := t) hb
  rw [red_q hb] at a
  unfold qp at a
  dsimp only at a
  exact ⟨by omega, by omega⟩
theorem S_heading {u : Rat} (h : Hu u) : ∃ c s, F_law_heading_of [fq u] = some (pr c s) ∧ Hw c s := by
  have d := den_pos u
  have hn : Bd 7 u.num := by have := h.n; unfold Bd; have : (2 : Nat) ^ 7 = 128 := (by decide); omega
  have hd : Bd 7 (u.den : Int) := by have := h.d; unfold Bd; have : (2 : Nat) ^ 7 = 128 := (by decide); omega
  have p1 : (u.num * u.num).natAbs ≤ 6400 := by
    rw [Int.natAbs_mul]
    exact Nat.mul_le_mul h.n h.n
  have p2 : ((u.den : Int) * (u.den : Int)).natAbs ≤ 25 := by
    rw [Int.natAbs_mul]
    have := h.d
    exact Nat.mul_le_mul (show ((u.den : Int)).natAbs ≤ 5 by omega) (show ((u.den : Int)).natAbs ≤ 5 by omega)
  have p3 : (u.num * (u.den : Int)).natAbs ≤ 400 := by
    rw [Int.natAbs_mul]
    have := h.d
    exact Nat.mul_le_mul h.n (show ((u.den : Int)).natAbs ≤ 5 by omega)
  have sq : 0 ≤ u.num * u.num := by
    rcases Int.le_total 0 u.num with z | z
    · exact Int.mul_nonneg z z
    · exact Int.mul_nonneg_of_nonpos_of_nonpos z z
  have sd : 0 < (u.den : Int) * (u.den : Int) := Int.mul_pos d d
  have R0 : (0 : Int) < u.den * u.den + u.num * u.num := by omega
  have e13 : (2 : Nat) ^ 13 = 8192 := by decide
  have bR : Bd 13 (u.den * u.den + u.num * u.num : Int) := by unfold Bd; omega
  have k := hwXY (X := u.den * u.den - u.num * u.num) (Y := 2 * u.num * u.den) (R := u.den * u.den + u.num * u.num) R0 (by unfold Bd; omega) (by rw [Int.mul_assoc]; unfold Bd; rw [Int.natAbs_mul]; show 2 * _ < _; omega) bR (by grind)
  refine ⟨_, _, ?_, k⟩
  have f1 := S_frac (t := u.den * u.den - u.num * u.num) (b := u.den * u.den + u.num * u.num) (by omega) (bR.up (by decide))
  have f2 := S_frac (t := 2 * u.num * u.den) (b := u.den * u.den + u.num * u.num) (by omega) (bR.up (by decide))
  have c1 : cMul (u.den : Int) (u.den : Int) = true := cMul_ok hd hd (by decide) (by decide) (by decide)
  have c2 : cMul u.num u.num = true := cMul_ok hn hn (by decide) (by decide) (by decide)
  have c3 : cMul 2 u.num = true := cMul_ok (n := 7) (by unfold Bd; decide) hn (by decide) (by decide) (by decide)
  have b2 : Bd 14 (2 * u.num) := by unfold Bd at *; rw [Int.natAbs_mul]; show 2 * _ < _; omega
  have c4 : cMul (2 * u.num) (u.den : Int) = true := cMul_ok b2 hd (by decide) (by decide) (by decide)
  have nn : gIsN (PyData.tuple [.int u.num, .int (u.den : Int)]) .none = some (.bool false) := rfl
  show F_law_heading_of [.tuple [.int u.num, .int (u.den : Int)]] = _
  simp [enOf, runD, runL, dSeq, dIfS, dTest, dOp, dVar, dC, Res.bind, dNext, dSet, dCall, dCallK, perm, dCallL, dCons, dNil, dTup, dLst, dRet, dUn, gNeg, dPar, dAsg, dGTup, dGCons, dName, dGNil, dSetOwn, dNew, dApp, dFrz, dFor, dIt, dZip, zipD, dCB, dDrop, forL, dLc, lcL, wipeE, dYes, gTuple, gList, gLen, gAll, blsD, dIf, dAnd, dOr, dNot, dAndV, dOrV, dNotV, Kb.f0, Kb.f1, Kb.f2, Kb.f4, Kb.fh, Kb.fm, Kb.kn, Kb.k1, F_law_heading_of, m_law_heading_of, nn, gMul, c1, c2, c3, c4, gSub, g2I, gAdd, f1, f2]
theorem S_south : F_law_heading_of [.none] = some (pr (-1) 0) := by
  simp [enOf, runD, runL, dSeq, dIfS, dTest, dOp, dVar, dC, Res.bind, dNext, dSet, dCall, dCallK, perm, dCallL, dCons, dNil, dTup, dLst, dRet, dUn, gNeg, dPar, dAsg, dGTup, dGCons, dName, dGNil, dSetOwn, dNew, dApp, dFrz, dFor, dIt, dZip, zipD, dCB, dDrop, forL, dLc, lcL, wipeE, dYes, gTuple, gList, gLen, gAll, blsD, dIf, dAnd, dOr, dNot, dAndV, dOrV, dNotV, Kb.f0, Kb.f1, Kb.f2, Kb.f4, Kb.fh, Kb.fm, Kb.kn, Kb.k1, F_law_heading_of, m_law_heading_of, isN_n]
theorem hw_south : Hw (-1) 0 := ⟨zm.up (by decide), z0.up (by decide), by grind, ⟨by unfold Bd; decide +kernel, by unfold Bd; decide +kernel⟩, ⟨by unfold Bd; decide +kernel, by unfold Bd; decide +kernel⟩⟩
theorem half_yj : Yj 5 (F_law_half []) fun d => ∃ o : Option Rat, d = hq o ∧ ∀ u, o = some u → Hu u := by
  intro n l h
  obtain ⟨_, l1, e1, ⟨i, rfl, i0, i1⟩, k1⟩ := take_yj (m := 12) (by decide) (by decide) (n + 4) l h
  by_cases c : i < 5
  · obtain ⟨d, l2, e2, hd, k2⟩ := of_yj (ds := [fq 0, fq 1, .none, fq (-1), fq (1 / 2)]) (by simp) (by simp) (n + 3) l1 k1
    refine ⟨d, l2, ?_, ?_, k2.dn (by omega)⟩
    · have e2' : F_law_of [PyData.tuple [fq 0, fq 1, PyData.none, fq (-1), fq (1 / 2)]] l1 = Res.ok d l2 := e2
      simp only [F_law_half, m_law_half]
      have c' := decide_eq_true c
      simp [enOf, runD, runL, dSeq, dIfS, dTest, dOp, dVar, dC, Res.bind, dNext, dSet, dCall, dCallK, perm, dCallL, dCons, dNil, dTup, dLst, dRet, dUn, gNeg, dPar, dAsg, dGTup, dGCons, dName, dGNil, dSetOwn, dNew, dApp, dFrz, dFor, dIt, dZip, zipD, dCB, dDrop, forL, dLc, lcL, wipeE, dYes, gTuple, gList, gLen, gAll, blsD, dIf, dAnd, dOr, dNot, dAndV, dOrV, dNotV, Kb.f0, Kb.f1, Kb.f2, Kb.f4, Kb.fh, Kb.fm, Kb.kn, Kb.k1, e1, gLt, g2B, c', e2']
    · simp only [List.mem_cons, List.not_mem_nil, or_false] at hd
      rcases hd with rfl | rfl | rfl | rfl | rfl
      · exact ⟨some 0, rfl, fun u e => by cases e; exact ⟨by decide +kernel, by decide +kernel⟩⟩
      · exact ⟨some 1, rfl, fun u e => by cases e; exact ⟨by decide +kernel, by decide +kernel⟩⟩
      · exact ⟨none, rfl, fun u e => nomatch e⟩
      · exact ⟨some (-1), rfl, fun u e => by cases e; exact ⟨by decide +kernel, by decide +kernel⟩⟩
      · exact ⟨some (1 / 2), rfl, fun u e => by cases e; exact ⟨by decide +kernel, by decide +kernel⟩⟩
  · have c' := decide_eq_false c
    have tail : ∀ (t : Int) (L : Ld), -80 ≤ t → t ≤ 80 → Lj (n + 1) L → ∃ q L', (dCall 2 F_law_frac (dCons (dVar 2) (dCons (dCallL 0 1 F_law_of (dCons (dTup (dCons (dC (.int 1)) (dCons (dC (.int 2)) (dCons (dC (.int 3)) (dCons (dC (.int 3)) (dCons (dC (.int 4)) (dCons (dC (.int 5)) dNil))))))) dNil)) dNil))) [some .lode, dd (.int i), dd (.int t)] L = .ok (fq q) L' ∧ Hu q ∧ Lj n L' := by
      intro t L t0 t1 hL
      obtain ⟨d, l2, e2, hd, k2⟩ := of_yj (ds := [.int 1, .int 2, .int 3, .int 3, .int 4, .int 5]) (by simp) (by simp) n L hL
      obtain ⟨m, rfl, m0, m1⟩ : ∃ m, d = .int m ∧ 1 ≤ m ∧ m ≤ 5 := by
        simp at hd
        rcases hd with rfl | rfl | rfl | rfl | rfl <;> exact ⟨_, rfl, by decide, by decide⟩
      have bm : Bd 7 m := bd_of 8 (by omega) (by omega) (by decide)
      have f := S_frac (t := t) (b := m) (by omega) (bm.up (by decide))
      refine ⟨_, l2, ?_, hu_of t0 t1 m0 m1, k2⟩
      simp [enOf, runD, runL, dSeq, dIfS, dTest, dOp, dVar, dC, Res.bind, dNext, dSet, dCall, dCallK, perm, dCallL, dCons, dNil, dTup, dLst, dRet, dUn, gNeg, dPar, dAsg, dGTup, dGCons, dName, dGNil, dSetOwn, dNew, dApp, dFrz, dFor, dIt, dZip, zipD, dCB, dDrop, forL, dLc, lcL, wipeE, dYes, gTuple, gList, gLen, gAll, blsD, dIf, dAnd, dOr, dNot, dAndV, dOrV, dNotV, Kb.f0, Kb.f1, Kb.f2, Kb.f4, Kb.fh, Kb.fm, Kb.kn, Kb.k1, e2, f]
    by_cases c5 : i = 5
    · obtain ⟨_, l2, e2, ⟨t, rfl, t0, t1⟩, k2⟩ := low_yj (n + 1) l1 (k1.dn (by omega))
      obtain ⟨q, l3, e3, zq, k3⟩ := tail t l2 t0 t1 k2
      refine ⟨fq q, l3, ?_, ⟨some q, rfl, fun u e => by cases e; exact zq⟩, k3⟩
      subst c5
      unfold F_law_half runL m_law_half
      have st : ∀ (r : SRes), r = .rt (fq q) l3 → (match r with
        | .rt d l' => Res.ok d l'
        | .nx _ l' => Res.ok PyData.none l'
        | _ => Res.no) = Res.ok (fq q) l3 := fun r h => by rw [h]
      refine st _ ?_
      show dSeq _ _ [some .lode, none, none] l = _
      rw [seq_nx (show _ = SRes.nx [some .lode, dd (.int 5), none] l1 from by simp [enOf, runD, runL, dSeq, dIfS, dTest, dOp, dVar, dC, Res.bind, dNext, dSet, dCall, dCallK, perm, dCallL, dCons, dNil, dTup, dLst, dRet, dUn, gNeg, dPar, dAsg, dGTup, dGCons, dName, dGNil, dSetOwn, dNew, dApp, dFrz, dFor, dIt, dZip, zipD, dCB, dDrop, forL, dLc, lcL, wipeE, dYes, gTuple, gList, gLen, gAll, blsD, dIf, dAnd, dOr, dNot, dAndV, dOrV, dNotV, Kb.f0, Kb.f1, Kb.f2, Kb.f4, Kb.fh, Kb.fm, Kb.kn, Kb.k1, e1])]
      rw [seq_nx (show _ = SRes.nx [some .lode, dd (.int 5), none] l1 from by simp [enOf, runD, runL, dSeq, dIfS, dTest, dOp, dVar, dC, Res.bind, dNext, dSet, dCall, dCallK, perm, dCallL, dCons, dNil, dTup, dLst, dRet, dUn, gNeg, dPar, dAsg, dGTup, dGCons, dName, dGNil, dSetOwn, dNew, dApp, dFrz, dFor, dIt, dZip, zipD, dCB, dDrop, forL, dLc, lcL, wipeE, dYes, gTuple, gList, gLen, gAll, blsD, dIf, dAnd, dOr, dNot, dAndV, dOrV, dNotV, Kb.f0, Kb.f1, Kb.f2, Kb.f4, Kb.fh, Kb.fm, Kb.kn, Kb.k1, gLt, g2B])]
      rw [seq_nx (show _ = SRes.nx [some .lode, dd (.int 5), dd (.int t)] l2 from by simp [enOf, runD, runL, dSeq, dIfS, dTest, dOp, dVar, dC, Res.bind, dNext, dSet, dCall, dCallK, perm, dCallL, dCons, dNil, dTup, dLst, dRet, dUn, gNeg, dPar, dAsg, dGTup, dGCons, dName, dGNil, dSetOwn, dNew, dApp, dFrz, dFor, dIt, dZip, zipD, dCB, dDrop, forL, dLc, lcL, wipeE, dYes, gTuple, gList, gLen, gAll, blsD, dIf, dAnd, dOr, dNot, dAndV, dOrV, dNotV, Kb.f0, Kb.f1, Kb.f2, Kb.f4, Kb.fh, Kb.fm, Kb.kn, Kb.k1, gEqA_int, e2])]
      unfold dRet
      rw [e3]
    · obtain ⟨_, l2, e2, ⟨t, rfl, t0, t1⟩, k2⟩ := take_yj (m := 13) (by decide) (by decide) (n + 1) l1 (k1.dn (by omega))
      obtain ⟨q, l3, e3, zq, k3⟩ := tail (t - 6) l2 (by omega) (by omega) k2
      refine ⟨fq q, l3, ?_, ⟨some q, rfl, fun u e => by cases e; exact zq⟩, k3⟩
      unfold F_law_half runL m_law_half
      have st : ∀ (r : SRes), r = .rt (fq q) l3 → (match r with
        | .rt d l' => Res.ok d l'
        | .nx _ l' => Res.ok PyData.none l'
        | _ => Res.no) = Res.ok (fq q) l3 := fun r h => by rw [h]
      refine st _ ?_
      show dSeq _ _ [some .lode, none, none] l = _
      rw [seq_nx (show _ = SRes.nx [some .lode, dd (.int i), none] l1 from by simp [enOf, runD, runL, dSeq, dIfS, dTest, dOp, dVar, dC, Res.bind, dNext, dSet, dCall, dCallK, perm, dCallL, dCons, dNil, dTup, dLst, dRet, dUn, gNeg, dPar, dAsg, dGTup, dGCons, dName, dGNil, dSetOwn, dNew, dApp, dFrz, dFor, dIt, dZip, zipD, dCB, dDrop, forL, dLc, lcL, wipeE, dYes, gTuple, gList, gLen, gAll, blsD, dIf, dAnd, dOr, dNot, dAndV, dOrV, dNotV, Kb.f0, Kb.f1, Kb.f2, Kb.f4, Kb.fh, Kb.fm, Kb.kn, Kb.k1, e1])]
      rw [seq_nx (show _ = SRes.nx [some .lode, dd (.int i), none] l1 from by simp [enOf, runD, runL, dSeq, dIfS, dTest, dOp, dVar, dC, Res.bind, dNext, dSet, dCall, dCallK, perm, dCallL, dCons, dNil, dTup, dLst, dRet, dUn, gNeg, dPar, dAsg, dGTup, dGCons, dName, dGNil, dSetOwn, dNew, dApp, dFrz, dFor, dIt, dZip, zipD, dCB, dDrop, forL, dLc, lcL, wipeE, dYes, gTuple, gList, gLen, gAll, blsD, dIf, dAnd, dOr, dNot, dAndV, dOrV, dNotV, Kb.f0, Kb.f1, Kb.f2, Kb.f4, Kb.fh, Kb.fm, Kb.kn, Kb.k1, gLt, g2B, c'])]
      rw [seq_nx (show _ = SRes.nx [some .lode, dd (.int i), dd (.int (t - 6))] l2 from by simp [enOf, runD, runL, dSeq, dIfS, dTest, dOp, dVar, dC, Res.bind, dNext, dSet, dCall, dCallK, perm, dCallL, dCons, dNil, dTup, dLst, dRet, dUn, gNeg, dPar, dAsg, dGTup, dGCons, dName, dGNil, dSetOwn, dNew, dApp, dFrz, dFor, dIt, dZip, zipD, dCB, dDrop, forL, dLc, lcL, wipeE, dYes, gTuple, gList, gLen, gAll, blsD, dIf, dAnd, dOr, dNot, dAndV, dOrV, dNotV, Kb.f0, Kb.f1, Kb.f2, Kb.f4, Kb.fh, Kb.fm, Kb.kn, Kb.k1, gEqA_int, c5, e2, gSub, g2I])]
      unfold dRet
      rw [e3]
theorem heading_yj : Yj 5 (F_law_heading []) fun d => ∃ c s, d = pr c s ∧ Hw c s := by
  intro n l h
  obtain ⟨_, l1, e1, ⟨o, rfl, ho⟩, k1⟩ := half_yj n l h
  have hh : ∃ c s, F_law_heading_of [hq o] = some (pr c s) ∧ Hw c s := by
    cases o with
    | none => exact ⟨_, _, S_south, hw_south⟩
    | some u => exact S_heading (ho u rfl)
  obtain ⟨c, s, e2, h2⟩ := hh
  refine ⟨_, l1, ?_, ⟨c, s, rfl, h2⟩, k1⟩
  simp [enOf, runD, runL, dSeq, dIfS, dTest, dOp, dVar, dC, Res.bind, dNext, dSet, dCall, dCallK, perm, dCallL, dCons, dNil, dTup, dLst, dRet, dUn, gNeg, dPar, dAsg, dGTup, dGCons, dName, dGNil, dSetOwn, dNew, dApp, dFrz, dFor, dIt, dZip, zipD, dCB, dDrop, forL, dLc, lcL, wipeE, dYes, gTuple, gList, gLen, gAll, blsD, dIf, dAnd, dOr, dNot, dAndV, dOrV, dNotV, Kb.f0, Kb.f1, Kb.f2, Kb.f4, Kb.fh, Kb.fm, Kb.kn, Kb.k1, F_law_heading, m_law_heading, e1, e2]
/-! waves -/
structure Wv (a b c d e : Rat) : Prop where
  a : Z 220 a
  b : Z 165 b
  c : Z 165 c
  d : Z 112 d
  e : Z 112 e
theorem S_div {p q : Rat} (hp : Z 4000 p) (hq : Z 4000 q) (z : q ≠ 0) : F_law_div [fq p, fq q] = some (fq (p / q)) := by
  have c1 := cmul (n := 0) (m := 0) hp.t hq.b
  have c3 := cmul (n := 0) (m := 0) hp.b hq.t
  have n : (p.den : Int) * q.num ≠ 0 := fun e => by
    rcases Int.mul_eq_zero.mp e with e | e
    · exact Int.ne_of_gt (den_pos p) e
    · exact num_ne z e
  have h := S_frac (t := p.num * q.den) n ((hp.b.mul hq.t).up (by decide))
  rw [q_div p z] at h
  simp [F_law_div, runD, m_law_div, dRet, dCall, dCons, dOp, dVar, dC, dNil, Res.bind, enOf, gI0, gI1, gMul, gMulI, g2IC, gAdd, g2I, c1, c3, h]
theorem S_div2 {p : Rat} (hp : Z 4000 p) : F_law_div [fq p, fq 2] = some (fq (p / 2)) := S_div hp (z2.up (by decide)) (by decide)
structure Ch (a b c : Rat) : Prop where
  a : Z 53 a
  b : Z 27 b
  c : Z 27 c
theorem S_chord {x y x' y' : Rat} (H : Hw x y) (H' : Hw x' y') : ∃ a b c, F_law_chord [pr x y, pr x' y'] = some (tr a b c) ∧ Ch a b c := by
  have zx := H.zc
  have zy := H.zs
  have zx' := H'.zc
  have zy' := H'.zs
  by_cases z : x = x' ∧ y = y'
  · have z' := decide_eq_true z
    refine ⟨-1, x, y, ?_, zm.up (by decide), zx.up (by decide), zy.up (by decide)⟩
    have g := gEqP x y x' y'
    rw [z'] at g
    simp [enOf, runD, runL, dSeq, dIfS, dTest, dOp, dVar, dC, Res.bind, dNext, dSet, dCall, dCallK, perm, dCallL, dCons, dNil, dTup, dLst, dRet, dUn, gNeg, dPar, dAsg, dGTup, dGCons, dName, dGNil, dSetOwn, dNew, dApp, dFrz, dFor, dIt, dZip, zipD, dCB, dDrop, forL, dLc, lcL, wipeE, dYes, gTuple, gList, gLen, gAll, blsD, dIf, dAnd, dOr, dNot, dAndV, dOrV, dNotV, Kb.f0, Kb.f1, Kb.f2, Kb.f4, Kb.fh, Kb.fm, Kb.kn, Kb.k1, F_law_chord, m_law_chord, g, ix20, ix21]
  · have z' := decide_eq_false z
    have g := gEqP x y x' y'
    rw [z'] at g
    have m1 := S_sub (p := y') (q := y) (by walk_at "zz") (by walk_at "zz")
    have m2 := S_sub (p := x) (q := x') (by walk_at "zz") (by walk_at "zz")
    have m3 := S_mul (p := y' - y) (q := x) (by walk_at "zz") (by walk_at "zz")
    have m4 := S_mul (p := x - x') (q := y) (by walk_at "zz") (by walk_at "zz")
    have m5 := S_add (p := (y' - y) * x) (q := (x - x') * y) (by walk_at "zz") (by walk_at "zz")
    rw [show (y' - y) * x + (x - x') * y = y' * x - x' * y from by grind] at m5
    have m6 := S_sub (p := 0) (q := y' * x - x' * y) (by walk_at "zz") (by walk_at "zz")
    rw [show 0 - (y' * x - x' * y) = x' * y - y' * x from by grind] at m6
    refine ⟨x' * y - y' * x, y' - y, x - x', ?_, by walk_at "zz", by walk_at "zz", by walk_at "zz"⟩
    simp [enOf, runD, runL, dSeq, dIfS, dTest, dOp, dVar, dC, Res.bind, dNext, dSet, dCall, dCallK, perm, dCallL, dCons, dNil, dTup, dLst, dRet, dUn, gNeg, dPar, dAsg, dGTup, dGCons, dName, dGNil, dSetOwn, dNew, dApp, dFrz, dFor, dIt, dZip, zipD, dCB, dDrop, forL, dLc, lcL, wipeE, dYes, gTuple, gList, gLen, gAll, blsD, dIf, dAnd, dOr, dNot, dAndV, dOrV, dNotV, Kb.f0, Kb.f1, Kb.f2, Kb.f4, Kb.fh, Kb.fm, Kb.kn, Kb.k1, F_law_chord, m_law_chord, g, ix20, ix21, m1, m2, m3, m4, m5, m6]
theorem S_product {a b c p q r : Rat} (h : Ch a b c) (k : Ch p q r) : ∃ w0 w1 w2 w3 w4, F_law_product [tr a b c, tr p q r] = some (pv5 w0 w1 w2 w3 w4) ∧ Wv w0 w1 w2 w3 w4 := by
  obtain ⟨ha, hb, hc⟩ := h
  obtain ⟨hp, hq, hr⟩ := k
  have m1 := S_mul (p := b) (q := q) (by walk_at "zz") (by walk_at "zz")
  have m2 := S_mul (p := c) (q := r) (by walk_at "zz") (by walk_at "zz")
  have m3 := S_mul (p := a) (q := p) (by walk_at "zz") (by walk_at "zz")
  have m4 := S_add (p := b * q) (q := c * r) (by walk_at "zz") (by walk_at "zz")
  have m5 := S_div2 (p := b * q + c * r) (by walk_at "zz")
  have two : (2 : Rat) ≠ 0 := by decide
  have z5 : Z 111 ((b * q + c * r) / 2) := by walk_at "zz"
  have m6 := S_add (p := a * p) (q := (b * q + c * r) / 2) (by walk_at "zz") (by walk_at "zz")
  have m7 := S_mul (p := b) (q := r) (by walk_at "zz") (by walk_at "zz")
  have m8 := S_mul (p := c) (q := q) (by walk_at "zz") (by walk_at "zz")
  have m9 := S_add (p := b * r) (q := c * q) (by walk_at "zz") (by walk_at "zz")
  have m10 := S_div2 (p := b * r + c * q) (by walk_at "zz")
  have m11 := S_mul (p := a) (q := q) (by walk_at "zz") (by walk_at "zz")
  have m12 := S_mul (p := b) (q := p) (by walk_at "zz") (by walk_at "zz")
  have m13 := S_add (p := a * q) (q := b * p) (by walk_at "zz") (by walk_at "zz")
  have m14 := S_mul (p := a) (q := r) (by walk_at "zz") (by walk_at "zz")
  have m15 := S_mul (p := c) (q := p) (by walk_at "zz") (by walk_at "zz")
  have m16 := S_add (p := a * r) (q := c * p) (by walk_at "zz") (by walk_at "zz")
  have m17 := S_sub (p := b * q) (q := c * r) (by walk_at "zz") (by walk_at "zz")
  have m18 := S_div2 (p := b * q - c * r) (by walk_at "zz")
  refine ⟨a * p + (b * q + c * r) / 2, a * q + b * p, a * r + c * p, (b * q - c * r) / 2, (b * r + c * q) / 2, ?_, by walk_at "zz", by walk_at "zz", by walk_at "zz", by walk_at "zz", by walk_at "zz"⟩
  generalize (b * q + c * r) / 2 = g1 at *
  generalize (b * q - c * r) / 2 = g2 at *
  generalize (b * r + c * q) / 2 = g3 at *
  simp [enOf, runD, runL, dSeq, dIfS, dTest, dOp, dVar, dC, Res.bind, dNext, dSet, dCall, dCallK, perm, dCallL, dCons, dNil, dTup, dLst, dRet, dUn, gNeg, dPar, dAsg, dGTup, dGCons, dName, dGNil, dSetOwn, dNew, dApp, dFrz, dFor, dIt, dZip, zipD, dCB, dDrop, forL, dLc, lcL, wipeE, dYes, gTuple, gList, gLen, gAll, blsD, dIf, dAnd, dOr, dNot, dAndV, dOrV, dNotV, Kb.f0, Kb.f1, Kb.f2, Kb.f4, Kb.fh, Kb.fm, Kb.kn, Kb.k1, F_law_product, m_law_product, m1, m2, m3, m4, m5, m6, m7, m8, m9, m10, m11, m12, m13, m14, m15, m16, m17, m18]
def pick (b : Bool) (q : Rat) : Rat := if b then q else 0
noncomputable def kp : DE := dIf (dTest (dOp gEqA (dOp gMod (dCB gInt (dCons (dOp gDiv (dVar 8) (dOp gIx (dTup (dCons (dC (.int 1)) (dCons (dC (.int 2)) (dCons (dC (.int 4)) (dCons (dC (.int 8)) (dCons (dC (.int 16)) dNil)))))) (dVar 7))) dNil)) (dC (.int 2))) (dC (.int 1)))) (dIxO 6 (dVar 7)) (dTup (dCons (dC (.int 0)) (dCons (dC (.int 1)) dNil)))
theorem kp_ok {m k d : Int} {q : Rat} {L : List Dx.D} (w : Option Sl) (s2 s3 s4 s5 : Option Sl) (l : Ld) (hk : gIx (.tuple [.int 1, .int 2, .int 4, .int 8, .int 16]) (.int k) = some (.int d)) (h0 : 1 ≤ d) (h1 : d ≤ 16) (ha : L2.atI L k = some (fq q)) : ∃ b, kp [some .lode, w, s2, s3, s4, s5, some (.own L), dd (.int k), dd (.int m)] l = .ok (fq (pick b q)) l := by
  obtain ⟨y, g1⟩ : ∃ y, gDiv (.int m) (.int d) = some (.int y) := by
    have c : cDiv m d = true := by
      unfold cDiv
      have : d.natAbs < 2 ^ 5 := by have : (2 : Nat) ^ 5 = 32 := (by decide); omega
      exact decide_eq_true ⟨by omega, Nat.lt_trans (log2_lt this (by decide)) (by decide)⟩
    refine ⟨m.fdiv d, ?_⟩
    simp [gDiv, g2IC, c]
  obtain ⟨z, g2⟩ : ∃ z, gMod (.int y) (.int 2) = some (.int z) := ⟨_, rfl⟩
  by_cases e : z = 1
  · refine ⟨true, ?_⟩
    simp [kp, dIxO, dIf, dTest, dOp, dCB, gInt, dCons, dNil, dVar, dTup, dC, Res.bind, hk, g1, g2, gEqA_int, e, ha, pick]
  · refine ⟨false, ?_⟩
    simp [kp, dIxO, dIf, dTest, dOp, dCB, gInt, dCons, dNil, dVar, dTup, dC, Res.bind, hk, g1, g2, gEqA_int, e, pick, f0]
theorem z_pick {n : Nat} {b : Bool} {q : Rat} (h : Z n q) (hn : 1 ≤ n) : Z n (pick b q) := by
  unfold pick
  split
  · exact h
  · exact z0.up hn
theorem wave_yj : Yj 21 (F_law_wave []) fun z => ∃ a b c d e, z = pv5 a b c d e ∧ Wv a b c d e := by
  intro n l h
  obtain ⟨_, l1, e1, ⟨i, rfl, i0, i1⟩, k1⟩ := take_yj (m := 6) (by decide) (by decide) (n + 20) l h
  by_cases c0 : i = 0
  · subst c0
    obtain ⟨_, l2, e2, ⟨x1, y1, rfl, H1⟩, k2⟩ := heading_yj (n + 15) l1 k1
    obtain ⟨_, l3, e3, ⟨x2, y2, rfl, H2⟩, k3⟩ := heading_yj (n + 10) l2 k2
    obtain ⟨_, l4, e4, ⟨x3, y3, rfl, H3⟩, k4⟩ := heading_yj (n + 5) l3 k3
    obtain ⟨_, l5, e5, ⟨x4, y4, rfl, H4⟩, k5⟩ := heading_yj n l4 k4
    obtain ⟨a, b, c, f1, C1⟩ := S_chord H1 H2
    obtain ⟨p, q, r, f2, C2⟩ := S_chord H3 H4
    obtain ⟨w0, w1, w2, w3, w4, f3, W⟩ := S_product C1 C2
    refine ⟨_, l5, ?_, ⟨w0, w1, w2, w3, w4, rfl, W⟩, k5⟩
    simp [enOf, runD, runL, dSeq, dIfS, dTest, dOp, dVar, dC, Res.bind, dNext, dSet, dCall, dCallK, perm, dCallL, dCons, dNil, dTup, dLst, dRet, dUn, gNeg, dPar, dAsg, dGTup, dGCons, dName, dGNil, dSetOwn, dNew, dApp, dFrz, dFor, dIt, dZip, zipD, dCB, dDrop, forL, dLc, lcL, wipeE, dYes, gTuple, gList, gLen, gAll, blsD, dIf, dAnd, dOr, dNot, dAndV, dOrV, dNotV, Kb.f0, Kb.f1, Kb.f2, Kb.f4, Kb.fh, Kb.fm, Kb.kn, Kb.k1, F_law_wave, m_law_wave, e1, gEqA_int, e2, e3, e4, e5, f1, f2, f3]
  · obtain ⟨_, l2, e2, ⟨q1, rfl, y1⟩, k2⟩ := part_yj (n + 17) l1 k1
    obtain ⟨_, l3, e3, ⟨q2, rfl, y2⟩, k3⟩ := part_yj (n + 14) l2 k2
    obtain ⟨_, l4, e4, ⟨q3, rfl, y3⟩, k4⟩ := part_yj (n + 11) l3 k3
    obtain ⟨_, l5, e5, ⟨q4, rfl, y4⟩, k5⟩ := part_yj (n + 8) l4 k4
    obtain ⟨_, l6, e6, ⟨q5, rfl, y5⟩, k6⟩ := part_yj (n + 5) l5 k5
    obtain ⟨d, l7, e7, hd, k7⟩ := of_yj (ds := [.int 31, .int 31, .int 31, .int 31, .int 7, .int 25, .int 30, .int 24, .int 6]) (by simp) (by simp) (n + 4) l6 k6
    obtain ⟨m, rfl⟩ : ∃ m, d = .int m := by
      simp at hd
      rcases hd with rfl | rfl | rfl | rfl | rfl | rfl <;> exact ⟨_, rfl⟩
    obtain ⟨b0, j0⟩ := kp_ok (m := m) (k := 0) (d := 1) (q := q1) (L := [fq q1, fq q2, fq q3, fq q4, fq q5]) (dd (.int i)) none none none none l7 rfl (by decide) (by decide) rfl
    obtain ⟨b1, j1⟩ := kp_ok (m := m) (k := 1) (d := 2) (q := q2) (L := [fq q1, fq q2, fq q3, fq q4, fq q5]) (dd (.int i)) none none none none l7 rfl (by decide) (by decide) rfl
    obtain ⟨b2, j2⟩ := kp_ok (m := m) (k := 2) (d := 4) (q := q3) (L := [fq q1, fq q2, fq q3, fq q4, fq q5]) (dd (.int i)) none none none none l7 rfl (by decide) (by decide) rfl
    obtain ⟨b3, j3⟩ := kp_ok (m := m) (k := 3) (d := 8) (q := q4) (L := [fq q1, fq q2, fq q3, fq q4, fq q5]) (dd (.int i)) none none none none l7 rfl (by decide) (by decide) rfl
    obtain ⟨b4, j4⟩ := kp_ok (m := m) (k := 4) (d := 16) (q := q5) (L := [fq q1, fq q2, fq q3, fq q4, fq q5]) (dd (.int i)) none none none none l7 rfl (by decide) (by decide) rfl
    refine ⟨_, l7, ?_, ⟨pick b0 q1, pick b1 q2, pick b2 q3, pick b3 q4, pick b4 q5, rfl, (z_pick y1 (by decide)).up (by decide), (z_pick y2 (by decide)).up (by decide), (z_pick y3 (by decide)).up (by decide), (z_pick y4 (by decide)).up (by decide), (z_pick y5 (by decide)).up (by decide)⟩, k7.dn (by omega)⟩
    have r5 : ∀ en l, dRng1 (dCons (dC (.int 5)) dNil) en l = .ok [.int 0, .int 1, .int 2, .int 3, .int 4] l := fun _ _ => rfl
    unfold F_law_wave runL m_law_wave
    have st' : ∀ (r : SRes), r = .rt (pv5 (pick b0 q1) (pick b1 q2) (pick b2 q3) (pick b3 q4) (pick b4 q5)) l7 → (match r with
      | .rt d l' => Res.ok d l'
      | .nx _ l' => Res.ok PyData.none l'
      | _ => Res.no) = Res.ok (pv5 (pick b0 q1) (pick b1 q2) (pick b2 q3) (pick b3 q4) (pick b4 q5)) l7 := fun r h => by rw [h]
    refine st' _ ?_
    show dSeq _ _ [some .lode, none, none, none, none, none, none, none, none] l = _
    rw [seq_nx (show _ = SRes.nx [some .lode, dd (.int i), none, none, none, none, none, none, none] l1 from by simp [enOf, runD, runL, dSeq, dIfS, dTest, dOp, dVar, dC, Res.bind, dNext, dSet, dCall, dCallK, perm, dCallL, dCons, dNil, dTup, dLst, dRet, dUn, gNeg, dPar, dAsg, dGTup, dGCons, dName, dGNil, dSetOwn, dNew, dApp, dFrz, dFor, dIt, dZip, zipD, dCB, dDrop, forL, dLc, lcL, wipeE, dYes, gTuple, gList, gLen, gAll, blsD, dIf, dAnd, dOr, dNot, dAndV, dOrV, dNotV, Kb.f0, Kb.f1, Kb.f2, Kb.f4, Kb.fh, Kb.fm, Kb.kn, Kb.k1, e1])]
    rw [seq_nx (show _ = SRes.nx [some .lode, dd (.int i), none, none, none, none, none, none, none] l1 from by simp [enOf, runD, runL, dSeq, dIfS, dTest, dOp, dVar, dC, Res.bind, dNext, dSet, dCall, dCallK, perm, dCallL, dCons, dNil, dTup, dLst, dRet, dUn, gNeg, dPar, dAsg, dGTup, dGCons, dName, dGNil, dSetOwn, dNew, dApp, dFrz, dFor, dIt, dZip, zipD, dCB, dDrop, forL, dLc, lcL, wipeE, dYes, gTuple, gList, gLen, gAll, blsD, dIf, dAnd, dOr, dNot, dAndV, dOrV, dNotV, Kb.f0, Kb.f1, Kb.f2, Kb.f4, Kb.fh, Kb.fm, Kb.kn, Kb.k1, gEqA_int, c0])]
    rw [seq_nx (show _ = SRes.nx [some .lode, dd (.int i), none, none, none, none, some (.own []), none, none] l1 from by simp [enOf, runD, runL, dSeq, dIfS, dTest, dOp, dVar, dC, Res.bind, dNext, dSet, dCall, dCallK, perm, dCallL, dCons, dNil, dTup, dLst, dRet, dUn, gNeg, dPar, dAsg, dGTup, dGCons, dName, dGNil, dSetOwn, dNew, dApp, dFrz, dFor, dIt, dZip, zipD, dCB, dDrop, forL, dLc, lcL, wipeE, dYes, gTuple, gList, gLen, gAll, blsD, dIf, dAnd, dOr, dNot, dAndV, dOrV, dNotV, Kb.f0, Kb.f1, Kb.f2, Kb.f4, Kb.fh, Kb.fm, Kb.kn, Kb.k1,  ])]
    rw [seq_nx (show _ = SRes.nx [some .lode, dd (.int i), none, none, none, none, some (.own [fq q1, fq q2, fq q3, fq q4, fq q5]), dd (.int 4), none] l6 from by simp [dFor, r5, forL, dName, dApp, dCallL, dNil, Res.bind, e2, e3, e4, e5, e6])]
    rw [seq_nx (show _ = SRes.nx [some .lode, dd (.int i), none, none, none, none, some (.own [fq q1, fq q2, fq q3, fq q4, fq q5]), dd (.int 4), dd (.int m)] l7 from by simp [dSet, dTup, dCallL, dCons, dNil, dC, Res.bind, e7])]
    have un : (dIf (dTest (dOp gEqA (dOp gMod (dCB gInt (dCons (dOp gDiv (dVar 8) (dOp gIx (dTup (dCons (dC (.int 1)) (dCons (dC (.int 2)) (dCons (dC (.int 4)) (dCons (dC (.int 8)) (dCons (dC (.int 16)) dNil)))))) (dVar 7))) dNil)) (dC (.int 2))) (dC (.int 1)))) (dIxO 6 (dVar 7)) (dTup (dCons (dC (.int 0)) (dCons (dC (.int 1)) dNil)))) = kp := rfl
    rw [un]
    simp [dFrz, dRet, dCB, dCons, dNil, dLc, r5, lcL, wipeE, dName, dYes, Res.bind, gTuple, j0, j1, j2, j3, j4]
end K34
end
section
set_option Elab.async false
set_option linter.all false
set_option maxRecDepth 100000
set_option maxHeartbeats 4000000
set_option exponentiation.threshold 500
namespace K34
open PySem Dx Fc Kb
/-! what the law and the program tell of any value -/
def b0 : Dx.D → Bool
  | .int i => decide (i.natAbs < 2 ^ 400)
  | _ => true
def b1 : Dx.D → Bool
  | .int i => decide (i.natAbs < 2 ^ 400)
  | .tuple ys => ys.all b0
  | _ => true
def b2 : Dx.D → Bool
  | .tuple xs => xs.all b1
  | _ => true
def isI : Dx.D → Bool
  | .int _ => true
  | _ => false
theorem ka : L2.kitB "list" "int" = some false := by decide
theorem kb : L2.kitB "dict" "int" = some false := by decide
theorem kc : L2.kitB "list" "tuple" = some false := by decide
theorem kd : L2.kitB "dict" "tuple" = some false := by decide
theorem ke : L2.kitB "int" "tuple" = some false := by decide
theorem kf : L2.kitB "str" "tuple" = some false := by decide
theorem kg : L2.kitB "bool" "tuple" = some false := by decide
theorem kh' : L2.kitB "NoneType" "tuple" = some false := by decide
theorem ki : L2.kitB "str" "int" = some false := by decide
theorem kj : L2.kitB "tuple" "int" = some false := by decide
theorem kk : L2.kitB "NoneType" "int" = some false := by decide
theorem kl : L2.kitB "bool" "int" = some true := by decide
theorem km : L2.kitB "bool" "bool" = some true := by decide
theorem kn' : L2.kitB "int" "int" = some true := by decide
theorem ko : L2.kitB "int" "bool" = some false := by decide
theorem P_wh (d : Dx.D) : F_is_whole [d] = some (.bool (isI d)) := by
  cases d <;> simp [F_is_whole, runD, m_is_whole, enOf, dRet, dAndV, dNotV, dTest, dIsi, dVar, Res.bind, tyN, isI, ka, kb, ki, kj, kk, kl, km, kn', ko]
theorem L_wh (d : Dx.D) : F_law_is_whole [d] = some (.bool (isI d)) := by
  cases d <;> simp [F_law_is_whole, runD, m_law_is_whole, enOf, dRet, dAndV, dNotV, dTest, dIsi, dVar, Res.bind, tyN, isI, ka, kb, ki, kj, kk, kl, km, kn', ko]
def G (d : Dx.D) (b : Bool) : Prop := F_is_fraction [d] = some (.bool b) ∧ F_law_is_frac [d] = some (.bool b)
theorem in2 (a b : Bool) : gIn (.bool false) (.list [.bool a, .bool b]) = some (.bool (!(a && b))) := by
  cases a <;> cases b <;> rfl
theorem eq2 (a b c d : Int) : gEqA (.tuple [.int a, .int b]) (.tuple [.int c, .int d]) = some (.bool (decide (a = c) && decide (b = d))) := by
  have h : gEqA (.tuple [.int a, .int b]) (.tuple [.int c, .int d]) = some (.bool (PyData.eqv (.tuple [.int a, .int b]) (.tuple [.int c, .int d]))) := rfl
  rw [h]
  simp [PyData.eqv, PyData.eqvAll]
  rfl
theorem G_ints {i j : Int} (h : Bd 400 j) : ∃ b, G (.tuple [.int i, .int j]) b := by
  have i0 : gIx (.tuple [.int i, .int j]) (.int 0) = some (.int i) := rfl
  have i1 : gIx (.tuple [.int i, .int j]) (.int 1) = some (.int j) := rfl
  have w1 := P_wh (.int i)
  have w2 := P_wh (.int j)
  have w3 := L_wh (.int i)
  have w4 := L_wh (.int j)
  have ii : gIn (.bool false) (.list [.bool true, .bool true]) = some (.bool false) := rfl
  by_cases c : 0 < j
  · have f := S_frac (t := i) (b := j) (by omega) (h.up (by decide))
    rw [← fr_red (by omega)] at f
    have e : gEqA (fr (red i j)) (.tuple [.int i, .int j]) = some (.bool (decide (Int.gcd i j = 1))) := by
      unfold fr
      rw [eq2]
      congr 2
      have gp : 0 < Int.gcd i j := Int.gcd_pos_of_ne_zero_right _ (by omega)
      have es : Fc.sg j (Int.gcd i j) = (Int.gcd i j : Int) := by unfold Fc.sg; rw [if_neg (by omega)]
      unfold red
      rw [es]
      dsimp only
      by_cases g : Int.gcd i j = 1
      · rw [g]
        simp
      · rw [decide_eq_false g]
        have dv : (Int.gcd i j : Int) ∣ j := Int.gcd_dvd_right ..
        obtain ⟨q, hq⟩ := dv
        have : j.fdiv (Int.gcd i j : Int) ≠ j := by
          rw [Int.fdiv_eq_ediv_of_nonneg _ (by omega)]
          intro z
          have z1 : j / (Int.gcd i j : Int) < j := Int.ediv_lt_self_of_pos_of_ne_one c (by omega)
          omega
        rw [decide_eq_false this, Bool.and_false]
    have gg : gGcd [.int i, .int j] = some (.int (Int.gcd i j : Int)) := rfl
    refine ⟨decide (Int.gcd i j = 1), ?_, ?_⟩
    · have z : (((Int.gcd i j : Nat) : Int) = 1) = (Int.gcd i j = 1) := by
        apply propext
        omega
      simp [F_is_fraction, runD, m_is_fraction, enOf, dSeq, dIfS, dOr, dNot, dTest, dIsi, dVar, Res.bind, tyN, kb0, dOp, dCB, gLen, dCons, dNil, dC, gNeA_int, dNext, dAsg, dGTup, dGCons, dName, dGNil, dRet, dAndV, dCall, w1, w2, isI, gGt, g2B, c, gg, gEqA_int, z]
    · simp [F_law_is_frac, runD, m_law_is_frac, enOf, dSeq, dIfS, dOr, dNot, dTest, dIsi, dVar, Res.bind, tyN, kb0, dOp, dCB, gLen, dCons, dNil, dC, gNeA_int, dNext, dLc, dIt, lcL, wipeE, dName, dYes, dRet, dAndV, dCall, w3, w4, isI, ii, i0, i1, gGt, g2B, c, f, e]
  · refine ⟨false, ?_, ?_⟩
    · simp [F_is_fraction, runD, m_is_fraction, enOf, dSeq, dIfS, dOr, dNot, dTest, dIsi, dVar, Res.bind, tyN, kb0, dOp, dCB, gLen, dCons, dNil, dC, gNeA_int, dNext, dAsg, dGTup, dGCons, dName, dGNil, dRet, dAndV, dCall, w1, w2, isI, gGt, g2B, c]
    · simp [F_law_is_frac, runD, m_law_is_frac, enOf, dSeq, dIfS, dOr, dNot, dTest, dIsi, dVar, Res.bind, tyN, kb0, dOp, dCB, gLen, dCons, dNil, dC, gNeA_int, dNext, dLc, dIt, lcL, wipeE, dName, dYes, dRet, dAndV, dCall, w3, w4, isI, ii, i0, i1, gGt, g2B, c]
theorem G_two {x y : Dx.D} (h : (isI x && isI y) = false) : G (.tuple [x, y]) false := by
  have ii := in2 (isI x) (isI y)
  rw [h] at ii
  have w1 := P_wh x
  have w2 := P_wh y
  have w3 := L_wh x
  have w4 := L_wh y
  constructor
  · cases hx : isI x
    · rw [hx] at w1
      simp [F_is_fraction, runD, m_is_fraction, enOf, dSeq, dIfS, dOr, dNot, dTest, dIsi, dVar, Res.bind, tyN, kb0, dOp, dCB, gLen, dCons, dNil, dC, gNeA_int, dNext, dAsg, dGTup, dGCons, dName, dGNil, dRet, dAndV, dCall, w1]
    · rw [hx] at w1 h
      have hy : isI y = false := by simpa using h
      rw [hy] at w2
      simp [F_is_fraction, runD, m_is_fraction, enOf, dSeq, dIfS, dOr, dNot, dTest, dIsi, dVar, Res.bind, tyN, kb0, dOp, dCB, gLen, dCons, dNil, dC, gNeA_int, dNext, dAsg, dGTup, dGCons, dName, dGNil, dRet, dAndV, dCall, w1, w2]
  · simp [F_law_is_frac, runD, m_law_is_frac, enOf, dSeq, dIfS, dOr, dNot, dTest, dIsi, dVar, Res.bind, tyN, kb0, dOp, dCB, gLen, dCons, dNil, dC, gNeA_int, dNext, dLc, dIt, lcL, wipeE, dName, dYes, dRet, dAndV, dCall, w3, w4, ii]
theorem G_len {ys : List Dx.D} (h : ys.length ≠ 2) : G (.tuple ys) false := by
  have h' : ¬ ((ys.length : Int) = 2) := by omega
  constructor
  · simp [F_is_fraction, runD, m_is_fraction, enOf, dSeq, dIfS, dOr, dNot, dTest, dIsi, dVar, Res.bind, tyN, kb0, dOp, dCB, gLen, dCons, dNil, dC, gNeA_int, h', dRet]
  · simp [F_law_is_frac, runD, m_law_is_frac, enOf, dSeq, dIfS, dOr, dNot, dTest, dIsi, dVar, Res.bind, tyN, kb0, dOp, dCB, gLen, dCons, dNil, dC, gNeA_int, h', dRet]
theorem W (d : Dx.D) (h : b1 d = true) : ∃ b, G d b := by
  cases d with
  | tuple ys =>
    by_cases l : ys.length = 2
    · match ys, l with
      | [x, y], _ =>
        cases e : (isI x && isI y)
        · exact ⟨_, G_two e⟩
        · cases x <;> simp [isI] at e
          cases y <;> simp [isI] at e
          rename_i i j _
          simp [b1, b0] at h
          exact G_ints (i := i) (j := j) (by unfold Bd; exact h.2)
    · exact ⟨_, G_len l⟩
  | _ => exact ⟨false, by simp [F_is_fraction, runD, m_is_fraction, enOf, dSeq, dIfS, dOr, dNot, dTest, dIsi, dVar, Res.bind, tyN, kc, kd, ke, kf, kg, kh', dRet, dC], by simp [F_law_is_frac, runD, m_law_is_frac, enOf, dSeq, dIfS, dOr, dNot, dTest, dIsi, dVar, Res.bind, tyN, kc, kd, ke, kf, kg, kh', dRet, dC]⟩
end K34
end
section
set_option Elab.async false
set_option linter.all false
set_option maxRecDepth 100000
set_option maxHeartbeats 4000000
set_option exponentiation.threshold 500
namespace K34
open PySem Dx Fc Kb
/-! rows of five -/
theorem S5 {x1 x2 x3 x4 x5 : Dx.D} {c1 c2 c3 c4 c5 : Bool} (h1 : G x1 c1) (h2 : G x2 c2) (h3 : G x3 c3) (h4 : G x4 c4) (h5 : G x5 c5) : ∃ b, F_is_wave [.tuple [x1, x2, x3, x4, x5]] = some (.bool b) ∧ F_law_are_fracs [.tuple [x1, x2, x3, x4, x5], .int 5] = some (.bool b) := by
  refine ⟨c1 && (c2 && (c3 && (c4 && c5))), ?_, ?_⟩
  · have e : F_is_row [.tuple [x1, x2, x3, x4, x5], .int 5] = some (.bool (c1 && (c2 && (c3 && (c4 && c5))))) := by
      simp [F_is_row, runD, m_is_row, enOf, dRet, dAndV, dTest, dIsi, dVar, Res.bind, tyN, kb0, dOp, dCB, gLen, dCons, dNil, dC, gEqA_int, gAll, blsD, dLc, dIt, lcL, wipeE, dName, dYes, dCall, h1.1, h2.1, h3.1, h4.1, h5.1]
    simp [enOf, runD, runL, dSeq, dIfS, dTest, dOp, dVar, dC, Res.bind, dNext, dSet, dCall, dCallK, perm, dCallL, dCons, dNil, dTup, dLst, dRet, dUn, gNeg, dPar, dAsg, dGTup, dGCons, dName, dGNil, dSetOwn, dNew, dApp, dFrz, dFor, dIt, dZip, zipD, dCB, dDrop, forL, dLc, lcL, wipeE, dYes, gTuple, gList, gLen, gAll, blsD, dIf, dAnd, dOr, dNot, dAndV, dOrV, dNotV, Kb.f0, Kb.f1, Kb.f2, Kb.f4, Kb.fh, Kb.fm, Kb.kn, Kb.k1, F_is_wave, m_is_wave, e]
  · have q : gNotIn (.bool false) (.list [.bool c1, .bool c2, .bool c3, .bool c4, .bool c5]) = some (.bool (c1 && (c2 && (c3 && (c4 && c5))))) := by
      cases c1 <;> cases c2 <;> cases c3 <;> cases c4 <;> cases c5 <;> rfl
    simp [F_law_are_fracs, runD, m_law_are_fracs, enOf, dRet, dAndV, dNot, dTest, dIsi, dVar, Res.bind, tyN, kb0, dOp, dCB, gLen, dCons, dNil, dC, gEqA_int, dLc, dIt, lcL, wipeE, dName, dYes, dCall, h1.2, h2.2, h3.2, h4.2, h5.2, q]
theorem W5 (d : Dx.D) (h : b2 d = true) : ∃ b, F_is_wave [d] = some (.bool b) ∧ F_law_are_fracs [d, .int 5] = some (.bool b) := by
  cases d with
  | tuple ys =>
    by_cases l : ys.length = 5
    · match ys, l with
      | [x1, x2, x3, x4, x5], _ =>
        simp [b2] at h
        obtain ⟨h1, h2, h3, h4, h5⟩ := h
        obtain ⟨_, g1⟩ := W _ h1
        obtain ⟨_, g2⟩ := W _ h2
        obtain ⟨_, g3⟩ := W _ h3
        obtain ⟨_, g4⟩ := W _ h4
        obtain ⟨_, g5⟩ := W _ h5
        exact S5 g1 g2 g3 g4 g5
    · have h' : ¬ ((ys.length : Int) = 5) := by omega
      have e : F_is_row [.tuple ys, .int 5] = some (.bool false) := by
        simp [F_is_row, runD, m_is_row, enOf, dRet, dAndV, dTest, dIsi, dVar, Res.bind, tyN, kb0, dOp, dCB, gLen, dCons, dNil, dC, gEqA_int, h']
      refine ⟨false, by simp [enOf, runD, runL, dSeq, dIfS, dTest, dOp, dVar, dC, Res.bind, dNext, dSet, dCall, dCallK, perm, dCallL, dCons, dNil, dTup, dLst, dRet, dUn, gNeg, dPar, dAsg, dGTup, dGCons, dName, dGNil, dSetOwn, dNew, dApp, dFrz, dFor, dIt, dZip, zipD, dCB, dDrop, forL, dLc, lcL, wipeE, dYes, gTuple, gList, gLen, gAll, blsD, dIf, dAnd, dOr, dNot, dAndV, dOrV, dNotV, Kb.f0, Kb.f1, Kb.f2, Kb.f4, Kb.fh, Kb.fm, Kb.kn, Kb.k1, F_is_wave, m_is_wave, e], ?_⟩
      simp [F_law_are_fracs, runD, m_law_are_fracs, enOf, dRet, dAndV, dTest, dIsi, dVar, Res.bind, tyN, kb0, dOp, dCB, gLen, dCons, dNil, dC, gEqA_int, h']
  | _ => exact ⟨false, by simp [F_is_wave, m_is_wave, F_is_row, runD, m_is_row, enOf, dRet, dAndV, dCall, dCons, dNil, dC, dTest, dIsi, dVar, Res.bind, tyN, kc, kd, ke, kf, kg, kh'], by simp [F_law_are_fracs, runD, m_law_are_fracs, enOf, dRet, dAndV, dTest, dIsi, dVar, Res.bind, tyN, kc, kd, ke, kf, kg, kh']⟩
/-! strange values -/
def N1 : Dx.D := .tuple [.int 0, .int 1]
def T2 (i j : Int) : Dx.D := .tuple [.int i, .int j]
def s1 : List Dx.D := [.none, .bool true, .bool false, .int 0, .int 1, .int (-1), .int 2, .int (10 ^ 24), .str "", .str "all", .str "1/2", .tuple [], .tuple [.int 1], T2 1 2, T2 2 4, T2 0 1, T2 0 3]
def s2 : List Dx.D := s1 ++ [T2 1 0, T2 3 (-5), .tuple [.bool true, .int 1], .tuple [.int 1, .bool true], .list [.int 1, .int 2], .list [], .dict [], .dict [(.str "a", .int 1)], .tuple [.int 1, .int 2, .int 3], .tuple [T2 1 1, T2 0 1]]
def s3 : List Dx.D := s2 ++ [.tuple [T2 3 5, T2 4 5]]
def s4 : List Dx.D := s3 ++ [.tuple [T2 3 5, T2 3 5], .list [T2 1 1, T2 0 1], .tuple [N1, N1, N1, N1, N1], .tuple [T2 1 2, N1, N1, T2 1 3, N1]]
def s5 : List Dx.D := s4 ++ [.tuple [.none, .none], .tuple [N1, N1, N1, N1], .tuple [T2 1 1, T2 1 1, T2 1 1, T2 1 1, T2 1 1, T2 1 1], .list [N1, N1, N1, N1, N1], .tuple [N1, N1, T2 0 2, N1, N1]]
def s6 : List Dx.D := s5 ++ [.tuple [.tuple [N1, N1, N1, N1], .tuple [N1, N1, N1, N1], .tuple [N1, N1, N1, N1]]]
theorem s6_ok : (s6.all fun d => b0 d && (b1 d && b2 d)) = true := by decide +kernel
theorem strange_yj : Yj 1 (F_law_strange []) fun d => b0 d = true ∧ b1 d = true ∧ b2 d = true := by
  intro n l h
  obtain ⟨d, l1, e1, hd, k1⟩ := ofl_yj (ds := s6) (by decide +kernel) (by decide +kernel) n l h
  have hz := List.all_eq_true.mp s6_ok d hd
  simp only [Bool.and_eq_true] at hz
  refine ⟨d, l1, ?_, hz, k1⟩
  have st : ∀ (r : SRes), r = .rt d l1 → (match r with
    | .rt d l' => Res.ok d l'
    | .nx _ l' => Res.ok PyData.none l'
    | _ => Res.no) = Res.ok d l1 := fun r h => by rw [h]
  unfold F_law_strange runL
  refine st _ ?_
  clear st
  show m_law_strange [some .lode, none] l = _
  unfold m_law_strange
  rw [seq_nx (show _ = SRes.nx [some .lode, dd (.list s1)] l from by rfl)]
  rw [seq_nx (show _ = SRes.nx [some .lode, dd (.list s2)] l from by rfl)]
  rw [seq_nx (show _ = SRes.nx [some .lode, dd (.list s3)] l from by rfl)]
  rw [seq_nx (show _ = SRes.nx [some .lode, dd (.list s4)] l from by rfl)]
  rw [seq_nx (show _ = SRes.nx [some .lode, dd (.list s5)] l from by rfl)]
  rw [seq_nx (show _ = SRes.nx [some .lode, dd (.list s6)] l from by rfl)]
  generalize s6 = S at *
  simp [enOf, runD, runL, dSeq, dIfS, dTest, dOp, dVar, dC, Res.bind, dNext, dSet, dCall, dCallK, perm, dCallL, dCons, dNil, dTup, dLst, dRet, dUn, gNeg, dPar, dAsg, dGTup, dGCons, dName, dGNil, dSetOwn, dNew, dApp, dFrz, dFor, dIt, dZip, zipD, dCB, dDrop, forL, dLc, lcL, wipeE, dYes, gTuple, gList, gLen, gAll, blsD, dIf, dAnd, dOr, dNot, dAndV, dOrV, dNotV, Kb.f0, Kb.f1, Kb.f2, Kb.f4, Kb.fh, Kb.fm, Kb.kn, Kb.k1, e1]
/-! bent values -/
theorem cutD_mem {xs : List Dx.D} {lo hi : Option Int} {y : Dx.D} (h : y ∈ cutD xs lo hi) : y ∈ xs := List.mem_of_mem_drop (List.mem_of_mem_take h)
theorem wh_t (xs : List Dx.D) : F_law_is_whole [.tuple xs] = some (.bool false) := L_wh _
theorem adT {a b : List Dx.D} (h : a.length + b.length ≤ 10000) : gAdd (.tuple a) (.tuple b) = some (.tuple (a ++ b)) := if_pos h
theorem cutD_len (xs : List Dx.D) (lo hi : Option Int) : (cutD xs lo hi).length ≤ xs.length := by
  unfold cutD
  rw [List.length_take, List.length_drop]
  omega
theorem slT (a : List Dx.D) (lo hi : Option Int) : gSl (.tuple a) lo hi = some (.tuple (cutD a lo hi)) := rfl
theorem bent_int (n : Nat) {i : Int} (hi : i.natAbs < 2 ^ 390) : Yj 1 (Fn_law_bent (n + 1) [.int i]) fun d => b0 d = true := by
  intro k l h
  have p : (2 : Nat) ^ 400 = 1024 * 2 ^ 390 := by decide
  obtain ⟨S, g⟩ : ∃ S, gStrI [.int i] = some (.str S) := ⟨_, if_pos (Nat.lt_trans (log2_lt (n := 390) hi (by decide)) (by decide))⟩
  obtain ⟨d, l1, e1, hd, k1⟩ := of_yj (ds := [.int (i + 1), .int (-i), .int (2 * i), .bool (decide (i = 1)), .str S, .tuple [.int i, .int 1], .none]) (by simp) (by simp) k l h
  refine ⟨d, l1, ?_, ?_, k1⟩
  · have w := L_wh (.int i)
    have c : cMul 2 i = true := cMul_ok (n := 2) (m := 390) (by unfold Bd; decide) hi (by decide) (by decide) (by decide)
    have st : ∀ (r : SRes), r = .rt d l1 → (match r with
      | .rt d l' => Res.ok d l'
      | .nx _ l' => Res.ok PyData.none l'
      | _ => Res.no) = Res.ok d l1 := fun r h => by rw [h]
    unfold Fn_law_bent runL
    refine st _ ?_
    clear st
    show m_law_bent _ [some .lode, dd (.int i), none, none] l = _
    unfold m_law_bent
    have isI1 : isI (.int i) = true := rfl
    rw [isI1] at w
    simp [enOf, runD, runL, dSeq, dIfS, dTest, dOp, dVar, dC, Res.bind, dNext, dSet, dCall, dCallK, perm, dCallL, dCons, dNil, dTup, dLst, dRet, dUn, gNeg, dPar, dAsg, dGTup, dGCons, dName, dGNil, dSetOwn, dNew, dApp, dFrz, dFor, dIt, dZip, zipD, dCB, dDrop, forL, dLc, lcL, wipeE, dYes, gTuple, gList, gLen, gAll, blsD, dIf, dAnd, dOr, dNot, dAndV, dOrV, dNotV, Kb.f0, Kb.f1, Kb.f2, Kb.f4, Kb.fh, Kb.fm, Kb.kn, Kb.k1, w, gAdd, g2I, gSub, gMul, c, gEqA_int, g, e1]
  · simp only [List.mem_cons, List.not_mem_nil, or_false] at hd
    rcases hd with rfl | rfl | rfl | rfl | rfl | rfl | rfl
    · exact decide_eq_true (by omega)
    · exact decide_eq_true (by omega)
    · exact decide_eq_true (by omega)
    all_goals rfl
theorem bent_tup (n m : Nat) {xs : List Dx.D} {R : Dx.D → Prop} (h0 : xs ≠ []) (hl : xs.length < 1000) (he : gEqA (.tuple xs) (.tuple []) = some (.bool false)) (hx : ∀ x ∈ xs, R x) (hr : ∀ x ∈ xs, Yj (m + 1) (Fn_law_bent n [x]) R) (hs : ∀ d, b0 d = true ∧ b1 d = true ∧ b2 d = true → R d) :
    Yj (m + 3) (Fn_law_bent (n + 1) [.tuple xs]) fun d => ∃ ys, d = .list ys ∨ d = .tuple ys ∧ ∀ y ∈ ys, R y := by
  intro k l h
  have hn : 0 < xs.length := List.length_pos_iff.mpr h0
  obtain ⟨_, l1, e1, ⟨i, rfl, i0, i1⟩, k1⟩ := take_yj (m := (xs.length : Int)) (by omega) (by omega) (k + m + 2) l (h.dn (by omega))
  obtain ⟨j, rfl⟩ : ∃ j : Nat, i = j := ⟨i.toNat, by omega⟩
  have hj : j < xs.length := by omega
  obtain ⟨_, l2, e2, ⟨y, rfl, y0, y1⟩, k2⟩ := take_yj (m := 10) (by decide) (by decide) (k + m + 1) l1 (k1.dn (by omega))
  have ix : gIx (.tuple xs) (.int j) = some xs[j] := L2.atI_nat (List.getElem?_eq_getElem hj)
  have ww := wh_t xs
  have st : ∀ (d : Dx.D) (l' : Ld) (r : SRes), r = .rt d l' → (match r with
    | .rt d l' => Res.ok d l'
    | .nx _ l' => Res.ok PyData.none l'
    | _ => Res.no) = Res.ok d l' := fun d l' r h => by rw [h]
  have c1 := cutD_len xs none (some (j : Int))
  have c2 := cutD_len xs (some ((j : Int) + 1)) none
  have c3 := cutD_len xs (some (j : Int)) none
  have mm : ∀ {lo hi : Option Int} {y : Dx.D}, y ∈ cutD xs lo hi → R y := fun h => hx _ (cutD_mem h)
  have pre : ∀ (l' : Ld) (r : SRes), l' = l2 → True := fun _ _ _ => trivial
  have a1 : ∀ z : Dx.D, gAdd (.tuple (cutD xs none (some (j : Int)))) (.tuple [z]) = some (.tuple (cutD xs none (some (j : Int)) ++ [z])) := fun z => adT (by simp; omega)
  have a2 : ∀ z : Dx.D, gAdd (.tuple (cutD xs none (some (j : Int)) ++ [z])) (.tuple (cutD xs (some ((j : Int) + 1)) none)) = some (.tuple (cutD xs none (some (j : Int)) ++ [z] ++ cutD xs (some ((j : Int) + 1)) none)) := fun z => adT (by simp; omega)
  have a3 : gAdd (.tuple (cutD xs none (some (j : Int)))) (.tuple (cutD xs (some ((j : Int) + 1)) none)) = some (.tuple (cutD xs none (some (j : Int)) ++ cutD xs (some ((j : Int) + 1)) none)) := adT (by omega)
  have a4 : ∀ z : Dx.D, gAdd (.tuple (cutD xs none (some (j : Int)) ++ [z])) (.tuple (cutD xs (some (j : Int)) none)) = some (.tuple (cutD xs none (some (j : Int)) ++ [z] ++ cutD xs (some (j : Int)) none)) := fun z => adT (by simp; omega)
  have aj : gAdd (.int (j : Int)) (.int 1) = some (.int ((j : Int) + 1)) := rfl
  have mid : ∀ (z : Dx.D) (lo : Option Int), R z → ∀ y ∈ cutD xs none (some (j : Int)) ++ [z] ++ cutD xs lo none, R y := fun z lo hz y hy => by
    simp only [List.mem_append, List.mem_singleton] at hy
    rcases hy with (hy | rfl) | hy
    · exact mm hy
    · exact hz
    · exact mm hy
  have il : gList [.tuple xs] = some (.list xs) := rfl
  have s1 : ∀ lo hi, gSl (.tuple xs) lo hi = some (.tuple (cutD xs lo hi)) := fun _ _ => rfl
  have p1 : dIfS (dTest (dCall 1 F_law_is_whole (dCons (dVar 1) dNil))) (dRet (dCallL 0 1 F_law_of (dCons (dTup (dCons (dOp gAdd (dVar 1) (dC (.int 1))) (dCons (dOp gSub (dC (.int 0)) (dVar 1)) (dCons (dOp gMul (dC (.int 2)) (dVar 1)) (dCons (dOp gEqA (dVar 1) (dC (.int 1))) (dCons (dCB gStrI (dCons (dVar 1) dNil)) (dCons (dTup (dCons (dVar 1) (dCons (dC (.int 1)) dNil))) (dCons (dC .none) dNil)))))))) dNil))) dNext [some .lode, dd (.tuple xs), none, none] l = .nx [some .lode, dd (.tuple xs), none, none] l := by simp [enOf, runD, runL, dSeq, dIfS, dTest, dOp, dVar, dC, Res.bind, dNext, dSet, dCall, dCallK, perm, dCallL, dCons, dNil, dTup, dLst, dRet, dUn, gNeg, dPar, dAsg, dGTup, dGCons, dName, dGNil, dSetOwn, dNew, dApp, dFrz, dFor, dIt, dZip, zipD, dCB, dDrop, forL, dLc, lcL, wipeE, dYes, gTuple, gList, gLen, gAll, blsD, dIf, dAnd, dOr, dNot, dAndV, dOrV, dNotV, Kb.f0, Kb.f1, Kb.f2, Kb.f4, Kb.fh, Kb.fm, Kb.kn, Kb.k1, ww]
  by_cases w0 : y < 6
  · obtain ⟨z, l3, e3, hz, k3⟩ := hr xs[j] (List.getElem_mem _) k l2 (k2.dn (by omega))
    refine ⟨_, l3, ?_, ⟨_, Or.inr ⟨rfl, mid z (some ((j : Int) + 1)) hz⟩⟩, k3⟩
    show runL 4 (m_law_bent (Fn_law_bent n)) _ _ = _
    unfold runL
    refine st _ _ _ ?_
    show m_law_bent _ [some .lode, dd (.tuple xs), none, none] l = _
    unfold m_law_bent
    rw [seq_nx p1]
    rw [seq_nx (show _ = SRes.nx [some .lode, dd (.tuple xs), none, none] l from by simp [enOf, runD, runL, dSeq, dIfS, dTest, dOp, dVar, dC, Res.bind, dNext, dSet, dCall, dCallK, perm, dCallL, dCons, dNil, dTup, dLst, dRet, dUn, gNeg, dPar, dAsg, dGTup, dGCons, dName, dGNil, dSetOwn, dNew, dApp, dFrz, dFor, dIt, dZip, zipD, dCB, dDrop, forL, dLc, lcL, wipeE, dYes, gTuple, gList, gLen, gAll, blsD, dIf, dAnd, dOr, dNot, dAndV, dOrV, dNotV, Kb.f0, Kb.f1, Kb.f2, Kb.f4, Kb.fh, Kb.fm, Kb.kn, Kb.k1, dIsi, tyN, kb0, he])]
    rw [seq_nx (show _ = SRes.nx [some .lode, dd (.tuple xs), dd (.int j), dd (.int y)] l2 from by simp [enOf, runD, runL, dSeq, dIfS, dTest, dOp, dVar, dC, Res.bind, dNext, dSet, dCall, dCallK, perm, dCallL, dCons, dNil, dTup, dLst, dRet, dUn, gNeg, dPar, dAsg, dGTup, dGCons, dName, dGNil, dSetOwn, dNew, dApp, dFrz, dFor, dIt, dZip, zipD, dCB, dDrop, forL, dLc, lcL, wipeE, dYes, gTuple, gList, gLen, gAll, blsD, dIf, dAnd, dOr, dNot, dAndV, dOrV, dNotV, Kb.f0, Kb.f1, Kb.f2, Kb.f4, Kb.fh, Kb.fm, Kb.kn, Kb.k1, e1, e2])]
    have w0' := decide_eq_true w0
    simp [enOf, runD, runL, dSeq, dIfS, dTest, dOp, dVar, dC, Res.bind, dNext, dSet, dCall, dCallK, perm, dCallL, dCons, dNil, dTup, dLst, dRet, dUn, gNeg, dPar, dAsg, dGTup, dGCons, dName, dGNil, dSetOwn, dNew, dApp, dFrz, dFor, dIt, dZip, zipD, dCB, dDrop, forL, dLc, lcL, wipeE, dYes, gTuple, gList, gLen, gAll, blsD, dIf, dAnd, dOr, dNot, dAndV, dOrV, dNotV, Kb.f0, Kb.f1, Kb.f2, Kb.f4, Kb.fh, Kb.fm, Kb.kn, Kb.k1, gLt, g2B, w0, s1, dSl, dOSome, dONone, ix, e3, a1, a2, aj]
  · by_cases w6 : y = 6
    · have two : ∀ q ∈ cutD xs none (some (j : Int)) ++ cutD xs (some ((j : Int) + 1)) none, R q := fun q hq => by
        rcases List.mem_append.mp hq with hq | hq <;> exact mm hq
      refine ⟨_, l2, ?_, ⟨_, Or.inr ⟨rfl, two⟩⟩, k2.dn (by omega)⟩
      show runL 4 (m_law_bent (Fn_law_bent n)) _ _ = _
      unfold runL
      refine st _ _ _ ?_
      show m_law_bent _ [some .lode, dd (.tuple xs), none, none] l = _
      unfold m_law_bent
      rw [seq_nx p1]
      rw [seq_nx (show _ = SRes.nx [some .lode, dd (.tuple xs), none, none] l from by simp [enOf, runD, runL, dSeq, dIfS, dTest, dOp, dVar, dC, Res.bind, dNext, dSet, dCall, dCallK, perm, dCallL, dCons, dNil, dTup, dLst, dRet, dUn, gNeg, dPar, dAsg, dGTup, dGCons, dName, dGNil, dSetOwn, dNew, dApp, dFrz, dFor, dIt, dZip, zipD, dCB, dDrop, forL, dLc, lcL, wipeE, dYes, gTuple, gList, gLen, gAll, blsD, dIf, dAnd, dOr, dNot, dAndV, dOrV, dNotV, Kb.f0, Kb.f1, Kb.f2, Kb.f4, Kb.fh, Kb.fm, Kb.kn, Kb.k1, dIsi, tyN, kb0, he])]
      rw [seq_nx (show _ = SRes.nx [some .lode, dd (.tuple xs), dd (.int j), dd (.int y)] l2 from by simp [enOf, runD, runL, dSeq, dIfS, dTest, dOp, dVar, dC, Res.bind, dNext, dSet, dCall, dCallK, perm, dCallL, dCons, dNil, dTup, dLst, dRet, dUn, gNeg, dPar, dAsg, dGTup, dGCons, dName, dGNil, dSetOwn, dNew, dApp, dFrz, dFor, dIt, dZip, zipD, dCB, dDrop, forL, dLc, lcL, wipeE, dYes, gTuple, gList, gLen, gAll, blsD, dIf, dAnd, dOr, dNot, dAndV, dOrV, dNotV, Kb.f0, Kb.f1, Kb.f2, Kb.f4, Kb.fh, Kb.fm, Kb.kn, Kb.k1, e1, e2])]
      rw [seq_nx (show _ = SRes.nx [some .lode, dd (.tuple xs), dd (.int j), dd (.int y)] l2 from by simp [enOf, runD, runL, dSeq, dIfS, dTest, dOp, dVar, dC, Res.bind, dNext, dSet, dCall, dCallK, perm, dCallL, dCons, dNil, dTup, dLst, dRet, dUn, gNeg, dPar, dAsg, dGTup, dGCons, dName, dGNil, dSetOwn, dNew, dApp, dFrz, dFor, dIt, dZip, zipD, dCB, dDrop, forL, dLc, lcL, wipeE, dYes, gTuple, gList, gLen, gAll, blsD, dIf, dAnd, dOr, dNot, dAndV, dOrV, dNotV, Kb.f0, Kb.f1, Kb.f2, Kb.f4, Kb.fh, Kb.fm, Kb.kn, Kb.k1, gLt, g2B, w0])]
      simp [enOf, runD, runL, dSeq, dIfS, dTest, dOp, dVar, dC, Res.bind, dNext, dSet, dCall, dCallK, perm, dCallL, dCons, dNil, dTup, dLst, dRet, dUn, gNeg, dPar, dAsg, dGTup, dGCons, dName, dGNil, dSetOwn, dNew, dApp, dFrz, dFor, dIt, dZip, zipD, dCB, dDrop, forL, dLc, lcL, wipeE, dYes, gTuple, gList, gLen, gAll, blsD, dIf, dAnd, dOr, dNot, dAndV, dOrV, dNotV, Kb.f0, Kb.f1, Kb.f2, Kb.f4, Kb.fh, Kb.fm, Kb.kn, Kb.k1, gEqA_int, w6, s1, dSl, dOSome, dONone, a3, aj]
    · by_cases w7 : y = 7
      · refine ⟨_, l2, ?_, ⟨_, Or.inr ⟨rfl, mid xs[j] (some (j : Int)) (hx _ (List.getElem_mem _))⟩⟩, k2.dn (by omega)⟩
        show runL 4 (m_law_bent (Fn_law_bent n)) _ _ = _
        unfold runL
        refine st _ _ _ ?_
        show m_law_bent _ [some .lode, dd (.tuple xs), none, none] l = _
        unfold m_law_bent
        rw [seq_nx p1]
        rw [seq_nx (show _ = SRes.nx [some .lode, dd (.tuple xs), none, none] l from by simp [enOf, runD, runL, dSeq, dIfS, dTest, dOp, dVar, dC, Res.bind, dNext, dSet, dCall, dCallK, perm, dCallL, dCons, dNil, dTup, dLst, dRet, dUn, gNeg, dPar, dAsg, dGTup, dGCons, dName, dGNil, dSetOwn, dNew, dApp, dFrz, dFor, dIt, dZip, zipD, dCB, dDrop, forL, dLc, lcL, wipeE, dYes, gTuple, gList, gLen, gAll, blsD, dIf, dAnd, dOr, dNot, dAndV, dOrV, dNotV, Kb.f0, Kb.f1, Kb.f2, Kb.f4, Kb.fh, Kb.fm, Kb.kn, Kb.k1, dIsi, tyN, kb0, he])]
        rw [seq_nx (show _ = SRes.nx [some .lode, dd (.tuple xs), dd (.int j), dd (.int y)] l2 from by simp [enOf, runD, runL, dSeq, dIfS, dTest, dOp, dVar, dC, Res.bind, dNext, dSet, dCall, dCallK, perm, dCallL, dCons, dNil, dTup, dLst, dRet, dUn, gNeg, dPar, dAsg, dGTup, dGCons, dName, dGNil, dSetOwn, dNew, dApp, dFrz, dFor, dIt, dZip, zipD, dCB, dDrop, forL, dLc, lcL, wipeE, dYes, gTuple, gList, gLen, gAll, blsD, dIf, dAnd, dOr, dNot, dAndV, dOrV, dNotV, Kb.f0, Kb.f1, Kb.f2, Kb.f4, Kb.fh, Kb.fm, Kb.kn, Kb.k1, e1, e2])]
        rw [seq_nx (show _ = SRes.nx [some .lode, dd (.tuple xs), dd (.int j), dd (.int y)] l2 from by simp [enOf, runD, runL, dSeq, dIfS, dTest, dOp, dVar, dC, Res.bind, dNext, dSet, dCall, dCallK, perm, dCallL, dCons, dNil, dTup, dLst, dRet, dUn, gNeg, dPar, dAsg, dGTup, dGCons, dName, dGNil, dSetOwn, dNew, dApp, dFrz, dFor, dIt, dZip, zipD, dCB, dDrop, forL, dLc, lcL, wipeE, dYes, gTuple, gList, gLen, gAll, blsD, dIf, dAnd, dOr, dNot, dAndV, dOrV, dNotV, Kb.f0, Kb.f1, Kb.f2, Kb.f4, Kb.fh, Kb.fm, Kb.kn, Kb.k1, gLt, g2B, w0])]
        rw [seq_nx (show _ = SRes.nx [some .lode, dd (.tuple xs), dd (.int j), dd (.int y)] l2 from by simp [enOf, runD, runL, dSeq, dIfS, dTest, dOp, dVar, dC, Res.bind, dNext, dSet, dCall, dCallK, perm, dCallL, dCons, dNil, dTup, dLst, dRet, dUn, gNeg, dPar, dAsg, dGTup, dGCons, dName, dGNil, dSetOwn, dNew, dApp, dFrz, dFor, dIt, dZip, zipD, dCB, dDrop, forL, dLc, lcL, wipeE, dYes, gTuple, gList, gLen, gAll, blsD, dIf, dAnd, dOr, dNot, dAndV, dOrV, dNotV, Kb.f0, Kb.f1, Kb.f2, Kb.f4, Kb.fh, Kb.fm, Kb.kn, Kb.k1, gEqA_int, w6])]
        simp [enOf, runD, runL, dSeq, dIfS, dTest, dOp, dVar, dC, Res.bind, dNext, dSet, dCall, dCallK, perm, dCallL, dCons, dNil, dTup, dLst, dRet, dUn, gNeg, dPar, dAsg, dGTup, dGCons, dName, dGNil, dSetOwn, dNew, dApp, dFrz, dFor, dIt, dZip, zipD, dCB, dDrop, forL, dLc, lcL, wipeE, dYes, gTuple, gList, gLen, gAll, blsD, dIf, dAnd, dOr, dNot, dAndV, dOrV, dNotV, Kb.f0, Kb.f1, Kb.f2, Kb.f4, Kb.fh, Kb.fm, Kb.kn, Kb.k1, gEqA_int, w7, s1, dSl, dOSome, dONone, ix, a1, a4]
      · by_cases w8 : y = 8
        · refine ⟨.list xs, l2, ?_, ⟨xs, Or.inl rfl⟩, k2.dn (by omega)⟩
          show runL 4 (m_law_bent (Fn_law_bent n)) _ _ = _
          unfold runL
          refine st _ _ _ ?_
          show m_law_bent _ [some .lode, dd (.tuple xs), none, none] l = _
          unfold m_law_bent
          rw [seq_nx p1]
          rw [seq_nx (show _ = SRes.nx [some .lode, dd (.tuple xs), none, none] l from by simp [enOf, runD, runL, dSeq, dIfS, dTest, dOp, dVar, dC, Res.bind, dNext, dSet, dCall, dCallK, perm, dCallL, dCons, dNil, dTup, dLst, dRet, dUn, gNeg, dPar, dAsg, dGTup, dGCons, dName, dGNil, dSetOwn, dNew, dApp, dFrz, dFor, dIt, dZip, zipD, dCB, dDrop, forL, dLc, lcL, wipeE, dYes, gTuple, gList, gLen, gAll, blsD, dIf, dAnd, dOr, dNot, dAndV, dOrV, dNotV, Kb.f0, Kb.f1, Kb.f2, Kb.f4, Kb.fh, Kb.fm, Kb.kn, Kb.k1, dIsi, tyN, kb0, he])]
          rw [seq_nx (show _ = SRes.nx [some .lode, dd (.tuple xs), dd (.int j), dd (.int y)] l2 from by simp [enOf, runD, runL, dSeq, dIfS, dTest, dOp, dVar, dC, Res.bind, dNext, dSet, dCall, dCallK, perm, dCallL, dCons, dNil, dTup, dLst, dRet, dUn, gNeg, dPar, dAsg, dGTup, dGCons, dName, dGNil, dSetOwn, dNew, dApp, dFrz, dFor, dIt, dZip, zipD, dCB, dDrop, forL, dLc, lcL, wipeE, dYes, gTuple, gList, gLen, gAll, blsD, dIf, dAnd, dOr, dNot, dAndV, dOrV, dNotV, Kb.f0, Kb.f1, Kb.f2, Kb.f4, Kb.fh, Kb.fm, Kb.kn, Kb.k1, e1, e2])]
          rw [seq_nx (show _ = SRes.nx [some .lode, dd (.tuple xs), dd (.int j), dd (.int y)] l2 from by simp [enOf, runD, runL, dSeq, dIfS, dTest, dOp, dVar, dC, Res.bind, dNext, dSet, dCall, dCallK, perm, dCallL, dCons, dNil, dTup, dLst, dRet, dUn, gNeg, dPar, dAsg, dGTup, dGCons, dName, dGNil, dSetOwn, dNew, dApp, dFrz, dFor, dIt, dZip, zipD, dCB, dDrop, forL, dLc, lcL, wipeE, dYes, gTuple, gList, gLen, gAll, blsD, dIf, dAnd, dOr, dNot, dAndV, dOrV, dNotV, Kb.f0, Kb.f1, Kb.f2, Kb.f4, Kb.fh, Kb.fm, Kb.kn, Kb.k1, gLt, g2B, w0])]
          rw [seq_nx (show _ = SRes.nx [some .lode, dd (.tuple xs), dd (.int j), dd (.int y)] l2 from by simp [enOf, runD, runL, dSeq, dIfS, dTest, dOp, dVar, dC, Res.bind, dNext, dSet, dCall, dCallK, perm, dCallL, dCons, dNil, dTup, dLst, dRet, dUn, gNeg, dPar, dAsg, dGTup, dGCons, dName, dGNil, dSetOwn, dNew, dApp, dFrz, dFor, dIt, dZip, zipD, dCB, dDrop, forL, dLc, lcL, wipeE, dYes, gTuple, gList, gLen, gAll, blsD, dIf, dAnd, dOr, dNot, dAndV, dOrV, dNotV, Kb.f0, Kb.f1, Kb.f2, Kb.f4, Kb.fh, Kb.fm, Kb.kn, Kb.k1, gEqA_int, w6])]
          rw [seq_nx (show _ = SRes.nx [some .lode, dd (.tuple xs), dd (.int j), dd (.int y)] l2 from by simp [enOf, runD, runL, dSeq, dIfS, dTest, dOp, dVar, dC, Res.bind, dNext, dSet, dCall, dCallK, perm, dCallL, dCons, dNil, dTup, dLst, dRet, dUn, gNeg, dPar, dAsg, dGTup, dGCons, dName, dGNil, dSetOwn, dNew, dApp, dFrz, dFor, dIt, dZip, zipD, dCB, dDrop, forL, dLc, lcL, wipeE, dYes, gTuple, gList, gLen, gAll, blsD, dIf, dAnd, dOr, dNot, dAndV, dOrV, dNotV, Kb.f0, Kb.f1, Kb.f2, Kb.f4, Kb.fh, Kb.fm, Kb.kn, Kb.k1, gEqA_int, w7])]
          simp [enOf, runD, runL, dSeq, dIfS, dTest, dOp, dVar, dC, Res.bind, dNext, dSet, dCall, dCallK, perm, dCallL, dCons, dNil, dTup, dLst, dRet, dUn, gNeg, dPar, dAsg, dGTup, dGCons, dName, dGNil, dSetOwn, dNew, dApp, dFrz, dFor, dIt, dZip, zipD, dCB, dDrop, forL, dLc, lcL, wipeE, dYes, gTuple, gList, gLen, gAll, blsD, dIf, dAnd, dOr, dNot, dAndV, dOrV, dNotV, Kb.f0, Kb.f1, Kb.f2, Kb.f4, Kb.fh, Kb.fm, Kb.kn, Kb.k1, gEqA_int, w8, il]
        · obtain ⟨z, l3, e3, hz, k3⟩ := strange_yj (k + m) l2 (k2.dn (by omega))
          refine ⟨_, l3, ?_, ⟨_, Or.inr ⟨rfl, mid z (some ((j : Int) + 1)) (hs z hz)⟩⟩, k3.dn (by omega)⟩
          show runL 4 (m_law_bent (Fn_law_bent n)) _ _ = _
          unfold runL
          refine st _ _ _ ?_
          show m_law_bent _ [some .lode, dd (.tuple xs), none, none] l = _
          unfold m_law_bent
          rw [seq_nx p1]
          rw [seq_nx (show _ = SRes.nx [some .lode, dd (.tuple xs), none, none] l from by simp [enOf, runD, runL, dSeq, dIfS, dTest, dOp, dVar, dC, Res.bind, dNext, dSet, dCall, dCallK, perm, dCallL, dCons, dNil, dTup, dLst, dRet, dUn, gNeg, dPar, dAsg, dGTup, dGCons, dName, dGNil, dSetOwn, dNew, dApp, dFrz, dFor, dIt, dZip, zipD, dCB, dDrop, forL, dLc, lcL, wipeE, dYes, gTuple, gList, gLen, gAll, blsD, dIf, dAnd, dOr, dNot, dAndV, dOrV, dNotV, Kb.f0, Kb.f1, Kb.f2, Kb.f4, Kb.fh, Kb.fm, Kb.kn, Kb.k1, dIsi, tyN, kb0, he])]
          rw [seq_nx (show _ = SRes.nx [some .lode, dd (.tuple xs), dd (.int j), dd (.int y)] l2 from by simp [enOf, runD, runL, dSeq, dIfS, dTest, dOp, dVar, dC, Res.bind, dNext, dSet, dCall, dCallK, perm, dCallL, dCons, dNil, dTup, dLst, dRet, dUn, gNeg, dPar, dAsg, dGTup, dGCons, dName, dGNil, dSetOwn, dNew, dApp, dFrz, dFor, dIt, dZip, zipD, dCB, dDrop, forL, dLc, lcL, wipeE, dYes, gTuple, gList, gLen, gAll, blsD, dIf, dAnd, dOr, dNot, dAndV, dOrV, dNotV, Kb.f0, Kb.f1, Kb.f2, Kb.f4, Kb.fh, Kb.fm, Kb.kn, Kb.k1, e1, e2])]
          rw [seq_nx (show _ = SRes.nx [some .lode, dd (.tuple xs), dd (.int j), dd (.int y)] l2 from by simp [enOf, runD, runL, dSeq, dIfS, dTest, dOp, dVar, dC, Res.bind, dNext, dSet, dCall, dCallK, perm, dCallL, dCons, dNil, dTup, dLst, dRet, dUn, gNeg, dPar, dAsg, dGTup, dGCons, dName, dGNil, dSetOwn, dNew, dApp, dFrz, dFor, dIt, dZip, zipD, dCB, dDrop, forL, dLc, lcL, wipeE, dYes, gTuple, gList, gLen, gAll, blsD, dIf, dAnd, dOr, dNot, dAndV, dOrV, dNotV, Kb.f0, Kb.f1, Kb.f2, Kb.f4, Kb.fh, Kb.fm, Kb.kn, Kb.k1, gLt, g2B, w0])]
          rw [seq_nx (show _ = SRes.nx [some .lode, dd (.tuple xs), dd (.int j), dd (.int y)] l2 from by simp [enOf, runD, runL, dSeq, dIfS, dTest, dOp, dVar, dC, Res.bind, dNext, dSet, dCall, dCallK, perm, dCallL, dCons, dNil, dTup, dLst, dRet, dUn, gNeg, dPar, dAsg, dGTup, dGCons, dName, dGNil, dSetOwn, dNew, dApp, dFrz, dFor, dIt, dZip, zipD, dCB, dDrop, forL, dLc, lcL, wipeE, dYes, gTuple, gList, gLen, gAll, blsD, dIf, dAnd, dOr, dNot, dAndV, dOrV, dNotV, Kb.f0, Kb.f1, Kb.f2, Kb.f4, Kb.fh, Kb.fm, Kb.kn, Kb.k1, gEqA_int, w6])]
          rw [seq_nx (show _ = SRes.nx [some .lode, dd (.tuple xs), dd (.int j), dd (.int y)] l2 from by simp [enOf, runD, runL, dSeq, dIfS, dTest, dOp, dVar, dC, Res.bind, dNext, dSet, dCall, dCallK, perm, dCallL, dCons, dNil, dTup, dLst, dRet, dUn, gNeg, dPar, dAsg, dGTup, dGCons, dName, dGNil, dSetOwn, dNew, dApp, dFrz, dFor, dIt, dZip, zipD, dCB, dDrop, forL, dLc, lcL, wipeE, dYes, gTuple, gList, gLen, gAll, blsD, dIf, dAnd, dOr, dNot, dAndV, dOrV, dNotV, Kb.f0, Kb.f1, Kb.f2, Kb.f4, Kb.fh, Kb.fm, Kb.kn, Kb.k1, gEqA_int, w7])]
          simp [enOf, runD, runL, dSeq, dIfS, dTest, dOp, dVar, dC, Res.bind, dNext, dSet, dCall, dCallK, perm, dCallL, dCons, dNil, dTup, dLst, dRet, dUn, gNeg, dPar, dAsg, dGTup, dGCons, dName, dGNil, dSetOwn, dNew, dApp, dFrz, dFor, dIt, dZip, zipD, dCB, dDrop, forL, dLc, lcL, wipeE, dYes, gTuple, gList, gLen, gAll, blsD, dIf, dAnd, dOr, dNot, dAndV, dOrV, dNotV, Kb.f0, Kb.f1, Kb.f2, Kb.f4, Kb.fh, Kb.fm, Kb.kn, Kb.k1, gEqA_int, w8, s1, dSl, dOSome, dONone, e3, a1, a2, aj]
end K34
end
section
set_option Elab.async false
set_option linter.all false
set_option maxRecDepth 100000
set_option maxHeartbeats 4000000
set_option exponentiation.threshold 500
namespace K34
open PySem Dx Fc Kb
structure F5 (n : Nat) (a b c d e : Rat) : Prop where
  a : Z n a
  b : Z n b
  c : Z n c
  d : Z n d
  e : Z n e
def wo (a b c d e x y : Rat) : Rat := a + b * x + c * y + d * (x * x - y * y) + e * (2 * (x * y))
theorem S_worth {a b c d e x y : Rat} (f : F5 400 a b c d e) (hx : Z 60 x) (hy : Z 60 y) : F_law_worth [pv5 a b c d e, pr x y] = some (fq (wo a b c d e x y)) := by
  obtain ⟨ha, hb, hc, hd, he⟩ := f
  have m1 := S_mul (p := x) (q := x) (by walk_at "zz") (by walk_at "zz")
  have m2 := S_mul (p := y) (q := y) (by walk_at "zz") (by walk_at "zz")
  have m3 := S_sub (p := x * x) (q := y * y) (by walk_at "zz") (by walk_at "zz")
  have m4 := S_mul (p := x) (q := y) (by walk_at "zz") (by walk_at "zz")
  have m5 := S_mul (p := 2) (q := x * y) (by walk_at "zz") (by walk_at "zz")
  have n1 := S_mul (p := b) (q := x) (by walk_at "zz") (by walk_at "zz")
  have n2 := S_mul (p := c) (q := y) (by walk_at "zz") (by walk_at "zz")
  have n3 := S_mul (p := d) (q := x * x - y * y) (by walk_at "zz") (by walk_at "zz")
  have n4 := S_mul (p := e) (q := 2 * (x * y)) (by walk_at "zz") (by walk_at "zz")
  have e0 : (0 : Rat) + a = a := by grind
  have y0 := S_add (p := 0) (q := a) (by walk_at "zz") (by walk_at "zz")
  rw [e0] at y0
  have y1 := S_add (p := a) (q := b * x) (by walk_at "zz") (by walk_at "zz")
  have y2 := S_add (p := a + b * x) (q := c * y) (by walk_at "zz") (by walk_at "zz")
  have y3 := S_add (p := a + b * x + c * y) (q := d * (x * x - y * y)) (by walk_at "zz") (by walk_at "zz")
  have y4 := S_add (p := a + b * x + c * y + d * (x * x - y * y)) (q := e * (2 * (x * y))) (by walk_at "zz") (by walk_at "zz")
  unfold wo
  have tot : F_law_total [.list [fq a, fq (b * x), fq (c * y), fq (d * (x * x - y * y)), fq (e * (2 * (x * y)))]] = some (fq (a + b * x + c * y + d * (x * x - y * y) + e * (2 * (x * y)))) := by
    simp [enOf, runD, runL, dSeq, dIfS, dTest, dOp, dVar, dC, Res.bind, dNext, dSet, dCall, dCallK, perm, dCallL, dCons, dNil, dTup, dLst, dRet, dUn, gNeg, dPar, dAsg, dGTup, dGCons, dName, dGNil, dSetOwn, dNew, dApp, dFrz, dFor, dIt, dZip, zipD, dCB, dDrop, forL, dLc, lcL, wipeE, dYes, gTuple, gList, gLen, gAll, blsD, dIf, dAnd, dOr, dNot, dAndV, dOrV, dNotV, Kb.f0, Kb.f1, Kb.f2, Kb.f4, Kb.fh, Kb.fm, Kb.kn, Kb.k1, F_law_total, m_law_total, y0, y1, y2, y3, y4]
  simp [enOf, runD, runL, dSeq, dIfS, dTest, dOp, dVar, dC, Res.bind, dNext, dSet, dCall, dCallK, perm, dCallL, dCons, dNil, dTup, dLst, dRet, dUn, gNeg, dPar, dAsg, dGTup, dGCons, dName, dGNil, dSetOwn, dNew, dApp, dFrz, dFor, dIt, dZip, zipD, dCB, dDrop, forL, dLc, lcL, wipeE, dYes, gTuple, gList, gLen, gAll, blsD, dIf, dAnd, dOr, dNot, dAndV, dOrV, dNotV, Kb.f0, Kb.f1, Kb.f2, Kb.f4, Kb.fh, Kb.fm, Kb.kn, Kb.k1, F_law_worth, m_law_worth, m1, m2, m3, m4, m5, n1, n2, n3, n4, ix50, ix51, ix52, ix53, ix54, tot]
theorem nq (q : Rat) : PyData.tuple [.int (-q.num), .int (q.den : Int)] = fq (-q) := by
  unfold fq fr qp
  rw [Rat.neg_num, Rat.neg_den]
theorem S_flip (x y : Rat) : F_law_flipped [pr x y] = some (pr x (-y)) := by
  simp [enOf, runD, runL, dSeq, dIfS, dTest, dOp, dVar, dC, Res.bind, dNext, dSet, dCall, dCallK, perm, dCallL, dCons, dNil, dTup, dLst, dRet, dUn, gNeg, dPar, dAsg, dGTup, dGCons, dName, dGNil, dSetOwn, dNew, dApp, dFrz, dFor, dIt, dZip, zipD, dCB, dDrop, forL, dLc, lcL, wipeE, dYes, gTuple, gList, gLen, gAll, blsD, dIf, dAnd, dOr, dNot, dAndV, dOrV, dNotV, Kb.f0, Kb.f1, Kb.f2, Kb.f4, Kb.fh, Kb.fm, Kb.kn, Kb.k1, F_law_flipped, m_law_flipped, ix20, ix21, gI0, gI1, gSub, g2I, nq]
theorem S_total3 {u v w : Rat} (hu : Z 1000 u) (hv : Z 1000 v) (hw : Z 1000 w) : F_law_total [.list [fq u, fq v, fq w]] = some (fq (u + v + w)) := by
  have e0 : (0 : Rat) + u = u := by grind
  have y0 := S_add (p := 0) (q := u) (by walk_at "zz") (by walk_at "zz")
  rw [e0] at y0
  have y1 := S_add (p := u) (q := v) (by walk_at "zz") (by walk_at "zz")
  have y2 := S_add (p := u + v) (q := w) (by walk_at "zz") (by walk_at "zz")
  simp [enOf, runD, runL, dSeq, dIfS, dTest, dOp, dVar, dC, Res.bind, dNext, dSet, dCall, dCallK, perm, dCallL, dCons, dNil, dTup, dLst, dRet, dUn, gNeg, dPar, dAsg, dGTup, dGCons, dName, dGNil, dSetOwn, dNew, dApp, dFrz, dFor, dIt, dZip, zipD, dCB, dDrop, forL, dLc, lcL, wipeE, dYes, gTuple, gList, gLen, gAll, blsD, dIf, dAnd, dOr, dNot, dAndV, dOrV, dNotV, Kb.f0, Kb.f1, Kb.f2, Kb.f4, Kb.fh, Kb.fm, Kb.kn, Kb.k1, F_law_total, m_law_total, y0, y1, y2]

/-! forms -/
theorem b0_int {i : Int} (h : Bd 390 i) : i.natAbs < 2 ^ 400 := by
  unfold Bd at h
  have p : (2 : Nat) ^ 400 = 1024 * 2 ^ 390 := by decide
  omega
theorem fq_t (q : Rat) : fq q = .tuple [.int q.num, .int (q.den : Int)] := rfl
theorem b1_fq {q : Rat} (h : Z 390 q) : b1 (fq q) = true := by
  rw [fq_t]
  have h1 := b0_int h.t
  have h2 := b0_int h.b
  have h2' : q.den < 2 ^ 400 := h2
  show (List.all _ b0) = true
  exact List.all_eq_true.mpr fun x hx => by
    simp only [List.mem_cons, List.not_mem_nil, or_false] at hx
    rcases hx with rfl | rfl
    · exact decide_eq_true h1
    · exact decide_eq_true h2
theorem bent_frac (n : Nat) {q : Rat} (h : Z 390 q) : Yj 3 (Fn_law_bent (n + 2) [fq q]) fun d => b1 d = true := by
  rw [fq_t]
  have h1 := h.t
  have h2 := h.b
  intro k l hk
  obtain ⟨d, l', e, ⟨ys, hd⟩, k'⟩ := bent_tup (n + 1) 0 (xs := [.int q.num, .int (q.den : Int)]) (R := fun d => b0 d = true) (by simp) (by simp) rfl (fun x hx => by
    simp only [List.mem_cons, List.not_mem_nil, or_false] at hx
    rcases hx with rfl | rfl
    · exact decide_eq_true (b0_int h1)
    · exact decide_eq_true (b0_int h2)) (fun x hx => by
    simp only [List.mem_cons, List.not_mem_nil, or_false] at hx
    rcases hx with rfl | rfl
    · exact bent_int n h1
    · exact bent_int n h2) (fun d hd => hd.1) k l hk
  refine ⟨d, l', e, ?_, k'⟩
  rcases hd with rfl | ⟨rfl, hy⟩
  · rfl
  · exact List.all_eq_true.mpr hy
theorem ne5 (a b c d e : Rat) : gEqA (pv5 a b c d e) (.tuple []) = some (.bool false) := by
  have h : gEqA (pv5 a b c d e) (.tuple []) = some (.bool (PyData.eqv (pv5 a b c d e) (.tuple []))) := rfl
  rw [h]
  simp [PyData.eqv, PyData.eqvAll]
theorem bent_wave {a b c d e : Rat} (f : F5 390 a b c d e) : Yj 5 (F_law_bent [pv5 a b c d e]) fun d => b2 d = true := by
  intro k l hk
  have hm : ∀ x ∈ [fq a, fq b, fq c, fq d, fq e], ∃ q, x = fq q ∧ Z 390 q := fun x hx => by
    simp only [List.mem_cons, List.not_mem_nil, or_false] at hx
    rcases hx with rfl | rfl | rfl | rfl | rfl
    · exact ⟨_, rfl, f.a⟩
    · exact ⟨_, rfl, f.b⟩
    · exact ⟨_, rfl, f.c⟩
    · exact ⟨_, rfl, f.d⟩
    · exact ⟨_, rfl, f.e⟩
  obtain ⟨z, l', e', ⟨ys, hd⟩, k'⟩ := bent_tup 2 2 (xs := [fq a, fq b, fq c, fq d, fq e]) (R := fun d => b1 d = true) (by simp) (by simp) (ne5 a b c d e) (fun x hx => by
    obtain ⟨q, rfl, z⟩ := hm x hx
    exact b1_fq z) (fun x hx => by
    obtain ⟨q, rfl, z⟩ := hm x hx
    exact bent_frac 0 z) (fun d hd => hd.2.1) k l hk
  refine ⟨z, l', e', ?_, k'⟩
  rcases hd with rfl | ⟨rfl, hy⟩
  · rfl
  · exact List.all_eq_true.mpr hy
theorem b2_wave {a b c d e : Rat} (f : F5 390 a b c d e) : b2 (pv5 a b c d e) = true := by
  have h1 := b1_fq f.a
  have h2 := b1_fq f.b
  have h3 := b1_fq f.c
  have h4 := b1_fq f.d
  have h5 := b1_fq f.e
  simp [b2, h1, h2, h3, h4, h5]
noncomputable def bodyF : DS := (dIfS (dTest (dOp gNeA (dCB gRepr (dCons (dLst (dCons (dCall 1 F_is_wave (dCons (dVar 2) dNil)) (dCons (dCallK 1 1 [0] F_is_wave (dCons (dVar 2) dNil)) dNil))) dNil)) (dCB gRepr (dCons (dOp gMul (dLst (dCons (dCall 2 F_law_are_fracs (dCons (dVar 2) (dCons (dC (.int 5)) dNil))) dNil)) (dC (.int 2))) dNil))))
    (dRet (dC (.bool false))) dNext)
theorem rb (b : Bool) : ∃ x, gRepr [.list [.bool b, .bool b]] = some (.str x) := by
  cases b <;> exact ⟨_, rfl⟩
theorem mb (b : Bool) : gMul (.list [.bool b]) (.int 2) = some (.list [.bool b, .bool b]) := rfl
theorem bodyF_ok (w v : Option Sl) (d : Dx.D) (h : b2 d = true) (l : Ld) : bodyF [some .lode, w, dd d] l = .nx [some .lode, w, dd d] l := by
  obtain ⟨b, h1, h2⟩ := W5 d h
  obtain ⟨x, hx⟩ := rb b
  have m := mb b
  unfold bodyF
  simp [enOf, runD, runL, dSeq, dIfS, dTest, dOp, dVar, dC, Res.bind, dNext, dSet, dCall, dCallK, perm, dCallL, dCons, dNil, dTup, dLst, dRet, dUn, gNeg, dPar, dAsg, dGTup, dGCons, dName, dGNil, dSetOwn, dNew, dApp, dFrz, dFor, dIt, dZip, zipD, dCB, dDrop, forL, dLc, lcL, wipeE, dYes, gTuple, gList, gLen, gAll, blsD, dIf, dAnd, dOr, dNot, dAndV, dOrV, dNotV, Kb.f0, Kb.f1, Kb.f2, Kb.f4, Kb.fh, Kb.fm, Kb.kn, Kb.k1, h1, h2, m, hx, gNeA_str]
theorem forms {a b c d e : Rat} (f : F5 390 a b c d e) : Yj 11 (F_law_are_forms_right [pv5 a b c d e]) fun z => z = .bool true := by
  intro k l h
  obtain ⟨d1, l1, e1, q1, k1⟩ := bent_wave f (k + 6) l h
  obtain ⟨d2, l2, e2, q2, k2⟩ := bent_wave f (k + 1) l1 k1
  obtain ⟨d3, l3, e3, q3, k3⟩ := strange_yj k l2 k2
  refine ⟨_, l3, ?_, rfl, k3⟩
  have w := b2_wave f
  have st : ∀ (r : SRes), r = .rt (.bool true) l3 → (match r with
    | .rt d l' => Res.ok d l'
    | .nx _ l' => Res.ok PyData.none l'
    | _ => Res.no) = Res.ok (PyData.bool true) l3 := fun r h => by rw [h]
  unfold F_law_are_forms_right runL
  refine st _ ?_
  clear st
  generalize pv5 a b c d e = V at *
  show m_law_are_forms_right [some .lode, dd V, none] l = _
  have it : (dIt (dLst (dCons (dVar 1) (dCons (dCallL 0 1 F_law_bent (dCons (dVar 1) dNil)) (dCons (dCallL 0 1 F_law_bent (dCons (dVar 1) dNil)) (dCons (dCallL 0 0 F_law_strange dNil) dNil)))))) [some .lode, dd V, none] l = .ok [V, d1, d2, d3] l3 := by simp [enOf, runD, runL, dSeq, dIfS, dTest, dOp, dVar, dC, Res.bind, dNext, dSet, dCall, dCallK, perm, dCallL, dCons, dNil, dTup, dLst, dRet, dUn, gNeg, dPar, dAsg, dGTup, dGCons, dName, dGNil, dSetOwn, dNew, dApp, dFrz, dFor, dIt, dZip, zipD, dCB, dDrop, forL, dLc, lcL, wipeE, dYes, gTuple, gList, gLen, gAll, blsD, dIf, dAnd, dOr, dNot, dAndV, dOrV, dNotV, Kb.f0, Kb.f1, Kb.f2, Kb.f4, Kb.fh, Kb.fm, Kb.kn, Kb.k1, e1, e2, e3]
  have lp : dFor (dIt (dLst (dCons (dVar 1) (dCons (dCallL 0 1 F_law_bent (dCons (dVar 1) dNil)) (dCons (dCallL 0 1 F_law_bent (dCons (dVar 1) dNil)) (dCons (dCallL 0 0 F_law_strange dNil) dNil)))))) (dName 2) bodyF [some .lode, dd V, none] l = .nx [some .lode, dd V, dd d3] l3 := by
    unfold dFor
    rw [it]
    show forL (dName 2) bodyF [V, d1, d2, d3] _ l3 = _
    rw [forL_cons rfl (bodyF_ok (dd V) none V w l3), forL_cons rfl (bodyF_ok (dd V) none d1 q1 l3), forL_cons rfl (bodyF_ok (dd V) none d2 q2 l3), forL_cons rfl (bodyF_ok (dd V) none d3 q3.2.2 l3)]
    rfl
  unfold bodyF at lp
  unfold m_law_are_forms_right
  rw [seq_nx lp]
  rfl
/-! the four ends -/
theorem eqS (x : Str) : gEqA (.str x) (.str x) = some (.bool true) := by
  have h : gEqA (.str x) (.str x) = some (.bool (decide (x = x))) := rfl
  rw [h, decide_eq_true rfl]
theorem cut4 (a b c d e : Dx.D) : gSl (.tuple [a, b, c, d, e]) none (some 4) = some (.tuple [a, b, c, d]) := rfl
theorem ends {a b c d e : Rat} (f : F5 390 a b c d e) : F_law_are_ends_right [pv5 a b c d e] = some (.bool true) := by
  obtain ⟨ha, hb, hc, hd, he⟩ := f
  have w1 := P_wave_at (x := 1) (y := 0) ha hb hc hd he (z1.up (by decide)) (z0.up (by decide)) (by grind) (by decide)
  have w2 := P_wave_at (x := 0) (y := 1) ha hb hc hd he (z0.up (by decide)) (z1.up (by decide)) (by grind) (by decide)
  have w3 := P_wave_at (x := -1) (y := 0) ha hb hc hd he (zm.up (by decide)) (z0.up (by decide)) (by grind) (by decide)
  have w4 := P_wave_at (x := 0) (y := -1) ha hb hc hd he (z0.up (by decide)) (zm.up (by decide)) (by grind) (by decide)
  rw [show wv a b c d e 1 0 = a + b + d from by unfold wv; grind] at w1
  rw [show wv a b c d e 0 1 = a + c - d from by unfold wv; grind] at w2
  rw [show wv a b c d e (-1) 0 = a + d - b from by unfold wv; grind] at w3
  rw [show wv a b c d e 0 (-1) = a - (c + d) from by unfold wv; grind] at w4
  have t1 := S_total3 (u := a) (v := b) (w := d) (ha.up (by decide)) (hb.up (by decide)) (hd.up (by decide))
  have m1 := S_add (p := a) (q := c) (by walk_at "zz") (by walk_at "zz")
  have m2 := S_sub (p := a + c) (q := d) (by walk_at "zz") (by walk_at "zz")
  have m3 := S_add (p := a) (q := d) (by walk_at "zz") (by walk_at "zz")
  have m4 := S_sub (p := a + d) (q := b) (by walk_at "zz") (by walk_at "zz")
  have m5 := S_add (p := c) (q := d) (by walk_at "zz") (by walk_at "zz")
  have m6 := S_sub (p := a) (q := c + d) (by walk_at "zz") (by walk_at "zz")
  obtain ⟨x, hx⟩ := repr_l (ds := [fq (a + b + d), fq (a + c - d), fq (a + d - b), fq (a - (c + d))]) (sha_cons (Sh.fq' (by walk_at "zz")) (sha_cons (Sh.fq' (by walk_at "zz")) (sha_cons (Sh.fq' (by walk_at "zz")) (sha_cons (Sh.fq' (by walk_at "zz")) sha_nil)))) (by simp)
  have e := eqS x
  simp [enOf, runD, runL, dSeq, dIfS, dTest, dOp, dVar, dC, Res.bind, dNext, dSet, dCall, dCallK, perm, dCallL, dCons, dNil, dTup, dLst, dRet, dUn, gNeg, dPar, dAsg, dGTup, dGCons, dName, dGNil, dSetOwn, dNew, dApp, dFrz, dFor, dIt, dZip, zipD, dCB, dDrop, forL, dLc, lcL, wipeE, dYes, gTuple, gList, gLen, gAll, blsD, dIf, dAnd, dOr, dNot, dAndV, dOrV, dNotV, Kb.f0, Kb.f1, Kb.f2, Kb.f4, Kb.fh, Kb.fm, Kb.kn, Kb.k1, F_law_are_ends_right, m_law_are_ends_right, cut4, dSl, dOSome, dONone, w1, w2, w3, w4, t1, m1, m2, m3, m4, m5, m6, hx, e]
theorem hR (l : Ld) (hl : 0 ≤ l.s ∧ l.s < 2147483629 ∧ l.k = 0) : ∃ l', F_law_right [] l = .ok (.bool true) l' := by
  have k0 : Lj 1000 l := ⟨hl.1, hl.2.1, by omega, by omega⟩
  obtain ⟨_, m1, e1, ⟨a, b, c, d, e, rfl, V⟩, k1⟩ := wave_yj 979 l k0
  obtain ⟨_, m2, e2, ⟨x, y, rfl, H⟩, k2⟩ := heading_yj 974 m1 k1
  have fW : ∀ n, 220 ≤ n → F5 n a b c d e := fun n h => ⟨V.a.up h, V.b.up (by omega), V.c.up (by omega), V.d.up (by omega), V.e.up (by omega)⟩
  obtain ⟨_, m3, e3, rfl, k3⟩ := forms (fW 390 (by decide)) 963 m2 k2
  have en := ends (fW 390 (by decide))
  refine ⟨m3, ?_⟩
  have hx : Z 40 x := H.zc.up (by decide)
  have hy : Z 40 y := H.zs.up (by decide)
  have h1 := H.e
  have wo1 := S_worth (fW 400 (by decide)) (hx.up (by decide)) (hy.up (by decide))
  obtain ⟨wa, wb, wc, wd, we⟩ := V
  have wl := P_wave_at (x := x) (y := y) wa wb wc wd we hx hy h1 (by decide)
  have wm := P_wave_at (x := x) (y := -y) wa wb wc.neg wd we.neg hx hy.neg (by grind) (by decide)
  rw [show wv a b c d e x y = wo a b c d e x y from by unfold wv wo; grind] at wl
  rw [show wv a b (-c) d (-e) x (-y) = wo a b c d e x y from by unfold wv wo; grind] at wm
  have zw : Z 900 (wo a b c d e x y) := by
    have g2 := H.z2
    have g3 := H.z3
    have gx := H.zc
    have gy := H.zs
    clear hx hy
    unfold wo
    walk_at "zz"
  have fl := S_flip x y
  obtain ⟨r1, p1⟩ := repr_l (ds := [fq (wo a b c d e x y), fq (wo a b c d e x y)]) (sha_cons (Sh.fq' (zw.up (by decide))) (sha_cons (Sh.fq' (zw.up (by decide))) sha_nil)) (by simp)
  obtain ⟨r2, p2⟩ := repr_of (Sh.fq (q := wo a b c d e x y) (zw.up (by decide))) (by decide) (by decide)
  have n1 := nq c
  have n2 := nq e
  have st : ∀ (r : SRes), r = .rt (.bool true) m3 → (match r with
    | .rt d l' => Res.ok d l'
    | .nx _ l' => Res.ok PyData.none l'
    | _ => Res.no) = Res.ok (PyData.bool true) m3 := fun r h => by rw [h]
  unfold F_law_right runL
  refine st _ ?_
  clear st
  show m_law_right [some .lode, none, none, none, none] l = _
  unfold m_law_right
  generalize wo a b c d e x y = O at *
  rw [seq_nx (show _ = SRes.nx [some .lode, dd (pv5 a b c d e), dd (pr x y), none, none] m2 from by simp [enOf, runD, runL, dSeq, dIfS, dTest, dOp, dVar, dC, Res.bind, dNext, dSet, dCall, dCallK, perm, dCallL, dCons, dNil, dTup, dLst, dRet, dUn, gNeg, dPar, dAsg, dGTup, dGCons, dName, dGNil, dSetOwn, dNew, dApp, dFrz, dFor, dIt, dZip, zipD, dCB, dDrop, forL, dLc, lcL, wipeE, dYes, gTuple, gList, gLen, gAll, blsD, dIf, dAnd, dOr, dNot, dAndV, dOrV, dNotV, Kb.f0, Kb.f1, Kb.f2, Kb.f4, Kb.fh, Kb.fm, Kb.kn, Kb.k1, e1, e2])]
  rw [seq_nx (show _ = SRes.nx [some .lode, dd (pv5 a b c d e), dd (pr x y), dd (fq O), none] m2 from by simp [enOf, runD, runL, dSeq, dIfS, dTest, dOp, dVar, dC, Res.bind, dNext, dSet, dCall, dCallK, perm, dCallL, dCons, dNil, dTup, dLst, dRet, dUn, gNeg, dPar, dAsg, dGTup, dGCons, dName, dGNil, dSetOwn, dNew, dApp, dFrz, dFor, dIt, dZip, zipD, dCB, dDrop, forL, dLc, lcL, wipeE, dYes, gTuple, gList, gLen, gAll, blsD, dIf, dAnd, dOr, dNot, dAndV, dOrV, dNotV, Kb.f0, Kb.f1, Kb.f2, Kb.f4, Kb.fh, Kb.fm, Kb.kn, Kb.k1, wo1])]
  rw [seq_nx (show _ = SRes.nx [some .lode, dd (pv5 a b c d e), dd (pr x y), dd (fq O), none] m2 from by simp [enOf, runD, runL, dSeq, dIfS, dTest, dOp, dVar, dC, Res.bind, dNext, dSet, dCall, dCallK, perm, dCallL, dCons, dNil, dTup, dLst, dRet, dUn, gNeg, dPar, dAsg, dGTup, dGCons, dName, dGNil, dSetOwn, dNew, dApp, dFrz, dFor, dIt, dZip, zipD, dCB, dDrop, forL, dLc, lcL, wipeE, dYes, gTuple, gList, gLen, gAll, blsD, dIf, dAnd, dOr, dNot, dAndV, dOrV, dNotV, Kb.f0, Kb.f1, Kb.f2, Kb.f4, Kb.fh, Kb.fm, Kb.kn, Kb.k1, wl, p1, gNeA_str])]
  rw [seq_nx (show _ = SRes.nx [some .lode, dd (pv5 a b c d e), dd (pr x y), dd (fq O), dd (pv5 a b (-c) d (-e))] m2 from by simp [enOf, runD, runL, dSeq, dIfS, dTest, dOp, dVar, dC, Res.bind, dNext, dSet, dCall, dCallK, perm, dCallL, dCons, dNil, dTup, dLst, dRet, dUn, gNeg, dPar, dAsg, dGTup, dGCons, dName, dGNil, dSetOwn, dNew, dApp, dFrz, dFor, dIt, dZip, zipD, dCB, dDrop, forL, dLc, lcL, wipeE, dYes, gTuple, gList, gLen, gAll, blsD, dIf, dAnd, dOr, dNot, dAndV, dOrV, dNotV, Kb.f0, Kb.f1, Kb.f2, Kb.f4, Kb.fh, Kb.fm, Kb.kn, Kb.k1, ix50, ix51, ix52, ix53, ix54, gI0, gI1, gSub, g2I, n1, n2])]
  rw [seq_nx (show _ = SRes.nx [some .lode, dd (pv5 a b c d e), dd (pr x y), dd (fq O), dd (pv5 a b (-c) d (-e))] m2 from by simp [enOf, runD, runL, dSeq, dIfS, dTest, dOp, dVar, dC, Res.bind, dNext, dSet, dCall, dCallK, perm, dCallL, dCons, dNil, dTup, dLst, dRet, dUn, gNeg, dPar, dAsg, dGTup, dGCons, dName, dGNil, dSetOwn, dNew, dApp, dFrz, dFor, dIt, dZip, zipD, dCB, dDrop, forL, dLc, lcL, wipeE, dYes, gTuple, gList, gLen, gAll, blsD, dIf, dAnd, dOr, dNot, dAndV, dOrV, dNotV, Kb.f0, Kb.f1, Kb.f2, Kb.f4, Kb.fh, Kb.fm, Kb.kn, Kb.k1, fl, wm, p2, gNeA_str])]
  simp [enOf, runD, runL, dSeq, dIfS, dTest, dOp, dVar, dC, Res.bind, dNext, dSet, dCall, dCallK, perm, dCallL, dCons, dNil, dTup, dLst, dRet, dUn, gNeg, dPar, dAsg, dGTup, dGCons, dName, dGNil, dSetOwn, dNew, dApp, dFrz, dFor, dIt, dZip, zipD, dCB, dDrop, forL, dLc, lcL, wipeE, dYes, gTuple, gList, gLen, gAll, blsD, dIf, dAnd, dOr, dNot, dAndV, dOrV, dNotV, Kb.f0, Kb.f1, Kb.f2, Kb.f4, Kb.fh, Kb.fm, Kb.kn, Kb.k1, en, e3]
end K34
end
section
set_option Elab.async false
set_option linter.all false
set_option maxRecDepth 100000
set_option maxHeartbeats 4000000
namespace K34
open PySem PySem.Spec PyProof.Rows L2 Dx
theorem kw_is_wave_0 {K : PySem.W.Frag} {f : Addr} {fd : FuncData} (F : Fun K "is_wave" "is_wave" s_is_wave f fd) : KwB K fd p_is_wave ["value"] [0] := by
  obtain ⟨oc, od, kV, doc, pm, an, cdv, ct, osl, rfl, lk, hcd⟩ := F.ex
  exact fun s ws _ hl => match ws, hl with
    | [_], _ => .of_eq rfl
theorem kw_wave_at_1_0 {K : PySem.W.Frag} {f : Addr} {fd : FuncData} (F : Fun K "wave_at" "wave_at" s_wave_at f fd) : KwB K fd p_wave_at ["heading", "wave"] [1, 0] := by
  obtain ⟨oc, od, kV, doc, pm, an, cdv, ct, osl, rfl, lk, hcd⟩ := F.ex
  exact fun s ws _ hl => match ws, hl with
    | [_, _], _ => .of_eq rfl
theorem txt_mk {K : PySem.W.Frag} {h : Heap} {mg : Str → Option Value} {f0 f1 f2 f3 f4 f5 f6 f7 f8 f9 f10 f11 f12 f13 f14 f15 f16 f17 f18 f19 f20 f21 f22 f23 f24 f25 f26 f27 f28 f29 f30 f31 f32 f33 f34 f35 f36 f37 f38 f39 f40 f41 f42 : Addr} (X : K.In h) (G : h.Ns mainGlobals mg) {od0 an0 : Option Addr} {sl0 : Array (Option Value)} {oc0 kV0 dc0 pm0 cd0 ct0 : Value} {od1 an1 : Option Addr} {sl1 : Array (Option Value)} {oc1 kV1 dc1 pm1 cd1 ct1 : Value} {od2 an2 : Option Addr} {sl2 : Array (Option Value)} {oc2 kV2 dc2 pm2 cd2 ct2 : Value} {od3 an3 : Option Addr} {sl3 : Array (Option Value)} {oc3 kV3 dc3 pm3 cd3 ct3 : Value} {od4 an4 : Option Addr} {sl4 : Array (Option Value)} {oc4 kV4 dc4 pm4 cd4 ct4 : Value} {od5 an5 : Option Addr} {sl5 : Array (Option Value)} {oc5 kV5 dc5 pm5 cd5 ct5 : Value} {od6 an6 : Option Addr} {sl6 : Array (Option Value)} {oc6 kV6 dc6 pm6 cd6 ct6 : Value} {od7 an7 : Option Addr} {sl7 : Array (Option Value)} {oc7 kV7 dc7 pm7 cd7 ct7 : Value} {od8 an8 : Option Addr} {sl8 : Array (Option Value)} {oc8 kV8 dc8 pm8 cd8 ct8 : Value} {od9 an9 : Option Addr} {sl9 : Array (Option Value)} {oc9 kV9 dc9 pm9 cd9 ct9 : Value} {od10 an10 : Option Addr} {sl10 : Array (Option Value)} {oc10 kV10 dc10 pm10 cd10 ct10 : Value} {od11 an11 : Option Addr} {sl11 : Array (Option Value)} {oc11 kV11 dc11 pm11 cd11 ct11 : Value} {od12 an12 : Option Addr} {sl12 : Array (Option Value)} {oc12 kV12 dc12 pm12 cd12 ct12 : Value} {od13 an13 : Option Addr} {sl13 : Array (Option Value)} {oc13 kV13 dc13 pm13 cd13 ct13 : Value} {od14 an14 : Option Addr} {sl14 : Array (Option Value)} {oc14 kV14 dc14 pm14 cd14 ct14 : Value} {od15 an15 : Option Addr} {sl15 : Array (Option Value)} {oc15 kV15 dc15 pm15 cd15 ct15 : Value} {od16 an16 : Option Addr} {sl16 : Array (Option Value)} {oc16 kV16 dc16 pm16 cd16 ct16 : Value} {od17 an17 : Option Addr} {sl17 : Array (Option Value)} {oc17 kV17 dc17 pm17 cd17 ct17 : Value} {od18 an18 : Option Addr} {sl18 : Array (Option Value)} {oc18 kV18 dc18 pm18 cd18 ct18 : Value} {od19 an19 : Option Addr} {sl19 : Array (Option Value)} {oc19 kV19 dc19 pm19 cd19 ct19 : Value} {od20 an20 : Option Addr} {sl20 : Array (Option Value)} {oc20 kV20 dc20 pm20 cd20 ct20 : Value} {od21 an21 : Option Addr} {sl21 : Array (Option Value)} {oc21 kV21 dc21 pm21 cd21 ct21 : Value} {od22 an22 : Option Addr} {sl22 : Array (Option Value)} {oc22 kV22 dc22 pm22 cd22 ct22 : Value} {od23 an23 : Option Addr} {sl23 : Array (Option Value)} {oc23 kV23 dc23 pm23 cd23 ct23 : Value} {od24 an24 : Option Addr} {sl24 : Array (Option Value)} {oc24 kV24 dc24 pm24 cd24 ct24 : Value} {od25 an25 : Option Addr} {sl25 : Array (Option Value)} {oc25 kV25 dc25 pm25 cd25 ct25 : Value} {od26 an26 : Option Addr} {sl26 : Array (Option Value)} {oc26 kV26 dc26 pm26 cd26 ct26 : Value} {od27 an27 : Option Addr} {sl27 : Array (Option Value)} {oc27 kV27 dc27 pm27 cd27 ct27 : Value} {od28 an28 : Option Addr} {sl28 : Array (Option Value)} {oc28 kV28 dc28 pm28 cd28 ct28 : Value} {od29 an29 : Option Addr} {sl29 : Array (Option Value)} {oc29 kV29 dc29 pm29 cd29 ct29 : Value} {od30 an30 : Option Addr} {sl30 : Array (Option Value)} {oc30 kV30 dc30 pm30 cd30 ct30 : Value} {od31 an31 : Option Addr} {sl31 : Array (Option Value)} {oc31 kV31 dc31 pm31 cd31 ct31 : Value} {od32 an32 : Option Addr} {sl32 : Array (Option Value)} {oc32 kV32 dc32 pm32 cd32 ct32 : Value} {od33 an33 : Option Addr} {sl33 : Array (Option Value)} {oc33 kV33 dc33 pm33 cd33 ct33 : Value} {od34 an34 : Option Addr} {sl34 : Array (Option Value)} {oc34 kV34 dc34 pm34 cd34 ct34 : Value} {od35 an35 : Option Addr} {sl35 : Array (Option Value)} {oc35 kV35 dc35 pm35 cd35 ct35 : Value} {od36 an36 : Option Addr} {sl36 : Array (Option Value)} {oc36 kV36 dc36 pm36 cd36 ct36 : Value} {od37 an37 : Option Addr} {sl37 : Array (Option Value)} {oc37 kV37 dc37 pm37 cd37 ct37 : Value} {od38 an38 : Option Addr} {sl38 : Array (Option Value)} {oc38 kV38 dc38 pm38 cd38 ct38 : Value} {od39 an39 : Option Addr} {sl39 : Array (Option Value)} {oc39 kV39 dc39 pm39 cd39 ct39 : Value} {od40 an40 : Option Addr} {sl40 : Array (Option Value)} {oc40 kV40 dc40 pm40 cd40 ct40 : Value} {od41 an41 : Option Addr} {sl41 : Array (Option Value)} {oc41 kV41 dc41 pm41 cd41 ct41 : Value} {od42 an42 : Option Addr} {sl42 : Array (Option Value)} {oc42 kV42 dc42 pm42 cd42 ct42 : Value} {tk1 : Tok} {tk2 : Tok} {ca0 : Addr} {ca0d : Option Addr} {ca0n : Nat} {ca0s : Array (Option Value)} {tk4 : Tok} {tk5 : Tok} {ca3 : Addr} {ca3d : Option Addr} {ca3n : Nat} {ca3s : Array (Option Value)}
    (a0 : PySem.W.nsIn K mainGlobals "is_whole" = some (some (.ref f0)))
    (l0 : K.lookup f0 = some ⟨oc0, od0, .func (PySem.W.fnOf "is_whole" "is_whole" (defArgs s_is_whole) (defBody s_is_whole) (defScope s_is_whole) .none kV0 dc0 pm0 an0 cd0 ct0), sl0⟩)
    (c0 : PySem.W.codeIn K cd0 "is_whole" = true)
    (k0 : PySem.W.keepIn K (.ref f0) = true)
    (a1 : PySem.W.nsIn K mainGlobals "reduced" = some (some (.ref f1)))
    (l1 : K.lookup f1 = some ⟨oc1, od1, .func (PySem.W.fnOf "reduced" "reduced" (defArgs s_reduced) (defBody s_reduced) (defScope s_reduced) .none kV1 dc1 pm1 an1 cd1 ct1), sl1⟩)
    (c1 : PySem.W.codeIn K cd1 "reduced" = true)
    (k1 : PySem.W.keepIn K (.ref f1) = true)
    (a2 : PySem.W.nsIn K mainGlobals "plus" = some (some (.ref f2)))
    (l2 : K.lookup f2 = some ⟨oc2, od2, .func (PySem.W.fnOf "plus" "plus" (defArgs s_plus) (defBody s_plus) (defScope s_plus) .none kV2 dc2 pm2 an2 cd2 ct2), sl2⟩)
    (c2 : PySem.W.codeIn K cd2 "plus" = true)
    (k2 : PySem.W.keepIn K (.ref f2) = true)
    (a3 : PySem.W.nsIn K mainGlobals "negative" = some (some (.ref f3)))
    (l3 : K.lookup f3 = some ⟨oc3, od3, .func (PySem.W.fnOf "negative" "negative" (defArgs s_negative) (defBody s_negative) (defScope s_negative) .none kV3 dc3 pm3 an3 cd3 ct3), sl3⟩)
    (c3 : PySem.W.codeIn K cd3 "negative" = true)
    (k3 : PySem.W.keepIn K (.ref f3) = true)
    (a4 : PySem.W.nsIn K mainGlobals "minus" = some (some (.ref f4)))
    (l4 : K.lookup f4 = some ⟨oc4, od4, .func (PySem.W.fnOf "minus" "minus" (defArgs s_minus) (defBody s_minus) (defScope s_minus) .none kV4 dc4 pm4 an4 cd4 ct4), sl4⟩)
    (c4 : PySem.W.codeIn K cd4 "minus" = true)
    (k4 : PySem.W.keepIn K (.ref f4) = true)
    (a5 : PySem.W.nsIn K mainGlobals "times" = some (some (.ref f5)))
    (l5 : K.lookup f5 = some ⟨oc5, od5, .func (PySem.W.fnOf "times" "times" (defArgs s_times) (defBody s_times) (defScope s_times) .none kV5 dc5 pm5 an5 cd5 ct5), sl5⟩)
    (c5 : PySem.W.codeIn K cd5 "times" = true)
    (k5 : PySem.W.keepIn K (.ref f5) = true)
    (a6 : PySem.W.nsIn K mainGlobals "dot" = some (some (.ref f6)))
    (l6 : K.lookup f6 = some ⟨oc6, od6, .func (PySem.W.fnOf "dot" "dot" (defArgs s_dot) (defBody s_dot) (defScope s_dot) .none kV6 dc6 pm6 an6 cd6 ct6), sl6⟩)
    (c6 : PySem.W.codeIn K cd6 "dot" = true)
    (k6 : PySem.W.keepIn K (.ref f6) = true)
    (a7 : PySem.W.nsIn K mainGlobals "is_fraction" = some (some (.ref f7)))
    (l7 : K.lookup f7 = some ⟨oc7, od7, .func (PySem.W.fnOf "is_fraction" "is_fraction" (defArgs s_is_fraction) (defBody s_is_fraction) (defScope s_is_fraction) .none kV7 dc7 pm7 an7 cd7 ct7), sl7⟩)
    (c7 : PySem.W.codeIn K cd7 "is_fraction" = true)
    (k7 : PySem.W.keepIn K (.ref f7) = true)
    (a8 : PySem.W.nsIn K mainGlobals "is_row" = some (some (.ref f8)))
    (l8 : K.lookup f8 = some ⟨oc8, od8, .func (PySem.W.fnOf "is_row" "is_row" (defArgs s_is_row) (defBody s_is_row) (defScope s_is_row) .none kV8 dc8 pm8 an8 cd8 ct8), sl8⟩)
    (c8 : PySem.W.codeIn K cd8 "is_row" = true)
    (k8 : PySem.W.keepIn K (.ref f8) = true)
    (a9 : PySem.W.nsIn K mainGlobals "is_heading" = some (some (.ref f9)))
    (l9 : K.lookup f9 = some ⟨oc9, od9, .func (PySem.W.fnOf "is_heading" "is_heading" (defArgs s_is_heading) (defBody s_is_heading) (defScope s_is_heading) .none kV9 dc9 pm9 an9 cd9 ct9), sl9⟩)
    (c9 : PySem.W.codeIn K cd9 "is_heading" = true)
    (k9 : PySem.W.keepIn K (.ref f9) = true)
    (a10 : PySem.W.nsIn K mainGlobals "check_heading" = some (some (.ref f10)))
    (l10 : K.lookup f10 = some ⟨oc10, od10, .func (PySem.W.fnOf "check_heading" "check_heading" (defArgs s_check_heading) (defBody s_check_heading) (defScope s_check_heading) .none kV10 dc10 pm10 an10 cd10 ct10), sl10⟩)
    (c10 : PySem.W.codeIn K cd10 "check_heading" = true)
    (k10 : PySem.W.keepIn K (.ref f10) = true)
    (a11 : PySem.W.nsIn K mainGlobals "is_wave" = some (some (.ref f11)))
    (l11 : K.lookup f11 = some ⟨oc11, od11, .func (PySem.W.fnOf "is_wave" "is_wave" (defArgs s_is_wave) (defBody s_is_wave) (defScope s_is_wave) .none kV11 dc11 pm11 an11 cd11 ct11), sl11⟩)
    (c11 : PySem.W.codeIn K cd11 "is_wave" = true)
    (k11 : PySem.W.keepIn K (.ref f11) = true)
    (a12 : PySem.W.nsIn K mainGlobals "wave_at" = some (some (.ref f12)))
    (l12 : K.lookup f12 = some ⟨oc12, od12, .func (PySem.W.fnOf "wave_at" "wave_at" (defArgs s_wave_at) (defBody s_wave_at) (defScope s_wave_at) .none kV12 dc12 pm12 an12 cd12 ct12), sl12⟩)
    (c12 : PySem.W.codeIn K cd12 "wave_at" = true)
    (k12 : PySem.W.keepIn K (.ref f12) = true)
    (a13 : PySem.W.nsIn K mainGlobals "check_wave" = some (some (.ref f13)))
    (l13 : K.lookup f13 = some ⟨oc13, od13, .func (PySem.W.fnOf "check_wave" "check_wave" (defArgs s_check_wave) (defBody s_check_wave) (defScope s_check_wave) .none kV13 dc13 pm13 an13 cd13 ct13), sl13⟩)
    (c13 : PySem.W.codeIn K cd13 "check_wave" = true)
    (k13 : PySem.W.keepIn K (.ref f13) = true)
    (a14 : PySem.W.nsIn K mainGlobals "_doubled" = some (some (.ref f14)))
    (l14 : K.lookup f14 = some ⟨oc14, od14, .func (PySem.W.fnOf "_doubled" "_doubled" (defArgs s_doubled) (defBody s_doubled) (defScope s_doubled) .none kV14 dc14 pm14 an14 cd14 ct14), sl14⟩)
    (c14 : PySem.W.codeIn K cd14 "_doubled" = true)
    (k14 : PySem.W.keepIn K (.ref f14) = true)
    (a15 : PySem.W.nsIn K mainGlobals "_law_store" = some (some (.ref f15)))
    (l15 : K.lookup f15 = some ⟨oc15, od15, .func (PySem.W.fnOf "_law_store" "_law_store" (defArgs s_law_store) (defBody s_law_store) (defScope s_law_store) .none kV15 dc15 pm15 an15 cd15 ct15), sl15⟩)
    (c15 : PySem.W.codeIn K cd15 "_law_store" = true)
    (k15 : PySem.W.keepIn K (.ref f15) = true)
    (a16 : PySem.W.nsIn K mainGlobals "_law_take" = some (some (.ref f16)))
    (l16 : K.lookup f16 = some ⟨oc16, od16, .func (PySem.W.fnOf "_law_take" "_law_take" (defArgs s_law_take) (defBody s_law_take) (defScope s_law_take) .none kV16 dc16 pm16 an16 cd16 ct16), sl16⟩)
    (c16 : PySem.W.codeIn K cd16 "_law_take" = true)
    (k16 : PySem.W.keepIn K (.ref f16) = true)
    (a17 : PySem.W.nsIn K mainGlobals "_law_of" = some (some (.ref f17)))
    (l17 : K.lookup f17 = some ⟨oc17, od17, .func (PySem.W.fnOf "_law_of" "_law_of" (defArgs s_law_of) (defBody s_law_of) (defScope s_law_of) .none kV17 dc17 pm17 an17 cd17 ct17), sl17⟩)
    (c17 : PySem.W.codeIn K cd17 "_law_of" = true)
    (k17 : PySem.W.keepIn K (.ref f17) = true)
    (a18 : PySem.W.nsIn K mainGlobals "_law_frac" = some (some (.ref f18)))
    (l18 : K.lookup f18 = some ⟨oc18, od18, .func (PySem.W.fnOf "_law_frac" "_law_frac" (defArgs s_law_frac) (defBody s_law_frac) (defScope s_law_frac) .none kV18 dc18 pm18 an18 cd18 ct18), sl18⟩)
    (c18 : PySem.W.codeIn K cd18 "_law_frac" = true)
    (k18 : PySem.W.keepIn K (.ref f18) = true)
    (a19 : PySem.W.nsIn K mainGlobals "_law_add" = some (some (.ref f19)))
    (l19 : K.lookup f19 = some ⟨oc19, od19, .func (PySem.W.fnOf "_law_add" "_law_add" (defArgs s_law_add) (defBody s_law_add) (defScope s_law_add) .none kV19 dc19 pm19 an19 cd19 ct19), sl19⟩)
    (c19 : PySem.W.codeIn K cd19 "_law_add" = true)
    (k19 : PySem.W.keepIn K (.ref f19) = true)
    (a20 : PySem.W.nsIn K mainGlobals "_law_sub" = some (some (.ref f20)))
    (l20 : K.lookup f20 = some ⟨oc20, od20, .func (PySem.W.fnOf "_law_sub" "_law_sub" (defArgs s_law_sub) (defBody s_law_sub) (defScope s_law_sub) .none kV20 dc20 pm20 an20 cd20 ct20), sl20⟩)
    (c20 : PySem.W.codeIn K cd20 "_law_sub" = true)
    (k20 : PySem.W.keepIn K (.ref f20) = true)
    (a21 : PySem.W.nsIn K mainGlobals "_law_mul" = some (some (.ref f21)))
    (l21 : K.lookup f21 = some ⟨oc21, od21, .func (PySem.W.fnOf "_law_mul" "_law_mul" (defArgs s_law_mul) (defBody s_law_mul) (defScope s_law_mul) .none kV21 dc21 pm21 an21 cd21 ct21), sl21⟩)
    (c21 : PySem.W.codeIn K cd21 "_law_mul" = true)
    (k21 : PySem.W.keepIn K (.ref f21) = true)
    (a22 : PySem.W.nsIn K mainGlobals "_law_div" = some (some (.ref f22)))
    (l22 : K.lookup f22 = some ⟨oc22, od22, .func (PySem.W.fnOf "_law_div" "_law_div" (defArgs s_law_div) (defBody s_law_div) (defScope s_law_div) .none kV22 dc22 pm22 an22 cd22 ct22), sl22⟩)
    (c22 : PySem.W.codeIn K cd22 "_law_div" = true)
    (k22 : PySem.W.keepIn K (.ref f22) = true)
    (a23 : PySem.W.nsIn K mainGlobals "_law_total" = some (some (.ref f23)))
    (l23 : K.lookup f23 = some ⟨oc23, od23, .func (PySem.W.fnOf "_law_total" "_law_total" (defArgs s_law_total) (defBody s_law_total) (defScope s_law_total) .none kV23 dc23 pm23 an23 cd23 ct23), sl23⟩)
    (c23 : PySem.W.codeIn K cd23 "_law_total" = true)
    (k23 : PySem.W.keepIn K (.ref f23) = true)
    (a24 : PySem.W.nsIn K mainGlobals "_law_low" = some (some (.ref f24)))
    (l24 : K.lookup f24 = some ⟨oc24, od24, .func (PySem.W.fnOf "_law_low" "_law_low" (defArgs s_law_low) (defBody s_law_low) (defScope s_law_low) .none kV24 dc24 pm24 an24 cd24 ct24), sl24⟩)
    (c24 : PySem.W.codeIn K cd24 "_law_low" = true)
    (k24 : PySem.W.keepIn K (.ref f24) = true)
    (a25 : PySem.W.nsIn K mainGlobals "_law_part" = some (some (.ref f25)))
    (l25 : K.lookup f25 = some ⟨oc25, od25, .func (PySem.W.fnOf "_law_part" "_law_part" (defArgs s_law_part) (defBody s_law_part) (defScope s_law_part) .none kV25 dc25 pm25 an25 cd25 ct25), sl25⟩)
    (c25 : PySem.W.codeIn K cd25 "_law_part" = true)
    (k25 : PySem.W.keepIn K (.ref f25) = true)
    (a26 : PySem.W.nsIn K mainGlobals "_law_heading_of" = some (some (.ref f26)))
    (l26 : K.lookup f26 = some ⟨oc26, od26, .func (PySem.W.fnOf "_law_heading_of" "_law_heading_of" (defArgs s_law_heading_of) (defBody s_law_heading_of) (defScope s_law_heading_of) .none kV26 dc26 pm26 an26 cd26 ct26), sl26⟩)
    (c26 : PySem.W.codeIn K cd26 "_law_heading_of" = true)
    (k26 : PySem.W.keepIn K (.ref f26) = true)
    (a27 : PySem.W.nsIn K mainGlobals "_law_half" = some (some (.ref f27)))
    (l27 : K.lookup f27 = some ⟨oc27, od27, .func (PySem.W.fnOf "_law_half" "_law_half" (defArgs s_law_half) (defBody s_law_half) (defScope s_law_half) .none kV27 dc27 pm27 an27 cd27 ct27), sl27⟩)
    (c27 : PySem.W.codeIn K cd27 "_law_half" = true)
    (k27 : PySem.W.keepIn K (.ref f27) = true)
    (a28 : PySem.W.nsIn K mainGlobals "_law_heading" = some (some (.ref f28)))
    (l28 : K.lookup f28 = some ⟨oc28, od28, .func (PySem.W.fnOf "_law_heading" "_law_heading" (defArgs s_law_heading) (defBody s_law_heading) (defScope s_law_heading) .none kV28 dc28 pm28 an28 cd28 ct28), sl28⟩)
    (c28 : PySem.W.codeIn K cd28 "_law_heading" = true)
    (k28 : PySem.W.keepIn K (.ref f28) = true)
    (a29 : PySem.W.nsIn K mainGlobals "_law_flipped" = some (some (.ref f29)))
    (l29 : K.lookup f29 = some ⟨oc29, od29, .func (PySem.W.fnOf "_law_flipped" "_law_flipped" (defArgs s_law_flipped) (defBody s_law_flipped) (defScope s_law_flipped) .none kV29 dc29 pm29 an29 cd29 ct29), sl29⟩)
    (c29 : PySem.W.codeIn K cd29 "_law_flipped" = true)
    (k29 : PySem.W.keepIn K (.ref f29) = true)
    (a30 : PySem.W.nsIn K mainGlobals "_law_worth" = some (some (.ref f30)))
    (l30 : K.lookup f30 = some ⟨oc30, od30, .func (PySem.W.fnOf "_law_worth" "_law_worth" (defArgs s_law_worth) (defBody s_law_worth) (defScope s_law_worth) .none kV30 dc30 pm30 an30 cd30 ct30), sl30⟩)
    (c30 : PySem.W.codeIn K cd30 "_law_worth" = true)
    (k30 : PySem.W.keepIn K (.ref f30) = true)
    (a31 : PySem.W.nsIn K mainGlobals "_law_chord" = some (some (.ref f31)))
    (l31 : K.lookup f31 = some ⟨oc31, od31, .func (PySem.W.fnOf "_law_chord" "_law_chord" (defArgs s_law_chord) (defBody s_law_chord) (defScope s_law_chord) .none kV31 dc31 pm31 an31 cd31 ct31), sl31⟩)
    (c31 : PySem.W.codeIn K cd31 "_law_chord" = true)
    (k31 : PySem.W.keepIn K (.ref f31) = true)
    (a32 : PySem.W.nsIn K mainGlobals "_law_product" = some (some (.ref f32)))
    (l32 : K.lookup f32 = some ⟨oc32, od32, .func (PySem.W.fnOf "_law_product" "_law_product" (defArgs s_law_product) (defBody s_law_product) (defScope s_law_product) .none kV32 dc32 pm32 an32 cd32 ct32), sl32⟩)
    (c32 : PySem.W.codeIn K cd32 "_law_product" = true)
    (k32 : PySem.W.keepIn K (.ref f32) = true)
    (a33 : PySem.W.nsIn K mainGlobals "_law_wave" = some (some (.ref f33)))
    (l33 : K.lookup f33 = some ⟨oc33, od33, .func (PySem.W.fnOf "_law_wave" "_law_wave" (defArgs s_law_wave) (defBody s_law_wave) (defScope s_law_wave) .none kV33 dc33 pm33 an33 cd33 ct33), sl33⟩)
    (c33 : PySem.W.codeIn K cd33 "_law_wave" = true)
    (k33 : PySem.W.keepIn K (.ref f33) = true)
    (a34 : PySem.W.nsIn K mainGlobals "_law_is_whole" = some (some (.ref f34)))
    (l34 : K.lookup f34 = some ⟨oc34, od34, .func (PySem.W.fnOf "_law_is_whole" "_law_is_whole" (defArgs s_law_is_whole) (defBody s_law_is_whole) (defScope s_law_is_whole) .none kV34 dc34 pm34 an34 cd34 ct34), sl34⟩)
    (c34 : PySem.W.codeIn K cd34 "_law_is_whole" = true)
    (k34 : PySem.W.keepIn K (.ref f34) = true)
    (a35 : PySem.W.nsIn K mainGlobals "_law_is_frac" = some (some (.ref f35)))
    (l35 : K.lookup f35 = some ⟨oc35, od35, .func (PySem.W.fnOf "_law_is_frac" "_law_is_frac" (defArgs s_law_is_frac) (defBody s_law_is_frac) (defScope s_law_is_frac) .none kV35 dc35 pm35 an35 cd35 ct35), sl35⟩)
    (c35 : PySem.W.codeIn K cd35 "_law_is_frac" = true)
    (k35 : PySem.W.keepIn K (.ref f35) = true)
    (a36 : PySem.W.nsIn K mainGlobals "_law_are_fracs" = some (some (.ref f36)))
    (l36 : K.lookup f36 = some ⟨oc36, od36, .func (PySem.W.fnOf "_law_are_fracs" "_law_are_fracs" (defArgs s_law_are_fracs) (defBody s_law_are_fracs) (defScope s_law_are_fracs) .none kV36 dc36 pm36 an36 cd36 ct36), sl36⟩)
    (c36 : PySem.W.codeIn K cd36 "_law_are_fracs" = true)
    (k36 : PySem.W.keepIn K (.ref f36) = true)
    (a37 : PySem.W.nsIn K mainGlobals "_law_strange" = some (some (.ref f37)))
    (l37 : K.lookup f37 = some ⟨oc37, od37, .func (PySem.W.fnOf "_law_strange" "_law_strange" (defArgs s_law_strange) (defBody s_law_strange) (defScope s_law_strange) .none kV37 dc37 pm37 an37 cd37 ct37), sl37⟩)
    (c37 : PySem.W.codeIn K cd37 "_law_strange" = true)
    (k37 : PySem.W.keepIn K (.ref f37) = true)
    (a38 : PySem.W.nsIn K mainGlobals "_law_bent" = some (some (.ref f38)))
    (l38 : K.lookup f38 = some ⟨oc38, od38, .func (PySem.W.fnOf "_law_bent" "_law_bent" (defArgs s_law_bent) (defBody s_law_bent) (defScope s_law_bent) .none kV38 dc38 pm38 an38 cd38 ct38), sl38⟩)
    (c38 : PySem.W.codeIn K cd38 "_law_bent" = true)
    (k38 : PySem.W.keepIn K (.ref f38) = true)
    (a39 : PySem.W.nsIn K mainGlobals "_law_are_forms_right" = some (some (.ref f39)))
    (l39 : K.lookup f39 = some ⟨oc39, od39, .func (PySem.W.fnOf "_law_are_forms_right" "_law_are_forms_right" (defArgs s_law_are_forms_right) (defBody s_law_are_forms_right) (defScope s_law_are_forms_right) .none kV39 dc39 pm39 an39 cd39 ct39), sl39⟩)
    (c39 : PySem.W.codeIn K cd39 "_law_are_forms_right" = true)
    (k39 : PySem.W.keepIn K (.ref f39) = true)
    (a40 : PySem.W.nsIn K mainGlobals "_law_are_ends_right" = some (some (.ref f40)))
    (l40 : K.lookup f40 = some ⟨oc40, od40, .func (PySem.W.fnOf "_law_are_ends_right" "_law_are_ends_right" (defArgs s_law_are_ends_right) (defBody s_law_are_ends_right) (defScope s_law_are_ends_right) .none kV40 dc40 pm40 an40 cd40 ct40), sl40⟩)
    (c40 : PySem.W.codeIn K cd40 "_law_are_ends_right" = true)
    (k40 : PySem.W.keepIn K (.ref f40) = true)
    (a41 : PySem.W.nsIn K mainGlobals "_law_right" = some (some (.ref f41)))
    (l41 : K.lookup f41 = some ⟨oc41, od41, .func (PySem.W.fnOf "_law_right" "_law_right" (defArgs s_law_right) (defBody s_law_right) (defScope s_law_right) .none kV41 dc41 pm41 an41 cd41 ct41), sl41⟩)
    (c41 : PySem.W.codeIn K cd41 "_law_right" = true)
    (k41 : PySem.W.keepIn K (.ref f41) = true)
    (a42 : PySem.W.nsIn K mainGlobals "law" = some (some (.ref f42)))
    (l42 : K.lookup f42 = some ⟨oc42, od42, .func (PySem.W.fnOf "law" "law" (defArgs s_law) (defBody s_law) (defScope s_law) .none kV42 dc42 pm42 an42 cd42 ct42), sl42⟩)
    (c42 : PySem.W.codeIn K cd42 "law" = true)
    (k42 : PySem.W.keepIn K (.ref f42) = true)
    (z_isinstance : PySem.W.nsIn K mainGlobals "isinstance" = some none)
    (z_int : PySem.W.nsIn K mainGlobals "int" = some none)
    (z_bool : PySem.W.nsIn K mainGlobals "bool" = some none)
    (z_zip : PySem.W.nsIn K mainGlobals "zip" = some none)
    (z_tuple : PySem.W.nsIn K mainGlobals "tuple" = some none)
    (z_len : PySem.W.nsIn K mainGlobals "len" = some none)
    (z_all : PySem.W.nsIn K mainGlobals "all" = some none)
    (z_sum : PySem.W.nsIn K mainGlobals "sum" = some none)
    (z_abs : PySem.W.nsIn K mainGlobals "abs" = some none)
    (z_divmod : PySem.W.nsIn K mainGlobals "divmod" = some none)
    (z_range : PySem.W.nsIn K mainGlobals "range" = some none)
    (z_str : PySem.W.nsIn K mainGlobals "str" = some none)
    (z_list : PySem.W.nsIn K mainGlobals "list" = some none)
    (z_repr : PySem.W.nsIn K mainGlobals "repr" = some none)
    (z_max : PySem.W.nsIn K mainGlobals "max" = some none)
    (z_min : PySem.W.nsIn K mainGlobals "min" = some none)
    (y_gcd : PySem.W.nsIn K mainGlobals "gcd" = some (some (.builtin "math.gcd")))
    (ca0l : K.lookup ca0 = some ⟨.type "tuple", ca0d, .seq ([.int 0 tk1, .int 1 tk2] : List Value).toArray ca0n, ca0s⟩)
    (x_NOUGHT : PySem.W.nsIn K mainGlobals "NOUGHT" = some (some (.ref ca0)))
    (ca3l : K.lookup ca3 = some ⟨.type "tuple", ca3d, .seq ([.int 1 tk4, .int 1 tk5] : List Value).toArray ca3n, ca3s⟩)
    (x_ONE : PySem.W.nsIn K mainGlobals "ONE" = some (some (.ref ca3))) : ∃ (A : Nat → Addr) (Fd : Nat → FuncData), Txt K mg A Fd ∧ Bn mg ∧ ∀ (s : Shared) (u : Value), BindsTo s (Fd 42) ⟨[u], []⟩ [("_law_script", u)] := by
  have F0 := fun_mk (st := s_is_whole) l0 c0 k0
  have F1 := fun_mk (st := s_reduced) l1 c1 k1
  have F2 := fun_mk (st := s_plus) l2 c2 k2
  have F3 := fun_mk (st := s_negative) l3 c3 k3
  have F4 := fun_mk (st := s_minus) l4 c4 k4
  have F5 := fun_mk (st := s_times) l5 c5 k5
  have F6 := fun_mk (st := s_dot) l6 c6 k6
  have F7 := fun_mk (st := s_is_fraction) l7 c7 k7
  have F8 := fun_mk (st := s_is_row) l8 c8 k8
  have F9 := fun_mk (st := s_is_heading) l9 c9 k9
  have F10 := fun_mk (st := s_check_heading) l10 c10 k10
  have F11 := fun_mk (st := s_is_wave) l11 c11 k11
  have F12 := fun_mk (st := s_wave_at) l12 c12 k12
  have F13 := fun_mk (st := s_check_wave) l13 c13 k13
  have F14 := fun_mk (st := s_doubled) l14 c14 k14
  have F15 := fun_mk (st := s_law_store) l15 c15 k15
  have F16 := fun_mk (st := s_law_take) l16 c16 k16
  have F17 := fun_mk (st := s_law_of) l17 c17 k17
  have F18 := fun_mk (st := s_law_frac) l18 c18 k18
  have F19 := fun_mk (st := s_law_add) l19 c19 k19
  have F20 := fun_mk (st := s_law_sub) l20 c20 k20
  have F21 := fun_mk (st := s_law_mul) l21 c21 k21
  have F22 := fun_mk (st := s_law_div) l22 c22 k22
  have F23 := fun_mk (st := s_law_total) l23 c23 k23
  have F24 := fun_mk (st := s_law_low) l24 c24 k24
  have F25 := fun_mk (st := s_law_part) l25 c25 k25
  have F26 := fun_mk (st := s_law_heading_of) l26 c26 k26
  have F27 := fun_mk (st := s_law_half) l27 c27 k27
  have F28 := fun_mk (st := s_law_heading) l28 c28 k28
  have F29 := fun_mk (st := s_law_flipped) l29 c29 k29
  have F30 := fun_mk (st := s_law_worth) l30 c30 k30
  have F31 := fun_mk (st := s_law_chord) l31 c31 k31
  have F32 := fun_mk (st := s_law_product) l32 c32 k32
  have F33 := fun_mk (st := s_law_wave) l33 c33 k33
  have F34 := fun_mk (st := s_law_is_whole) l34 c34 k34
  have F35 := fun_mk (st := s_law_is_frac) l35 c35 k35
  have F36 := fun_mk (st := s_law_are_fracs) l36 c36 k36
  have F37 := fun_mk (st := s_law_strange) l37 c37 k37
  have F38 := fun_mk (st := s_law_bent) l38 c38 k38
  have F39 := fun_mk (st := s_law_are_forms_right) l39 c39 k39
  have F40 := fun_mk (st := s_law_are_ends_right) l40 c40 k40
  have F41 := fun_mk (st := s_law_right) l41 c41 k41
  have F42 := fun_mk (st := s_law) l42 c42 k42
  refine ⟨fun i => [f0, f1, f2, f3, f4, f5, f6, f7, f8, f9, f10, f11, f12, f13, f14, f15, f16, f17, f18, f19, f20, f21, f22, f23, f24, f25, f26, f27, f28, f29, f30, f31, f32, f33, f34, f35, f36, f37, f38, f39, f40, f41, f42].getD i 0, fun i => [PySem.W.fnOf "is_whole" "is_whole" (defArgs s_is_whole) (defBody s_is_whole) (defScope s_is_whole) .none kV0 dc0 pm0 an0 cd0 ct0, PySem.W.fnOf "reduced" "reduced" (defArgs s_reduced) (defBody s_reduced) (defScope s_reduced) .none kV1 dc1 pm1 an1 cd1 ct1, PySem.W.fnOf "plus" "plus" (defArgs s_plus) (defBody s_plus) (defScope s_plus) .none kV2 dc2 pm2 an2 cd2 ct2, PySem.W.fnOf "negative" "negative" (defArgs s_negative) (defBody s_negative) (defScope s_negative) .none kV3 dc3 pm3 an3 cd3 ct3, PySem.W.fnOf "minus" "minus" (defArgs s_minus) (defBody s_minus) (defScope s_minus) .none kV4 dc4 pm4 an4 cd4 ct4, PySem.W.fnOf "times" "times" (defArgs s_times) (defBody s_times) (defScope s_times) .none kV5 dc5 pm5 an5 cd5 ct5, PySem.W.fnOf "dot" "dot" (defArgs s_dot) (defBody s_dot) (defScope s_dot) .none kV6 dc6 pm6 an6 cd6 ct6, PySem.W.fnOf "is_fraction" "is_fraction" (defArgs s_is_fraction) (defBody s_is_fraction) (defScope s_is_fraction) .none kV7 dc7 pm7 an7 cd7 ct7, PySem.W.fnOf "is_row" "is_row" (defArgs s_is_row) (defBody s_is_row) (defScope s_is_row) .none kV8 dc8 pm8 an8 cd8 ct8, PySem.W.fnOf "is_heading" "is_heading" (defArgs s_is_heading) (defBody s_is_heading) (defScope s_is_heading) .none kV9 dc9 pm9 an9 cd9 ct9, PySem.W.fnOf "check_heading" "check_heading" (defArgs s_check_heading) (defBody s_check_heading) (defScope s_check_heading) .none kV10 dc10 pm10 an10 cd10 ct10, PySem.W.fnOf "is_wave" "is_wave" (defArgs s_is_wave) (defBody s_is_wave) (defScope s_is_wave) .none kV11 dc11 pm11 an11 cd11 ct11, PySem.W.fnOf "wave_at" "wave_at" (defArgs s_wave_at) (defBody s_wave_at) (defScope s_wave_at) .none kV12 dc12 pm12 an12 cd12 ct12, PySem.W.fnOf "check_wave" "check_wave" (defArgs s_check_wave) (defBody s_check_wave) (defScope s_check_wave) .none kV13 dc13 pm13 an13 cd13 ct13, PySem.W.fnOf "_doubled" "_doubled" (defArgs s_doubled) (defBody s_doubled) (defScope s_doubled) .none kV14 dc14 pm14 an14 cd14 ct14, PySem.W.fnOf "_law_store" "_law_store" (defArgs s_law_store) (defBody s_law_store) (defScope s_law_store) .none kV15 dc15 pm15 an15 cd15 ct15, PySem.W.fnOf "_law_take" "_law_take" (defArgs s_law_take) (defBody s_law_take) (defScope s_law_take) .none kV16 dc16 pm16 an16 cd16 ct16, PySem.W.fnOf "_law_of" "_law_of" (defArgs s_law_of) (defBody s_law_of) (defScope s_law_of) .none kV17 dc17 pm17 an17 cd17 ct17, PySem.W.fnOf "_law_frac" "_law_frac" (defArgs s_law_frac) (defBody s_law_frac) (defScope s_law_frac) .none kV18 dc18 pm18 an18 cd18 ct18, PySem.W.fnOf "_law_add" "_law_add" (defArgs s_law_add) (defBody s_law_add) (defScope s_law_add) .none kV19 dc19 pm19 an19 cd19 ct19, PySem.W.fnOf "_law_sub" "_law_sub" (defArgs s_law_sub) (defBody s_law_sub) (defScope s_law_sub) .none kV20 dc20 pm20 an20 cd20 ct20, PySem.W.fnOf "_law_mul" "_law_mul" (defArgs s_law_mul) (defBody s_law_mul) (defScope s_law_mul) .none kV21 dc21 pm21 an21 cd21 ct21, PySem.W.fnOf "_law_div" "_law_div" (defArgs s_law_div) (defBody s_law_div) (defScope s_law_div) .none kV22 dc22 pm22 an22 cd22 ct22, PySem.W.fnOf "_law_total" "_law_total" (defArgs s_law_total) (defBody s_law_total) (defScope s_law_total) .none kV23 dc23 pm23 an23 cd23 ct23, PySem.W.fnOf "_law_low" "_law_low" (defArgs s_law_low) (defBody s_law_low) (defScope s_law_low) .none kV24 dc24 pm24 an24 cd24 ct24, PySem.W.fnOf "_law_part" "_law_part" (defArgs s_law_part) (defBody s_law_part) (defScope s_law_part) .none kV25 dc25 pm25 an25 cd25 ct25, PySem.W.fnOf "_law_heading_of" "_law_heading_of" (defArgs s_law_heading_of) (defBody s_law_heading_of) (defScope s_law_heading_of) .none kV26 dc26 pm26 an26 cd26 ct26, PySem.W.fnOf "_law_half" "_law_half" (defArgs s_law_half) (defBody s_law_half) (defScope s_law_half) .none kV27 dc27 pm27 an27 cd27 ct27, PySem.W.fnOf "_law_heading" "_law_heading" (defArgs s_law_heading) (defBody s_law_heading) (defScope s_law_heading) .none kV28 dc28 pm28 an28 cd28 ct28, PySem.W.fnOf "_law_flipped" "_law_flipped" (defArgs s_law_flipped) (defBody s_law_flipped) (defScope s_law_flipped) .none kV29 dc29 pm29 an29 cd29 ct29, PySem.W.fnOf "_law_worth" "_law_worth" (defArgs s_law_worth) (defBody s_law_worth) (defScope s_law_worth) .none kV30 dc30 pm30 an30 cd30 ct30, PySem.W.fnOf "_law_chord" "_law_chord" (defArgs s_law_chord) (defBody s_law_chord) (defScope s_law_chord) .none kV31 dc31 pm31 an31 cd31 ct31, PySem.W.fnOf "_law_product" "_law_product" (defArgs s_law_product) (defBody s_law_product) (defScope s_law_product) .none kV32 dc32 pm32 an32 cd32 ct32, PySem.W.fnOf "_law_wave" "_law_wave" (defArgs s_law_wave) (defBody s_law_wave) (defScope s_law_wave) .none kV33 dc33 pm33 an33 cd33 ct33, PySem.W.fnOf "_law_is_whole" "_law_is_whole" (defArgs s_law_is_whole) (defBody s_law_is_whole) (defScope s_law_is_whole) .none kV34 dc34 pm34 an34 cd34 ct34, PySem.W.fnOf "_law_is_frac" "_law_is_frac" (defArgs s_law_is_frac) (defBody s_law_is_frac) (defScope s_law_is_frac) .none kV35 dc35 pm35 an35 cd35 ct35, PySem.W.fnOf "_law_are_fracs" "_law_are_fracs" (defArgs s_law_are_fracs) (defBody s_law_are_fracs) (defScope s_law_are_fracs) .none kV36 dc36 pm36 an36 cd36 ct36, PySem.W.fnOf "_law_strange" "_law_strange" (defArgs s_law_strange) (defBody s_law_strange) (defScope s_law_strange) .none kV37 dc37 pm37 an37 cd37 ct37, PySem.W.fnOf "_law_bent" "_law_bent" (defArgs s_law_bent) (defBody s_law_bent) (defScope s_law_bent) .none kV38 dc38 pm38 an38 cd38 ct38, PySem.W.fnOf "_law_are_forms_right" "_law_are_forms_right" (defArgs s_law_are_forms_right) (defBody s_law_are_forms_right) (defScope s_law_are_forms_right) .none kV39 dc39 pm39 an39 cd39 ct39, PySem.W.fnOf "_law_are_ends_right" "_law_are_ends_right" (defArgs s_law_are_ends_right) (defBody s_law_are_ends_right) (defScope s_law_are_ends_right) .none kV40 dc40 pm40 an40 cd40 ct40, PySem.W.fnOf "_law_right" "_law_right" (defArgs s_law_right) (defBody s_law_right) (defScope s_law_right) .none kV41 dc41 pm41 an41 cd41 ct41, PySem.W.fnOf "law" "law" (defArgs s_law) (defBody s_law) (defScope s_law) .none kV42 dc42 pm42 an42 cd42 ct42].getD i (PySem.W.fnOf "law" "law" (defArgs s_law) (defBody s_law) (defScope s_law) .none kV42 dc42 pm42 an42 cd42 ct42), ?_, ?_, fun s u => .of_eq rfl⟩
  · exact {
      f_is_whole := F0, g_is_whole := PySem.W.mg_of X G a0, kp_is_whole := k0
      t_is_whole := F0.binds (ps := p_is_whole) fun _ _ _ _ _ _ us hl => match us, hl with | [_], _ => rfl
      f_reduced := F1, g_reduced := PySem.W.mg_of X G a1, kp_reduced := k1
      t_reduced := F1.binds (ps := p_reduced) fun _ _ _ _ _ _ us hl => match us, hl with | [_, _], _ => rfl
      f_plus := F2, g_plus := PySem.W.mg_of X G a2, kp_plus := k2
      t_plus := F2.binds (ps := p_plus) fun _ _ _ _ _ _ us hl => match us, hl with | [_, _], _ => rfl
      f_negative := F3, g_negative := PySem.W.mg_of X G a3, kp_negative := k3
      t_negative := F3.binds (ps := p_negative) fun _ _ _ _ _ _ us hl => match us, hl with | [_], _ => rfl
      f_minus := F4, g_minus := PySem.W.mg_of X G a4, kp_minus := k4
      t_minus := F4.binds (ps := p_minus) fun _ _ _ _ _ _ us hl => match us, hl with | [_, _], _ => rfl
      f_times := F5, g_times := PySem.W.mg_of X G a5, kp_times := k5
      t_times := F5.binds (ps := p_times) fun _ _ _ _ _ _ us hl => match us, hl with | [_, _], _ => rfl
      f_dot := F6, g_dot := PySem.W.mg_of X G a6, kp_dot := k6
      t_dot := F6.binds (ps := p_dot) fun _ _ _ _ _ _ us hl => match us, hl with | [_, _], _ => rfl
      f_is_fraction := F7, g_is_fraction := PySem.W.mg_of X G a7, kp_is_fraction := k7
      t_is_fraction := F7.binds (ps := p_is_fraction) fun _ _ _ _ _ _ us hl => match us, hl with | [_], _ => rfl
      f_is_row := F8, g_is_row := PySem.W.mg_of X G a8, kp_is_row := k8
      t_is_row := F8.binds (ps := p_is_row) fun _ _ _ _ _ _ us hl => match us, hl with | [_, _], _ => rfl
      f_is_heading := F9, g_is_heading := PySem.W.mg_of X G a9, kp_is_heading := k9
      t_is_heading := F9.binds (ps := p_is_heading) fun _ _ _ _ _ _ us hl => match us, hl with | [_], _ => rfl
      f_check_heading := F10, g_check_heading := PySem.W.mg_of X G a10, kp_check_heading := k10
      t_check_heading := F10.binds (ps := p_check_heading) fun _ _ _ _ _ _ us hl => match us, hl with | [_], _ => rfl
      f_is_wave := F11, g_is_wave := PySem.W.mg_of X G a11, kp_is_wave := k11
      t_is_wave := F11.binds (ps := p_is_wave) fun _ _ _ _ _ _ us hl => match us, hl with | [_], _ => rfl
      f_wave_at := F12, g_wave_at := PySem.W.mg_of X G a12, kp_wave_at := k12
      t_wave_at := F12.binds (ps := p_wave_at) fun _ _ _ _ _ _ us hl => match us, hl with | [_, _], _ => rfl
      f_check_wave := F13, g_check_wave := PySem.W.mg_of X G a13, kp_check_wave := k13
      t_check_wave := F13.binds (ps := p_check_wave) fun _ _ _ _ _ _ us hl => match us, hl with | [_], _ => rfl
      f_doubled := F14, g_doubled := PySem.W.mg_of X G a14, kp_doubled := k14
      t_doubled := F14.binds (ps := p_doubled) fun _ _ _ _ _ _ us hl => match us, hl with | [_], _ => rfl
      f_law_store := F15, g_law_store := PySem.W.mg_of X G a15, kp_law_store := k15
      t_law_store := F15.binds (ps := p_law_store) fun _ _ _ _ _ _ us hl => match us, hl with | [_, _], _ => rfl
      f_law_take := F16, g_law_take := PySem.W.mg_of X G a16, kp_law_take := k16
      t_law_take := F16.binds (ps := p_law_take) fun _ _ _ _ _ _ us hl => match us, hl with | [_, _], _ => rfl
      f_law_of := F17, g_law_of := PySem.W.mg_of X G a17, kp_law_of := k17
      t_law_of := F17.binds (ps := p_law_of) fun _ _ _ _ _ _ us hl => match us, hl with | [_, _], _ => rfl
      f_law_frac := F18, g_law_frac := PySem.W.mg_of X G a18, kp_law_frac := k18
      t_law_frac := F18.binds (ps := p_law_frac) fun _ _ _ _ _ _ us hl => match us, hl with | [_, _], _ => rfl
      f_law_add := F19, g_law_add := PySem.W.mg_of X G a19, kp_law_add := k19
      t_law_add := F19.binds (ps := p_law_add) fun _ _ _ _ _ _ us hl => match us, hl with | [_, _], _ => rfl
      f_law_sub := F20, g_law_sub := PySem.W.mg_of X G a20, kp_law_sub := k20
      t_law_sub := F20.binds (ps := p_law_sub) fun _ _ _ _ _ _ us hl => match us, hl with | [_, _], _ => rfl
      f_law_mul := F21, g_law_mul := PySem.W.mg_of X G a21, kp_law_mul := k21
      t_law_mul := F21.binds (ps := p_law_mul) fun _ _ _ _ _ _ us hl => match us, hl with | [_, _], _ => rfl
      f_law_div := F22, g_law_div := PySem.W.mg_of X G a22, kp_law_div := k22
      t_law_div := F22.binds (ps := p_law_div) fun _ _ _ _ _ _ us hl => match us, hl with | [_, _], _ => rfl
      f_law_total := F23, g_law_total := PySem.W.mg_of X G a23, kp_law_total := k23
      t_law_total := F23.binds (ps := p_law_total) fun _ _ _ _ _ _ us hl => match us, hl with | [_], _ => rfl
      f_law_low := F24, g_law_low := PySem.W.mg_of X G a24, kp_law_low := k24
      t_law_low := F24.binds (ps := p_law_low) fun _ _ _ _ _ _ us hl => match us, hl with | [_], _ => rfl
      f_law_part := F25, g_law_part := PySem.W.mg_of X G a25, kp_law_part := k25
      t_law_part := F25.binds (ps := p_law_part) fun _ _ _ _ _ _ us hl => match us, hl with | [_], _ => rfl
      f_law_heading_of := F26, g_law_heading_of := PySem.W.mg_of X G a26, kp_law_heading_of := k26
      t_law_heading_of := F26.binds (ps := p_law_heading_of) fun _ _ _ _ _ _ us hl => match us, hl with | [_], _ => rfl
      f_law_half := F27, g_law_half := PySem.W.mg_of X G a27, kp_law_half := k27
      t_law_half := F27.binds (ps := p_law_half) fun _ _ _ _ _ _ us hl => match us, hl with | [_], _ => rfl
      f_law_heading := F28, g_law_heading := PySem.W.mg_of X G a28, kp_law_heading := k28
      t_law_heading := F28.binds (ps := p_law_heading) fun _ _ _ _ _ _ us hl => match us, hl with | [_], _ => rfl
      f_law_flipped := F29, g_law_flipped := PySem.W.mg_of X G a29, kp_law_flipped := k29
      t_law_flipped := F29.binds (ps := p_law_flipped) fun _ _ _ _ _ _ us hl => match us, hl with | [_], _ => rfl
      f_law_worth := F30, g_law_worth := PySem.W.mg_of X G a30, kp_law_worth := k30
      t_law_worth := F30.binds (ps := p_law_worth) fun _ _ _ _ _ _ us hl => match us, hl with | [_, _], _ => rfl
      f_law_chord := F31, g_law_chord := PySem.W.mg_of X G a31, kp_law_chord := k31
      t_law_chord := F31.binds (ps := p_law_chord) fun _ _ _ _ _ _ us hl => match us, hl with | [_, _], _ => rfl
      f_law_product := F32, g_law_product := PySem.W.mg_of X G a32, kp_law_product := k32
      t_law_product := F32.binds (ps := p_law_product) fun _ _ _ _ _ _ us hl => match us, hl with | [_, _], _ => rfl
      f_law_wave := F33, g_law_wave := PySem.W.mg_of X G a33, kp_law_wave := k33
      t_law_wave := F33.binds (ps := p_law_wave) fun _ _ _ _ _ _ us hl => match us, hl with | [_], _ => rfl
      f_law_is_whole := F34, g_law_is_whole := PySem.W.mg_of X G a34, kp_law_is_whole := k34
      t_law_is_whole := F34.binds (ps := p_law_is_whole) fun _ _ _ _ _ _ us hl => match us, hl with | [_], _ => rfl
      f_law_is_frac := F35, g_law_is_frac := PySem.W.mg_of X G a35, kp_law_is_frac := k35
      t_law_is_frac := F35.binds (ps := p_law_is_frac) fun _ _ _ _ _ _ us hl => match us, hl with | [_], _ => rfl
      f_law_are_fracs := F36, g_law_are_fracs := PySem.W.mg_of X G a36, kp_law_are_fracs := k36
      t_law_are_fracs := F36.binds (ps := p_law_are_fracs) fun _ _ _ _ _ _ us hl => match us, hl with | [_, _], _ => rfl
      f_law_strange := F37, g_law_strange := PySem.W.mg_of X G a37, kp_law_strange := k37
      t_law_strange := F37.binds (ps := p_law_strange) fun _ _ _ _ _ _ us hl => match us, hl with | [_], _ => rfl
      f_law_bent := F38, g_law_bent := PySem.W.mg_of X G a38, kp_law_bent := k38
      t_law_bent := F38.binds (ps := p_law_bent) fun _ _ _ _ _ _ us hl => match us, hl with | [_, _], _ => rfl
      f_law_are_forms_right := F39, g_law_are_forms_right := PySem.W.mg_of X G a39, kp_law_are_forms_right := k39
      t_law_are_forms_right := F39.binds (ps := p_law_are_forms_right) fun _ _ _ _ _ _ us hl => match us, hl with | [_, _], _ => rfl
      f_law_are_ends_right := F40, g_law_are_ends_right := PySem.W.mg_of X G a40, kp_law_are_ends_right := k40
      t_law_are_ends_right := F40.binds (ps := p_law_are_ends_right) fun _ _ _ _ _ _ us hl => match us, hl with | [_], _ => rfl
      f_law_right := F41, g_law_right := PySem.W.mg_of X G a41, kp_law_right := k41
      t_law_right := F41.binds (ps := p_law_right) fun _ _ _ _ _ _ us hl => match us, hl with | [_], _ => rfl
      f_law := F42, g_law := PySem.W.mg_of X G a42, kp_law := k42
      t_law := F42.binds (ps := p_law) fun _ _ _ _ _ _ us hl => match us, hl with | [_], _ => rfl
      w_is_wave_0 := kw_is_wave_0 F11
      w_wave_at_1_0 := kw_wave_at_1_0 F12
      b_isinstance := PySem.W.mg_none_of X G z_isinstance
      b_int := PySem.W.mg_none_of X G z_int
      b_bool := PySem.W.mg_none_of X G z_bool
      b_zip := PySem.W.mg_none_of X G z_zip
      b_tuple := PySem.W.mg_none_of X G z_tuple
      b_len := PySem.W.mg_none_of X G z_len
      b_all := PySem.W.mg_none_of X G z_all
      b_sum := PySem.W.mg_none_of X G z_sum
      b_abs := PySem.W.mg_none_of X G z_abs
      b_divmod := PySem.W.mg_none_of X G z_divmod
      b_range := PySem.W.mg_none_of X G z_range
      b_str := PySem.W.mg_none_of X G z_str
      b_list := PySem.W.mg_none_of X G z_list
      b_repr := PySem.W.mg_none_of X G z_repr
      b_max := PySem.W.mg_none_of X G z_max
      b_min := PySem.W.mg_none_of X G z_min
      m_gcd := PySem.W.mg_of X G y_gcd
      u_NOUGHT := ⟨_, PySem.W.mg_of X G x_NOUGHT, (krp_tup ca0l ⟨krp_int, ⟨krp_int, True.intro⟩⟩ (Nat.le_of_ble_eq_true rfl))⟩
      u_ONE := ⟨_, PySem.W.mg_of X G x_ONE, (krp_tup ca3l ⟨krp_int, ⟨krp_int, True.intro⟩⟩ (Nat.le_of_ble_eq_true rfl))⟩
    }
  · exact ⟨PySem.W.mg_none_of X G z_len, PySem.W.mg_none_of X G z_sum, PySem.W.mg_none_of X G z_int, PySem.W.mg_none_of X G z_abs, PySem.W.mg_none_of X G z_all, PySem.W.mg_none_of X G z_min, PySem.W.mg_none_of X G z_max, PySem.W.mg_none_of X G z_range⟩
end K34

open PySem PySem.W PyProof.Rows in
set_option maxRecDepth 100000 in
set_option maxHeartbeats 0 in
theorem PySem.Challenge.cw_ironships_k34_waves_known_and_worth_holds : PySem.Challenge.rw_ironships_k34_waves_known_and_worth.Holds := by
  w_on; o_law; k_head; (case hw => w_witness2)
  k_fill
  refine Dx.lawG (l := PySem.Challenge.rw_ironships_k34_waves_known_and_worth) (n := 63) (k := 10) (x := "_law_script") (CX := L2.CX0) (sp := K34.spLaw) rfl (by decide) rfl ⟨rfl, by decide, by decide⟩ (fun w h Y => PySem.W.kIn_of Y) ?F (fun K H a ns hl hO hS => ⟨a, ns, rfl, hS, hl, fun _ => rfl⟩) (fun _ _ _ _ z => z)
  case F =>
    intro w mg fa h KX G hmg
    have Z : ∃ (A : Nat → Addr) (Fd : Nat → FuncData), K34.Txt (L2.KOf KX) mg A Fd ∧ K34.Bn mg ∧ ∀ (s : Shared) (u : Value), BindsTo s (Fd 42) ⟨[u], []⟩ [("_law_script", u)] := by
      refine' (K34.txt_mk KX G ?a0 ?l0 ?c0 ?k0 ?a1 ?l1 ?c1 ?k1 ?a2 ?l2 ?c2 ?k2 ?a3 ?l3 ?c3 ?k3 ?a4 ?l4 ?c4 ?k4 ?a5 ?l5 ?c5 ?k5 ?a6 ?l6 ?c6 ?k6 ?a7 ?l7 ?c7 ?k7 ?a8 ?l8 ?c8 ?k8 ?a9 ?l9 ?c9 ?k9 ?a10 ?l10 ?c10 ?k10 ?a11 ?l11 ?c11 ?k11 ?a12 ?l12 ?c12 ?k12 ?a13 ?l13 ?c13 ?k13 ?a14 ?l14 ?c14 ?k14 ?a15 ?l15 ?c15 ?k15 ?a16 ?l16 ?c16 ?k16 ?a17 ?l17 ?c17 ?k17 ?a18 ?l18 ?c18 ?k18 ?a19 ?l19 ?c19 ?k19 ?a20 ?l20 ?c20 ?k20 ?a21 ?l21 ?c21 ?k21 ?a22 ?l22 ?c22 ?k22 ?a23 ?l23 ?c23 ?k23 ?a24 ?l24 ?c24 ?k24 ?a25 ?l25 ?c25 ?k25 ?a26 ?l26 ?c26 ?k26 ?a27 ?l27 ?c27 ?k27 ?a28 ?l28 ?c28 ?k28 ?a29 ?l29 ?c29 ?k29 ?a30 ?l30 ?c30 ?k30 ?a31 ?l31 ?c31 ?k31 ?a32 ?l32 ?c32 ?k32 ?a33 ?l33 ?c33 ?k33 ?a34 ?l34 ?c34 ?k34 ?a35 ?l35 ?c35 ?k35 ?a36 ?l36 ?c36 ?k36 ?a37 ?l37 ?c37 ?k37 ?a38 ?l38 ?c38 ?k38 ?a39 ?l39 ?c39 ?k39 ?a40 ?l40 ?c40 ?k40 ?a41 ?l41 ?c41 ?k41 ?a42 ?l42 ?c42 ?k42 ?z_isinstance ?z_int ?z_bool ?z_zip ?z_tuple ?z_len ?z_all ?z_sum ?z_abs ?z_divmod ?z_range ?z_str ?z_list ?z_repr ?z_max ?z_min ?y_gcd ?ca0l ?x_NOUGHT ?ca3l ?x_ONE : _)
      (case a0 => k_is)
      (case l0 => k_is)
      (case c0 => k_is)
      (case k0 => k_is)
      (case a1 => k_is)
      (case l1 => k_is)
      (case c1 => k_is)
      (case k1 => k_is)
      (case a2 => k_is)
      (case l2 => k_is)
      (case c2 => k_is)
      (case k2 => k_is)
      (case a3 => k_is)
      (case l3 => k_is)
      (case c3 => k_is)
      (case k3 => k_is)
      (case a4 => k_is)
      (case l4 => k_is)
      (case c4 => k_is)
      (case k4 => k_is)
      (case a5 => k_is)
      (case l5 => k_is)
      (case c5 => k_is)
      (case k5 => k_is)
      (case a6 => k_is)
      (case l6 => k_is)
      (case c6 => k_is)
      (case k6 => k_is)
      (case a7 => k_is)
      (case l7 => k_is)
      (case c7 => k_is)
      (case k7 => k_is)
      (case a8 => k_is)
      (case l8 => k_is)
      (case c8 => k_is)
      (case k8 => k_is)
      (case a9 => k_is)
      (case l9 => k_is)
      (case c9 => k_is)
      (case k9 => k_is)
      (case a10 => k_is)
      (case l10 => k_is)
      (case c10 => k_is)
      (case k10 => k_is)
      (case a11 => k_is)
      (case l11 => k_is)
      (case c11 => k_is)
      (case k11 => k_is)
      (case a12 => k_is)
      (case l12 => k_is)
      (case c12 => k_is)
      (case k12 => k_is)
      (case a13 => k_is)
      (case l13 => k_is)
      (case c13 => k_is)
      (case k13 => k_is)
      (case a14 => k_is)
      (case l14 => k_is)
      (case c14 => k_is)
      (case k14 => k_is)
      (case a15 => k_is)
      (case l15 => k_is)
      (case c15 => k_is)
      (case k15 => k_is)
      (case a16 => k_is)
      (case l16 => k_is)
      (case c16 => k_is)
      (case k16 => k_is)
      (case a17 => k_is)
      (case l17 => k_is)
      (case c17 => k_is)
      (case k17 => k_is)
      (case a18 => k_is)
      (case l18 => k_is)
      (case c18 => k_is)
      (case k18 => k_is)
      (case a19 => k_is)
      (case l19 => k_is)
      (case c19 => k_is)
      (case k19 => k_is)
      (case a20 => k_is)
      (case l20 => k_is)
      (case c20 => k_is)
      (case k20 => k_is)
      (case a21 => k_is)
      (case l21 => k_is)
      (case c21 => k_is)
      (case k21 => k_is)
      (case a22 => k_is)
      (case l22 => k_is)
      (case c22 => k_is)
      (case k22 => k_is)
      (case a23 => k_is)
      (case l23 => k_is)
      (case c23 => k_is)
      (case k23 => k_is)
      (case a24 => k_is)
      (case l24 => k_is)
      (case c24 => k_is)
      (case k24 => k_is)
      (case a25 => k_is)
      (case l25 => k_is)
      (case c25 => k_is)
      (case k25 => k_is)
      (case a26 => k_is)
      (case l26 => k_is)
      (case c26 => k_is)
      (case k26 => k_is)
      (case a27 => k_is)
      (case l27 => k_is)
      (case c27 => k_is)
      (case k27 => k_is)
      (case a28 => k_is)
      (case l28 => k_is)
      (case c28 => k_is)
      (case k28 => k_is)
      (case a29 => k_is)
      (case l29 => k_is)
      (case c29 => k_is)
      (case k29 => k_is)
      (case a30 => k_is)
      (case l30 => k_is)
      (case c30 => k_is)
      (case k30 => k_is)
      (case a31 => k_is)
      (case l31 => k_is)
      (case c31 => k_is)
      (case k31 => k_is)
      (case a32 => k_is)
      (case l32 => k_is)
      (case c32 => k_is)
      (case k32 => k_is)
      (case a33 => k_is)
      (case l33 => k_is)
      (case c33 => k_is)
      (case k33 => k_is)
      (case a34 => k_is)
      (case l34 => k_is)
      (case c34 => k_is)
      (case k34 => k_is)
      (case a35 => k_is)
      (case l35 => k_is)
      (case c35 => k_is)
      (case k35 => k_is)
      (case a36 => k_is)
      (case l36 => k_is)
      (case c36 => k_is)
      (case k36 => k_is)
      (case a37 => k_is)
      (case l37 => k_is)
      (case c37 => k_is)
      (case k37 => k_is)
      (case a38 => k_is)
      (case l38 => k_is)
      (case c38 => k_is)
      (case k38 => k_is)
      (case a39 => k_is)
      (case l39 => k_is)
      (case c39 => k_is)
      (case k39 => k_is)
      (case a40 => k_is)
      (case l40 => k_is)
      (case c40 => k_is)
      (case k40 => k_is)
      (case a41 => k_is)
      (case l41 => k_is)
      (case c41 => k_is)
      (case k41 => k_is)
      (case a42 => k_is)
      (case l42 => k_is)
      (case c42 => k_is)
      (case k42 => k_is)
      (case z_isinstance => k_is)
      (case z_int => k_is)
      (case z_bool => k_is)
      (case z_zip => k_is)
      (case z_tuple => k_is)
      (case z_len => k_is)
      (case z_all => k_is)
      (case z_sum => k_is)
      (case z_abs => k_is)
      (case z_divmod => k_is)
      (case z_range => k_is)
      (case z_str => k_is)
      (case z_list => k_is)
      (case z_repr => k_is)
      (case z_max => k_is)
      (case z_min => k_is)
      (case y_gcd => k_is)
      (case x_NOUGHT => k_is)
      (case x_ONE => k_is)
      (case ca3l => k_is)
      (case ca0l => k_is)
    obtain ⟨A, Fd, T, B, b⟩ := Z
    have e := Value.ref.inj (Option.some.inj (T.g_law.symm.trans hmg))
    subst e
    exact ⟨Fd 42, b, fun base _ _ => K34.ok_law T B K34.hR T.f_law⟩
end
