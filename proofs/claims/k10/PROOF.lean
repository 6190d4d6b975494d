import PyProof.Rows.All
import Wide.All
import OpenK.AllK
import Wide.FinOn
import HandS.ForMost
import HandS.Wide
import HandS.IsInst
import HandS.WideBits
import HandS.Sort
import HandS.SortRule
import KE.DataMinMax
import KE.SortData
import PyProof.P3Eq
import PySem.Challenge.RW_nearby_k10_colors_that_shrink
set_option Elab.async false
set_option linter.all false
set_option maxRecDepth 100000
/-! Ab: readings over plain data. A slot of the frame holds a value of known meaning; an own list grows in place. -/
namespace Ab
open PySem PySem.Spec PyProof.Rows L2

/-! ### meanings of values -/
structure AbsV where
  rep : Hp → V → Prop
  mono : ∀ {G G' : Hp} {v : V}, Same G G' → rep G v → rep G' v
theorem AbsV.ext' {r s : AbsV} (h : ∀ G v, r.rep G v ↔ s.rep G v) : r = s := by
  cases r with
  | mk a b =>
    cases s with
    | mk c d =>
      have e : a = c := funext fun G => funext fun v => propext (h G v)
      subst e
      rfl
abbrev PR (G : Hp) : List V → List AbsV → Prop := Paired fun v (r : AbsV) => r.rep G v
theorem PR.mono {G G' : Hp} (s : Same G G') : ∀ {vs : List V} {l : List AbsV}, PR G vs l → PR G' vs l
  | _, _, .nil => .nil
  | _, _, .cons h t => .cons (AbsV.mono _ s h) (PR.mono s t)
theorem PR.get {G : Hp} : ∀ {vs : List V} {l : List AbsV} {i : Nat} {r : AbsV}, PR G vs l → l[i]? = some r → ∃ v, vs[i]? = some v ∧ r.rep G v
  | _, _, i, r, .nil, h => by simp at h
  | _, _, 0, r, .cons a t, h => ⟨_, rfl, by cases (Option.some.inj h); exact a⟩
  | _, _, i + 1, r, .cons a t, h => PR.get (i := i) t h
theorem PR.get' {G : Hp} : ∀ {vs : List V} {l : List AbsV} {i : Nat} {v : V}, PR G vs l → vs[i]? = some v → ∃ r, l[i]? = some r ∧ r.rep G v
  | _, _, i, r, .nil, h => by simp at h
  | _, _, 0, r, .cons a t, h => ⟨_, rfl, by cases (Option.some.inj h); exact a⟩
  | _, _, i + 1, r, .cons a t, h => PR.get' (i := i) t h
theorem PR.append {G : Hp} : ∀ {vs ws : List V} {l m : List AbsV}, PR G vs l → PR G ws m → PR G (vs ++ ws) (l ++ m)
  | _, _, _, _, .nil, h => h
  | _, _, _, _, .cons a t, h => .cons a (PR.append t h)
theorem PR.len {G : Hp} {vs : List V} {l : List AbsV} (h : PR G vs l) : vs.length = l.length := Paired.length h
theorem PR.set {G : Hp} {r : AbsV} {v : V} (h : r.rep G v) : ∀ {vs : List V} {l : List AbsV} (i : Nat), PR G vs l → PR G (vs.set i v) (l.set i r)
  | _, _, i, .nil => .nil
  | _, _, 0, .cons a t => .cons h t
  | _, _, i + 1, .cons a t => .cons a (PR.set h i t)
theorem PR.take {G : Hp} : ∀ {vs : List V} {l : List AbsV} (n : Nat), PR G vs l → PR G (vs.take n) (l.take n)
  | _, _, 0, _ => .nil
  | _, _, n + 1, .nil => .nil
  | _, _, n + 1, .cons a t => .cons a (PR.take n t)
theorem PR.drop {G : Hp} : ∀ {vs : List V} {l : List AbsV} (n : Nat), PR G vs l → PR G (vs.drop n) (l.drop n)
  | _, _, 0, h => h
  | _, _, n + 1, .nil => .nil
  | _, _, n + 1, .cons a t => PR.drop n t
theorem PR.eraseIdx {G : Hp} : ∀ {vs : List V} {l : List AbsV} (n : Nat), PR G vs l → PR G (vs.eraseIdx n) (l.eraseIdx n)
  | _, _, _, .nil => .nil
  | _, _, 0, .cons a t => t
  | _, _, n + 1, .cons a t => .cons a (PR.eraseIdx n t)
theorem PR.reverse {G : Hp} : ∀ {vs : List V} {l : List AbsV}, PR G vs l → PR G vs.reverse l.reverse
  | _, _, .nil => .nil
  | _, _, .cons a t => by
    rw [List.reverse_cons, List.reverse_cons]
    exact (PR.reverse t).append (.cons a .nil)

def lsA (l : List AbsV) : AbsV := ⟨fun G v => ∃ p vs, v = .ref p ∧ G p = some (.lst vs) ∧ PR G vs l, fun s ⟨p, vs, e, h, r⟩ => ⟨p, vs, e, s _ _ h, r.mono s⟩⟩
def tuA (l : List AbsV) : AbsV := ⟨fun G v => ∃ p vs, v = .ref p ∧ G p = some (.tup vs) ∧ PR G vs l, fun s ⟨p, vs, e, h, r⟩ => ⟨p, vs, e, s _ _ h, r.mono s⟩⟩
/-- a flat value -/
def flA (x : V) : AbsV := ⟨fun _ v => v = x, fun _ h => h⟩
abbrev nI (n : Int) : AbsV := flA (.int n)
abbrev nB (b : Bool) : AbsV := flA (.bl b)
abbrev nS (z : Str) : AbsV := flA (.str z)
abbrev nN : AbsV := flA .non
mutual
def dat : PyData → AbsV
  | .none => nN
  | .bool b => nB b
  | .int i => nI i
  | .str z => nS z
  | .list ds => lsA (dats ds)
  | .tuple ds => tuA (dats ds)
  | .dict _ => ⟨fun _ _ => False, fun _ h => h⟩
def dats : List PyData → List AbsV
  | [] => []
  | d :: ds => dat d :: dats ds
end
theorem dats_map : ∀ ds : List PyData, dats ds = ds.map dat
  | [] => rfl
  | d :: ds => by
    show dat d :: dats ds = dat d :: ds.map dat
    rw [dats_map ds]
mutual
theorem dat_dp {K : PySem.W.Frag} {G : Hp} : ∀ (d : PyData) {v : V}, (dat d).rep G v → Dp K G v d
  | .none, _, h => by cases h; exact .non
  | .bool b, _, h => by cases h; exact .bl b
  | .int i, _, h => by cases h; exact .int i
  | .str z, _, h => by cases h; exact .str z
  | .list ds, _, h => by
    obtain ⟨p, vs, e, g, r⟩ := h
    subst e
    exact .lst (SqL.of g) (dats_dp ds r)
  | .tuple ds, _, h => by
    obtain ⟨p, vs, e, g, r⟩ := h
    subst e
    exact .tup (SqT.of g) (dats_dp ds r)
  | .dict _, _, h => h.elim
theorem dats_dp {K : PySem.W.Frag} {G : Hp} : ∀ (ds : List PyData) {vs : List V}, PR G vs (dats ds) → DpAll K G vs ds
  | [], _, h => by cases h; exact .nil
  | d :: ds, _, h => by
    cases h with
    | cons a t => exact .cons (dat_dp d a) (dats_dp ds t)
end

/-! ### slots -/
inductive Slot where
  | un
  | val (r : AbsV)
  | own (l : List AbsV)
  | red (l : List AbsV)
  | scr (ns : List Int)
def SlotOk (K : PySem.W.Frag) (B G H : Hp) : Slot → Option V → Prop
  | .un, _ => True
  | .val r, o => ∃ v, o = some v ∧ r.rep G v
  | .own l, o => ∃ p vs, o = some (.ref p) ∧ B p = none ∧ G p = none ∧ H p = some (.lst vs) ∧ PR G vs l
  | .red l, o => ∃ p vs, o = some (.ref p) ∧ B p = some (.lst vs) ∧ PR G vs l
  | .scr ns, o => ∃ p, o = some (.ref p) ∧ SqL K B p (ns.map V.int)
structure Ext (G H G' H' : Hp) : Prop where
  g : Same G G'
  h : Same H H'
  gh : Same G' H'
  n : ∀ p, H p ≠ none → G p = none → G' p = none
theorem Ext.refl {G H : Hp} (gh : Same G H) : Ext G H G H := ⟨Same.refl _, Same.refl _, gh, fun _ _ h => h⟩
theorem some_of_same {H H' : Hp} {p : Addr} (s : Same H H') (h : H p ≠ none) : H' p ≠ none := by
  cases e : H p with
  | none => exact absurd e h
  | some o => rw [s p o e]; exact fun z => by cases z
theorem Ext.trans {G H G1 H1 G2 H2 : Hp} (a : Ext G H G1 H1) (b : Ext G1 H1 G2 H2) : Ext G H G2 H2 :=
  ⟨a.g.trans b.g, a.h.trans b.h, b.gh, fun p h e => b.n p (some_of_same a.h h) (a.n p h e)⟩
/-- a new thing, at once known for good -/
theorem Ext.new {G H : Hp} {p : Addr} {o : HO} (gh : Same G H) (h : H p = none) : Ext G H (upd G p o) (upd H p o) := by
  have g : G p = none := gh.free h
  refine ⟨fun b u e => ?_, fun b u e => ?_, fun b u e => ?_, fun q hq e => ?_⟩
  · rw [upd_ne (ne_of_none e g)]; exact e
  · rw [upd_ne (ne_of_none e h)]; exact e
  · by_cases z : b = p
    · subst z; rw [upd_same] at e ⊢; exact e
    · rw [upd_ne z] at e ⊢; exact gh b u e
  · have z : q ≠ p := fun z => hq (by rw [z]; exact h)
    rw [upd_ne z]; exact e
/-- a new thing that may still change -/
theorem Ext.newO {G H : Hp} {p : Addr} {o : HO} (gh : Same G H) (h : H p = none) : Ext G H G (upd H p o) :=
  ⟨Same.refl _, fun b u e => by rw [upd_ne (ne_of_none e h)]; exact e, fun b u e => by rw [upd_ne (ne_of_none (gh b u e) h)]; exact gh b u e, fun _ _ e => e⟩
/-- what was new and may change is from now on known for good -/
theorem Ext.freeze {G H G' H' : Hp} {p : Addr} {vs : List V} (x : Ext G H G' H') (h : H p = none) (g' : G' p = none) (h' : H' p = some (.lst vs)) : Ext G H (upd G' p (.lst vs)) H' := by
  refine ⟨fun b u e => ?_, x.h, fun b u e => ?_, fun q hq e => ?_⟩
  · have e' := x.g b u e
    rw [upd_ne (ne_of_none e' g')]; exact e'
  · by_cases z : b = p
    · subst z; rw [upd_same] at e; rw [h']; exact e
    · rw [upd_ne z] at e; exact x.gh b u e
  · have z : q ≠ p := fun z => hq (by rw [z]; exact h)
    rw [upd_ne z]; exact x.n q hq e
structure OkB (B G0 G H : Hp) : Prop where
  bh : Same B H
  gh : Same G H
  g0 : Same G0 G
  nb : ∀ p, B p ≠ none → G0 p = none → G p = none
theorem OkB.ext {B G0 G H G' H' : Hp} (k : OkB B G0 G H) (x : Ext G H G' H') : OkB B G0 G' H' :=
  ⟨k.bh.trans x.h, x.gh, k.g0.trans x.g, fun p h e => x.n p (some_of_same k.bh h) (k.nb p h e)⟩
structure Ok (K : PySem.W.Frag) (B G0 : Hp) (E : List Slot) (σ : L2.St) (G H : Hp) : Prop extends OkB B G0 G H where
  sl : Paired (SlotOk K B G H) E σ
  ds : ∀ (i j : Nat) (p : Addr) (l l' : List AbsV), E[i]? = some (.own l) → E[j]? = some (.own l') → σ[i]? = some (some (.ref p)) → σ[j]? = some (some (.ref p)) → i = j
theorem P_get {α β : Type} {F : α → β → Prop} : ∀ {as : List α} {bs : List β} {i : Nat} {a : α}, Paired F as bs → as[i]? = some a → ∃ b, bs[i]? = some b ∧ F a b
  | _, _, i, r, .nil, h => by simp at h
  | _, _, 0, r, .cons a t, h => ⟨_, rfl, by cases (Option.some.inj h); exact a⟩
  | _, _, i + 1, r, .cons a t, h => P_get (i := i) t h
theorem P_set {α β : Type} {F : α → β → Prop} {a : α} {b : β} (h : F a b) : ∀ {as : List α} {bs : List β} (i : Nat), Paired F as bs → Paired F (as.set i a) (bs.set i b)
  | _, _, i, .nil => .nil
  | _, _, 0, .cons _ t => .cons h t
  | _, _, i + 1, .cons c t => .cons c (P_set h i t)
theorem P_mono {α β : Type} {F F' : α → β → Prop} (hm : ∀ a b, F a b → F' a b) : ∀ {as : List α} {bs : List β}, Paired F as bs → Paired F' as bs
  | _, _, .nil => .nil
  | _, _, .cons c t => .cons (hm _ _ c) (P_mono hm t)
theorem SlotOk.ext {K : PySem.W.Frag} {B G H G' H' : Hp} (bh : Same B H) (gh : Same G H) (x : Ext G H G' H') : ∀ (s : Slot) (o : Option V), SlotOk K B G H s o → SlotOk K B G' H' s o
  | .un, _, _ => trivial
  | .val r, _, ⟨v, e, h⟩ => ⟨v, e, r.mono x.g h⟩
  | .own l, _, ⟨p, vs, e, b, g, h, q⟩ => ⟨p, vs, e, b, x.n p (by rw [h]; exact fun z => by cases z) g, x.h _ _ h, q.mono x.g⟩
  | .red l, _, ⟨p, vs, e, b, q⟩ => ⟨p, vs, e, b, q.mono x.g⟩
  | .scr ns, _, h => h
theorem Ok.ext {K : PySem.W.Frag} {B G0 G H G' H' : Hp} {E : List Slot} {σ : L2.St} (k : Ok K B G0 E σ G H) (x : Ext G H G' H') : Ok K B G0 E σ G' H' :=
  ⟨k.toOkB.ext x, P_mono (SlotOk.ext k.bh k.gh x) k.sl, k.ds⟩
theorem P_len {α β : Type} {F : α → β → Prop} : ∀ {as : List α} {bs : List β}, Paired F as bs → as.length = bs.length
  | _, _, .nil => rfl
  | _, _, .cons _ t => congrArg (· + 1) (P_len t)
theorem P_of {α β : Type} {F : α → β → Prop} : ∀ {as : List α} {bs : List β}, as.length = bs.length → (∀ (i : Nat) (a : α) (b : β), as[i]? = some a → bs[i]? = some b → F a b) → Paired F as bs
  | [], [], _, _ => .nil
  | [], _ :: _, h, _ => by cases h
  | _ :: _, [], h, _ => by cases h
  | a :: as, b :: bs, h, q => .cons (q 0 a b rfl rfl) (P_of (Nat.succ.inj h) fun i x y hx hy => q (i + 1) x y hx hy)
/-- a slot gets a value of a known meaning, or is forgotten -/
theorem Ok.set {K : PySem.W.Frag} {B G0 G H : Hp} {E : List Slot} {σ : L2.St} {s : Slot} {o : Option V} (k : Ok K B G0 E σ G H) (i : Nat) (h : SlotOk K B G H s o) (hn : ∀ l, s ≠ .own l) : Ok K B G0 (E.set i s) (σ.set i o) G H := by
  refine ⟨k.toOkB, P_set h i k.sl, fun a b p l l' ea eb sa sb => ?_⟩
  have na : i ≠ a := fun z => by
    subst z
    by_cases hl : i < E.length
    · rw [List.getElem?_set_self hl] at ea; exact hn _ (Option.some.inj ea)
    · rw [List.getElem?_eq_none (by simpa using hl)] at ea; cases ea
  have nb : i ≠ b := fun z => by
    subst z
    by_cases hl : i < E.length
    · rw [List.getElem?_set_self hl] at eb; exact hn _ (Option.some.inj eb)
    · rw [List.getElem?_eq_none (by simpa using hl)] at eb; cases eb
  rw [List.getElem?_set_ne na] at ea sa
  rw [List.getElem?_set_ne nb] at eb sb
  exact k.ds a b p l l' ea eb sa sb
/-- a slot gets a list that may still change -/
theorem Ok.setO {K : PySem.W.Frag} {B G0 G H : Hp} {E : List Slot} {σ : L2.St} {p : Addr} {vs : List V} {l : List AbsV} (k : Ok K B G0 E σ G H) (i : Nat) (b : B p = none) (g : G p = none) (h : H p = some (.lst vs)) (q : PR G vs l)
    (hn : ∀ (j : Nat) (l' : List AbsV), j ≠ i → E[j]? = some (.own l') → σ[j]? ≠ some (some (.ref p))) : Ok K B G0 (E.set i (.own l)) (σ.set i (some (.ref p))) G H := by
  refine ⟨k.toOkB, P_set (show SlotOk K B G H (.own l) _ from ⟨p, vs, rfl, b, g, h, q⟩) i k.sl, fun a c r m m' ea ec sa sc => ?_⟩
  have hl : E.length = σ.length := P_len k.sl
  have key : ∀ (a : Nat) (m : List AbsV), i ≠ a → (E.set i (.own l))[a]? = some (.own m) → (σ.set i (some (.ref p)))[a]? ≠ some (some (.ref p)) := fun a m na ea => by
    rw [List.getElem?_set_ne na] at ea ⊢
    exact hn a m (fun z => na z.symm) ea
  have at_i : ∀ (a : Nat) (r : Addr) (m : List AbsV), i = a → (E.set i (.own l))[a]? = some (.own m) → (σ.set i (some (.ref p)))[a]? = some (some (.ref r)) → r = p := fun a r m z ea sa => by
    subst z
    by_cases hlt : i < E.length
    · rw [List.getElem?_set_self (by omega)] at sa; cases sa; rfl
    · rw [List.getElem?_eq_none (by simpa using hlt)] at ea; cases ea
  by_cases na : i = a
  · by_cases nc : i = c
    · omega
    · have := at_i a r m na ea sa
      subst this
      exact absurd sc (key c m' nc ec)
  · by_cases nc : i = c
    · have := at_i c r m' nc ec sc
      subst this
      exact absurd sa (key a m na ea)
    · rw [List.getElem?_set_ne na] at ea sa
      rw [List.getElem?_set_ne nc] at ec sc
      exact k.ds a c r m m' ea ec sa sc
end Ab

namespace Ab
open PySem PySem.Spec PyProof.Rows L2

/-! ### judgements -/
def EV (K : PySem.W.Frag) (E : List Slot) (te : TE) (r : AbsV) : Prop := ∀ (B G0 : Hp) (σ : L2.St) (G H : Hp), Ok K B G0 E σ G H → ∀ Q : VK, (∀ v G' H', Ext G H G' H' → r.rep G' v → Q v H') → te σ H Q
/-- a list that can be read now -/
def EVL (K : PySem.W.Frag) (E : List Slot) (te : TE) (l : List AbsV) : Prop := ∀ (B G0 : Hp) (σ : L2.St) (G H : Hp), Ok K B G0 E σ G H → ∀ Q : VK, (∀ p vs G' H', Ext G H G' H' → H' p = some (.lst vs) → PR G' vs l → Q (.ref p) H') → te σ H Q
/-- a new list -/
def EVF (K : PySem.W.Frag) (E : List Slot) (te : TE) (l : List AbsV) : Prop := ∀ (B G0 : Hp) (σ : L2.St) (G H : Hp), Ok K B G0 E σ G H → ∀ Q : VK, (∀ p vs G' H', Ext G H G' H' → H p = none → G' p = none → H' p = some (.lst vs) → PR G' vs l → Q (.ref p) H') → te σ H Q
def ET (K : PySem.W.Frag) (E : List Slot) (tt : TT) (b : Bool) : Prop := ∀ (B G0 : Hp) (σ : L2.St) (G H : Hp), Ok K B G0 E σ G H → ∀ Q : Bool → Hp → Prop, (∀ G' H', Ext G H G' H' → Q b H') → tt σ H Q
def ArgOk (K : PySem.W.Frag) (G H : Hp) : Slot → V → Prop
  | .un, _ => True
  | .val r, v => r.rep G v
  | .own _, _ => False
  | .red l, v => ∃ p vs, v = .ref p ∧ H p = some (.lst vs) ∧ PR G vs l
  | .scr ns, v => ∃ p, v = .ref p ∧ SqL K H p (ns.map V.int)
theorem ArgOk.ext {K : PySem.W.Frag} {G H G' H' : Hp} (x : Ext G H G' H') : ∀ {s : Slot} {v : V}, ArgOk K G H s v → ArgOk K G' H' s v
  | .un, _, h => h
  | .val r, _, h => r.mono x.g h
  | .own _, _, h => h
  | .red l, _, ⟨p, vs, e, h, q⟩ => ⟨p, vs, e, x.h _ _ h, q.mono x.g⟩
  | .scr ns, _, ⟨p, e, h⟩ => ⟨p, e, x.h.seq h⟩
def EA (K : PySem.W.Frag) (E : List Slot) (ta : TA) (as : List Slot) : Prop := ∀ (B G0 : Hp) (σ : L2.St) (G H : Hp), Ok K B G0 E σ G H → ∀ Q : List V → Hp → Prop, (∀ vs G' H', Ext G H G' H' → Paired (ArgOk K G' H') as vs → Q vs H') → ta σ H Q
structure AE where
  nx : List Slot → Prop
  bk : List Slot → Prop
  ct : List Slot → Prop
  rt : Slot → Prop
structure Sat (K : PySem.W.Frag) (B G0 : Hp) (A : AE) (D : Ends) : Prop where
  nx : ∀ E σ G H, A.nx E → Ok K B G0 E σ G H → D.nx σ H
  bk : ∀ E σ G H, A.bk E → Ok K B G0 E σ G H → D.bk σ H
  ct : ∀ E σ G H, A.ct E → Ok K B G0 E σ G H → D.ct σ H
  rtV : ∀ r v G H, A.rt (.val r) → OkB B G0 G H → r.rep G v → D.rt v H
  rtO : ∀ l p vs G H, A.rt (.own l) → OkB B G0 G H → B p = none → G p = none → H p = some (.lst vs) → PR G vs l → D.rt (.ref p) H
def ES (K : PySem.W.Frag) (E : List Slot) (ts : TS) (A : AE) : Prop := ∀ (B G0 : Hp) (σ : L2.St) (G H : Hp) (D : Ends), Ok K B G0 E σ G H → Sat K B G0 A D → ts D σ H

section
variable {K : PySem.W.Frag} {E : List Slot} {ta tb tc te : TE} {t u : TT} {r s : AbsV} {l m : List AbsV}
theorem EVF.ev (h : EVF K E te l) : EV K E te (lsA l) := fun B G0 σ G H k Q q => h B G0 σ G H k Q fun p vs G' H' x hn g' h' pr =>
  q (.ref p) (upd G' p (.lst vs)) H' (x.freeze hn g' h') ⟨p, vs, rfl, upd_same, pr.mono (fun b u e => by rw [upd_ne (ne_of_none e g')]; exact e)⟩
theorem EVF.evl (h : EVF K E te l) : EVL K E te l := fun B G0 σ G H k Q q => h B G0 σ G H k Q fun p vs G' H' x _ _ h' pr => q p vs G' H' x h' pr
theorem EV.evl (h : EV K E te (lsA l)) : EVL K E te l := fun B G0 σ G H k Q q => h B G0 σ G H k Q fun v G' H' x ⟨p, vs, e, g, pr⟩ => by
  subst e
  exact q p vs G' H' x (x.gh _ _ g) pr
theorem EV.is (h : EV K E te r) (e : r = s) : EV K E te s := by
  rw [← e]; exact h
theorem ET.is {a b : Bool} (h : ET K E t a) (e : a = b) : ET K E t b := by
  rw [← e]; exact h
theorem EVL.is (h : EVL K E te l) (e : l = m) : EVL K E te m := by
  rw [← e]; exact h
theorem EVF.is (h : EVF K E te l) (e : l = m) : EVF K E te m := by
  rw [← e]; exact h

/-! names and constants -/
theorem ev_var {i : Nat} (h : E[i]? = some (.val r)) : EV K E (tVar i) r := fun B G0 σ G H k Q q => by
  obtain ⟨o, e, v, e2, rv⟩ := P_get k.sl h
  subst e2
  exact ⟨v, e, q v G H (Ext.refl k.gh) rv⟩
theorem evl_own {i : Nat} (h : E[i]? = some (.own l)) : EVL K E (tVar i) l := fun B G0 σ G H k Q q => by
  obtain ⟨o, e, p, vs, e2, b, g, hh, pr⟩ := P_get k.sl h
  subst e2
  exact ⟨.ref p, e, q p vs G H (Ext.refl k.gh) hh pr⟩
theorem evl_red {i : Nat} (h : E[i]? = some (.red l)) : EVL K E (tVar i) l := fun B G0 σ G H k Q q => by
  obtain ⟨o, e, p, vs, e2, b, pr⟩ := P_get k.sl h
  subst e2
  exact ⟨.ref p, e, q p vs G H (Ext.refl k.gh) (k.bh _ _ b) pr⟩
theorem evl_var {i : Nat} (h : E[i]? = some (.val (lsA l))) : EVL K E (tVar i) l := (ev_var h).evl
theorem ev_int {n : Int} : EV K E (tC (.int n)) (nI n) := fun B G0 σ G H k Q q => q _ G H (Ext.refl k.gh) rfl
theorem ev_bl {n : Bool} : EV K E (tC (.bl n)) (nB n) := fun B G0 σ G H k Q q => q _ G H (Ext.refl k.gh) rfl
theorem ev_str {n : Str} : EV K E (tC (.str n)) (nS n) := fun B G0 σ G H k Q q => q _ G H (Ext.refl k.gh) rfl
theorem ev_non : EV K E (tC .non) nN := fun B G0 σ G H k Q q => q _ G H (Ext.refl k.gh) rfl

/-! operators -/
/-- two operands, then what is asked of the values -/
theorem ev_two {R : R2} {z : AbsV} (ha : EV K E ta r) (hb : EV K E tb s) (hr : ∀ x y G H (Q : VK), Same G H → r.rep G x → s.rep G y → (∀ v, z.rep G v → Q v H) → R x y H Q) : EV K E (tOp R ta tb) z := fun B G0 σ G H k Q q =>
  ha B G0 σ G H k _ fun x G1 H1 x1 r1 => hb B G0 σ G1 H1 (k.ext x1) _ fun y G2 H2 x2 r2 => hr x y G2 H2 Q x2.gh (r.mono x2.g r1) r2 fun v rv => q v G2 H2 (x1.trans x2) rv
theorem ev_I0 {g : Int → Int → V} {a b : Int} (ha : EV K E ta (nI a)) (hb : EV K E tb (nI b)) : EV K E (tOp (rI0 g) ta tb) (flA (g a b)) :=
  ev_two ha hb fun x y G H Q _ hx hy q => ⟨a, b, hx, hy, q _ rfl⟩
theorem ev_I {C : Int → Int → Prop} {g : Int → Int → V} {a b : Int} (ha : EV K E ta (nI a)) (hb : EV K E tb (nI b)) (hc : C a b) : EV K E (tOp (rI C g) ta tb) (flA (g a b)) :=
  ev_two ha hb fun x y G H Q _ hx hy q => ⟨a, b, hx, hy, hc, q _ rfl⟩
theorem ev_U {g : Int → V} {a : Int} (ha : EV K E ta (nI a)) : EV K E (tUn (rU g) ta) (flA (g a)) := fun B G0 σ G H k Q q =>
  ha B G0 σ G H k _ fun x G1 H1 x1 r1 => ⟨a, r1, q _ G1 H1 x1 rfl⟩
/-- == and != of flat values -/
theorem ev_eq {a b : V} (ha : EV K E ta (flA a)) (hb : EV K E tb (flA b)) (hs : scal a b = true) : EV K E (tOp rEq ta tb) (nB (decide (a = b))) :=
  ev_two ha hb fun x y G H Q _ hx hy q => by
    cases hx; cases hy
    exact ⟨hs, q _ rfl⟩
theorem ev_ne {a b : V} (ha : EV K E ta (flA a)) (hb : EV K E tb (flA b)) (hs : scal a b = true) : EV K E (tOp rNe ta tb) (nB (!decide (a = b))) :=
  ev_two ha hb fun x y G H Q _ hx hy q => by
    cases hx; cases hy
    exact ⟨hs, q _ rfl⟩
theorem dec_int (a b : Int) : decide (V.int a = V.int b) = decide (a = b) := by
  by_cases h : a = b
  · rw [h]; simp
  · rw [decide_eq_false h, decide_eq_false (fun z => h (by cases z; rfl))]
theorem ev_eqI {a b : Int} (ha : EV K E ta (nI a)) (hb : EV K E tb (nI b)) : EV K E (tOp rEq ta tb) (nB (decide (a = b))) := by
  have h := ev_eq ha hb rfl
  rw [dec_int] at h; exact h
theorem ev_neI {a b : Int} (ha : EV K E ta (nI a)) (hb : EV K E tb (nI b)) : EV K E (tOp rNe ta tb) (nB (!decide (a = b))) := by
  have h := ev_ne ha hb rfl
  rw [dec_int] at h; exact h

/-! tests -/
theorem et_test {b : Bool} (h : EV K E te (nB b)) : ET K E (tTest te) b := fun B G0 σ G H k Q q => h B G0 σ G H k _ fun v G' H' x rv => ⟨b, rv, q G' H' x⟩
theorem et_B {b : Bool} (h : EV K E te (nB b)) : ET K E (tB te) b := fun B G0 σ G H k Q q => h B G0 σ G H k _ fun v G' H' x rv => ⟨b, rv, q G' H' x⟩
theorem et_and {a b : Bool} (h1 : ET K E t a) (h2 : a = true → ET K E u b) : ET K E (tAnd t u) (a && b) := fun B G0 σ G H k Q q => h1 B G0 σ G H k _ fun G1 H1 x1 => by
  cases a with
  | true =>
    show u σ H1 Q
    exact h2 rfl B G0 σ G1 H1 (k.ext x1) Q fun G2 H2 x2 => q G2 H2 (x1.trans x2)
  | false => exact q G1 H1 x1
theorem et_or {a b : Bool} (h1 : ET K E t a) (h2 : a = false → ET K E u b) : ET K E (tOr t u) (a || b) := fun B G0 σ G H k Q q => h1 B G0 σ G H k _ fun G1 H1 x1 => by
  cases a with
  | true => exact q G1 H1 x1
  | false =>
    show u σ H1 Q
    exact h2 rfl B G0 σ G1 H1 (k.ext x1) Q fun G2 H2 x2 => q G2 H2 (x1.trans x2)
theorem et_not {a : Bool} (h1 : ET K E t a) : ET K E (tNot t) (!a) := fun B G0 σ G H k Q q => h1 B G0 σ G H k _ q
theorem ev_andV {a b : Bool} (h1 : EV K E ta (nB a)) (h2 : a = true → EV K E tb (nB b)) : EV K E (tAndV ta tb) (nB (a && b)) := fun B G0 σ G H k Q q => h1 B G0 σ G H k _ fun v G1 H1 x1 r1 => ⟨a, r1, by
  cases a with
  | true =>
    show tb σ H1 Q
    exact h2 rfl B G0 σ G1 H1 (k.ext x1) Q fun v G2 H2 x2 r2 => q v G2 H2 (x1.trans x2) r2
  | false => exact q _ G1 H1 x1 rfl⟩
theorem ev_orV {a b : Bool} (h1 : EV K E ta (nB a)) (h2 : a = false → EV K E tb (nB b)) : EV K E (tOrV ta tb) (nB (a || b)) := fun B G0 σ G H k Q q => h1 B G0 σ G H k _ fun v G1 H1 x1 r1 => ⟨a, r1, by
  cases a with
  | true => exact q _ G1 H1 x1 rfl
  | false =>
    show tb σ H1 Q
    exact h2 rfl B G0 σ G1 H1 (k.ext x1) Q fun v G2 H2 x2 r2 => q v G2 H2 (x1.trans x2) r2⟩
theorem ev_notV {a : Bool} (h1 : EV K E ta (nB a)) : EV K E (tNotV ta) (nB (!a)) := fun B G0 σ G H k Q q => h1 B G0 σ G H k _ fun v G1 H1 x1 r1 => ⟨a, r1, q _ G1 H1 x1 rfl⟩
theorem ev_if {b : Bool} (h : ET K E t b) (h1 : b = true → EV K E ta r) (h2 : b = false → EV K E tb r) : EV K E (tIf t ta tb) r := fun B G0 σ G H k Q q => h B G0 σ G H k _ fun G1 H1 x1 => by
  cases b with
  | true =>
    show ta σ H1 Q
    exact h1 rfl B G0 σ G1 H1 (k.ext x1) Q fun v G2 H2 x2 r2 => q v G2 H2 (x1.trans x2) r2
  | false =>
    show tb σ H1 Q
    exact h2 rfl B G0 σ G1 H1 (k.ext x1) Q fun v G2 H2 x2 r2 => q v G2 H2 (x1.trans x2) r2
theorem ev_chain {p : Bool} {R R' : R2} {a b c : AbsV} {z : Bool} (ha : EV K E ta a) (hb : EV K E tb b) (hr : ∀ x y G H (Q : VK), Same G H → a.rep G x → b.rep G y → (Q (.bl p) H) → R x y H Q)
    (hc : p = true → EV K E tc c) (hr' : p = true → ∀ x y G H (Q : VK), Same G H → b.rep G x → c.rep G y → Q (.bl z) H → R' x y H Q) : EV K E (tChain R R' ta tb tc) (nB (p && z)) := fun B G0 σ G H k Q q =>
  ha B G0 σ G H k _ fun x G1 H1 x1 r1 => hb B G0 σ G1 H1 (k.ext x1) _ fun y G2 H2 x2 r2 => hr x y G2 H2 _ x2.gh (a.mono x2.g r1) r2 ⟨p, rfl, by
    cases p with
    | true => exact hc rfl B G0 σ G2 H2 ((k.ext x1).ext x2) _ fun w G3 H3 x3 r3 => hr' rfl y w G3 H3 Q x3.gh (b.mono x3.g r2) r3 (q _ G3 H3 ((x1.trans x2).trans x3) rfl)
    | false => exact q _ G2 H2 (x1.trans x2) rfl⟩
theorem ev_chI {g g' : Int → Int → Bool} {a b c : Int} (ha : EV K E ta (nI a)) (hb : EV K E tb (nI b)) (hc : EV K E tc (nI c)) :
    EV K E (tChain (rI0 fun i j => .bl (g i j)) (rI0 fun i j => .bl (g' i j)) ta tb tc) (nB (g a b && g' b c)) :=
  ev_chain (p := g a b) ha hb (fun x y G H Q _ hx hy q => ⟨a, b, hx, hy, q⟩) (fun _ => hc) fun _ x y G H Q _ hx hy q => ⟨b, c, hx, hy, q⟩

/-! arguments -/
theorem ea_nil : EA K E tNil [] := fun B G0 σ G H k Q q => q [] G H (Ext.refl k.gh) .nil
theorem ea_val {tr : TA} {as : List Slot} (h : EV K E te r) (hr : EA K E tr as) : EA K E (tCons te tr) (.val r :: as) := fun B G0 σ G H k Q q =>
  h B G0 σ G H k _ fun v G1 H1 x1 r1 => hr B G0 σ G1 H1 (k.ext x1) _ fun vs G2 H2 x2 p2 => q (v :: vs) G2 H2 (x1.trans x2) (.cons (r.mono x2.g r1) p2)
theorem ea_red {tr : TA} {as : List Slot} (h : EVL K E te l) (hr : EA K E tr as) : EA K E (tCons te tr) (.red l :: as) := fun B G0 σ G H k Q q =>
  h B G0 σ G H k _ fun p vs G1 H1 x1 h1 r1 => hr B G0 σ G1 H1 (k.ext x1) _ fun ws G2 H2 x2 p2 => q (.ref p :: ws) G2 H2 (x1.trans x2) (.cons ⟨p, vs, rfl, x2.h _ _ h1, r1.mono x2.g⟩ p2)
theorem ea_scr {tr : TA} {as : List Slot} {i : Nat} {ns : List Int} (h : E[i]? = some (.scr ns)) (hr : EA K E tr as) : EA K E (tCons (tVar i) tr) (.scr ns :: as) := fun B G0 σ G H k Q q => by
  obtain ⟨o, e, p, e2, hs⟩ := P_get k.sl h
  subst e2
  exact ⟨.ref p, e, hr B G0 σ G H k _ fun ws G2 H2 x2 p2 => q (.ref p :: ws) G2 H2 x2 (.cons ⟨p, rfl, x2.h.seq (k.bh.seq hs)⟩ p2)⟩
theorem args_pr {G H : Hp} : ∀ {l : List AbsV} {vs : List V}, Paired (ArgOk K G H) (l.map Slot.val) vs → PR G vs l
  | [], _, h => by cases h; exact .nil
  | a :: l, _, h => by
    cases h with
    | cons h t => exact .cons h (args_pr t)

/-! displays -/
theorem small {n : Nat} (h : n ≤ 100000) : n ≤ sizeLine := Nat.le_trans h (by decide)
theorem smallT {n : Nat} (h : n < 100000) : n < sizeLine := Nat.lt_of_lt_of_le h (by decide)
def EAV (K : PySem.W.Frag) (E : List Slot) (ta : TA) (l : List AbsV) : Prop := EA K E ta (l.map Slot.val)
theorem eav_nil : EAV K E tNil [] := ea_nil
theorem eav_cons {tr : TA} (h : EV K E te r) (hr : EAV K E tr l) : EAV K E (tCons te tr) (r :: l) := ea_val h hr
theorem evf_lst {ta : TA} (h : EAV K E ta l) (hl : l.length ≤ 100000) : EVF K E (tLst ta) l := fun B G0 σ G H k Q q =>
  h B G0 σ G H k _ fun vs G1 H1 x1 a => by
    have pr := args_pr a
    exact ⟨by rw [pr.len]; exact small hl, fun p hp => q p vs G1 _ (x1.trans (Ext.newO x1.gh hp)) (x1.h.free hp) (x1.gh.free hp) upd_same pr⟩
theorem ev_tup {ta : TA} (h : EAV K E ta l) (hl : l.length ≤ 100000) : EV K E (tTup ta) (tuA l) := fun B G0 σ G H k Q q =>
  h B G0 σ G H k _ fun vs G1 H1 x1 a => by
    have pr := args_pr a
    exact ⟨by rw [pr.len]; exact small hl, fun p hp => q (.ref p) _ _ (x1.trans (Ext.new x1.gh hp)) ⟨p, vs, rfl, upd_same, pr.mono (Ext.new x1.gh hp).g⟩⟩

/-! calls of built-ins -/
theorem ev_cb1 {R : List V → Hp → VK → Prop} {z : AbsV} (h : EV K E te r) (hr : ∀ v G H (Q : VK), Same G H → r.rep G v → (∀ w, z.rep G w → Q w H) → R [v] H Q) : EV K E (tCB R (tCons te tNil)) z := fun B G0 σ G H k Q q =>
  h B G0 σ G H k _ fun v G1 H1 x1 r1 => hr v G1 H1 Q x1.gh r1 fun w rw' => q w G1 H1 x1 rw'
theorem ev_cb2 {R : List V → Hp → VK → Prop} {z : AbsV} (ha : EV K E ta r) (hb : EV K E tb s) (hr : ∀ v w G H (Q : VK), Same G H → r.rep G v → s.rep G w → (∀ y, z.rep G y → Q y H) → R [v, w] H Q) : EV K E (tCB R (tCons ta (tCons tb tNil))) z := fun B G0 σ G H k Q q =>
  ha B G0 σ G H k _ fun v G1 H1 x1 r1 => hb B G0 σ G1 H1 (k.ext x1) _ fun w G2 H2 x2 r2 => hr v w G2 H2 Q x2.gh (r.mono x2.g r1) r2 fun y ry => q y G2 H2 (x1.trans x2) ry
theorem ev_cbL {R : List V → Hp → VK → Prop} {z : AbsV} (h : EVL K E te l) (hr : ∀ p vs G H (Q : VK), Same G H → H p = some (.lst vs) → PR G vs l → (∀ w, z.rep G w → Q w H) → R [.ref p] H Q) : EV K E (tCB R (tCons te tNil)) z := fun B G0 σ G H k Q q =>
  h B G0 σ G H k _ fun p vs G1 H1 x1 h1 r1 => hr p vs G1 H1 Q x1.gh h1 r1 fun w rw' => q w G1 H1 x1 rw'
theorem ev_abs {a : Int} (h : EV K E te (nI a)) : EV K E (tCB (fun xs H Q => ∃ i, xs = [.int i] ∧ Q (.int (if i < 0 then -i else i)) H) (tCons te tNil)) (nI (if a < 0 then -a else a)) :=
  ev_cb1 h fun v G H Q _ e q => ⟨a, by rw [e], q _ rfl⟩
theorem ev_max2 {a b : Int} (ha : EV K E ta (nI a)) (hb : EV K E tb (nI b)) : EV K E (tCB (fun xs H Q => ∃ i j, xs = [.int i, .int j] ∧ Q (.int (if j > i then j else i)) H) (tCons ta (tCons tb tNil))) (nI (if b > a then b else a)) :=
  ev_cb2 ha hb fun v w G H Q _ e e2 q => ⟨a, b, by rw [e, e2], q _ rfl⟩
theorem ev_min2 {a b : Int} (ha : EV K E ta (nI a)) (hb : EV K E tb (nI b)) : EV K E (tCB (fun xs H Q => ∃ i j, xs = [.int i, .int j] ∧ Q (.int (if j < i then j else i)) H) (tCons ta (tCons tb tNil))) (nI (if b < a then b else a)) :=
  ev_cb2 ha hb fun v w G H Q _ e e2 q => ⟨a, b, by rw [e, e2], q _ rfl⟩
theorem ev_int1 {a : Int} (h : EV K E te (nI a)) : EV K E (tCB (fun xs H Q => (∃ i, xs = [.int i] ∧ Q (.int i) H) ∨ ∃ k, xs = [.bl k] ∧ Q (.int (if k then 1 else 0)) H) (tCons te tNil)) (nI a) :=
  ev_cb1 h fun v G H Q _ e q => .inl ⟨a, by rw [e], q _ rfl⟩
theorem ev_intB {b : Bool} (h : EV K E te (nB b)) : EV K E (tCB (fun xs H Q => (∃ i, xs = [.int i] ∧ Q (.int i) H) ∨ ∃ k, xs = [.bl k] ∧ Q (.int (if k then 1 else 0)) H) (tCons te tNil)) (nI (if b then 1 else 0)) :=
  ev_cb1 h fun v G H Q _ e q => .inr ⟨b, by rw [e], q _ rfl⟩
theorem ev_len (h : EVL K E te l) : EV K E (tCB (fun xs H Q => ∃ p ys, xs = [.ref p] ∧ (SqL K H p ys ∨ SqT K H p ys) ∧ Q (.int ys.length) H) (tCons te tNil)) (nI l.length) :=
  ev_cbL h fun p vs G H Q _ e pr q => ⟨p, vs, rfl, .inl (SqL.of e), q _ (by rw [pr.len]; rfl)⟩
theorem ev_lenT (h : EV K E te (tuA l)) : EV K E (tCB (fun xs H Q => ∃ p ys, xs = [.ref p] ∧ (SqL K H p ys ∨ SqT K H p ys) ∧ Q (.int ys.length) H) (tCons te tNil)) (nI l.length) :=
  ev_cb1 h fun v G H Q s ⟨p, vs, e, g, pr⟩ q => ⟨p, vs, by rw [e], .inr (SqT.of (s _ _ g)), q _ (by rw [pr.len]; rfl)⟩
theorem ev_lenS {i : Nat} {ns : List Int} (h : E[i]? = some (.scr ns)) : EV K E (tCB (fun xs H Q => ∃ p ys, xs = [.ref p] ∧ (SqL K H p ys ∨ SqT K H p ys) ∧ Q (.int ys.length) H) (tCons (tVar i) tNil)) (nI ns.length) := fun B G0 σ G H k Q q => by
  obtain ⟨o, e, p, e2, hs⟩ := P_get k.sl h
  subst e2
  exact ⟨.ref p, e, p, _, rfl, .inl (k.bh.seq hs), q _ G H (Ext.refl k.gh) (by rw [List.length_map]; rfl)⟩
theorem evf_list (h : EVL K E te l) : EVF K E (tCB (fun xs H Q => ∃ p ys, xs = [.ref p] ∧ (SqL K H p ys ∨ SqT K H p ys) ∧ ∀ l, H l = none → Q (.ref l) (upd H l (.lst ys))) (tCons te tNil)) l := fun B G0 σ G H k Q q =>
  h B G0 σ G H k _ fun p vs G1 H1 x1 h1 r1 => ⟨p, vs, rfl, .inl (SqL.of h1), fun z hz => q z vs G1 _ (x1.trans (Ext.newO x1.gh hz)) (x1.h.free hz) (x1.gh.free hz) upd_same r1⟩

/-! items -/
theorem ev_ixL {i : Nat} {n : Int} (ha : EVL K E ta l) (hb : EV K E tb (nI n)) (hn : n = (i : Int)) (hi : l[i]? = some r) : EV K E (tOp (rIxL K) ta tb) r := fun B G0 σ G H k Q q =>
  ha B G0 σ G H k _ fun p vs G1 H1 x1 h1 r1 => hb B G0 σ G1 H1 (k.ext x1) _ fun y G2 H2 x2 r2 => by
    obtain ⟨v, hv, rv⟩ := (r1.mono x2.g).get hi
    exact ⟨p, vs, n, v, rfl, r2, SqL.of (x2.h _ _ h1), at_of hn hv, q v G2 H2 (x1.trans x2) rv⟩
theorem atI_last {α : Type} {xs : List α} {v : α} (h : xs.getLast? = some v) : atI xs (-1) = some v := by
  rw [List.getLast?_eq_getElem?] at h
  have hl : xs.length - 1 < xs.length := by
    have := List.getElem?_eq_some_iff.mp h
    exact this.1
  unfold atI ixN
  rw [if_neg (by decide), if_pos (by omega)]
  have e : ((-1 : Int) + (xs.length : Int)).toNat = xs.length - 1 := by omega
  show xs[((-1 : Int) + (xs.length : Int)).toNat]? = some v
  rw [e]; exact h
theorem ev_ixLast {i : Nat} (ha : EVL K E ta l) (hb : EV K E tb (nI (-1))) (hi : l.getLast? = some r) : EV K E (tOp (rIxL K) ta tb) r := fun B G0 σ G H k Q q =>
  ha B G0 σ G H k _ fun p vs G1 H1 x1 h1 r1 => hb B G0 σ G1 H1 (k.ext x1) _ fun y G2 H2 x2 r2 => by
    rw [List.getLast?_eq_getElem?, ← r1.len] at hi
    obtain ⟨v, hv, rv⟩ := (r1.mono x2.g).get hi
    exact ⟨p, vs, -1, v, rfl, r2, SqL.of (x2.h _ _ h1), atI_last (by rw [List.getLast?_eq_getElem?]; exact hv), q v G2 H2 (x1.trans x2) rv⟩
theorem ev_ixT {i : Nat} {n : Int} (ha : EV K E ta (tuA l)) (hb : EV K E tb (nI n)) (hn : n = (i : Int)) (hi : l[i]? = some r) : EV K E (tOp (rIxT K) ta tb) r := fun B G0 σ G H k Q q =>
  ha B G0 σ G H k _ fun x G1 H1 x1 ⟨p, vs, e, g1, r1⟩ => hb B G0 σ G1 H1 (k.ext x1) _ fun y G2 H2 x2 r2 => by
    obtain ⟨v, hv, rv⟩ := (r1.mono x2.g).get hi
    subst e
    exact ⟨p, vs, n, v, rfl, r2, SqT.of (x2.gh _ _ (x2.g _ _ g1)), at_of hn hv, q v G2 H2 (x1.trans x2) rv⟩
end
end Ab

namespace Ab
open PySem PySem.Spec PyProof.Rows L2
section
variable {K : PySem.W.Frag} {E : List Slot} {ta tb tc te : TE} {t u : TT} {ts us : TS} {r s : AbsV} {l m : List AbsV} {A : AE}
theorem Ok.g0' {B G0 G1 G H : Hp} {σ : L2.St} (k1 : OkB B G0 G1 H) : True := trivial
theorem OkB.via {B G0 G1 H1 G H : Hp} (a : OkB B G0 G1 H1) (b : OkB B G1 G H) : OkB B G0 G H :=
  ⟨b.bh, b.gh, a.g0.trans b.g0, fun p h e => b.nb p h (a.nb p h e)⟩
theorem OkB.here {B G0 G H : Hp} (a : OkB B G0 G H) : OkB B G G H := ⟨a.bh, a.gh, Same.refl _, fun _ _ e => e⟩
theorem Ok.via {B G0 G1 H1 G H : Hp} {σ : L2.St} (a : OkB B G0 G1 H1) (b : Ok K B G1 E σ G H) : Ok K B G0 E σ G H := ⟨a.via b.toOkB, b.sl, b.ds⟩
theorem Ok.here {B G0 G H : Hp} {σ : L2.St} (a : Ok K B G0 E σ G H) : Ok K B G E σ G H := ⟨a.toOkB.here, a.sl, a.ds⟩
/-- from a later start the same ends are met -/
theorem Sat.later {B G0 G1 H1 : Hp} {D : Ends} (S : Sat K B G0 A D) (a : OkB B G0 G1 H1) : Sat K B G1 A D :=
  ⟨fun E σ G H h k => S.nx E σ G H h (k.via a), fun E σ G H h k => S.bk E σ G H h (k.via a), fun E σ G H h k => S.ct E σ G H h (k.via a),
    fun r v G H h k q => S.rtV r v G H h (a.via k) q, fun l p vs G H h k b g e pr => S.rtO l p vs G H h (a.via k) b g e pr⟩
/-- from now on -/
theorem ES.imp {A' : AE} (h : ES K E ts A) (hn : ∀ E, A.nx E → A'.nx E) (hb : ∀ E, A.bk E → A'.bk E) (hc : ∀ E, A.ct E → A'.ct E) (hr : ∀ s, A.rt s → A'.rt s) : ES K E ts A' := fun B G0 σ G H D k S =>
  h B G0 σ G H D k ⟨fun E σ G H z => S.nx E σ G H (hn E z), fun E σ G H z => S.bk E σ G H (hb E z), fun E σ G H z => S.ct E σ G H (hc E z), fun r v G H z => S.rtV r v G H (hr _ z), fun l p vs G H z => S.rtO l p vs G H (hr _ z)⟩

theorem es_next (h : A.nx E) : ES K E tNext A := fun B G0 σ G H D k S => S.nx E σ G H h k
theorem es_break (h : A.bk E) : ES K E tBreak A := fun B G0 σ G H D k S => S.bk E σ G H h k
theorem es_cont (h : A.ct E) : ES K E tCont A := fun B G0 σ G H D k S => S.ct E σ G H h k
theorem es_seq (h : ES K E ts { A with nx := fun E' => ES K E' us A }) : ES K E (tSeq ts us) A := fun B G0 σ G H D k S =>
  h B G0 σ G H { D with nx := us D } k ⟨fun E' σ' G' H' h' k' => h' B G0 σ' G' H' D k' S, S.bk, S.ct, S.rtV, S.rtO⟩
theorem es_asg {i : Nat} (h : EV K E te r) (q : A.nx (E.set i (.val r))) : ES K E (tAsg te (gName i)) A := fun B G0 σ G H D k S =>
  h B G0 σ G H k _ fun v G1 H1 x1 r1 => S.nx _ _ G1 H1 q ((k.ext x1).set i ⟨v, rfl, r1⟩ fun _ z => by cases z)
theorem es_asgF {i : Nat} (h : EVF K E te l) (q : A.nx (E.set i (.own l))) : ES K E (tAsg te (gName i)) A := fun B G0 σ G H D k S =>
  h B G0 σ G H k _ fun p vs G1 H1 x1 hn g1 h1 r1 => S.nx _ _ G1 H1 q ((k.ext x1).setO i (k.bh.free hn) g1 h1 r1 fun j l' hj e z => by
    obtain ⟨o, e1, p', vs', e2, _, _, h', _⟩ := P_get k.sl e
    rw [e1] at z
    have z2 := Option.some.inj z
    rw [e2] at z2
    cases z2
    rw [hn] at h'; cases h')
theorem es_drop (h : EV K E te r) (q : A.nx E) : ES K E (tDrop te) A := fun B G0 σ G H D k S =>
  h B G0 σ G H k _ fun v G1 H1 x1 r1 => S.nx _ _ G1 H1 q (k.ext x1)
theorem es_ret (h : EV K E te r) (q : A.rt (.val r)) : ES K E (tRet te) A := fun B G0 σ G H D k S =>
  h B G0 σ G H k _ fun v G1 H1 x1 r1 => S.rtV r v G1 H1 q (k.toOkB.ext x1) r1
theorem es_retN (q : A.rt (.val nN)) : ES K E tRetN A := fun B G0 σ G H D k S => S.rtV _ _ G H q k.toOkB rfl
theorem es_retF (h : EVF K E te l) (q : A.rt (.own l)) : ES K E (tRet te) A := fun B G0 σ G H D k S =>
  h B G0 σ G H k _ fun p vs G1 H1 x1 hn g1 h1 r1 => S.rtO l p vs G1 H1 q (k.toOkB.ext x1) (k.bh.free hn) g1 h1 r1
theorem es_retO {i : Nat} (h : E[i]? = some (.own l)) (q : A.rt (.own l)) : ES K E (tRet (tVar i)) A := fun B G0 σ G H D k S => by
  obtain ⟨o, e, p, vs, e2, b, g, hh, pr⟩ := P_get k.sl h
  subst e2
  exact ⟨.ref p, e, S.rtO l p vs G H q k.toOkB b g hh pr⟩
theorem es_if {b : Bool} (h : ET K E t b) (h1 : b = true → ES K E ts A) (h2 : b = false → ES K E us A) : ES K E (tIfS t ts us) A := fun B G0 σ G H D k S =>
  h B G0 σ G H k _ fun G1 H1 x1 => by
    cases b with
    | true => exact h1 rfl B G0 σ G1 H1 D (k.ext x1) S
    | false => exact h2 rfl B G0 σ G1 H1 D (k.ext x1) S
theorem es_aug {i : Nat} {f : Int → Int → Int} {a b : Int} (hx : E[i]? = some (.val (nI a))) (h : EV K E te (nI b)) (q : A.nx (E.set i (.val (nI (f a b))))) : ES K E (tAug i te (ipI f)) A := fun B G0 σ G H D k S => by
  obtain ⟨o, e, v, e2, rv⟩ := P_get k.sl hx
  subst e2
  cases rv
  exact ⟨.int a, e, h B G0 σ G H k _ fun v G1 H1 x1 r1 => ⟨a, b, rfl, r1, S.nx _ _ G1 H1 q ((k.ext x1).set i ⟨_, rfl, rfl⟩ fun _ z => by cases z)⟩⟩
/-- an own list is known for good from now on -/
theorem es_freeze {i : Nat} (h : E[i]? = some (.own l)) (q : ES K (E.set i (.val (lsA l))) ts A) : ES K E ts A := fun B G0 σ G H D k S => by
  obtain ⟨o, e, p, vs, e2, b, g, hh, pr⟩ := P_get k.sl h
  subst e2
  have sg : Same G (upd G p (.lst vs)) := fun b u e => by rw [upd_ne (ne_of_none e g)]; exact e
  have bb : OkB B G0 (upd G p (.lst vs)) H := ⟨k.bh, fun b u e => by
      by_cases z : b = p
      · subst z; rw [upd_same] at e; rw [hh]; exact e
      · rw [upd_ne z] at e; exact k.gh b u e, k.g0.trans sg, fun q' hq e => by
      have z : q' ≠ p := fun z => hq (by rw [z]; exact b)
      rw [upd_ne z]; exact k.nb q' hq e⟩
  have es : σ.set i (some (V.ref p)) = σ := by
    obtain ⟨hl, he⟩ := List.getElem?_eq_some_iff.mp e
    rw [← he]; exact List.set_getElem_self hl
  have k2 : Ok K B G0 (E.set i (.val (lsA l))) (σ.set i (some (V.ref p))) (upd G p (.lst vs)) H := by
    have hl : i < E.length := (List.getElem?_eq_some_iff.mp h).1
    refine ⟨bb, ?_, fun a c r m m' ea ec sa sc => ?_⟩
    · -- slot by slot: those that are own have another address
      have step : ∀ (j : Nat) (s : Slot) (o : Option V), (E.set i (.val (lsA l)))[j]? = some s → (σ.set i (some (V.ref p)))[j]? = some o → SlotOk K B (upd G p (.lst vs)) H s o := fun j s o hs ho => by
        by_cases hj : i = j
        · subst hj
          rw [List.getElem?_set_self hl] at hs
          rw [List.getElem?_set_self (by rw [← P_len k.sl]; exact hl)] at ho
          cases hs; cases ho
          exact ⟨_, rfl, p, vs, rfl, upd_same, pr.mono sg⟩
        · rw [List.getElem?_set_ne hj] at hs ho
          obtain ⟨o', eo, so⟩ := P_get k.sl hs
          rw [eo] at ho; cases ho
          cases s with
          | un => trivial
          | val r' => obtain ⟨v, e, rv⟩ := so; exact ⟨v, e, r'.mono sg rv⟩
          | own l' =>
            obtain ⟨p', vs', e', b', g', h', pr'⟩ := so
            have hp : p' ≠ p := fun z => by
              subst z; subst e'
              exact hj (k.ds i j p' l l' h hs e eo)
            exact ⟨p', vs', e', b', by rw [upd_ne hp]; exact g', h', pr'.mono sg⟩
          | red l' => obtain ⟨p', vs', e', b', pr'⟩ := so; exact ⟨p', vs', e', b', pr'.mono sg⟩
          | scr ns => exact so
      clear es
      have len : (E.set i (.val (lsA l))).length = (σ.set i (some (V.ref p))).length := by rw [List.length_set, List.length_set]; exact P_len k.sl
      exact P_of len step
    · have na : i ≠ a := fun z => by subst z; rw [List.getElem?_set_self hl] at ea; cases ea
      have nc : i ≠ c := fun z => by subst z; rw [List.getElem?_set_self hl] at ec; cases ec
      rw [List.getElem?_set_ne na] at ea sa
      rw [List.getElem?_set_ne nc] at ec sc
      exact k.ds a c r m m' ea ec sa sc
  rw [es] at k2
  exact q B G0 σ _ H D k2 S
/-- an own list changes -/
theorem Ok.upd {B G0 G H : Hp} {σ : L2.St} {i : Nat} {p : Addr} {vs : List V} (k : Ok K B G0 E σ G H) (h : E[i]? = some (.own l)) (e : σ[i]? = some (some (.ref p))) (pr : PR G vs m) : Ok K B G0 (E.set i (.own m)) σ G (upd H p (.lst vs)) := by
  obtain ⟨o, eO, pO, ws, e2, b, g, hh, _⟩ := P_get k.sl h
  rw [e] at eO
  have e3 := Option.some.inj eO
  clear eO
  rw [e2] at e3
  cases e3
  have hl : i < E.length := (List.getElem?_eq_some_iff.mp h).1
  refine ⟨⟨fun b' u z => ?_, fun b' u z => ?_, k.g0, k.nb⟩, ?_, fun a c r n n' ea ec sa sc => ?_⟩
  · rw [upd_ne (ne_of_none z b)]; exact k.bh b' u z
  · rw [upd_ne (ne_of_none z g)]; exact k.gh b' u z
  · refine P_of (by rw [List.length_set]; exact P_len k.sl) fun j s o hs ho => ?_
    by_cases hj : i = j
    · subst hj
      rw [List.getElem?_set_self hl] at hs
      rw [e] at ho
      cases hs; cases ho
      exact ⟨p, vs, rfl, b, g, upd_same, pr⟩
    · rw [List.getElem?_set_ne hj] at hs
      obtain ⟨o', eo, so⟩ := P_get k.sl hs
      rw [eo] at ho; cases ho
      cases s with
      | un => trivial
      | val r' => exact so
      | own l' =>
        obtain ⟨p', vs', e', b', g', h', pr'⟩ := so
        have hp : p' ≠ p := fun z => by
          subst z; subst e'
          exact hj (k.ds i j p' l l' h hs e eo)
        exact ⟨p', vs', e', b', g', by rw [upd_ne hp]; exact h', pr'⟩
      | red l' => exact so
      | scr ns => exact so
  · have own : ∀ (a : Nat) (n : List AbsV), (E.set i (.own m))[a]? = some (.own n) → ∃ n', E[a]? = some (.own n') := fun a n ea => by
      by_cases z : i = a
      · subst z; exact ⟨l, h⟩
      · rw [List.getElem?_set_ne z] at ea; exact ⟨n, ea⟩
    obtain ⟨n1, ea'⟩ := own a n ea
    obtain ⟨n2, ec'⟩ := own c n' ec
    exact k.ds a c r n1 n2 ea' ec' sa sc
theorem es_app {i : Nat} (hx : E[i]? = some (.own l)) (h : EV K E te r) (hl : l.length < 100000) (q : A.nx (E.set i (.own (l ++ [r])))) : ES K E (tDrop (tBM K "list" rAppend (tVar i) (tCons te tNil))) A := fun B G0 σ G H D k S => by
  obtain ⟨o, e, p, vs, e2, b, g, hh, pr⟩ := P_get k.sl hx
  subst e2
  refine ⟨.ref p, e, .inl ⟨rfl, _, SqL.of hh⟩, h B G0 σ G H k _ fun v G1 H1 x1 r1 => ?_⟩
  have k1 := k.ext x1
  exact ⟨p, vs, v, rfl, rfl, x1.h _ _ hh, by rw [pr.len]; exact smallT hl, S.nx _ _ _ _ q (k1.upd hx e ((pr.mono x1.g).append (.cons r1 .nil)))⟩
end
end Ab

namespace Ab
open PySem PySem.Spec PyProof.Rows L2
section
variable {K : PySem.W.Frag} {E : List Slot} {ta tb tc te : TE} {t u : TT} {ts us : TS} {r s : AbsV} {l m : List AbsV} {A : AE}
/-! loops -/
/-- the ends of a loop's turn -/
abbrev AE.turn (A : AE) (P : List Slot → Prop) : AE := { nx := P, ct := P, bk := A.nx, rt := A.rt }
theorem sat_turn {B G0 G1 H1 : Hp} {D : Ends} {P : List Slot → Prop} {N : L2.St → Hp → Prop} (S : Sat K B G0 A D) (o : OkB B G0 G1 H1) (h : ∀ E σ G H, P E → Ok K B G1 E σ G H → N σ H) : Sat K B G1 (A.turn P) { D with nx := N, ct := N, bk := D.nx } :=
  ⟨h, (S.later o).nx, h, (S.later o).rtV, (S.later o).rtO⟩
/-- a target is stored to: what the slots are then -/
def GT (K : PySem.W.Frag) (g : TG) (r : AbsV) (E E' : List Slot) : Prop := ∀ (B G0 : Hp) (σ : L2.St) (G H : Hp) (v : V), Ok K B G0 E σ G H → r.rep G v → ∀ Q : L2.St → Hp → Prop, (∀ σ', Ok K B G0 E' σ' G H → Q σ' H) → g v σ H Q
theorem gt_name {i : Nat} : GT K (gName i) r E (E.set i (.val r)) := fun B G0 σ G H v k rv Q q => q _ (k.set i ⟨v, rfl, rv⟩ fun _ z => by cases z)
def GTs (K : PySem.W.Frag) (g : TGs) (l : List AbsV) (E E' : List Slot) : Prop := ∀ (B G0 : Hp) (σ : L2.St) (G H : Hp) (vs : List V), Ok K B G0 E σ G H → PR G vs l → ∀ Q : L2.St → Hp → Prop, (∀ σ', Ok K B G0 E' σ' G H → Q σ' H) → g vs σ H Q
theorem gts_nil : GTs K gNil [] E E := fun B G0 σ G H vs k pr Q q => by
  cases pr
  exact ⟨rfl, q σ k⟩
theorem gts_cons {g : TG} {gs : TGs} {E1 E2 : List Slot} (h : GT K g r E E1) (hs : GTs K gs l E1 E2) : GTs K (gCons g gs) (r :: l) E E2 := fun B G0 σ G H vs k pr Q q => by
  cases pr with
  | cons a t => exact ⟨_, _, rfl, h B G0 σ G H _ k a _ fun σ' k' => hs B G0 σ' G H _ k' t Q q⟩
theorem gt_tup {n : Nat} {gs : TGs} {E' : List Slot} (h : GTs K gs l E E') (hn : l.length = n := by rfl) : GT K (gTup K n gs) (tuA l) E E' := fun B G0 σ G H v k ⟨p, vs, e, g, pr⟩ Q q =>
  ⟨p, vs, e, SqT.of (k.gh _ _ g), by rw [pr.len]; exact hn, h B G0 σ G H vs k pr Q q⟩
/-- target = e -/
theorem es_asgG {g : TG} {E' : List Slot} (h : EV K E te r) (hg : GT K g r E E') (q : A.nx E') : ES K E (tAsg te g) A := fun B G0 σ G H D k S =>
  h B G0 σ G H k _ fun v G1 H1 x1 r1 => hg B G0 σ G1 H1 v (k.ext x1) r1 _ fun σ' k' => S.nx _ _ G1 H1 q k'
/-- over a range -/
theorem es_forR {lo : Int} {n : Nat} {wi : TI} {g : TG} (P : Nat → List Slot → Prop) (hw : ∀ (B G0 : Hp) (σ : L2.St) (G H : Hp), Ok K B G0 E σ G H → ∀ R : It → Hp → Prop, (∀ G' H', Ext G H G' H' → R (Itr lo n) H') → wi σ H R)
    (h0 : P 0 E) (hs : ∀ i E', i < n → P i E' → ∃ E2, GT K g (nI (lo + i)) E' E2 ∧ ES K E2 ts (A.turn (P (i + 1)))) (hd : ∀ E', P n E' → A.nx E') : ES K E (tFor wi g ts) A := fun B G0 σ G H D k S =>
  hw B G0 σ G H k _ fun G1 H1 x1 => by
    have k1 := k.ext x1
    refine for_range (fun i σ' H' => ∃ E' G', P i E' ∧ Ok K B G1 E' σ' G' H') ⟨E, G1, h0, k1.here⟩ ?_ ?_
    · rintro i σ' H' hi ⟨E', G', hp, k'⟩
      obtain ⟨E2, hg, hb⟩ := hs i E' hi hp
      refine hg B G1 σ' G' H' _ k' rfl _ fun σ2 k2 => ?_
      refine hb B G1 σ2 G' H' _ k2 (sat_turn S k1.toOkB fun E3 σ3 G3 H3 h3 k3 => ⟨E3, G3, h3, k3⟩)
    · rintro σ' H' ⟨E', G', hp, k'⟩
      exact S.nx E' σ' G' H' (hd E' hp) (k'.via k1.toOkB)
theorem w_range1 {a : Int} (h : EV K E te (nI a)) (h1 : -(2 ^ 62) ≤ a) (h2 : a < 2 ^ 62) : ∀ (B G0 : Hp) (σ : L2.St) (G H : Hp), Ok K B G0 E σ G H → ∀ R : It → Hp → Prop, (∀ G' H', Ext G H G' H' → R (Itr 0 a.toNat) H') → iRng1 (tCons te tNil) σ H R := fun B G0 σ G H k R q =>
  h B G0 σ G H k _ fun v G1 H1 x1 r1 => ⟨a, by rw [r1], h1, h2, q G1 H1 x1⟩
theorem w_range2 {a b : Int} (ha : EV K E ta (nI a)) (hb : EV K E tb (nI b)) (h1 : -(2 ^ 62) ≤ a ∧ a < 2 ^ 62 ∧ -(2 ^ 62) ≤ b ∧ b < 2 ^ 62) : ∀ (B G0 : Hp) (σ : L2.St) (G H : Hp), Ok K B G0 E σ G H → ∀ R : It → Hp → Prop, (∀ G' H', Ext G H G' H' → R (Itr a (b - a).toNat) H') → iRng2 (tCons ta (tCons tb tNil)) σ H R := fun B G0 σ G H k R q =>
  ha B G0 σ G H k _ fun v G1 H1 x1 r1 => hb B G0 σ G1 H1 (k.ext x1) _ fun w G2 H2 x2 r2 => ⟨a, b, by rw [r1, r2], h1, q G2 H2 (x1.trans x2)⟩
/-- a list that stays as it is: known for good, or from ahead of the frame -/
def EVS (K : PySem.W.Frag) (E : List Slot) (te : TE) (l : List AbsV) : Prop := ∀ (B G0 : Hp) (σ : L2.St) (G H : Hp), Ok K B G0 E σ G H → ∀ Q : VK, (∀ p vs G' H', Ext G H G' H' → (G' p = some (.lst vs) ∨ B p = some (.lst vs)) → PR G' vs l → Q (.ref p) H') → te σ H Q
theorem EV.evs (h : EV K E te (lsA l)) : EVS K E te l := fun B G0 σ G H k Q q => h B G0 σ G H k Q fun v G' H' x ⟨p, vs, e, g, pr⟩ => by
  subst e
  exact q p vs G' H' x (.inl g) pr
theorem EVF.evs (h : EVF K E te l) : EVS K E te l := h.ev.evs
theorem evs_red {i : Nat} (h : E[i]? = some (.red l)) : EVS K E (tVar i) l := fun B G0 σ G H k Q q => by
  obtain ⟨o, e, p, vs, e2, b, pr⟩ := P_get k.sl h
  subst e2
  exact ⟨.ref p, e, q p vs G H (Ext.refl k.gh) (.inr b) pr⟩
theorem EVS.is (h : EVS K E te l) (e : l = m) : EVS K E te m := by
  rw [← e]; exact h
/-- over a list that stays -/
theorem es_forL {g : TG} (P : Nat → List Slot → Prop) (hw : EVS K E te l)
    (h0 : P 0 E) (hs : ∀ i r E', l[i]? = some r → P i E' → ∃ E2, GT K g r E' E2 ∧ ES K E2 ts (A.turn (P (i + 1)))) (hd : ∀ E', P l.length E' → A.nx E') : ES K E (tFor (iList K te) g ts) A := fun B G0 σ G H D k S =>
  hw B G0 σ G H k _ fun p vs G1 H1 x1 st pr => by
    have k1 := k.ext x1
    have stay : ∀ {G' H' : Hp}, OkB B G1 G' H' → H' p = some (.lst vs) := fun {G' H'} o => by
      rcases st with st | st
      · exact o.gh _ _ (o.g0 _ _ st)
      · exact o.bh _ _ st
    refine ⟨p, rfl, ⟨vs, SqL.of (stay k1.toOkB.here)⟩, ?_⟩
    refine for_list (K := K) (a := p) (xs := vs) (fun i σ' H' => ∃ E' G', P i E' ∧ Ok K B G1 E' σ' G' H') ⟨E, G1, h0, k1.here⟩ ?_ ?_ ?_
    · rintro i σ' H' _ ⟨E', G', hp, k'⟩
      exact SqL.of (stay k'.toOkB)
    · rintro i x σ' H' hi ⟨E', G', hp, k'⟩
      obtain ⟨r, hr, rv⟩ := PR.get' (pr.mono k'.g0) hi
      obtain ⟨E2, hg, hb⟩ := hs i r E' hr hp
      refine hg B G1 σ' G' H' _ k' rv _ fun σ2 k2 => ?_
      refine hb B G1 σ2 G' H' _ k2 (sat_turn S k1.toOkB fun E3 σ3 G3 H3 h3 k3 => ⟨E3, G3, h3, k3⟩)
    · rintro σ' H' ⟨E', G', hp, k'⟩
      rw [pr.len] at hp
      exact S.nx E' σ' G' H' (hd E' hp) (k'.via k1.toOkB)
/-- while -/
theorem es_while (W : Nat → List Slot → Prop) (m0 : Nat) (h0 : W m0 E) (hs : ∀ m E', W m E' → ∃ b, ET K E' t b ∧ (b = true → ES K E' ts (A.turn fun E2 => ∃ m', m' < m ∧ W m' E2)) ∧ (b = false → A.nx E')) : ES K E (tWhile t ts) A := fun B G0 σ G H D k S => by
  refine ⟨fun m σ' H' => ∃ E' G', W m E' ∧ Ok K B G E' σ' G' H', ⟨m0, E, G, h0, k.here⟩, ?_⟩
  rintro m σ' H' ⟨E', G', w, k'⟩
  obtain ⟨b, ht, h1, h2⟩ := hs m E' w
  refine ht B G σ' G' H' k' _ fun G2 H2 x2 => ?_
  have k2 := k'.ext x2
  cases b with
  | true =>
    rw [if_pos rfl]
    refine ⟨fun σ3 H3 => ∃ m', m' < m ∧ ∃ E3 G3, W m' E3 ∧ Ok K B G E3 σ3 G3 H3, fun σ3 H3 ⟨m', lt, E3, G3, w3, k3⟩ => ⟨m', lt, E3, G3, w3, k3⟩, ?_⟩
    exact h1 rfl B G σ' G2 H2 _ k2 (sat_turn S k.toOkB fun E3 σ3 G3 H3 ⟨m', lt, w3⟩ k3 => ⟨m', lt, E3, G3, w3, k3⟩)
  | false =>
    rw [if_neg Bool.false_ne_true]
    exact S.nx E' σ' G2 H2 (h2 rfl) (k2.via k.toOkB)
/-! comprehensions -/
def wipeE (E : List Slot) : List Nat → List Slot
  | [] => E
  | v :: vs => (wipeE E vs).set v .un
theorem Ok.wipe {B G0 G H : Hp} {σ : L2.St} (k : Ok K B G0 E σ G H) : ∀ vs : List Nat, Ok K B G0 (wipeE E vs) (wipe σ vs) G H
  | [] => k
  | v :: vs => (Ok.wipe k vs).set v trivial fun _ z => by cases z
theorem wipe_set {σ : L2.St} {i : Nat} {v : V} : wipe ((wipe σ [i]).set i (some v)) [i] = wipe σ [i] := by
  show (((σ.set i none).set i (some v)).set i none) = σ.set i none
  rw [List.set_set, List.set_set]
/-- a thing that nobody ahead knew changes -/
theorem Ext.mut {G H G' H' : Hp} {D : Addr} {o : HO} (x : Ext G H G' H') (h : H D = none) (g : G' D = none) : Ext G H G' (upd H' D o) :=
  ⟨x.g, fun b u e => by rw [upd_ne (ne_of_none e h)]; exact x.h b u e, fun b u e => by rw [upd_ne (ne_of_none e g)]; exact x.gh b u e, x.n⟩
/-- the items of the new list after j turns -/
def accL (bs : Nat → Bool) (els : Nat → AbsV) (j : Nat) : List AbsV := ((List.range j).filter bs).map els
theorem accL_succ (bs : Nat → Bool) (els : Nat → AbsV) (j : Nat) : accL bs els (j + 1) = accL bs els j ++ (if bs j = true then [els j] else []) := by
  unfold accL
  rw [List.range_succ, List.filter_append, List.map_append]
  cases e : bs j <;> simp [e]
theorem accL_len (bs : Nat → Bool) (els : Nat → AbsV) (j : Nat) : (accL bs els j).length ≤ j := by
  unfold accL
  rw [List.length_map]
  exact Nat.le_trans (List.length_filter_le _ _) (by rw [List.length_range]; exact Nat.le_refl _)
def LcP (G1 H1 : Hp) (D : Addr) (bs : Nat → Bool) (els : Nat → AbsV) (j : Nat) (H : Hp) : Prop := ∃ G vs, Ext G1 H1 G H ∧ G D = none ∧ H D = some (.lst vs) ∧ PR G vs (accL bs els j)
theorem lc_turn {B G0 G1 H1 H : Hp} {σ : L2.St} {D : Addr} {v : V} {g : TG} {tt : TT} {E' : List Slot} {ix : List Nat} {item : AbsV} {bs : Nat → Bool} {els : Nat → AbsV} {j : Nat} (k : Ok K B G0 E σ G1 H1) (hD : H1 D = none)
    (hj : j < 100000) (hg : ∀ (G H : Hp), Ok K B G0 (wipeE E ix) (wipe σ ix) G H → item.rep G v → ∀ Q : L2.St → Hp → Prop, (∀ σ', wipe σ' ix = wipe σ ix → Ok K B G0 E' σ' G H → Q σ' H) → g v (wipe σ ix) H Q)
    (ht : ET K E' tt (bs j)) (he : bs j = true → EV K E' te (els j)) (hv : ∀ G, Same G1 G → item.rep G v) (hp : LcP G1 H1 D bs els j H) :
    g v (wipe σ ix) H fun σ2 H2 => wipe σ2 ix = wipe σ ix ∧ tt σ2 H2 fun b H3 => if b = true then te σ2 H3 fun y H4 => ∃ a, H4 D = some (.lst a) ∧ a.length < sizeLine ∧ LcP G1 H1 D bs els (j + 1) (upd H4 D (.lst (a ++ [y]))) else LcP G1 H1 D bs els (j + 1) H3 := by
  obtain ⟨G, vs, x, gD, hD', pr⟩ := hp
  have nz : H D ≠ none := by rw [hD']; exact fun z => by cases z
  refine hg G H (Ok.wipe (k.ext x) ix) (hv G x.g) _ fun σ' hs k' => ⟨hs, ht B G0 _ G H k' _ fun G2 H2 x2 => ?_⟩
  cases e : bs j with
  | true =>
    rw [if_pos rfl]
    refine he e B G0 _ G2 H2 (k'.ext x2) _ fun y G3 H3 x3 ry => ?_
    have x23 := x2.trans x3
    have g3 : G3 D = none := x23.n D nz gD
    refine ⟨vs, x23.h _ _ hD', ?_, G3, vs ++ [y], (x.trans x23).mut hD g3, g3, upd_same, ?_⟩
    · rw [pr.len]
      exact smallT (Nat.lt_of_le_of_lt (accL_len _ _ _) hj)
    · rw [accL_succ, if_pos e]
      exact (pr.mono x23.g).append (.cons ry .nil)
  | false =>
    rw [if_neg Bool.false_ne_true]
    refine ⟨G2, vs, x.trans x2, x2.n D nz gD, x2.h _ _ hD', ?_⟩
    rw [accL_succ, e, if_neg Bool.false_ne_true, List.append_nil]
    exact pr.mono x2.g
theorem lc_zero {B G0 G1 H1 : Hp} {σ : L2.St} {D : Addr} {bs : Nat → Bool} {els : Nat → AbsV} (k : Ok K B G0 E σ G1 H1) (hD : H1 D = none) : LcP G1 H1 D bs els 0 (upd H1 D (.lst [])) :=
  ⟨G1, [], Ext.newO k.gh hD, k.gh.free hD, upd_same, .nil⟩
theorem lc_name {B G0 : Hp} {σ : L2.St} {i : Nat} {v : V} (G H : Hp) (k : Ok K B G0 (wipeE E [i]) (wipe σ [i]) G H) (h : r.rep G v) (Q : L2.St → Hp → Prop) (q : ∀ σ', wipe σ' [i] = wipe σ [i] → Ok K B G0 ((wipeE E [i]).set i (.val r)) σ' G H → Q σ' H) : gName i v (wipe σ [i]) H Q :=
  q _ wipe_set (k.set i ⟨v, rfl, h⟩ fun _ z => by cases z)
/-- [e for x in range(..) if ..] -/
theorem evf_lcR {lo : Int} {n : Nat} {wi : TI} {i : Nat} {tt : TT} (hw : ∀ (B G0 : Hp) (σ : L2.St) (G H : Hp), Ok K B G0 E σ G H → ∀ R : It → Hp → Prop, (∀ G' H', Ext G H G' H' → R (Itr lo n) H') → wi σ H R) (bs : Nat → Bool) (els : Nat → AbsV) (hn : n ≤ 100000)
    (ht : ∀ j, j < n → ET K ((wipeE E [i]).set i (.val (nI (lo + j)))) tt (bs j)) (he : ∀ j, j < n → bs j = true → EV K ((wipeE E [i]).set i (.val (nI (lo + j)))) te (els j)) :
    EVF K E (tLc wi (gName i) tt te [i]) (accL bs els n) := fun B G0 σ G H k Q q =>
  hw B G0 σ G H k _ fun G1 H1 x1 D hD => by
    have k1 := k.ext x1
    refine lc_range (LcP G1 H1 D bs els) (lc_zero k1 hD) (fun j H' hj hp => lc_turn (item := nI (lo + j)) k1 hD (Nat.lt_of_lt_of_le hj hn) (fun G H kk hh Q q => lc_name G H kk hh Q q) (ht j hj) (he j hj) (fun _ _ => rfl) hp) fun H' hp => ?_
    obtain ⟨G', vs, x, gD, hD', pr⟩ := hp
    exact q D vs G' H' (x1.trans x) (x1.h.free hD) gD hD' pr
/-- [e for x in xs if ..], xs a list that stays -/
theorem evf_lcL {i : Nat} {tt : TT} (hw : EVS K E ta l) (bs : Nat → Bool) (els : Nat → AbsV) (hn : l.length ≤ 100000)
    (ht : ∀ j r, l[j]? = some r → ET K ((wipeE E [i]).set i (.val r)) tt (bs j)) (he : ∀ j r, l[j]? = some r → bs j = true → EV K ((wipeE E [i]).set i (.val r)) te (els j)) :
    EVF K E (tLc (iList K ta) (gName i) tt te [i]) (accL bs els l.length) := fun B G0 σ G H k Q q =>
  hw B G0 σ G H k _ fun p vs G1 H1 x1 st pr => by
    have k1 := k.ext x1
    have sH : H1 p = some (.lst vs) := by
      rcases st with st | st
      · exact x1.gh _ _ st
      · exact k1.bh _ _ st
    refine ⟨p, rfl, ⟨vs, SqL.of sH⟩, fun D hD => ?_⟩
    refine lc_list (K := K) (a := p) (xs := vs) (LcP G1 H1 D bs els) (lc_zero k1 hD) (fun j H' _ hp => ?_) (fun j x H' hj hp => ?_) fun H' hp => ?_
    · obtain ⟨G', ws, x, _⟩ := hp
      exact SqL.of (x.h _ _ sH)
    · obtain ⟨r, hr, rv⟩ := PR.get' pr hj
      exact lc_turn (item := r) k1 hD (Nat.lt_of_lt_of_le (List.getElem?_eq_some_iff.mp hr).1 hn) (fun G H kk hh Q q => lc_name G H kk hh Q q) (ht j r hr) (he j r hr) (fun G s => r.mono s rv) hp
    · obtain ⟨G', ws, x, gD, hD', pr'⟩ := hp
      rw [pr.len] at pr'
      exact q D ws G' H' (x1.trans x) (x1.h.free hD) gD hD' pr'
theorem et_yes : ET K E tYes true := fun B G0 σ G H k Q q => q G H (Ext.refl k.gh)
end

/-! calls of defs -/
def ResOk (G H G' H' : Hp) : Slot → V → Prop
  | .val r, v => r.rep G' v
  | .own l, v => ∃ p vs, v = .ref p ∧ H p = none ∧ G' p = none ∧ H' p = some (.lst vs) ∧ PR G' vs l
  | _, _ => False
/-- a promise: for such arguments this result; all that stood stands -/
def spX (K : PySem.W.Frag) {X : Type} (args : X → List Slot) (pre : X → Prop) (res : X → Slot) : Sp := fun vs H Q _ => ∃ (x : X) (G : Hp), pre x ∧ Same G H ∧ Paired (ArgOk K G H) (args x) vs ∧ ∀ v G' H', Ext G H G' H' → ResOk G H G' H' (res x) v → Q v H'
section
variable {K : PySem.W.Frag} {E : List Slot} {te : TE} {ta : TA} {r : AbsV} {l : List AbsV} {X : Type} {args : X → List Slot} {pre : X → Prop} {res : X → Slot} {Ex0 : XK}
theorem ev_call (x : X) (h : EA K E ta (args x)) (hp : pre x) (hr : res x = .val r) : EV K E (tCall (spX K args pre res) [] Ex0 ta) r := fun B G0 σ G H k Q q =>
  h B G0 σ G H k _ fun vs G1 H1 x1 a => ⟨x, G1, hp, x1.gh, by rw [List.append_nil]; exact a, fun v G2 H2 x2 rv => q v G2 H2 (x1.trans x2) (by rw [hr] at rv; exact rv)⟩
theorem evf_call (x : X) (h : EA K E ta (args x)) (hp : pre x) (hr : res x = .own l) : EVF K E (tCall (spX K args pre res) [] Ex0 ta) l := fun B G0 σ G H k Q q =>
  h B G0 σ G H k _ fun vs G1 H1 x1 a => ⟨x, G1, hp, x1.gh, by rw [List.append_nil]; exact a, fun v G2 H2 x2 rv => by
    rw [hr] at rv
    obtain ⟨p, ws, e, h1, g2, h2, pr⟩ := rv
    subst e
    exact q p ws G2 H2 (x1.trans x2) (x1.h.free h1) g2 h2 pr⟩
end
/-- the ends of a def that hands back s -/
def AR (s : Slot) : AE := { nx := fun _ => s = .val nN, bk := fun _ => False, ct := fun _ => False, rt := fun s' => s' = s }
section
variable {P : Program} {w : World} {K : PySem.W.Frag} {mg : Str → Option Value} {base : Heap}
theorem P_app {α β : Type} {F : α → β → Prop} : ∀ {as as' : List α} {bs bs' : List β}, Paired F as bs → Paired F as' bs' → Paired F (as ++ as') (bs ++ bs')
  | _, _, _, _, .nil, h => h
  | _, _, _, _, .cons a t, h => .cons a (P_app t h)
theorem slots_start {K : PySem.W.Frag} {G H : Hp} : ∀ {as : List Slot} {vs : List V}, Paired (ArgOk K G H) as vs → Paired (SlotOk K H G H) as (vs.map some)
  | _, _, .nil => .nil
  | s :: as, v :: vs, .cons a t => .cons (by
      cases s with
      | un => trivial
      | val r => exact ⟨v, rfl, a⟩
      | own l => exact a.elim
      | red l => obtain ⟨p, ws, e, h, pr⟩ := a; exact ⟨p, ws, by rw [e], h, pr⟩
      | scr ns => obtain ⟨p, e, h⟩ := a; exact ⟨p, by rw [e], h⟩) (slots_start t)
theorem slots_un {K : PySem.W.Frag} {B G H : Hp} : ∀ n : Nat, Paired (SlotOk K B G H) (List.replicate n Slot.un) (List.replicate n (none : Option V))
  | 0 => .nil
  | n + 1 => .cons trivial (slots_un n)
theorem no_own {K : PySem.W.Frag} {G H : Hp} : ∀ {as : List Slot} {vs : List V} {i : Nat} {l : List AbsV}, Paired (ArgOk K G H) as vs → as[i]? ≠ some (.own l)
  | _, _, i, l, .nil => by simp
  | s :: as, v :: vs, 0, l, .cons a t => fun z => by
    have e : s = .own l := Option.some.inj z
    subst e
    exact a
  | s :: as, v :: vs, i + 1, l, .cons a t => fun z => no_own t (i := i) z
theorem start_ok {G H : Hp} {as : List Slot} {vs : List V} (gh : Same G H) (a : Paired (ArgOk K G H) as vs) (n : Nat) : Ok K H G (as ++ List.replicate n .un) (vs.map some ++ List.replicate n none) G H :=
  ⟨⟨Same.refl _, gh, Same.refl _, fun _ _ e => e⟩, P_app (slots_start a) (slots_un n), fun i j p l l' ea => by
    by_cases hi : i < as.length
    · rw [List.getElem?_append_left hi] at ea; exact absurd ea (no_own a)
    · rw [List.getElem?_append_right (by omega)] at ea
      have := List.mem_of_getElem? ea
      have := (List.mem_replicate.mp this).2
      cases this⟩
/-- THE RULE for a def of the text -/
theorem okA {X : Type} {args : X → List Slot} {pre : X → Prop} {res : X → Slot} {x qual : Str} {st : Stmt} {f : Addr} {fd : FuncData} {N ps : List Str} {k : Nat} (F : Fun K x qual st f fd) (S : FnScope N ps (defScope st)) (la : ∀ x, (args x).length = ps.length)
    (hb : ∀ (cdv : Value) (A : Around) (outer : List Env) (s : Shared) (H : Hp) (E : XK), Room k (A.deeper (envOfC qual (defScope st) s.heap.objs.size f cdv)) →
      ∃ t, PSs (cxOf CX0 P w K mg base N qual (defScope st) f cdv A outer s H E).nox (defBody st) t ∧ ∀ x, pre x → ES K (args x ++ List.replicate (N.length - ps.length) .un) t (AR (res x))) : FnOk P w K mg base CX0 (k + 1) f fd ps (spX K args pre res) := by
  refine F.ok S (fun vs H Q E h => ?_) fun cdv A outer s H vs Q E hr h => ?_
  · obtain ⟨x, G, _, _, a, _⟩ := h
    rw [← P_len a, la]
  · obtain ⟨t, ht, he⟩ := hb cdv A outer s H E hr
    obtain ⟨x, G, hp, gh, a, q⟩ := h
    refine ⟨t, ht, ?_⟩
    have lv : vs.length = ps.length := by rw [← P_len a, la]
    unfold L2.start
    rw [lv]
    refine he x hp H G _ G H _ (start_ok gh a _) ⟨fun E σ G' H' h' k' => ?_, fun _ _ _ _ h' _ => h'.elim, fun _ _ _ _ h' _ => h'.elim, fun r v G' H' h' k' rv => ?_, fun l p ws G' H' h' k' b g e pr => ?_⟩
    · refine q _ G' H' ⟨k'.g0, k'.bh, k'.gh, k'.nb⟩ ?_
      rw [h']; exact rfl
    · refine q _ G' H' ⟨k'.g0, k'.bh, k'.gh, k'.nb⟩ ?_
      have h2 : Slot.val r = res x := h'
      rw [← h2]; exact rv
    · refine q _ G' H' ⟨k'.g0, k'.bh, k'.gh, k'.nb⟩ ?_
      have h2 : Slot.own l = res x := h'
      rw [← h2]; exact ⟨p, ws, rfl, b, g, e, pr⟩
end
end Ab

namespace Ab
open PySem PySem.Spec PyProof.Rows L2
/-- a def that may be called by its name -/
structure Cal (P : Program) (w : World) (K : PySem.W.Frag) (mg : Str → Option Value) (base : Heap) (k : Nat) (x : Str) (sp : Sp) : Prop where
  ex : ∃ (f : Addr) (fd : FuncData) (ps : List Str), FnOk P w K mg base CX0 k f fd ps sp ∧ mg x = some (.ref f) ∧ PySem.W.keepIn K (.ref f) = true ∧ Binds K fd ps []
/-- a def of the text as it stands behind the top -/
structure DefAt (K : PySem.W.Frag) (mg : Str → Option Value) (x : Str) (st : Stmt) (ps : List Str) : Prop where
  ex : ∃ (f : Addr) (fd : FuncData), Fun K x x st f fd ∧ mg x = some (.ref f) ∧ Binds K fd ps []
section
variable {X : Cx} {e : Expr} {es : List Expr} {t : TA} {p pos : Pos} {sp : Sp} {x : Str} {j k : Nat}
theorem pe_ca (c : Cal X.prog X.w X.K X.mg X.base k x sp) (hr : Room j X.A) (hk : k ≤ j) (hg : Gl X x) (ha : PA X (e :: es) t)
    (hdb : (x == ("__debug__" : Str)) = false := by decide) (he : starEach (e :: es) X.env = (false, eval e X.env) :: starEach es X.env := by rfl) (hpl : (backTo pos (starEach es X.env)).any (·.1) = false := by rfl) :
    PE X (.Call (.Name x p) (e :: es) [] pos) (tCall sp [] E0 t) := by
  obtain ⟨f, fd, ps, F, hm, kp, b⟩ := c.ex
  exact pe_call F (hr.mono hk) hg hm kp b .nil pass0 ha hdb he hpl
end
section
variable {P : Program} {w : World} {K : PySem.W.Frag} {mg : Str → Option Value} {base : Heap}
theorem calA {X : Type} {args : X → List Slot} {pre : X → Prop} {res : X → Slot} {x : Str} {st : Stmt} {N ps : List Str} {k : Nat} (d : DefAt K mg x st ps) (S : FnScope N ps (defScope st)) (la : ∀ x, (args x).length = ps.length)
    (hb : ∀ (f : Addr) (cdv : Value) (A : Around) (outer : List Env) (s : Shared) (H : Hp) (E : XK), Room k (A.deeper (envOfC x (defScope st) s.heap.objs.size f cdv)) →
      ∃ t, PSs (cxOf CX0 P w K mg base N x (defScope st) f cdv A outer s H E).nox (defBody st) t ∧ ∀ x, pre x → ES K (args x ++ List.replicate (N.length - ps.length) .un) t (AR (res x))) : Cal P w K mg base (k + 1) x (spX K args pre res) := by
  obtain ⟨f, fd, F, hm, b⟩ := d.ex
  exact ⟨f, fd, ps, okA F S la (fun cdv A outer s H E hr => hb f cdv A outer s H E hr), hm, F.kp, b⟩
theorem Cal.mono {x : Str} {sp : Sp} {j k : Nat} (c : Cal P w K mg base j x sp) (h : j ≤ k) : Cal P w K mg base k x sp := by
  obtain ⟨f, fd, ps, F, r⟩ := c.ex
  exact ⟨f, fd, ps, F.mono h, r⟩
end
/-! rules whose reading names the written part itself -/
section
variable {X : Cx} (K : PySem.W.Frag)
theorem ix_listK (h : X.K = K := by rfl) : IxR X (rIxL K) := by subst h; exact ix_list
theorem ix_tupK (h : X.K = K := by rfl) : IxR X (rIxT K) := by subst h; exact ix_tup
theorem ix_seqK (h : X.K = K := by rfl) : IxR X (rIx K) := by subst h; exact ix_seq
theorem sl_listK (h : X.K = K := by rfl) : SlR X (rSlL K) := by subst h; exact sl_list
theorem sl_tupK (h : X.K = K := by rfl) : SlR X (rSlT K) := by subst h; exact sl_tup
theorem len_seqK (h : X.K = K := by rfl) : CallR X (.builtin "len") (fun xs H Q => ∃ p ys, xs = [.ref p] ∧ (SqL K H p ys ∨ SqT K H p ys) ∧ Q (.int ys.length) H) := by subst h; exact call_len_seq
theorem list_ofK (h : X.K = K := by rfl) : CallR X (.type "list") (fun xs H Q => ∃ p ys, xs = [.ref p] ∧ (SqL K H p ys ∨ SqT K H p ys) ∧ ∀ l, H l = none → Q (.ref l) (upd H l (.lst ys))) := by subst h; exact call_list_of
theorem isiK (h : X.K = K := by rfl) : CallR X (.builtin "isinstance") (rIsi K) := by subst h; exact call_isi
theorem in_seqK (h : X.K = K := by rfl) : OpR X (compareOp .In) (rIn K false) := by subst h; exact op_in_seq
theorem notIn_seqK (h : X.K = K := by rfl) : OpR X (compareOp .NotIn) (rIn K true) := by subst h; exact op_notIn_seq
end
section
variable {X : Cx} (K : PySem.W.Frag)
theorem allK (hc : X.calm = true) (h : X.K = K := by rfl) : CallR X (.builtin "all") (rAll K) := by subst h; exact cr_all hc
theorem anyK (hc : X.calm = true) (h : X.K = K := by rfl) : CallR X (.builtin "any") (rAny K) := by subst h; exact cr_any hc
theorem maxK (hc : X.calm = true) (h : X.K = K := by rfl) : CallR X (.builtin "max") (rMax K) := by subst h; exact cr_max hc
theorem minK (hc : X.calm = true) (h : X.K = K := by rfl) : CallR X (.builtin "min") (rMin K) := by subst h; exact cr_min hc
theorem sumK (hc : X.calm = true) (h : X.K = K := by rfl) : CallR X (.builtin "sum") (rSum K) := by subst h; exact cr_sum hc
theorem sortedK (h : X.K = K := by rfl) : CallR X (.builtin "sorted") (rSorted K) := by subst h; exact cr_sorted
theorem eqDK (hu : X.A.units + 64 < cLine) (h : X.K = K := by rfl) : OpR X (compareOp .Eq) (rEqD K) := by subst h; exact op_eqD hu
theorem neDK (hu : X.A.units + 64 < cLine) (h : X.K = K := by rfl) : OpR X (compareOp .NotEq) (rNeD K) := by subst h; exact op_neD hu
theorem pi_listK {tg l : Expr} {tl : TE} (hl : PE X l tl) (h : X.K = K := by rfl) : PI X tg l (iList K tl) := by subst h; exact pi_list hl
theorem pi_tupK {tg l : Expr} {tl : TE} (hl : PE X l tl) (h : X.K = K := by rfl) : PI X tg l (iTup K tl) := by subst h; exact pi_tup hl
theorem pg_tupK {es : List Expr} {k : Nat} {t : TGs} {n : Nat} {pos : Pos} (hc : X.calm = true) (h : PGs X es t) (hk : X.K = K := by rfl)
    (hn : (assignEach es X.env).length = n := by rfl) (hst : (assignEach es X.env).findIdx? (·.1) = none := by rfl) : PG X (.Tuple es k pos) (gTup K n t) := by subst hk; exact pg_tup hc h hn hst
end
/-! bootstrap names -/
theorem bt_len : bootBuiltins "len" = some (.builtin "len") := by decide +kernel
theorem bt_abs : bootBuiltins "abs" = some (.builtin "abs") := by decide +kernel
theorem bt_max : bootBuiltins "max" = some (.builtin "max") := by decide +kernel
theorem bt_min : bootBuiltins "min" = some (.builtin "min") := by decide +kernel
theorem bt_all : bootBuiltins "all" = some (.builtin "all") := by decide +kernel
theorem bt_any : bootBuiltins "any" = some (.builtin "any") := by decide +kernel
theorem bt_sorted : bootBuiltins "sorted" = some (.builtin "sorted") := by decide +kernel
theorem bt_isinstance : bootBuiltins "isinstance" = some (.builtin "isinstance") := by decide +kernel
theorem bt_int : bootBuiltins "int" = some (.type "int") := by decide +kernel
theorem bt_bool : bootBuiltins "bool" = some (.type "bool") := by decide +kernel
theorem bt_str : bootBuiltins "str" = some (.type "str") := by decide +kernel
theorem bt_list : bootBuiltins "list" = some (.type "list") := by decide +kernel
theorem bt_tuple : bootBuiltins "tuple" = some (.type "tuple") := by decide +kernel
section
variable {K : PySem.W.Frag} {E : List Slot} {ta tb tc te : TE} {t u : TT} {ts us : TS} {r s : AbsV} {l m : List AbsV} {A : AE}
/-! more expressions -/
theorem ev_bits {a : Int} (h : EV K E te (nI a)) : EV K E (tBits te) (nI ((Builtin.Int.intBits a : Nat) : Int)) := fun B G0 σ G H k Q q =>
  h B G0 σ G H k _ fun v G1 H1 x1 r1 => ⟨a, r1, q _ G1 H1 x1 rfl⟩
theorem ev_isN {b : Bool} (h : EV K E te r) (hb : ∀ G v, r.rep G v → decide (v = .non) = b) : EV K E (tIsN te) (nB b) := fun B G0 σ G H k Q q =>
  h B G0 σ G H k _ fun v G1 H1 x1 r1 => q _ G1 H1 x1 (by rw [hb G1 v r1]; exact rfl)
theorem all_bl {G : Hp} : ∀ {bs : List Bool} {vs : List V}, PR G vs (bs.map nB) → vs = bs.map V.bl
  | [], _, h => by cases h; rfl
  | b :: bs, _, h => by
    cases h with
    | cons a t => rw [all_bl t, show _ = V.bl b from a]; rfl
theorem all_int {G : Hp} : ∀ {bs : List Int} {vs : List V}, PR G vs (bs.map nI) → vs = bs.map V.int
  | [], _, h => by cases h; rfl
  | b :: bs, _, h => by
    cases h with
    | cons a t => rw [all_int t, show _ = V.int b from a]; rfl
theorem ev_all {bs : List Bool} (h : EVL K E te (bs.map nB)) : EV K E (tCB (rAll K) (tCons te tNil)) (nB (bs.all id)) :=
  ev_cbL h fun p vs G H Q _ e pr q => ⟨p, bs, rfl, SqL.of (by rw [← all_bl pr]; exact e), q _ rfl⟩
theorem ev_any {bs : List Bool} (h : EVL K E te (bs.map nB)) : EV K E (tCB (rAny K) (tCons te tNil)) (nB (bs.any id)) :=
  ev_cbL h fun p vs G H Q _ e pr q => ⟨p, bs, rfl, SqL.of (by rw [← all_bl pr]; exact e), q _ rfl⟩
end
end Ab

set_option maxHeartbeats 2000000
namespace Ab
open PySem PySem.Spec PyProof.Rows L2
/-! ### pairs of ints: the least one, the first of the sorted ones -/
abbrev prA (p : Int × Int) : AbsV := tuA [nI p.1, nI p.2]
def lexle (p q : Int × Int) : Prop := p.1 < q.1 ∨ (p.1 = q.1 ∧ p.2 ≤ q.2)
theorem lexle_anti {p q : Int × Int} (h : lexle p q) (h' : lexle q p) : p = q := by
  obtain ⟨a, b⟩ := p
  obtain ⟨c, d⟩ := q
  unfold lexle at h h'
  dsimp only at h h'
  have e1 : a = c := by omega
  have e2 : b = d := by omega
  rw [e1, e2]
abbrev tpD (p : Int × Int) : PyData := .tuple [.int p.1, .int p.2]
def ltb (q p : Int × Int) : Bool := decide (q.1 < p.1 ∨ (q.1 = p.1 ∧ q.2 < p.2))
def minP (p : Int × Int) (ps : List (Int × Int)) : Int × Int := ps.foldl (fun a y => if ltb y a = true then y else a) p
theorem minD_pairs : ∀ (ps : List (Int × Int)) (p : Int × Int), PySem.W.minD (tpD p) (ps.map tpD) = tpD (minP p ps)
  | [], p => rfl
  | q :: ps, p => by
    show (ps.map tpD).foldl _ (if PySem.W.dataLt (tpD q) (tpD p) = true then tpD q else tpD p) = tpD (ps.foldl _ (if ltb q p = true then q else p))
    have e : PySem.W.dataLt (tpD q) (tpD p) = ltb q p := PySem.W.dataLt_ii _ _ _ _
    rw [e]
    cases h : ltb q p with
    | true => rw [if_pos rfl, if_pos rfl]; exact minD_pairs ps q
    | false => rw [if_neg Bool.false_ne_true, if_neg Bool.false_ne_true]; exact minD_pairs ps p
theorem minP_spec : ∀ (ps : List (Int × Int)) (p : Int × Int), minP p ps ∈ p :: ps ∧ ∀ q ∈ p :: ps, lexle (minP p ps) q
  | [], p => ⟨List.mem_cons_self, fun q hq => by
    rw [List.mem_singleton.mp hq]; exact .inr ⟨rfl, Int.le_refl _⟩⟩
  | x :: ps, p => by
    show (ps.foldl _ (if ltb x p = true then x else p)) ∈ p :: x :: ps ∧ ∀ q ∈ p :: x :: ps, lexle (ps.foldl _ (if ltb x p = true then x else p)) q
    cases h : ltb x p with
    | true =>
      rw [if_pos rfl]
      obtain ⟨h1, h2⟩ := minP_spec ps x
      refine ⟨List.mem_cons_of_mem _ h1, fun q hq => ?_⟩
      rcases List.mem_cons.mp hq with e | hq
      · have hx := h2 x List.mem_cons_self
        have hl : x.1 < p.1 ∨ (x.1 = p.1 ∧ x.2 < p.2) := of_decide_eq_true h
        rw [e]
        unfold lexle minP at *
        omega
      · exact h2 q hq
    | false =>
      rw [if_neg Bool.false_ne_true]
      obtain ⟨h1, h2⟩ := minP_spec ps p
      refine ⟨?_, fun q hq => ?_⟩
      · rcases List.mem_cons.mp h1 with e | h1
        · exact List.mem_cons.mpr (.inl e)
        · exact List.mem_cons_of_mem _ (List.mem_cons_of_mem _ h1)
      · rcases List.mem_cons.mp hq with e | hq
        · exact h2 q (by rw [e]; exact List.mem_cons_self)
        · rcases List.mem_cons.mp hq with e | hq
          · have hx := h2 p List.mem_cons_self
            have hl : ¬ (x.1 < p.1 ∨ (x.1 = p.1 ∧ x.2 < p.2)) := of_decide_eq_false h
            rw [e]
            unfold lexle minP at *
            omega
          · exact h2 q (List.mem_cons_of_mem _ hq)
/-- min(xs), xs a list of pairs of ints -/
def rMinP (K : PySem.W.Frag) : List V → Hp → VK → Prop := fun vs H Q => ∃ (a : Addr) (xs : List V) (p : Int × Int) (ps : List (Int × Int)), vs = [V.ref a] ∧ SqL K H a xs ∧ DpAll K H xs ((p :: ps).map tpD) ∧
  ∀ (i : Nat) (v : V), xs[i]? = some v → (p :: ps)[i]? = some (minP p ps) → Q v H
theorem canLay_pairs : ∀ ps : List (Int × Int), PyData.canLayAll0 (ps.map tpD) = true
  | [] => by simp [PyData.canLayAll0]
  | p :: ps => by
    have ih := canLay_pairs ps
    rw [List.map_cons]
    simp only [PyData.canLayAll0, PyData.canLay0, ih, Bool.and_self, Bool.and_true]
theorem depth_pairs : ∀ ps : List (Int × Int), PyData.depthAll (ps.map tpD) ≤ 3
  | [] => by simp [PyData.depthAll]
  | p :: ps => by
    have ih := depth_pairs ps
    rw [List.map_cons]
    simp only [PyData.depthAll, PyData.depth]
    omega
section
variable {X : Cx}
theorem cr_minP (hu : X.A.units + 64 < cLine) (hc : X.calm = true) : CallR X (.builtin "min") (rMinP X.K) := by
  intro pins s σ H vs us Q I r h
  obtain ⟨a, xs, p, ps, rfl, hs, hd, q⟩ := h
  obtain ⟨its, rv, hl, _⟩ := I.list hs
  rw [Vals.ref1 r]
  obtain ⟨as, hr⟩ := Dp.readsAll I _ _ _ hd rv
  have hal : PySem.W.AlikeAll ((p :: ps).map tpD) := by
    refine ⟨fun x hx y hy => ?_, fun x hx => ?_⟩
    · obtain ⟨u, _, rfl⟩ := List.mem_map.mp hx
      obtain ⟨v, _, rfl⟩ := List.mem_map.mp hy
      simp [PySem.W.alike, PySem.W.alikeAll]
    · obtain ⟨u, _, rfl⟩ := List.mem_map.mp hx
      exact fun z => by cases z
  have hdep := depth_pairs (p :: ps)
  refine PySem.W.min_list_data (vs := its.toArray) (x := tpD p) (xs := ps.map tpD) (I.ok.hd hc) hl.isList (by simpa using hr) hal (by
    have : PyData.depthAll (tpD p :: ps.map tpD) ≤ 3 := hdep
    omega) fun i v h' tk bs hv hrd hk => ?_
  rw [minD_pairs] at hrd
  have hv' : its[i]? = some v := by simpa using hv
  obtain ⟨cs, hr2, hi, _, _⟩ := PySem.W.readsAll_atA (vs := its.toArray) (by simpa using hr) i v hv
  have hr3 := PySem.W.reads_keeps hk hr2
  have e := PySem.SeqAt.Reads.unique _ _ _ _ _ (by simp [PyData.canLay0, PyData.canLayAll0]) hrd hr3
  rw [List.getD_eq_getElem?_getD] at e
  have hi2 : i < (p :: ps).length := by simpa using hi
  have e2 : ((p :: ps).map tpD)[i]? = some (tpD (p :: ps)[i]) := by rw [List.getElem?_map, List.getElem?_eq_getElem hi2]; rfl
  rw [show (tpD p :: ps.map tpD) = (p :: ps).map tpD from rfl, e2] at e
  have e3 : minP p ps = (p :: ps)[i] := by
    have z : tpD (minP p ps) = tpD (p :: ps)[i] := e
    simp only [tpD, PyData.tuple.injEq, List.cons.injEq, PyData.int.injEq, and_true] at z
    exact Prod.ext z.1 z.2
  have hxl : xs.length = its.length := Vals.length rv
  have hi3 : i < xs.length := by rw [hxl]; exact (List.getElem?_eq_some_iff.mp hv').1
  have hx : xs[i]? = some xs[i] := List.getElem?_eq_getElem hi3
  obtain ⟨u, hu2, ru⟩ := rv.get hx
  rw [hu2] at hv'
  cases hv'
  exact ⟨xs[i], H, I.kept hk, ru, q i xs[i] hx (by rw [List.getElem?_eq_getElem hi2, e3])⟩
end
section
variable {X : Cx} (K : PySem.W.Frag)
theorem minPK (hu : X.A.units + 64 < cLine) (hc : X.calm = true) (h : X.K = K := by rfl) : CallR X (.builtin "min") (rMinP K) := by subst h; exact cr_minP hu hc
theorem sortedPOK (h : X.K = K := by rfl) : CallR X (.builtin "sorted") (rSortedPO K) := by subst h; exact cr_sortedPO
end
section
variable {K : PySem.W.Frag} {E : List Slot} {te : TE} {r : AbsV}
theorem pr_dp {G : Hp} : ∀ {ps : List (Int × Int)} {vs : List V}, PR G vs (ps.map prA) → DpAll K G vs (ps.map tpD)
  | [], _, h => by cases h; exact .nil
  | p :: ps, _, h => by
    cases h with
    | cons a t =>
      obtain ⟨q, ws, e, g, pr⟩ := a
      subst e
      cases pr with
      | cons a1 t1 =>
        cases t1 with
        | cons a2 t2 =>
          cases t2
          cases a1; cases a2
          exact .cons (.tup (SqT.of g) (.cons (.int _) (.cons (.int _) .nil))) (pr_dp t)
theorem dp_mono {K : PySem.W.Frag} {G H : Hp} (s : Same G H) : ∀ {ps : List (Int × Int)} {vs : List V}, PR G vs (ps.map prA) → PR H vs (ps.map prA) := fun h => h.mono s
theorem ev_minP {p m : Int × Int} {ps : List (Int × Int)} (h : EVL K E te ((p :: ps).map prA)) (hm : m ∈ p :: ps) (hl : ∀ q ∈ p :: ps, lexle m q) : EV K E (tCB (rMinP K) (tCons te tNil)) (prA m) := fun B G0 σ G H k Q q =>
  h B G0 σ G H k _ fun a vs G1 H1 x1 h1 pr => ⟨a, vs, p, ps, rfl, SqL.of h1, pr_dp (pr.mono x1.gh), fun i v hv hi => by
    have e : m = minP p ps := lexle_anti (hl _ (minP_spec ps p).1) ((minP_spec ps p).2 _ hm)
    rw [← e] at hi
    obtain ⟨w, hw, rw'⟩ := pr.get (i := i) (r := prA m) (by rw [List.getElem?_map, hi]; rfl)
    rw [hv] at hw
    cases hw
    exact q v G1 H1 x1 rw'⟩
/-- sorted(xs)[0], xs a list of pairs of ints -/
theorem ev_sorted0 {m : Int × Int} {ps : List (Int × Int)} (h : EVL K E te (ps.map prA)) (hm : m ∈ ps) (hl : ∀ q ∈ ps, lexle m q) : EV K E (tOp (rIxL K) (tCB (rSortedPO K) (tCons te tNil)) (tC (.int 0))) (prA m) := fun B G0 σ G H k Q q =>
  h B G0 σ G H k _ fun a vs G1 H1 x1 h1 pr => by
    -- which pair a value stands for
    have key : ∀ x ∈ vs, ∃ (t : Addr) (p : Int × Int), x = V.ref t ∧ p ∈ ps ∧ H1 t = some (.tup [.int p.1, .int p.2]) ∧ (prA p).rep G1 x := fun x hx => by
      obtain ⟨i, hi⟩ := List.getElem?_of_mem hx
      obtain ⟨r, hr, rr⟩ := pr.get' hi
      rw [List.getElem?_map] at hr
      cases e : ps[i]? with
      | none => rw [e] at hr; cases hr
      | some p =>
        rw [e] at hr
        cases hr
        obtain ⟨t, ws, ex, g, pr2⟩ := id rr
        cases pr2 with
        | cons a1 t1 =>
          cases t1 with
          | cons a2 t2 =>
            cases t2; cases a1; cases a2
            exact ⟨t, p, ex, List.mem_of_getElem? e, x1.gh _ _ g, rr⟩
    let f : V → Int × Int := fun x => match x with
      | .ref t => match H1 t with
        | some (.tup [.int i, .int j]) => (i, j)
        | _ => (0, 0)
      | _ => (0, 0)
    have hf : ∀ x ∈ vs, ∃ t p, x = V.ref t ∧ f x = p ∧ p ∈ ps ∧ H1 t = some (.tup [.int p.1, .int p.2]) ∧ (prA p).rep G1 x := fun x hx => by
      obtain ⟨t, p, e, hp, ht, rr⟩ := key x hx
      refine ⟨t, p, e, ?_, hp, ht, rr⟩
      subst e
      show (match H1 t with | some (.tup [.int i, .int j]) => (i, j) | _ => (0, 0)) = p
      rw [ht]
    refine ⟨a, vs, f, rfl, SqL.of h1, fun x hx => ?_, fun ys p srt stb np => ?_⟩
    · obtain ⟨t, p, e, ef, hp, ht, _⟩ := hf x hx
      exact ⟨t, e, by rw [ef]; exact ht⟩
    · -- m stands in the list
      obtain ⟨i, hi⟩ := List.getElem?_of_mem hm
      obtain ⟨vm, hvm, rm⟩ := pr.get (i := i) (r := prA m) (by rw [List.getElem?_map, hi]; rfl)
      have hvm2 : vm ∈ vs := List.mem_of_getElem? hvm
      have hym : vm ∈ ys := stb.perm.mem_iff.mpr hvm2
      cases ys with
      | nil => cases hym
      | cons y yr =>
        have hyv : y ∈ vs := stb.perm.mem_iff.mp List.mem_cons_self
        obtain ⟨t, py, ey, efy, hpy, hty, ry⟩ := hf y hyv
        -- nothing is less than the first
        have first : ∀ z ∈ y :: yr, ltP f z y = false := fun z hz => by
          rcases List.mem_cons.mp hz with e | hz
          · rw [e]; exact (ltP_swo f).refl y
          · exact SrtO.srtd_head srt z hz
        have fm : f vm = m := by
          obtain ⟨t2, p2, e2, ef2, _, ht2, _⟩ := hf vm hvm2
          obtain ⟨t3, ws, e3, g3, pr3⟩ := id rm
          cases pr3 with
          | cons a1 t1 =>
            cases t1 with
            | cons a2 t2' =>
              cases t2'; cases a1; cases a2
              rw [e2] at e3
              cases e3
              have hh := x1.gh _ _ g3
              rw [ht2] at hh
              rw [ef2]
              have := Option.some.inj hh
              simp only [HO.tup.injEq, List.cons.injEq, V.int.injEq, and_true] at this
              exact Prod.ext this.1 this.2
        have le1 : lexle py m := by
          have := SrtO.lexB_no.mp (first vm hym)
          rw [fm, efy] at this
          unfold lexle
          omega
        have e : py = m := lexle_anti le1 (hl py hpy)
        refine ⟨p, y :: yr, 0, y, rfl, rfl, SqL.of upd_same, at_of (j := 0) rfl rfl, ?_⟩
        refine q y G1 _ (x1.trans (Ext.newO x1.gh np)) ?_
        rw [← e]; exact ry
end

/-! ### isinstance of data -/
def tyD : PyData → String
  | .none => "NoneType"
  | .bool _ => "bool"
  | .int _ => "int"
  | .str _ => "str"
  | .list _ => "list"
  | .tuple _ => "tuple"
  | .dict _ => "dict"
section
variable {K : PySem.W.Frag} {E : List Slot} {te ta tb : TE} {r : AbsV}
theorem dat_ty {G : Hp} : ∀ (d : PyData) {v : V}, (dat d).rep G v → TyX K G v (.type (tyD d))
  | .none, _, h => by cases h; exact .base .non
  | .bool b, _, h => by cases h; exact .base (.bl b)
  | .int i, _, h => by cases h; exact .base (.int i)
  | .str z, _, h => by cases h; exact .base (.str z)
  | .list ds, _, h => by
    obtain ⟨p, vs, e, g, _⟩ := h
    subst e
    exact .base (.lst g)
  | .tuple ds, _, h => by
    obtain ⟨p, vs, e, g, _⟩ := h
    subst e
    exact .base (.tup g)
  | .dict _, _, h => h.elim
theorem ev_isi {b : Bool} {n : String} {d : PyData} (h : EV K E te (dat d)) (hk : kitB (tyD d) n = some b) : EV K E (tCB (rIsi K) (tCons te (tCons (tC (.ty n)) tNil))) (nB b) := fun B G0 σ G H k Q q =>
  h B G0 σ G H k _ fun v G1 H1 x1 r1 => ⟨v, .ty n, .type (tyD d), .type n, b, rfl, .ty n, dat_ty d ((dat d).mono x1.gh r1), kit_ty hk, q _ G1 H1 x1 rfl⟩
theorem ev_isNd {d : PyData} (h : EV K E te (dat d)) : EV K E (tIsN te) (nB (decide (tyD d = "NoneType"))) := ev_isN h fun G v hv => by
  cases d with
  | none => cases hv; rfl
  | bool b => cases hv; rfl
  | int i => cases hv; rfl
  | str z => cases hv; rfl
  | list ds => obtain ⟨p, vs, e, _⟩ := hv; subst e; rfl
  | tuple ds => obtain ⟨p, vs, e, _⟩ := hv; subst e; rfl
  | dict _ => exact hv.elim
end
section
variable {K : PySem.W.Frag} {E : List Slot} {ta tb : TE} {r : AbsV} {l : List AbsV}
/-- an item of a list or a tuple, where the text may meet either -/
theorem ev_ixA {i : Nat} {n : Int} (ha : EVL K E ta l ∨ EV K E ta (tuA l)) (hb : EV K E tb (nI n)) (hn : n = (i : Int)) (hi : l[i]? = some r) : EV K E (tOp (rIx K) ta tb) r := fun B G0 σ G H k Q q => by
  rcases ha with ha | ha
  · exact ha B G0 σ G H k _ fun p vs G1 H1 x1 h1 r1 => hb B G0 σ G1 H1 (k.ext x1) _ fun y G2 H2 x2 r2 => by
      obtain ⟨v, hv, rv⟩ := (r1.mono x2.g).get hi
      exact .inl ⟨p, vs, n, v, rfl, r2, SqL.of (x2.h _ _ h1), at_of hn hv, q v G2 H2 (x1.trans x2) rv⟩
  · exact ha B G0 σ G H k _ fun x G1 H1 x1 ⟨p, vs, e, g1, r1⟩ => hb B G0 σ G1 H1 (k.ext x1) _ fun y G2 H2 x2 r2 => by
      obtain ⟨v, hv, rv⟩ := (r1.mono x2.g).get hi
      subst e
      exact .inr (.inl ⟨p, vs, n, v, rfl, r2, SqT.of (x2.gh _ _ (x2.g _ _ g1)), at_of hn hv, q v G2 H2 (x1.trans x2) rv⟩)
end
/-- a def that is never called: no arguments fit -/
theorem cal_never {P : Program} {w : World} {K : PySem.W.Frag} {mg : Str → Option Value} {base : Heap} {X : Type} {args : X → List Slot} {res : X → Slot} {x : Str} {st : Stmt} {ps : List Str} {pre : X → Prop} (d : DefAt K mg x st ps) (hp : ∀ x, ¬ pre x) : Cal P w K mg base 0 x (spX K args pre res) := by
  obtain ⟨f, fd, F, hm, b⟩ := d.ex
  exact ⟨f, fd, ps, ⟨fun vs H Q E h => (hp _ h.choose_spec.choose_spec.1).elim, fun A outer s H as us vs Q E _ _ _ _ h => (hp _ h.choose_spec.choose_spec.1).elim⟩, hm, F.kp, b⟩
end Ab

set_option maxHeartbeats 2000000
namespace Ab
open PySem PySem.Spec PyProof.Rows L2
theorem ev_ixS {K : PySem.W.Frag} {E : List Slot} {tb : TE} {i j : Nat} {ns : List Int} {n x : Int} (h : E[i]? = some (.scr ns)) (hb : EV K E tb (nI n)) (hn : n = (j : Int)) (hx : ns[j]? = some x) : EV K E (tOp (rIxL K) (tVar i) tb) (nI x) := fun B G0 σ G H k Q q => by
  obtain ⟨o, e, p, e2, hs⟩ := P_get k.sl h
  subst e2
  exact ⟨.ref p, e, hb B G0 σ G H k _ fun v G1 H1 x1 r1 => ⟨p, ns.map V.int, n, .int x, rfl, r1, x1.h.seq (k.bh.seq hs), at_of hn (by rw [List.getElem?_map, hx]; rfl), q _ G1 H1 x1 rfl⟩⟩
def absI (c : Int) : Int := if c < 0 then -c else c
def mixF (f k : Int) : Int :=
  let m1 := (f * 48271 + (k + 1) * 69621) % 2147483647
  let m2 := (m1 * m1 + m1 * 16807 + k * 7919) % 2147483629
  let m3 := (m2 * m2 + f + 13 * k) % 2147483587
  m3 / 7 % 4096
def drawsS (c : Int) : Nat → List Int × Int
  | 0 => ([], absI c)
  | i + 1 => if (decide (10 ^ (18 : Int).toNat ≤ absI c) && decide (0 < (drawsS c i).2)) = true then ((drawsS c i).1 ++ [(drawsS c i).2 % 4096], (drawsS c i).2 / 4096) else ((drawsS c i).1 ++ [mixF (absI c) (0 + (i : Int))], (drawsS c i).2)
def drawsF (c : Int) (n : Nat) : List Int := (drawsS c n).1
theorem drawsS_len (c : Int) : ∀ n : Nat, (drawsS c n).1.length = n
  | 0 => rfl
  | n + 1 => by
    have ih := drawsS_len c n
    unfold drawsS
    split <;> (rw [List.length_append, ih]; rfl)
theorem drawsS_mem (c : Int) : ∀ (n : Nat) (x : Int), x ∈ (drawsS c n).1 → 0 ≤ x ∧ x < 4096
  | 0, x, h => by cases h
  | n + 1, x, h => by
    have ih := drawsS_mem c n x
    unfold drawsS at h
    split at h
    · rcases List.mem_append.mp h with h | h
      · exact ih h
      · rw [List.mem_singleton.mp h]; omega
    · rcases List.mem_append.mp h with h | h
      · exact ih h
      · rw [List.mem_singleton.mp h]; unfold mixF; dsimp only; omega
theorem drawsF_at (c : Int) {n k : Nat} (h : k < n) : ∃ x, (drawsF c n)[k]? = some x ∧ 0 ≤ x ∧ x < 4096 := by
  have hl := drawsS_len c n
  have hk : k < (drawsF c n).length := by unfold drawsF; rw [hl]; exact h
  exact ⟨_, List.getElem?_eq_getElem hk, drawsS_mem c n _ (List.getElem_mem hk)⟩
def Flat : PyData → Prop
  | .none | .bool _ | .int _ | .str _ => True
  | _ => False
def Fit : Nat → PyData → Prop
  | 0, _ => False
  | n + 1, d => Flat d ∨ ∃ ds : List PyData, (d = .list ds ∨ d = .tuple ds) ∧ ds.length ≤ 1000 ∧ ∀ x ∈ ds, Fit n x
theorem all_true (n : Nat) : ((List.range n).map (fun _ : Nat => true)).all id = true := by
  rw [List.all_eq_true]
  intro x hx
  obtain ⟨_, _, e⟩ := List.mem_map.mp hx
  rw [← e]; rfl
theorem accL_all (els : Nat → AbsV) (n : Nat) : accL (fun _ => true) els n = (List.range n).map els := by
  unfold accL
  rw [List.filter_eq_self.mpr (fun _ _ => rfl)]
theorem eqV_int (a b : Int) : eqV (.int a) (.int b) = decide (a = b) := by
  unfold eqV
  rfl
theorem ev_inI {K : PySem.W.Frag} {E : List Slot} {ta tb : TE} {n : Int} {ns : List Int} (ha : EV K E ta (nI n)) (hb : EVL K E tb (ns.map nI)) : EV K E (tOp (rIn K false) ta tb) (nB (decide (n ∈ ns))) := fun B G0 σ G H k Q q =>
  ha B G0 σ G H k _ fun x G1 H1 x1 r1 => hb B G0 σ G1 H1 (k.ext x1) _ fun p vs G2 H2 x2 h2 pr => by
    have e := all_int pr
    subst e
    cases r1
    refine ⟨p, _, rfl, .inl (SqL.of h2), rfl, ?_, q _ G2 H2 (x1.trans x2) ?_⟩
    · rw [List.all_eq_true]
      intro v hv
      obtain ⟨z, _, rfl⟩ := List.mem_map.mp hv
      rfl
    · show V.bl _ = V.bl _
      congr 1
      rw [if_neg Bool.false_ne_true]
      unfold inV
      rw [List.any_map, Bool.eq_iff_iff, List.any_eq_true, decide_eq_true_eq]
      constructor
      · rintro ⟨z, hz, e⟩
        have : z = n := of_decide_eq_true ((eqV_int z n).symm.trans e)
        rw [← this]; exact hz
      · intro hz
        exact ⟨n, hz, (eqV_int n n).trans (decide_eq_true rfl)⟩
theorem acc_first {bs : Nat → Bool} {els : Nat → AbsV} {n j0 : Nat} (h : bs j0 = true) (hl : ∀ j, j < j0 → bs j = false) (hn : j0 < n) : (accL bs els n)[0]? = some (els j0) := by
  have e0 : ∀ j, j ≤ j0 → accL bs els j = [] := fun j => by
    induction j with
    | zero => intro _; rfl
    | succ j ih =>
      intro hj
      rw [accL_succ, ih (by omega), hl j (by omega)]
      rfl
  have e1 : ∀ d, (accL bs els (j0 + 1 + d))[0]? = some (els j0) := fun d => by
    induction d with
    | zero =>
      rw [Nat.add_zero, accL_succ, e0 j0 (Nat.le_refl _), h]
      rfl
    | succ d ih =>
      rw [show j0 + 1 + (d + 1) = (j0 + 1 + d) + 1 by omega, accL_succ]
      have hlen : 0 < (accL bs els (j0 + 1 + d)).length := by
        rcases Nat.eq_zero_or_pos (accL bs els (j0 + 1 + d)).length with z | z
        · rw [List.getElem?_eq_none (by omega)] at ih; cases ih
        · exact z
      rw [List.getElem?_append_left hlen]
      exact ih
  have := e1 (n - (j0 + 1))
  rw [show j0 + 1 + (n - (j0 + 1)) = n by omega] at this
  exact this
theorem dats_int : ∀ ns : List Int, dats (ns.map PyData.int) = ns.map nI
  | [] => rfl
  | n :: ns => by
    show nI n :: dats (ns.map PyData.int) = nI n :: ns.map nI
    rw [dats_int ns]
theorem fit_flat {d : PyData} {n : Nat} (h : Flat d) : Fit (n + 1) d := .inl h
theorem fit_ints {ns : List Int} (h : ns.length ≤ 1000) {n : Nat} : Fit (n + 2) (.list (ns.map PyData.int)) := .inr ⟨_, .inl rfl, by rw [List.length_map]; exact h, fun x hx => by
  obtain ⟨z, _, rfl⟩ := List.mem_map.mp hx
  exact .inl trivial⟩

theorem accL_map {α : Type} (f : α → AbsV) : ∀ (l : List α) (d : α), accL (fun _ => true) (fun j => f (l.getD j d)) l.length = l.map f := fun l d => by
  rw [accL_all]
  apply List.ext_getElem
  · simp
  · intro i h1 h2
    simp only [List.length_map, List.length_range] at h1
    simp [h1]
theorem range_getD {α : Type} (l : List α) (d : α) : (List.range l.length).map (fun j => l.getD j d) = l := by
  apply List.ext_getElem
  · simp
  · intro i h1 h2
    simp [h2]
theorem accL_filter {α : Type} (f : α → AbsV) (p : α → Bool) (l : List α) (d : α) : accL (fun j => p (l.getD j d)) (fun j => f (l.getD j d)) l.length = (l.filter p).map f := by
  have h : l.filter p = ((List.range l.length).map (fun j => l.getD j d)).filter p := by rw [range_getD]
  rw [h, List.filter_map, List.map_map]
  rfl
section
variable {K : PySem.W.Frag} {E : List Slot} {ta tb te th : TE} {r : AbsV} {l m : List AbsV}
theorem ev_ninI {n : Int} {ns : List Int} (ha : EV K E ta (nI n)) (hb : EVL K E tb (ns.map nI)) : EV K E (tOp (rIn K true) ta tb) (nB (!decide (n ∈ ns))) := fun B G0 σ G H k Q q =>
  ha B G0 σ G H k _ fun x G1 H1 x1 r1 => hb B G0 σ G1 H1 (k.ext x1) _ fun p vs G2 H2 x2 h2 pr => by
    have e := all_int pr
    subst e
    cases r1
    refine ⟨p, _, rfl, .inl (SqL.of h2), rfl, ?_, q _ G2 H2 (x1.trans x2) ?_⟩
    · rw [List.all_eq_true]
      intro v hv
      obtain ⟨z, _, rfl⟩ := List.mem_map.mp hv
      rfl
    · show V.bl _ = V.bl _
      congr 1
      rw [if_pos rfl]
      congr 1
      unfold inV
      rw [List.any_map, Bool.eq_iff_iff, List.any_eq_true, decide_eq_true_eq]
      constructor
      · rintro ⟨z, hz, e⟩
        have : z = n := of_decide_eq_true ((eqV_int z n).symm.trans e)
        rw [← this]; exact hz
      · intro hz
        exact ⟨n, hz, (eqV_int n n).trans (decide_eq_true rfl)⟩
/-- xs + ys -/
theorem evf_cat (ha : EVL K E ta l) (hb : EVL K E tb m) (hl : l.length + m.length ≤ 100000) : EVF K E (tOp rCat ta tb) (l ++ m) := fun B G0 σ G H k Q q =>
  ha B G0 σ G H k _ fun p vs G1 H1 x1 h1 r1 => hb B G0 σ G1 H1 (k.ext x1) _ fun p2 ws G2 H2 x2 h2 r2 =>
    ⟨p, p2, vs, ws, rfl, rfl, x2.h _ _ h1, h2, by rw [r1.len, r2.len]; exact small hl, fun z hz => q z (vs ++ ws) G2 _ ((x1.trans x2).trans (Ext.newO x2.gh hz)) ((x1.trans x2).h.free hz) (x2.gh.free hz) upd_same ((r1.mono x2.g).append r2)⟩
/-- xs[:n] -/
theorem evf_to {n : Int} (ha : EVL K E te l) (hb : EV K E th (nI n)) (h0 : 0 ≤ n) : EVF K E (tSl (rSlL K) te tNoPart (tPart th)) (l.take n.toNat) := fun B G0 σ G H k Q q =>
  ha B G0 σ G H k _ fun p vs G1 H1 x1 h1 r1 => hb B G0 σ G1 H1 (k.ext x1) _ fun v G2 H2 x2 r2 => ⟨n, r2, p, vs, rfl, SqL.of (x2.h _ _ h1), fun z hz => by
    have e : cutV vs none (some n) = vs.take n.toNat := by
      have en : (some n : Option Int) = some ((n.toNat : Nat) : Int) := by rw [Int.toNat_of_nonneg h0]
      unfold cutV
      rw [en, HT.sIx_nat, HT.sIx_none, Nat.sub_zero, List.drop_zero]
      rcases Nat.le_total n.toNat vs.length with h | h
      · rw [Nat.min_eq_left h]
      · rw [Nat.min_eq_right h, List.take_length, List.take_of_length_le h]
    rw [e]
    exact q z _ G2 _ ((x1.trans x2).trans (Ext.newO x2.gh hz)) ((x1.trans x2).h.free hz) (x2.gh.free hz) upd_same ((r1.mono x2.g).take n.toNat)⟩
/-- xs[n:] -/
theorem evf_from {n : Int} (ha : EVL K E te l) (hb : EV K E th (nI n)) (h0 : 0 ≤ n) : EVF K E (tSl (rSlL K) te (tPart th) tNoPart) (l.drop n.toNat) := fun B G0 σ G H k Q q =>
  ha B G0 σ G H k _ fun p vs G1 H1 x1 h1 r1 => hb B G0 σ G1 H1 (k.ext x1) _ fun v G2 H2 x2 r2 => ⟨n, r2, p, vs, rfl, SqL.of (x2.h _ _ h1), fun z hz => by
    have e : cutV vs (some n) none = vs.drop n.toNat := by
      have en : (some n : Option Int) = some ((n.toNat : Nat) : Int) := by rw [Int.toNat_of_nonneg h0]
      unfold cutV
      rw [en, HT.sIx_nat, HT.sIx_none]
      rcases Nat.le_total n.toNat vs.length with h | h
      · rw [Nat.min_eq_left h]
        exact List.take_of_length_le (by rw [List.length_drop]; omega)
      · rw [Nat.min_eq_right h, List.drop_of_length_le h, List.drop_of_length_le (Nat.le_refl _)]; exact List.take_nil
    rw [e]
    exact q z _ G2 _ ((x1.trans x2).trans (Ext.newO x2.gh hz)) ((x1.trans x2).h.free hz) (x2.gh.free hz) upd_same ((r1.mono x2.g).drop n.toNat)⟩
end
end Ab

namespace Mth
/-! ### primes -/
def Pr (n : Int) : Prop := 2 ≤ n ∧ ∀ d : Int, 2 ≤ d → d * d ≤ n → n % d ≠ 0
open Classical in
noncomputable def pr (n : Int) : Bool := decide (Pr n)
open Classical in
theorem pr_true {n : Int} (h : Pr n) : pr n = true := by unfold pr; exact decide_eq_true h
open Classical in
theorem pr_false {n : Int} (h : ¬ Pr n) : pr n = false := by unfold pr; exact decide_eq_false h
open Classical in
theorem of_pr {n : Int} (h : pr n = true) : Pr n := by unfold pr at h; exact of_decide_eq_true h
open Classical in
theorem of_prF {n : Int} (h : pr n = false) : ¬ Pr n := by unfold pr at h; exact of_decide_eq_false h
/-- a check that computes -/
def prN (n : Nat) : Bool := decide (2 ≤ n) && (List.range 70).all fun d => decide (d < 2) || decide (n < d * d) || decide (n % d ≠ 0)
theorem prN_pr {n : Nat} (h : prN n = true) (hn : n < 4900) : Pr (n : Int) := by
  unfold prN at h
  rw [Bool.and_eq_true] at h
  obtain ⟨h1, h2⟩ := h
  have h1 := of_decide_eq_true h1
  refine ⟨by omega, fun d hd hdd hm => ?_⟩
  obtain ⟨e, rfl⟩ : ∃ e : Nat, d = (e : Int) := ⟨d.toNat, by omega⟩
  have he : e * e ≤ n := by exact_mod_cast hdd
  have h70 : e < 70 := by
    rcases Nat.lt_or_ge e 70 with h | h
    · exact h
    · have : 70 * 70 ≤ e * e := Nat.mul_le_mul h h
      omega
  have h3 := List.all_eq_true.mp h2 e (List.mem_range.mpr h70)
  simp only [Bool.or_eq_true, decide_eq_true_eq] at h3
  rcases h3 with (h3 | h3) | h3
  · omega
  · omega
  · have : ((n % e : Nat) : Int) = 0 := by rw [Int.natCast_emod]; exact hm
    omega
def IsNext (n p : Int) : Prop := 2 ≤ p ∧ n ≤ p ∧ Pr p ∧ ∀ q : Int, 2 ≤ q → n ≤ q → q < p → ¬ Pr q
theorem isNext_max {n p : Int} (h : IsNext n p) : IsNext (if n > 2 then n else 2) p := by
  obtain ⟨h1, h2, h3, h4⟩ := h
  refine ⟨h1, ?_, h3, fun q hq hn hp => h4 q hq ?_ hp⟩ <;> split at * <;> omega
/-- a least one -/
theorem least_of {P : Int → Prop} {lo : Int} : ∀ (n : Nat) (p : Int), P p → lo ≤ p → p - lo ≤ n → ∃ q, P q ∧ lo ≤ q ∧ q ≤ p ∧ ∀ r, lo ≤ r → r < q → ¬ P r
  | 0, p, hp, hl, hn => ⟨p, hp, hl, Int.le_refl _, fun r h1 h2 => by omega⟩
  | n + 1, p, hp, hl, hn => by
    by_cases h : ∃ r, lo ≤ r ∧ r < p ∧ P r
    · obtain ⟨r, h1, h2, h3⟩ := h
      obtain ⟨q, q1, q2, q3, q4⟩ := least_of n r h3 h1 (by omega)
      exact ⟨q, q1, q2, by omega, q4⟩
    · exact ⟨p, hp, hl, Int.le_refl _, fun r h1 h2 h3 => h ⟨r, h1, h2, h3⟩⟩
/-- primes stand close: a list of them -/
def pList : List Nat := [2, 3, 5, 7, 11, 13, 17, 23, 31, 43, 61, 89, 113, 127, 157, 197, 241, 313, 389, 461, 523, 541, 613, 691, 769, 839, 911, 983, 1051, 1129, 1201, 1277, 1327, 1361, 1439, 1511, 1583, 1657, 1733, 1811, 1889, 1951, 2029, 2099, 2179, 2251, 2311, 2389, 2467, 2543, 2621, 2699, 2777, 2857, 2927, 3001, 3079, 3137, 3217, 3271, 3347, 3413, 3491, 3571, 3643, 3719, 3797, 3877, 3947, 4027, 4099, 4177, 4253, 4259]
def gapB : List Nat → Bool
  | a :: b :: r => decide (a < b) && decide (b ≤ a + 80) && gapB (b :: r)
  | _ => true
theorem pList_pr : pList.all prN = true := by decide +kernel
theorem pList_gap : gapB pList = true := by decide +kernel
theorem gap_of : ∀ (l : List Nat) (a : Nat), gapB (a :: l) = true → ∀ n : Nat, a < n → (∃ z, z ∈ a :: l ∧ n ≤ z) → ∃ p, p ∈ l ∧ n ≤ p ∧ p < n + 80
  | [], a, _, n, hn, ⟨z, hz, h⟩ => by
    rw [List.mem_singleton.mp hz] at h
    omega
  | b :: r, a, hg, n, hn, ⟨z, hz, h⟩ => by
    unfold gapB at hg
    rw [Bool.and_eq_true, Bool.and_eq_true] at hg
    obtain ⟨⟨h1, h2⟩, h3⟩ := hg
    have h1 := of_decide_eq_true h1
    have h2 := of_decide_eq_true h2
    by_cases hb : n ≤ b
    · exact ⟨b, List.mem_cons_self, hb, by omega⟩
    · obtain ⟨p, hp, e⟩ := gap_of r b h3 n (by omega) ⟨z, by
        rcases List.mem_cons.mp hz with e | e
        · omega
        · exact e, h⟩
      exact ⟨p, List.mem_cons_of_mem _ hp, e⟩
theorem pList_mem {p : Nat} (h : p ∈ pList) : Pr (p : Int) ∧ p ≤ 4259 := by
  have h1 := List.all_eq_true.mp pList_pr p h
  have h2 : p ≤ 4259 := by
    have : pList.all (fun p => decide (p ≤ 4259)) = true := by decide +kernel
    exact of_decide_eq_true (List.all_eq_true.mp this p h)
  exact ⟨prN_pr h1 (by omega), h2⟩
/-- from any number below 4,200 there is a prime within 80 -/
theorem prime_near {n : Int} (h : n ≤ 4200) : ∃ p, Pr p ∧ (if n > 2 then n else 2) ≤ p ∧ p < (if n > 2 then n else 2) + 80 := by
  split
  · obtain ⟨m, rfl⟩ : ∃ m : Nat, n = (m : Int) := ⟨n.toNat, by omega⟩
    obtain ⟨p, hp, h1, h2⟩ := gap_of pList.tail 2 pList_gap m (by omega) ⟨4259, by decide +kernel, by omega⟩
    have h3 := (pList_mem (p := p) (by
      have e : pList = 2 :: pList.tail := rfl
      rw [e]; exact List.mem_cons_of_mem _ hp)).1
    exact ⟨p, h3, by omega, by omega⟩
  · exact ⟨2, (pList_mem (p := 2) (by decide +kernel)).1, by omega, by omega⟩
theorem next_near {n : Int} (h : n ≤ 4200) : ∃ p, IsNext n p ∧ p < (if n > 2 then n else 2) + 80 := by
  obtain ⟨p, hp, h1, h2⟩ := prime_near h
  obtain ⟨q, q1, q2, q3, q4⟩ := least_of (P := Pr) (lo := if n > 2 then n else 2) (p - (if n > 2 then n else 2)).toNat p hp h1 (by omega)
  refine ⟨q, ⟨q1.1, ?_, q1, fun r hr hn hq => q4 r ?_ hq⟩, by omega⟩
  · split at q2 <;> omega
  · split <;> omega
/-! ### powers, roots -/
theorem pow_mono {a b : Int} (h0 : 0 ≤ a) (h : a ≤ b) : ∀ n : Nat, a ^ n ≤ b ^ n
  | 0 => by rw [Int.pow_zero, Int.pow_zero]; exact Int.le_refl _
  | n + 1 => by
    rw [Int.pow_succ, Int.pow_succ]
    exact Int.mul_le_mul (pow_mono h0 h n) h h0 (Int.pow_nonneg (by omega))
theorem le_pow {a : Int} (h : 1 ≤ a) : ∀ n : Nat, 1 ≤ n → a ≤ a ^ n
  | 0, h' => by omega
  | 1, _ => by rw [Int.pow_succ, Int.pow_zero, Int.one_mul]; exact Int.le_refl _
  | n + 2, _ => by
    have ih := le_pow h (n + 1) (by omega)
    rw [Int.pow_succ]
    have : a * 1 ≤ a ^ (n + 1) * a := Int.mul_le_mul ih h (by omega) (by omega)
    omega
def Root (m : Int) (e : Nat) (r : Int) : Prop := 1 ≤ r ∧ m ≤ r ^ e ∧ ∀ s : Int, 1 ≤ s → s < r → s ^ e < m
theorem root_ex {m : Int} {e : Nat} (hm : 1 ≤ m) (he : 1 ≤ e) : ∃ r, Root m e r ∧ r ≤ m := by
  obtain ⟨q, q1, q2, q3, q4⟩ := least_of (P := fun r => m ≤ r ^ e) (lo := 1) m.toNat m (le_pow hm e he) hm (by omega)
  exact ⟨q, ⟨q2, q1, fun s h1 h2 => by have := q4 s h1 h2; omega⟩, q3⟩
theorem root_le {m p r : Int} {e : Nat} (h : Root m e r) (hp : 1 ≤ p) : r ≤ p ↔ m ≤ p ^ e := by
  obtain ⟨h1, h2, h3⟩ := h
  constructor
  · intro hle
    have := pow_mono (by omega) hle e
    omega
  · intro hm
    rcases Int.lt_or_le p r with hlt | hge
    · have := h3 p hp hlt
      omega
    · exact hge
/-! ### steps -/
def QK (d m : Int) (k : Nat) (p : Int) : Prop := Pr p ∧ d * k < p ∧ m ≤ p ^ (k + 1) ∧ ∀ q : Int, Pr q → d * k < q → m ≤ q ^ (k + 1) → p ≤ q
theorem qk_next {d m r p : Int} {k : Nat} (hd : 1 ≤ d) (hr : Root m (k + 1) r) (h : QK d m k p) : IsNext (if r > d * k + 1 then r else d * k + 1) p := by
  obtain ⟨h1, h2, h3, h4⟩ := h
  have hrp : r ≤ p := (root_le hr (by have := h1.1; omega)).mpr h3
  refine ⟨h1.1, by split <;> omega, h1, fun q hq hn hlt hpr => ?_⟩
  have := h4 q hpr (by split at hn <;> omega) ((root_le hr (by omega)).mp (by split at hn <;> omega))
  omega
theorem qk_ex {d m : Int} {k : Nat} (hd : 1 ≤ d) (hm : 1 ≤ m) (hdk : d * k ≤ 4000) (h2 : m ≤ 4000 * 4000) (hk : 1 ≤ k) : ∃ p, QK d m k p ∧ p < 4300 ∧ (m ≤ 100000 → p < d * k + 500) := by
  obtain ⟨r, hr, _⟩ := root_ex (e := k + 1) hm (by omega)
  have hr4 : r ≤ 4000 := by
    refine (root_le hr (by omega)).mpr ?_
    have h1 : (4000 : Int) ^ 2 ≤ 4000 ^ (k + 1) := by
      have : ∀ j : Nat, (4000 : Int) ^ 2 ≤ 4000 ^ (j + 2) := fun j => by
        induction j with
        | zero => exact Int.le_refl _
        | succ j ih =>
          rw [show j + 1 + 2 = (j + 2) + 1 from rfl, Int.pow_succ]
          have : (4000 : Int) ^ (j + 2) * 1 ≤ 4000 ^ (j + 2) * 4000 := Int.mul_le_mul_of_nonneg_left (by omega) (by omega)
          omega
      have := this (k - 1)
      rw [show k - 1 + 2 = k + 1 by omega] at this
      exact this
    have e : (4000 : Int) ^ 2 = 4000 * 4000 := by decide
    omega
  have hlo : (if r > d * k + 1 then r else d * k + 1) ≤ 4001 := by split <;> omega
  obtain ⟨p, hp, hb⟩ := next_near (n := if r > d * k + 1 then r else d * k + 1) (by omega)
  have hp4 : p < 4300 := by
    have : (if (if r > d * k + 1 then r else d * k + 1) > 2 then (if r > d * k + 1 then r else d * k + 1) else 2) ≤ 4001 := by
      split <;> omega
    omega
  have hp5 : m ≤ 100000 → p < d * k + 500 := fun h => by
    have hr3 : r ≤ 400 := by
      refine (root_le hr (by omega)).mpr ?_
      have h1 : (400 : Int) ^ 2 ≤ 400 ^ (k + 1) := by
        have : ∀ j : Nat, (400 : Int) ^ 2 ≤ 400 ^ (j + 2) := fun j => by
          induction j with
          | zero => exact Int.le_refl _
          | succ j ih =>
            rw [show j + 1 + 2 = (j + 2) + 1 from rfl, Int.pow_succ]
            have : (400 : Int) ^ (j + 2) * 1 ≤ 400 ^ (j + 2) * 400 := Int.mul_le_mul_of_nonneg_left (by omega) (by omega)
            omega
        have := this (k - 1)
        rw [show k - 1 + 2 = k + 1 by omega] at this
        exact this
      have e : (400 : Int) ^ 2 = 160000 := by decide
      omega
    have hdk0 : 0 ≤ d * k := Int.mul_nonneg (by omega) (by omega)
    have : (if (if r > d * k + 1 then r else d * k + 1) > 2 then (if r > d * k + 1 then r else d * k + 1) else 2) ≤ d * k + 401 := by
      split <;> split <;> omega
    omega
  refine ⟨p, ⟨hp.2.2.1, ?_, ?_, fun q h1 h2 h3 => ?_⟩, hp4, hp5⟩
  · have := hp.2.1; split at this <;> omega
  · refine (root_le hr (by have := hp.1; omega)).mp ?_
    have := hp.2.1; split at this <;> omega
  · rcases Int.lt_or_le q p with hlt | hge
    · refine absurd h1 (hp.2.2.2 q h1.1 ?_ hlt)
      have := (root_le hr (by have := h1.1; omega)).mpr h3
      split <;> omega
    · exact hge
end Mth
namespace Mth
/-! ### least pairs -/
def lexle (p q : Int × Int) : Prop := p.1 < q.1 ∨ (p.1 = q.1 ∧ p.2 ≤ q.2)
def Lq (q : Nat → Int) (n : Nat) : List (Int × Int) := (List.range n).map fun j => (q (j + 1), ((j + 1 : Nat) : Int))
theorem Lq_succ (q : Nat → Int) (n : Nat) : Lq q (n + 1) = Lq q n ++ [(q (n + 1), ((n + 1 : Nat) : Int))] := by
  unfold Lq
  rw [List.range_succ, List.map_append]; rfl
theorem Lq_len (q : Nat → Int) (n : Nat) : (Lq q n).length = n := by
  unfold Lq
  rw [List.length_map, List.length_range]
theorem lex_min : ∀ (l : List (Int × Int)), l ≠ [] → ∃ p, p ∈ l ∧ ∀ q ∈ l, lexle p q
  | [], h => absurd rfl h
  | [a], _ => ⟨a, List.mem_cons_self, fun q hq => by rw [List.mem_singleton.mp hq]; exact .inr ⟨rfl, Int.le_refl _⟩⟩
  | a :: b :: r, _ => by
    obtain ⟨p, hp, hl⟩ := lex_min (b :: r) (fun z => by cases z)
    by_cases h : lexle a p
    · refine ⟨a, List.mem_cons_self, fun q hq => ?_⟩
      rcases List.mem_cons.mp hq with e | hq
      · rw [e]; exact .inr ⟨rfl, Int.le_refl _⟩
      · have := hl q hq
        unfold lexle at *
        omega
    · refine ⟨p, List.mem_cons_of_mem _ hp, fun q hq => ?_⟩
      rcases List.mem_cons.mp hq with e | hq
      · rw [e]
        unfold lexle at *
        omega
      · exact hl q hq
/-- the step of d and m; D the number of m's digits -/
def StepOf (D : Nat) (d m : Int) (best : Int × Int) : Prop := ∃ q : Nat → Int, (∀ k, 1 ≤ k → k ≤ D → QK d m k (q k) ∧ q k < 4300 ∧ (m ≤ 100000 → q k < d * k + 500)) ∧ best ∈ Lq q D ∧ ∀ p ∈ Lq q D, lexle best p
theorem step_ex {D : Nat} {d m : Int} (hD : 1 ≤ D) (hD2 : D ≤ 40) (hd : 1 ≤ d) (hd2 : d ≤ 100) (hm : 1 ≤ m) (h2 : m ≤ 4000 * 4000) : ∃ best, StepOf D d m best := by
  have h : ∀ k : Nat, ∃ p, 1 ≤ k → k ≤ D → QK d m k p ∧ p < 4300 ∧ (m ≤ 100000 → p < d * k + 500) := fun k => by
    by_cases hk : 1 ≤ k ∧ k ≤ D
    · obtain ⟨p, hp⟩ := qk_ex (k := k) hd hm (by
        have : d * k ≤ 100 * 40 := Int.mul_le_mul hd2 (by omega) (by omega) (by omega)
        omega) h2 hk.1
      exact ⟨p, fun _ _ => hp⟩
    · exact ⟨0, fun a b => absurd ⟨a, b⟩ hk⟩
  obtain ⟨q, hq⟩ := Classical.axiomOfChoice h
  obtain ⟨p, hp, hl⟩ := lex_min (Lq q D) (fun z => by have := congrArg List.length z; rw [Lq_len] at this; simp at this; omega)
  exact ⟨p, q, hq, hp, hl⟩
theorem qk_uniq {d m p q : Int} {k : Nat} (h : QK d m k p) (h' : QK d m k q) : p = q := by
  have a := h.2.2.2 q h'.1 h'.2.1 h'.2.2.1
  have b := h'.2.2.2 p h.1 h.2.1 h.2.2.1
  omega
theorem Lq_mem {q : Nat → Int} {n : Nat} {p : Int × Int} (h : p ∈ Lq q n) : ∃ k, 1 ≤ k ∧ k ≤ n ∧ p = (q k, (k : Int)) := by
  unfold Lq at h
  obtain ⟨j, hj, e⟩ := List.mem_map.mp h
  have := List.mem_range.mp hj
  exact ⟨j + 1, by omega, by omega, e.symm⟩
theorem step_pr {D : Nat} {d m : Int} {best : Int × Int} (h : StepOf D d m best) : ∃ k : Nat, 1 ≤ k ∧ k ≤ D ∧ best.2 = k ∧ QK d m k best.1 ∧ best.1 < 4300 := by
  obtain ⟨q, hq, hb, _⟩ := h
  obtain ⟨k, k1, k2, e⟩ := Lq_mem hb
  refine ⟨k, k1, k2, by rw [e], ?_, ?_⟩
  · rw [e]; exact (hq k k1 k2).1
  · rw [e]; exact (hq k k1 k2).2.1
end Mth

namespace Mth
/-! ### values of polynomials, digits of a color as coefficients -/
def hv (q x : Int) : Nat → Int → Int
  | 0, _ => 0
  | n + 1, c => c % q + x * hv q x n (c / q)
def ev (x : Int) : List Int → Int
  | [] => 0
  | a :: l => a + x * ev x l
def dl (q : Int) : Nat → Int → Int → List Int
  | 0, _, _ => []
  | n + 1, c, d => (c % q - d % q) :: dl q n (c / q) (d / q)
theorem dl_len (q : Int) : ∀ (n : Nat) (c d : Int), (dl q n c d).length = n
  | 0, _, _ => rfl
  | n + 1, c, d => by
    show (dl q n (c / q) (d / q)).length + 1 = n + 1
    rw [dl_len q n]
theorem ev_dl (q x : Int) : ∀ (n : Nat) (c d : Int), ev x (dl q n c d) = hv q x n c - hv q x n d
  | 0, _, _ => by show (0 : Int) = 0 - 0; omega
  | n + 1, c, d => by
    show (c % q - d % q) + x * ev x (dl q n (c / q) (d / q)) = (c % q + x * hv q x n (c / q)) - (d % q + x * hv q x n (d / q))
    rw [ev_dl q x n, Int.mul_sub]
    omega
/-- the value of the color c at x -/
def pvl (q : Int) (k : Nat) (c x : Int) : Int := hv q x (k + 1) c % q
/-! ### division by a linear factor -/
def quo (r : Int) : List Int → List Int
  | [] => []
  | [_] => []
  | _ :: b :: l => ev r (b :: l) :: quo r (b :: l)
theorem quo_len (r : Int) : ∀ l : List Int, (quo r l).length = l.length - 1
  | [] => rfl
  | [_] => rfl
  | _ :: b :: l => by
    show (quo r (b :: l)).length + 1 = (b :: l).length + 1 - 1
    rw [quo_len r (b :: l)]
    simp
theorem quo_ev (r x : Int) : ∀ l : List Int, ev x l - ev r l = (x - r) * ev x (quo r l)
  | [] => by show (0 : Int) - 0 = (x - r) * 0; omega
  | [a] => by show (a + x * 0) - (a + r * 0) = (x - r) * 0; omega
  | a :: b :: l => by
    have ih := quo_ev r x (b :: l)
    show (a + x * ev x (b :: l)) - (a + r * ev r (b :: l)) = (x - r) * (ev r (b :: l) + x * ev x (quo r (b :: l)))
    generalize ev x (b :: l) = A at *
    generalize ev r (b :: l) = B at *
    generalize ev x (quo r (b :: l)) = C at *
    rw [Int.mul_add, ← Int.mul_assoc, Int.mul_comm (x - r) x, Int.mul_assoc, ← ih, Int.mul_sub, Int.sub_mul]
    omega
theorem ev_dvd (q r : Int) : ∀ l : List Int, (∀ y ∈ l, q ∣ y) → q ∣ ev r l
  | [], _ => Int.dvd_zero q
  | a :: l, h => Int.dvd_add (h a List.mem_cons_self) (Int.dvd_mul_of_dvd_right (ev_dvd q r l fun y hy => h y (List.mem_cons_of_mem _ hy)))
theorem quo_zero (q r : Int) : ∀ (l : List Int) (a : Int), (∀ y ∈ quo r (a :: l), q ∣ y) → ∀ y ∈ l, q ∣ y
  | [], _, _, y, hy => by cases hy
  | b :: l, a, h, y, hy => by
    have h1 : q ∣ ev r (b :: l) := h _ List.mem_cons_self
    have h2 := quo_zero q r l b fun y hy => h y (List.mem_cons_of_mem _ hy)
    have h3 : q ∣ ev r l := ev_dvd q r l h2
    rcases List.mem_cons.mp hy with e | hy
    · rw [e]
      have : q ∣ (b + r * ev r l) - r * ev r l := Int.dvd_sub h1 (Int.dvd_mul_of_dvd_right h3)
      rw [Int.add_sub_cancel] at this
      exact this
    · exact h2 y hy
/-! ### Euclid -/
theorem pr_nat {q : Int} (h : Pr q) {d : Nat} (hd : d ∣ q.toNat) : d = 1 ∨ d = q.toNat := by
  obtain ⟨h2, hp⟩ := h
  obtain ⟨e, he⟩ := hd
  have hq : q = ((d * e : Nat) : Int) := by rw [← he]; omega
  have hpos : 0 < d * e := by rw [← he]; omega
  have d0 : 0 < d := Nat.pos_of_mul_pos_right (by rw [Nat.mul_comm]; exact hpos) |> fun _ => by
    rcases Nat.eq_zero_or_pos d with z | z
    · rw [z, Nat.zero_mul] at hpos; omega
    · exact z
  have e0 : 0 < e := by
    rcases Nat.eq_zero_or_pos e with z | z
    · rw [z, Nat.mul_zero] at hpos; omega
    · exact z
  rcases Nat.lt_or_ge d 2 with h1 | h1
  · exact .inl (by omega)
  · rcases Nat.lt_or_ge e 2 with h3 | h3
    · right
      have : e = 1 := by omega
      rw [he, this, Nat.mul_one]
    · -- a proper divisor: the lesser of both
      exfalso
      rcases Nat.le_total d e with hle | hle
      · have h4 : d * d ≤ d * e := Nat.mul_le_mul_left d hle
        refine hp d (by omega) (by rw [hq]; exact_mod_cast h4) ?_
        rw [hq]
        have : ((d * e : Nat) : Int) % (d : Int) = ((d * e % d : Nat) : Int) := by norm_cast
        rw [this, Nat.mul_mod_right]; rfl
      · have h4 : e * e ≤ d * e := Nat.mul_le_mul_right e hle
        refine hp e (by omega) (by rw [hq]; exact_mod_cast h4) ?_
        rw [hq]
        have : ((d * e : Nat) : Int) % (e : Int) = ((d * e % e : Nat) : Int) := by norm_cast
        rw [this, Nat.mul_mod_left]; rfl
theorem euclid {q a b : Int} (h : Pr q) (hab : q ∣ a * b) : q ∣ a ∨ q ∣ b := by
  have hq : q.natAbs = q.toNat := by have := h.1; omega
  have h1 : q.toNat ∣ a.natAbs * b.natAbs := by
    rw [← Int.natAbs_mul, ← hq]
    exact Int.natAbs_dvd_natAbs.mpr hab
  rcases pr_nat h (Nat.gcd_dvd_left q.toNat a.natAbs) with g | g
  · right
    have : q.toNat ∣ b.natAbs := Nat.Coprime.dvd_of_dvd_mul_left g h1
    exact Int.natAbs_dvd_natAbs.mp (by rw [hq]; exact this)
  · left
    have : q.toNat ∣ a.natAbs := by rw [← g]; exact Nat.gcd_dvd_right _ _
    exact Int.natAbs_dvd_natAbs.mp (by rw [hq]; exact this)
/-! ### few roots -/
theorem few_roots {q : Int} (hq : Pr q) : ∀ (n : Nat) (f : List Int), f.length = n → (∃ y ∈ f, ¬ q ∣ y) → ∀ rs : List Int, rs.Nodup → (∀ r ∈ rs, 0 ≤ r ∧ r < q) → (∀ r ∈ rs, q ∣ ev r f) → rs.length < n
  | 0, f, hl, ⟨y, hy, _⟩, _, _, _, _ => by
    rw [List.length_eq_zero_iff.mp hl] at hy; cases hy
  | n + 1, f, hl, hne, [], _, _, _ => by simp
  | n + 1, [], hl, _, _ :: _, _, _, _ => by cases hl
  | n + 1, a :: l, hl, hne, r :: rs, hnd, hb, hz => by
    have hr := hz r List.mem_cons_self
    have hrb := hb r List.mem_cons_self
    rw [List.nodup_cons] at hnd
    have hql : (quo r (a :: l)).length = n := by rw [quo_len, hl]; rfl
    have hne2 : ∃ y ∈ quo r (a :: l), ¬ q ∣ y := by
      refine Classical.byContradiction fun hno => ?_
      have hall : ∀ y ∈ quo r (a :: l), q ∣ y := fun y hy => Classical.byContradiction fun z => hno ⟨y, hy, z⟩
      have hl0 := quo_zero q r l a hall
      obtain ⟨y, hy, hny⟩ := hne
      rcases List.mem_cons.mp hy with e | hy
      · have h3 : q ∣ r * ev r l := Int.dvd_mul_of_dvd_right (ev_dvd q r l hl0)
        have : q ∣ (a + r * ev r l) - r * ev r l := Int.dvd_sub hr h3
        rw [Int.add_sub_cancel] at this
        rw [e] at hny
        exact hny this
      · exact hny (hl0 y hy)
    have ih := few_roots hq n (quo r (a :: l)) hql hne2 rs hnd.2 (fun s hs => hb s (List.mem_cons_of_mem _ hs)) fun s hs => by
      have hs0 := hz s (List.mem_cons_of_mem _ hs)
      have hsb := hb s (List.mem_cons_of_mem _ hs)
      have hd : q ∣ (s - r) * ev s (quo r (a :: l)) := by
        rw [← quo_ev]
        exact Int.dvd_sub hs0 hr
      rcases euclid hq hd with h | h
      · exfalso
        have hne : s ≠ r := fun e => hnd.1 (by rw [← e]; exact hs)
        obtain ⟨t, ht⟩ := h
        have hqp := hq.1
        rcases Int.lt_trichotomy t 0 with h0 | h0 | h0
        · have : q * t ≤ q * (-1) := Int.mul_le_mul_of_nonneg_left (by omega) (by omega)
          omega
        · rw [h0, Int.mul_zero] at ht
          omega
        · have : q * 1 ≤ q * t := Int.mul_le_mul_of_nonneg_left (by omega) (by omega)
          omega
      · exact h
    simp only [List.length_cons]
    omega
/-! ### colors with other digits -/
theorem digits_ne {q : Int} (hq : 2 ≤ q) : ∀ (n : Nat) (c d : Int), 0 ≤ c → c < q ^ n → 0 ≤ d → d < q ^ n → c ≠ d → ∃ y ∈ dl q n c d, ¬ q ∣ y
  | 0, c, d, h1, h2, h3, h4, hne => by
    rw [Int.pow_zero] at h2 h4
    omega
  | n + 1, c, d, h1, h2, h3, h4, hne => by
    by_cases he : c % q = d % q
    · have hc := Int.mul_ediv_add_emod c q
      have hd := Int.mul_ediv_add_emod d q
      have hne2 : c / q ≠ d / q := fun z => hne (by rw [← hc, ← hd, z, he])
      have b : ∀ x : Int, x < q ^ (n + 1) → x / q < q ^ n := fun x hx => by
        refine Int.ediv_lt_of_lt_mul (by omega) ?_
        rw [← Int.pow_succ]; exact hx
      obtain ⟨y, hy, hn⟩ := digits_ne hq n (c / q) (d / q) (Int.ediv_nonneg h1 (by omega)) (b c h2) (Int.ediv_nonneg h3 (by omega)) (b d h4) hne2
      exact ⟨y, List.mem_cons_of_mem _ hy, hn⟩
    · refine ⟨c % q - d % q, List.mem_cons_self, fun ⟨t, ht⟩ => ?_⟩
      have a1 := Int.emod_nonneg c (show q ≠ 0 by omega)
      have a2 := Int.emod_lt_of_pos c (show 0 < q by omega)
      have b1 := Int.emod_nonneg d (show q ≠ 0 by omega)
      have b2 := Int.emod_lt_of_pos d (show 0 < q by omega)
      rcases Int.lt_trichotomy t 0 with h0 | h0 | h0
      · have : q * t ≤ q * (-1) := Int.mul_le_mul_of_nonneg_left (by omega) (by omega)
        omega
      · rw [h0, Int.mul_zero] at ht
        omega
      · have : q * 1 ≤ q * t := Int.mul_le_mul_of_nonneg_left (by omega) (by omega)
        omega
/-- two colors agree at few places -/
theorem agree_few {q : Int} {k : Nat} (hq : Pr q) {c d : Int} (h1 : 0 ≤ c) (h2 : c < q ^ (k + 1)) (h3 : 0 ≤ d) (h4 : d < q ^ (k + 1)) (hne : c ≠ d) (rs : List Int) (hnd : rs.Nodup) (hb : ∀ r ∈ rs, 0 ≤ r ∧ r < q) (hz : ∀ r ∈ rs, pvl q k c r = pvl q k d r) : rs.length ≤ k := by
  have := few_roots hq (k + 1) (dl q (k + 1) c d) (dl_len _ _ _ _) (digits_ne hq.1 (k + 1) c d h1 h2 h3 h4 hne) rs hnd hb fun r hr => by
    rw [ev_dl]
    exact Int.dvd_of_emod_eq_zero (Int.emod_eq_emod_iff_emod_sub_eq_zero.mp (hz r hr))
  omega
/-- a place where c parts from all the others -/
theorem part_ex {q : Int} {k : Nat} (hq : Pr q) {c : Int} (h1 : 0 ≤ c) (h2 : c < q ^ (k + 1)) : ∀ (os : List Int), (∀ o ∈ os, 0 ≤ o ∧ o < q ^ (k + 1) ∧ o ≠ c) → ∀ rs : List Int, rs.Nodup → (∀ r ∈ rs, 0 ≤ r ∧ r < q) → os.length * k < rs.length → ∃ x ∈ rs, ∀ o ∈ os, pvl q k o x ≠ pvl q k c x
  | [], _, rs, _, _, hl => by
    cases rs with
    | nil => simp at hl
    | cons x r => exact ⟨x, List.mem_cons_self, fun o ho => by cases ho⟩
  | o :: os, ho, rs, hnd, hb, hl => by
    obtain ⟨o1, o2, o3⟩ := ho o List.mem_cons_self
    have hfew := agree_few hq h1 h2 o1 o2 (Ne.symm o3) (rs.filter fun r => decide (pvl q k c r = pvl q k o r)) (hnd.filter _) (fun r hr => hb r (List.mem_filter.mp hr).1) fun r hr => of_decide_eq_true (List.mem_filter.mp hr).2
    have hsum : (rs.filter fun r => decide (pvl q k c r = pvl q k o r)).length + (rs.filter fun r => !decide (pvl q k c r = pvl q k o r)).length = rs.length := by
      clear hl hb hnd hfew
      induction rs with
      | nil => rfl
      | cons a r ih =>
        rw [List.filter_cons, List.filter_cons]
        cases e : decide (pvl q k c a = pvl q k o a) <;> simp <;> omega
    have hl2 : os.length * k < (rs.filter fun r => !decide (pvl q k c r = pvl q k o r)).length := by
      rw [List.length_cons, Nat.succ_mul] at hl
      omega
    obtain ⟨x, hx, hp⟩ := part_ex hq h1 h2 os (fun o' h' => ho o' (List.mem_cons_of_mem _ h')) _ (hnd.filter _) (fun r hr => hb r (List.mem_filter.mp hr).1) hl2
    refine ⟨x, (List.mem_filter.mp hx).1, fun o' h' => ?_⟩
    rcases List.mem_cons.mp h' with e | h'
    · rw [e]
      have := (List.mem_filter.mp hx).2
      simp only [Bool.not_eq_true', decide_eq_false_iff_not] at this
      exact fun z => this z.symm
    · exact hp o' h'
def Good2 (q : Int) (k : Nat) (c : Int) (os : List Int) (x : Int) : Prop := ∀ o ∈ os, pvl q k o x ≠ pvl q k c x
/-- the least such place -/
theorem part_least {q : Int} {k : Nat} (hq : Pr q) {c : Int} (h1 : 0 ≤ c) (h2 : c < q ^ (k + 1)) {os : List Int} (ho : ∀ o ∈ os, 0 ≤ o ∧ o < q ^ (k + 1) ∧ o ≠ c) (hl : ((os.length * k : Nat) : Int) < q) : ∃ x : Int, 0 ≤ x ∧ x < q ∧ Good2 q k c os x ∧ ∀ y : Int, 0 ≤ y → y < x → ¬ Good2 q k c os y := by
  obtain ⟨x, hx, hp⟩ := part_ex hq h1 h2 os ho ((List.range q.toNat).map fun (n : Nat) => (n : Int)) (List.pairwise_map.mpr (List.nodup_range.imp fun {a b} h z => h (by omega))) (fun r hr => by
    obtain ⟨n, hn, e⟩ := List.mem_map.mp hr
    have := List.mem_range.mp hn
    omega) (by rw [List.length_map, List.length_range]; omega)
  obtain ⟨n, hn, e⟩ := List.mem_map.mp hx
  have := List.mem_range.mp hn
  obtain ⟨z, z1, z2, z3, z4⟩ := least_of (P := Good2 q k c os) (lo := 0) x.toNat x hp (by omega) (by omega)
  exact ⟨z, z2, by omega, z1, z4⟩
theorem pvl_bd {q : Int} (hq : 2 ≤ q) (k : Nat) (c x : Int) : 0 ≤ pvl q k c x ∧ pvl q k c x < q := by
  unfold pvl
  exact ⟨Int.emod_nonneg _ (by omega), Int.emod_lt_of_pos _ (by omega)⟩
end Mth
set_option maxHeartbeats 4000000
namespace K10
open PySem PySem.Spec PyProof.Rows L2 Ab

local macro_rules | `(tactic| walk_at "sc") => `(tactic| first
  | assumption
  | omega
  | decide
  | (refine Or.inl ?_; omega)
  | (refine Or.inr ?_; omega)
  | (refine ⟨?_, ?_⟩ <;> omega)
  | (refine ⟨?_, ?_, ?_⟩ <;> omega))
local macro_rules | `(tactic| walk_at "evl") => `(tactic| first
  | exact evl_own rfl
  | exact evl_red rfl
  | exact evl_var rfl
  | ((with_reducible refine' EVF.evl ?h0); (case h0 => walk_at "evf"))
  | ((with_reducible refine' EV.evl ?h0); (case h0 => walk_at "ev")))
local macro_rules | `(tactic| walk_at "eav") => `(tactic| first
  | exact eav_nil
  | ((with_reducible refine' eav_cons ?h0 ?h1); (case h0 => walk_at "ev"); (case h1 => walk_at "eav")))
local macro_rules | `(tactic| walk_at "evf") => `(tactic| first
  | ((with_reducible refine' evf_lst ?h0 ?h1); (case h0 => walk_at "eav"); (case h1 => (first | decide | (simp; done) | omega)))
  | ((with_reducible refine' evf_list ?h0); (case h0 => walk_at "evl")))
local macro_rules | `(tactic| walk_at "ea") => `(tactic| first
  | exact ea_nil
  | ((with_reducible refine' ea_scr ?h0 ?h1); (case h0 => rfl); (case h1 => walk_at "ea"))
  | ((with_reducible refine' ea_val ?h0 ?h1); (case h0 => walk_at "ev"); (case h1 => walk_at "ea"))
  | ((with_reducible refine' ea_red ?h0 ?h1); (case h0 => walk_at "evl"); (case h1 => walk_at "ea")))
local macro_rules | `(tactic| walk_at "ev") => `(tactic| first
  | exact ev_var rfl
  | exact ev_int
  | exact ev_bl
  | exact ev_str
  | exact ev_non
  | ((with_reducible refine' ev_I0 ?h0 ?h1); (case h0 => walk_at "ev"); (case h1 => walk_at "ev"))
  | ((with_reducible refine' ev_I ?h0 ?h1 ?h2); (case h0 => walk_at "ev"); (case h1 => walk_at "ev"); (case h2 => walk_at "sc"))
  | ((with_reducible refine' ev_U ?h0); (case h0 => walk_at "ev"))
  | ((with_reducible refine' ev_eqI ?h0 ?h1); (case h0 => walk_at "ev"); (case h1 => walk_at "ev"))
  | ((with_reducible refine' ev_neI ?h0 ?h1); (case h0 => walk_at "ev"); (case h1 => walk_at "ev"))
  | ((with_reducible refine' ev_chI ?h0 ?h1 ?h2); (case h0 => walk_at "ev"); (case h1 => walk_at "ev"); (case h2 => walk_at "ev"))
  | ((with_reducible refine' ev_abs ?h0); (case h0 => walk_at "ev"))
  | ((with_reducible refine' ev_max2 ?h0 ?h1); (case h0 => walk_at "ev"); (case h1 => walk_at "ev"))
  | ((with_reducible refine' ev_min2 ?h0 ?h1); (case h0 => walk_at "ev"); (case h1 => walk_at "ev"))
  | ((with_reducible refine' ev_int1 ?h0); (case h0 => walk_at "ev"))
  | ((with_reducible refine' ev_intB ?h0); (case h0 => walk_at "ev"))
  | exact ev_lenS rfl
  | ((with_reducible refine' ev_len ?h0); (case h0 => walk_at "evl"))
  | ((with_reducible refine' ev_lenT ?h0); (case h0 => walk_at "ev"))
  | ((with_reducible refine' ev_bits ?h0); (case h0 => walk_at "ev"))
  | ((with_reducible refine' ev_notV ?h0); (case h0 => walk_at "ev"))
  | ((with_reducible refine' ev_tup ?h0 ?h1); (case h0 => walk_at "eav"); (case h1 => (first | decide | (simp; done) | omega)))
  | walk_at "evc"
  | ((with_reducible show EV _ _ (tLst _) _); refine' EVF.ev ?h0; (case h0 => walk_at "evf")))
local macro_rules | `(tactic| walk_at "et") => `(tactic| first
  | ((with_reducible refine' et_test ?h0); (case h0 => walk_at "ev"))
  | ((with_reducible refine' et_B ?h0); (case h0 => walk_at "ev"))
  | ((with_reducible refine' et_not ?h0); (case h0 => walk_at "et"))
  | ((with_reducible refine' et_and ?h0 ?h1); (case h0 => walk_at "et"); (case h1 => (intro _; walk_at "et")))
  | ((with_reducible refine' et_or ?h0 ?h1); (case h0 => walk_at "et"); (case h1 => (intro _; walk_at "et"))))
local macro_rules | `(tactic| walk_at "nx") => `(tactic| (first | (with_reducible show ES _ _ _ _) | skip); try (dsimp only [List.set_cons_zero, List.set_cons_succ, List.length_cons, List.length_nil, List.replicate, List.cons_append, List.nil_append]))
local macro_rules | `(tactic| walk_at "set") => `(tactic| (first
  | ((with_reducible show ES _ _ (tSeq (tAsg _ _) _) _); first | refine es_seq (es_asgF (by walk_at "evf") ?_) | refine es_seq (es_asg (by walk_at "ev") ?_))
  | ((with_reducible show ES _ _ (tAsg _ _) _); first | refine es_asgF (by walk_at "evf") ?_ | refine es_asg (by walk_at "ev") ?_)
  | ((with_reducible show ES _ _ (tSeq (tAug _ _ _) _) _); refine es_seq (es_aug rfl (by walk_at "ev") ?_))
  | ((with_reducible show ES _ _ (tAug _ _ _) _); refine es_aug rfl (by walk_at "ev") ?_)); walk_at "nx")
local macro_rules | `(tactic| walk_at "if") => `(tactic| (first
  | ((with_reducible show ES _ _ (tSeq _ _) _); refine es_seq (es_if (by walk_at "et") ?_ ?_))
  | refine es_if (by walk_at "et") ?_ ?_))

def topS (i : Nat) : Stmt := PySem.Challenge.pw_nearby_k10_colors_that_shrink.main.body.getD i (.Pass ⟨0, 0, 0, 0⟩)

structure Bl (mg : Str → Option Value) : Prop where
  abs : mg "abs" = none
  all : mg "all" = none
  bool : mg "bool" = none
  int : mg "int" = none
  isinstance : mg "isinstance" = none
  len : mg "len" = none
  list : mg "list" = none
  max : mg "max" = none
  min : mg "min" = none
  range : mg "range" = none
  str : mg "str" = none
  tuple : mg "tuple" = none

open Mth (Pr pr pr_true pr_false of_pr of_prF IsNext Root root_ex root_le QK qk_next StepOf step_ex step_pr Lq Lq_succ Lq_len)
theorem bitsD {m : Int} (h : 1 ≤ m) : Builtin.Int.intBits m = m.natAbs.log2 + 1 := by
  unfold Builtin.Int.intBits
  rw [if_neg (by simp; omega)]
def Dg (m : Int) : Nat := Builtin.Int.intBits m
theorem Dg_pos {m : Int} (h : 1 ≤ m) : 1 ≤ Dg m := by unfold Dg; rw [bitsD h]; omega
theorem Dg_le {m : Int} (h : 1 ≤ m) (h2 : m ≤ 4000 * 4000) : Dg m ≤ 24 := by
  unfold Dg; rw [bitsD h]
  have : m.natAbs.log2 < 24 := (Nat.log2_lt (by omega)).mpr (by omega)
  omega
theorem Dg_iff {m : Int} (h : 1 ≤ m) (k : Nat) : (2 : Int) ^ k ≤ m ↔ k + 1 ≤ Dg m := by
  unfold Dg; rw [bitsD h]
  have h1 : k ≤ m.natAbs.log2 ↔ 2 ^ k ≤ m.natAbs := by
    have := Nat.le_log2 (n := m.natAbs) (k := k) (by omega)
    exact this
  have h2 : ((2 : Int) ^ k ≤ m) ↔ (2 ^ k ≤ m.natAbs) := by
    have e : ((2 ^ k : Nat) : Int) = (2 : Int) ^ k := by norm_cast
    rw [← e]
    omega
  rw [h2, ← h1]
  omega

open Mth (hv pvl Good2 part_least pvl_bd)
theorem hv_mod (q w f c x z : Int) : ((w + c % q * f) % q + f * x % q * z) % q = (w + f * (c % q + x * z)) % q := by
  have a := Int.mul_ediv_add_emod (w + c % q * f) q
  have b := Int.mul_ediv_add_emod (f * x) q
  have e : w + f * (c % q + x * z) = ((w + c % q * f) % q + f * x % q * z) + q * ((w + c % q * f) / q + f * x / q * z) := by
    have h1 : f * x % q * z + q * (f * x / q) * z = f * x * z := by rw [← Int.add_mul, Int.add_comm]; rw [b]
    have h2 : f * (c % q + x * z) = c % q * f + f * x * z := by rw [Int.mul_add, Int.mul_comm f (c % q), ← Int.mul_assoc]
    have h3 : q * ((w + c % q * f) / q + f * x / q * z) = q * ((w + c % q * f) / q) + q * (f * x / q) * z := by rw [Int.mul_add, ← Int.mul_assoc]
    rw [h2, h3]
    omega
  rw [e, Int.add_mul_emod_self_left]

section
variable {P : Program} {w : World} {K : PySem.W.Frag} {mg : Str → Option Value} {base : Heap}

abbrev s_is_prime : Stmt := topS 1
abbrev n_is_prime : List Str := ["number", "divisor"]
theorem sc_is_prime : FnScope n_is_prime ["number"] (defScope s_is_prime) := ⟨rfl, rfl, rfl, by decide +kernel, rfl, by decide +kernel, by decide +kernel⟩

abbrev sp_is_prime (K : PySem.W.Frag) : Sp := spX K (X := Int) (fun n => [.val (nI n)]) (fun n => n < 2 ^ 40) (fun n => .val (nB (pr n)))

theorem ok_is_prime (d : DefAt K mg "is_prime" s_is_prime ["number"]) (M : Bl mg)  : Cal P w K mg base 1 "is_prime" (sp_is_prime K) := by
  refine calA d sc_is_prime (fun _ => rfl) fun f cdv A outer s H E hr => ⟨_, (pss_cons (ps_if (pt_cmpR op_lt (pv 0) pe_int (nomark _)) (pss_one (ps_ret pe_bl)) pss_nil)
      (pss_cons (ps_set (i := 1) sc_is_prime.nd rfl (Or.inl rfl) pe_int)
      (pss_cons (ps_while PassesOwn.never (pt_cmpR op_le (pe_op op_mul (pv 1) (pv 1)) (pv 0) (nomark _)) (pss_cons (ps_if (pt_cmpR op_eq (pe_op op_mod (pv 0) (pv 1)) pe_int (nomark _)) (pss_one (ps_ret pe_bl)) pss_nil)
      (pss_one (ps_aug (i := 1) sc_is_prime.nd rfl (Or.inl rfl) pe_int ip_add))))
      (pss_one (ps_ret pe_bl))))), ?_⟩
  try dsimp only [cxOf, Cx.nox, Cx.wish, Cx.blk]

  intro n hn
  show ES K [.val (nI n), .un] _ _
  walk_at "if" <;> intro hT
  · have h2 : n < 2 := of_decide_eq_true hT
    refine es_ret (by walk_at "ev") ?_
    rw [pr_false fun h => by have := h.1; omega]; rfl
  refine es_next ?_
  walk_at "nx"
  walk_at "set"
  have h2 : 2 ≤ n := by have := of_decide_eq_false hT; omega
  refine es_seq (es_while (fun m E => ∃ d : Int, E = [.val (nI n), .val (nI d)] ∧ 2 ≤ d ∧ m = (n + 2 - d).toNat ∧ (d - 1) * (d - 1) ≤ n ∧ ∀ e : Int, 2 ≤ e → e < d → n % e ≠ 0) _ ⟨2, rfl, by omega, rfl, by omega, fun e h h' => by omega⟩ ?_)
  rintro m _ ⟨d, rfl, hd, rfl, hsq, hno⟩
  have hb : d ≤ 2 ^ 40 := by
    have h3 : d - 1 ≤ n := by
      have : (d - 1) * 1 ≤ (d - 1) * (d - 1) := Int.mul_le_mul_of_nonneg_left (by omega) (by omega)
      omega
    omega
  have hc : CMul d d := .inl ⟨by omega, by omega⟩
  refine ⟨_, by walk_at "et", fun hT => ?_, fun hF => ?_⟩
  · have hdd : d * d ≤ n := of_decide_eq_true hT
    walk_at "if" <;> intro hU
    · have h0 : n % d = 0 := of_decide_eq_true hU
      refine es_ret (by walk_at "ev") ?_
      rw [pr_false fun h => h.2 d hd hdd h0]; rfl
    · refine es_next ?_
      walk_at "nx"
      refine es_aug rfl (by walk_at "ev") ?_
      have h0 : n % d ≠ 0 := of_decide_eq_false hU
      have h3 : d ≤ n := by
        have : d * 1 ≤ d * d := Int.mul_le_mul_of_nonneg_left (by omega) (by omega)
        omega
      refine ⟨_, ?_, d + 1, rfl, by omega, rfl, by rw [Int.add_sub_cancel]; exact hdd, fun e h h' => ?_⟩
      · omega
      · by_cases he : e = d
        · rw [he]; exact h0
        · exact hno e h (by omega)
  · have hdd : ¬ d * d ≤ n := of_decide_eq_false hF
    show ES _ _ _ _
    refine es_ret (by walk_at "ev") ?_
    rw [pr_true ⟨h2, fun e h1 h3 => hno e h1 (by
      rcases Int.lt_or_le e d with h | h
      · exact h
      · have : d * d ≤ e * e := Int.mul_le_mul h h (by omega) (by omega)
        omega)⟩]; rfl
end

section
variable {P : Program} {w : World} {K : PySem.W.Frag} {mg : Str → Option Value} {base : Heap}

abbrev s_prime_from : Stmt := topS 2
abbrev n_prime_from : List Str := ["number", "prime"]
theorem sc_prime_from : FnScope n_prime_from ["number"] (defScope s_prime_from) := ⟨rfl, rfl, rfl, by decide +kernel, rfl, by decide +kernel, by decide +kernel⟩

abbrev sp_prime_from (K : PySem.W.Frag) : Sp := spX K (X := Int × Int) (fun x => [.val (nI x.1)]) (fun x => IsNext x.1 x.2 ∧ x.2 < 2 ^ 40) (fun x => .val (nI x.2))

theorem ok_prime_from (d : DefAt K mg "prime_from" s_prime_from ["number"]) (M : Bl mg) (cis_prime : Cal P w K mg base 1 "is_prime" (sp_is_prime K)) : Cal P w K mg base 2 "prime_from" (sp_prime_from K) := by
  refine calA d sc_prime_from (fun _ => rfl) fun f cdv A outer s H E hr => ⟨_, (pss_cons (ps_set (i := 1) sc_prime_from.nd rfl (Or.inl rfl) (pe_callB (call_max2 rfl) (by rfl) M.max bt_max (pa_cons pe_int (pa_cons (pv 0) pa_nil))))
      (pss_cons (ps_while PassesOwn.never (pt_not (pt_val (pe_ca cis_prime hr (by decide) (by rfl) (pa_cons (pv 1) pa_nil)))) (pss_one (ps_aug (i := 1) sc_prime_from.nd rfl (Or.inl rfl) pe_int ip_add)))
      (pss_one (ps_ret (pv 1))))), ?_⟩
  try dsimp only [cxOf, Cx.nox, Cx.wish, Cx.blk]

  rintro ⟨n, p⟩ ⟨hn, hb⟩
  show ES K [.val (nI n), .un] _ _
  walk_at "set"
  have hm := Mth.isNext_max hn
  refine es_seq (es_while (fun m E => ∃ q : Int, E = [.val (nI n), .val (nI q)] ∧ m = (p - q).toNat ∧ (if n > 2 then n else 2) ≤ q ∧ q ≤ p) _ ⟨_, rfl, rfl, Int.le_refl _, hm.2.1⟩ ?_)
  rintro m _ ⟨q, rfl, rfl, h1, h2⟩
  refine ⟨_, et_not (et_B (ev_call q (by walk_at "ea") (by show q < 2 ^ 40; dsimp only at hb; omega) rfl)), fun hT => ?_, fun hF => ?_⟩
  · have hq : ¬ Pr q := of_prF (by simpa using hT)
    have hne : q ≠ p := fun e => hq (by rw [e]; exact hm.2.2.1)
    refine es_aug rfl (by walk_at "ev") ?_
    refine ⟨(p - (q + 1)).toNat, ?_, q + 1, rfl, rfl, by omega, by omega⟩
    omega
  · have hq : Pr q := of_pr (by simpa using hF)
    show ES _ _ _ _
    refine es_ret (by walk_at "ev") ?_
    have : q = p := by
      rcases Int.lt_or_le q p with h | h
      · exact absurd hq (hm.2.2.2 q hq.1 h1 h)
      · omega
    rw [this]; rfl
end

section
variable {P : Program} {w : World} {K : PySem.W.Frag} {mg : Str → Option Value} {base : Heap}

abbrev s__power : Stmt := topS 5
abbrev n__power : List Str := ["base", "exponent", "worth", "_"]
theorem sc__power : FnScope n__power ["base", "exponent"] (defScope s__power) := ⟨rfl, rfl, rfl, by decide +kernel, rfl, by decide +kernel, by decide +kernel⟩

abbrev sp__power (K : PySem.W.Frag) : Sp := spX K (X := Int × Int) (fun x => [.val (nI x.1), .val (nI x.2)]) (fun x => 0 ≤ x.1 ∧ x.1 < 2 ^ 62 ∧ 0 ≤ x.2 ∧ x.2 < 1000) (fun x => .val (nI (x.1 ^ x.2.toNat)))

theorem ok__power (d : DefAt K mg "_power" s__power ["base", "exponent"]) (M : Bl mg)  : Cal P w K mg base 1 "_power" (sp__power K) := by
  refine calA d sc__power (fun _ => rfl) fun f cdv A outer s H E hr => ⟨_, (pss_cons (ps_set (i := 2) sc__power.nd rfl (Or.inl rfl) pe_int)
      (pss_cons (ps_for PassesOwn.never rfl (pi_range1 (by rfl) M.range (pa_cons (pv 1) pa_nil)) (pg_name (i := 3) sc__power.nd rfl (Or.inl rfl)) (pss_one (ps_set (i := 2) sc__power.nd rfl (Or.inl rfl) (pe_op op_mul (pv 2) (pv 0)))))
      (pss_one (ps_ret (pv 2))))), ?_⟩
  try dsimp only [cxOf, Cx.nox, Cx.wish, Cx.blk]

  rintro ⟨b, e⟩ ⟨h1, h2, h3, h4⟩
  dsimp only at h1 h2 h3 h4
  show ES K [.val (nI b), .val (nI e), .un, .un] _ _
  walk_at "set"
  refine es_seq (es_forR (fun i E => ∃ s, E = [.val (nI b), .val (nI e), .val (nI (b ^ i)), s]) (w_range1 (by walk_at "ev") (by omega) (by omega)) ⟨_, by rw [Int.pow_zero]⟩ ?_ ?_)
  · rintro i _ hi ⟨s, rfl⟩
    refine ⟨_, gt_name, ?_⟩
    walk_at "nx"
    have hc : CMul (b ^ i) b := .inr ⟨by omega, by omega⟩
    walk_at "set"
    exact ⟨_, by rw [Int.pow_succ]⟩
  · rintro _ ⟨s, rfl⟩
    show ES _ _ _ _
    exact es_ret (by walk_at "ev") rfl
end

section
variable {P : Program} {w : World} {K : PySem.W.Frag} {mg : Str → Option Value} {base : Heap}

abbrev s__least_root : Stmt := topS 4
abbrev n__least_root : List Str := ["number", "exponent", "low", "high", "middle"]
theorem sc__least_root : FnScope n__least_root ["number", "exponent"] (defScope s__least_root) := ⟨rfl, rfl, rfl, by decide +kernel, rfl, by decide +kernel, by decide +kernel⟩

abbrev sp__least_root (K : PySem.W.Frag) : Sp := spX K (X := Int × Int × Int) (fun x => [.val (nI x.1), .val (nI x.2.1)]) (fun x => 1 ≤ x.2.1 ∧ x.2.1 < 1000 ∧ x.1 ≤ 2 ^ 40 ∧ x.2.2 ≤ 2 ^ 40 ∧ Root x.1 x.2.1.toNat x.2.2) (fun x => .val (nI x.2.2))

theorem ok__least_root (d : DefAt K mg "_least_root" s__least_root ["number", "exponent"]) (M : Bl mg) (c_power : Cal P w K mg base 1 "_power" (sp__power K)) : Cal P w K mg base 2 "_least_root" (sp__least_root K) := by
  refine calA d sc__least_root (fun _ => rfl) fun f cdv A outer s H E hr => ⟨_, (pss_cons (ps_set (i := 2) sc__least_root.nd rfl (Or.inl rfl) pe_int)
      (pss_cons (ps_set (i := 3) sc__least_root.nd rfl (Or.inl rfl) pe_int)
      (pss_cons (ps_while PassesOwn.never (pt_cmpR op_lt (pe_ca c_power hr (by decide) (by rfl) (pa_cons (pv 3) (pa_cons (pv 1) pa_nil))) (pv 0) (nomark _)) (pss_one (ps_set (i := 3) sc__least_root.nd rfl (Or.inl rfl) (pe_op op_mul (pv 3) pe_int))))
      (pss_cons (ps_while PassesOwn.never (pt_cmpR op_lt (pv 2) (pv 3) (nomark _)) (pss_cons (ps_set (i := 4) sc__least_root.nd rfl (Or.inl rfl) (pe_op op_fdiv (pe_op op_add (pv 2) (pv 3)) pe_int))
      (pss_one (ps_if (pt_cmpR op_lt (pe_ca c_power hr (by decide) (by rfl) (pa_cons (pv 4) (pa_cons (pv 1) pa_nil))) (pv 0) (nomark _)) (pss_one (ps_set (i := 2) sc__least_root.nd rfl (Or.inl rfl) (pe_op op_add (pv 4) pe_int))) (pss_one (ps_set (i := 3) sc__least_root.nd rfl (Or.inl rfl) (pv 4)))))))
      (pss_one (ps_ret (pv 2))))))), ?_⟩
  try dsimp only [cxOf, Cx.nox, Cx.wish, Cx.blk]

  rintro ⟨m, e, r⟩ ⟨h1, h2, h3, h4, hr⟩
  dsimp only at h1 h2 h3 h4 hr
  show ES K [.val (nI m), .val (nI e), .un, .un, .un] _ _
  walk_at "set"
  walk_at "set"
  have he : 1 ≤ e.toNat := by omega
  refine es_seq (es_while (fun k E => ∃ h : Int, E = [.val (nI m), .val (nI e), .val (nI 1), .val (nI h), .un] ∧ k = (2 ^ 41 - h).toNat ∧ 1 ≤ h ∧ h ≤ 2 ^ 41) _ ⟨1, rfl, rfl, by omega, by omega⟩ ?_)
  rintro k _ ⟨h, rfl, rfl, a1, a2⟩
  refine ⟨_, et_test (ev_I0 (ev_call (h, e) (by walk_at "ea") ⟨by dsimp only; omega, by dsimp only; omega, by dsimp only; omega, h2⟩ rfl) (by walk_at "ev")), fun hT => ?_, fun hF => ?_⟩
  · have hlt : h ^ e.toNat < m := of_decide_eq_true hT
    have hle := Mth.le_pow a1 e.toNat he
    have hc : CMul h 2 := .inr ⟨by omega, by omega⟩
    walk_at "set"
    exact ⟨_, by omega, h * 2, rfl, rfl, by omega, by omega⟩
  · have hge : m ≤ h ^ e.toNat := by have := of_decide_eq_false hF; dsimp only at this; omega
    show ES _ _ _ _
    refine es_seq (es_while (fun k E => ∃ (lo hi : Int) (s : Slot), E = [.val (nI m), .val (nI e), .val (nI lo), .val (nI hi), s] ∧ k = (hi - lo).toNat ∧ 1 ≤ lo ∧ lo ≤ r ∧ r ≤ hi ∧ hi ≤ 2 ^ 41) _ ⟨1, h, .un, rfl, rfl, by omega, hr.1, (root_le hr a1).mpr hge, a2⟩ ?_)
    rintro k _ ⟨lo, hi, s, rfl, rfl, b1, b2, b3, b4⟩
    refine ⟨_, by walk_at "et", fun hT => ?_, fun hF => ?_⟩
    · have hlt : lo < hi := of_decide_eq_true hT
      have hc : CDiv (lo + hi) 2 := ⟨by decide, by decide⟩
      walk_at "set"
      refine es_if (et_test (ev_I0 (ev_call ((lo + hi) / 2, e) (by walk_at "ea") ⟨by dsimp only; omega, by dsimp only; omega, by dsimp only; omega, h2⟩ rfl) (by walk_at "ev"))) (fun hU => ?_) (fun hU => ?_)
      · have hlt2 : ((lo + hi) / 2) ^ e.toNat < m := of_decide_eq_true hU
        have hr2 : ¬ r ≤ (lo + hi) / 2 := fun z => by have := (root_le hr (p := (lo + hi) / 2) (by omega)).mp z; omega
        walk_at "set"
        exact ⟨_, by omega, (lo + hi) / 2 + 1, hi, _, rfl, rfl, by omega, by omega, by omega, by omega⟩
      · have hge2 : m ≤ ((lo + hi) / 2) ^ e.toNat := by have := of_decide_eq_false hU; dsimp only at this; omega
        have hr2 : r ≤ (lo + hi) / 2 := (root_le hr (by omega)).mpr hge2
        walk_at "set"
        exact ⟨_, by omega, lo, (lo + hi) / 2, _, rfl, rfl, by omega, by omega, by omega, by omega⟩
    · have hge : ¬ lo < hi := of_decide_eq_false hF
      show ES _ _ _ _
      refine es_ret (by walk_at "ev") ?_
      rw [show lo = r by omega]; rfl
end

section
variable {P : Program} {w : World} {K : PySem.W.Frag} {mg : Str → Option Value} {base : Heap}

abbrev s_step_of : Stmt := topS 3
abbrev n_step_of : List Str := ["degree", "colors", "digits", "steps", "k", "least"]
theorem sc_step_of : FnScope n_step_of ["degree", "colors"] (defScope s_step_of) := ⟨rfl, rfl, rfl, by decide +kernel, rfl, by decide +kernel, by decide +kernel⟩

abbrev sp_step_of (K : PySem.W.Frag) : Sp := spX K (X := Int × Int × (Int × Int)) (fun x => [.val (nI x.1), .val (nI x.2.1)]) (fun x => 1 ≤ x.1 ∧ x.1 ≤ 100 ∧ 1 ≤ x.2.1 ∧ x.2.1 ≤ 4000 * 4000 ∧ StepOf (Dg x.2.1) x.1 x.2.1 x.2.2) (fun x => .val (prA x.2.2))

theorem ok_step_of (d : DefAt K mg "step_of" s_step_of ["degree", "colors"]) (M : Bl mg) (cprime_from : Cal P w K mg base 2 "prime_from" (sp_prime_from K)) (c_least_root : Cal P w K mg base 2 "_least_root" (sp__least_root K)) : Cal P w K mg base 3 "step_of" (sp_step_of K) := by
  refine calA d sc_step_of (fun _ => rfl) fun f cdv A outer s H E hr => ⟨_, (pss_cons (ps_set (i := 2) sc_step_of.nd rfl (Or.inl rfl) (pe_callB (call_max2 rfl) (by rfl) M.max bt_max (pa_cons pe_int (pa_cons (pe_bits (pv 1)) pa_nil))))
      (pss_cons (ps_set (i := 3) sc_step_of.nd rfl (Or.inl rfl) (pe_lst pa_nil))
      (pss_cons (ps_for PassesOwn.never rfl (pi_range2 (by rfl) M.range (pa_cons pe_int (pa_cons (pe_op op_add (pv 2) pe_int) pa_nil))) (pg_name (i := 4) sc_step_of.nd rfl (Or.inl rfl)) (pss_cons (ps_set (i := 5) sc_step_of.nd rfl (Or.inl rfl) (pe_callB (call_max2 rfl) (by rfl) M.max bt_max (pa_cons (pe_op op_add (pe_op op_mul (pv 0) (pv 4)) pe_int) (pa_cons (pe_ca c_least_root hr (by decide) (by rfl) (pa_cons (pv 1) (pa_cons (pe_op op_add (pv 4) pe_int) pa_nil))) pa_nil))))
      (pss_one (ps_expr (pe_bm PySem.F.plainAttrs_list PySem.F.slot_list_append PySem.F.type_list_append mt_append (pv 3) (pa_cons (pe_tup (pa_cons (pe_ca cprime_from hr (by decide) (by rfl) (pa_cons (pv 5) pa_nil)) (pa_cons (pv 4) pa_nil))) pa_nil))))))
      (pss_one (ps_ret (pe_callB (minPK K hr.units rfl) (by rfl) M.min bt_min (pa_cons (pv 3) pa_nil))))))), ?_⟩
  try dsimp only [cxOf, Cx.nox, Cx.wish, Cx.blk]

  rintro ⟨d, m, best⟩ ⟨h1, h2, h3, h4, q, hq, hb, hl⟩
  dsimp only at h1 h2 h3 h4 hq hb hl
  have d1 := Dg_pos h3
  have d2 := Dg_le h3 h4
  show ES K [.val (nI d), .val (nI m), .un, .un, .un, .un] _ _
  walk_at "set"
  walk_at "set"
  rw [show (if ((Builtin.Int.intBits m : Nat) : Int) > 1 then ((Builtin.Int.intBits m : Nat) : Int) else 1) = (Dg m : Int) by
    show (if (Dg m : Int) > 1 then (Dg m : Int) else 1) = _
    split <;> omega]
  refine es_seq (es_forR (lo := 1) (n := Dg m) (fun i E => ∃ s4 s5, E = [.val (nI d), .val (nI m), .val (nI (Dg m)), .own ((Lq q i).map prA), s4, s5]) (fun B G0 σ G H k R z => w_range2 (by walk_at "ev") (by walk_at "ev") (by omega) B G0 σ G H k R (by rw [show ((Dg m : Int) + 1 - 1).toNat = Dg m by omega]; exact z)) ⟨.un, .un, rfl⟩ ?_ ?_)
  · rintro i _ hi ⟨s4, s5, rfl⟩
    refine ⟨_, gt_name, ?_⟩
    walk_at "nx"
    obtain ⟨r, hr, hrm⟩ := root_ex (m := m) (e := i + 2) h3 (by omega)
    have ek : ((1 : Int) + (i : Int) + 1).toNat = i + 2 := by omega
    have hc : CMul d (1 + (i : Int)) := .inl ⟨by omega, by omega⟩
    refine es_seq (es_asg (ev_max2 (by walk_at "ev") (ev_call (m, 1 + (i : Int) + 1, r) (by walk_at "ea") ⟨by dsimp only; omega, by dsimp only; omega, by dsimp only; omega, by dsimp only; omega, by dsimp only; rw [ek]; exact hr⟩ rfl)) ?_)
    walk_at "nx"
    obtain ⟨hQ, hQ2, _⟩ := hq (i + 1) (by omega) (by omega)
    have hN := qk_next h1 hr hQ
    have ed : d * (1 + (i : Int)) = d * ((i + 1 : Nat) : Int) := by rw [show (1 + (i : Int)) = ((i + 1 : Nat) : Int) by omega]
    refine es_app rfl (r := prA (q (i + 1), ((i + 1 : Nat) : Int))) ?_ (by rw [List.length_map, Lq_len]; omega) ?_
    · refine ev_tup (l := [nI (q (i + 1)), nI ((i + 1 : Nat) : Int)]) (eav_cons (ev_call (_, q (i + 1)) (ea_val (ev_var rfl) ea_nil) ⟨?_, by dsimp only; omega⟩ rfl) (eav_cons ((ev_var rfl).is (by rw [show (1 + (i : Int)) = ((i + 1 : Nat) : Int) by omega])) eav_nil)) (by simp)
      dsimp only
      rw [ed]
      exact hN
    · exact ⟨_, _, by rw [Lq_succ, List.map_append]; rfl⟩
  · rintro _ ⟨s4, s5, rfl⟩
    show ES _ _ _ _
    cases e : Lq q (Dg m) with
    | nil => rw [e] at hb; cases hb
    | cons p ps =>
      rw [e] at hb hl
      exact es_ret (ev_minP (evl_own rfl) hb hl) rfl
end

section
variable {P : Program} {w : World} {K : PySem.W.Frag} {mg : Str → Option Value} {base : Heap}

abbrev s__worth : Stmt := topS 7
abbrev n__worth : List Str := ["color", "place", "prime", "most", "worth", "factor", "_"]
theorem sc__worth : FnScope n__worth ["color", "place", "prime", "most"] (defScope s__worth) := ⟨rfl, rfl, rfl, by decide +kernel, rfl, by decide +kernel, by decide +kernel⟩

abbrev sp__worth (K : PySem.W.Frag) : Sp := spX K (X := Int × Int × Int × Nat) (fun x => [.val (nI x.1), .val (nI x.2.1), .val (nI x.2.2.1), .val (nI x.2.2.2)]) (fun x => 2 ≤ x.2.2.1 ∧ x.2.2.1 < 100000 ∧ x.2.2.2 ≤ 1000) (fun x => .val (nI (pvl x.2.2.1 x.2.2.2 x.1 x.2.1)))

theorem ok__worth (d : DefAt K mg "_worth" s__worth ["color", "place", "prime", "most"]) (M : Bl mg)  : Cal P w K mg base 1 "_worth" (sp__worth K) := by
  refine calA d sc__worth (fun _ => rfl) fun f cdv A outer s H E hr => ⟨_, (pss_cons (ps_set (i := 4) sc__worth.nd rfl (Or.inl rfl) pe_int)
      (pss_cons (ps_set (i := 5) sc__worth.nd rfl (Or.inl rfl) pe_int)
      (pss_cons (ps_for PassesOwn.never rfl (pi_range1 (by rfl) M.range (pa_cons (pe_op op_add (pv 3) pe_int) pa_nil)) (pg_name (i := 6) sc__worth.nd rfl (Or.inl rfl)) (pss_cons (ps_set (i := 4) sc__worth.nd rfl (Or.inl rfl) (pe_op op_mod (pe_op op_add (pv 4) (pe_op op_mul (pe_op op_mod (pv 0) (pv 2)) (pv 5))) (pv 2)))
      (pss_cons (ps_set (i := 0) sc__worth.nd rfl (Or.inl rfl) (pe_op op_fdiv (pv 0) (pv 2)))
      (pss_one (ps_set (i := 5) sc__worth.nd rfl (Or.inl rfl) (pe_op op_mod (pe_op op_mul (pv 5) (pv 1)) (pv 2)))))))
      (pss_one (ps_ret (pv 4)))))), ?_⟩
  try dsimp only [cxOf, Cx.nox, Cx.wish, Cx.blk]

  rintro ⟨c, x, q, k⟩ ⟨h1, h2, h3⟩
  dsimp only at h1 h2 h3
  show ES K [.val (nI c), .val (nI x), .val (nI q), .val (nI k), .un, .un, .un] _ _
  walk_at "set"
  walk_at "set"
  have hdiv : ∀ a : Int, CDiv a q := fun a => ⟨by omega, by omega⟩
  refine es_seq (es_forR (lo := 0) (n := k + 1) (fun i E => ∃ (w f a : Int) (s : Slot), E = [.val (nI a), .val (nI x), .val (nI q), .val (nI k), .val (nI w), .val (nI f), s] ∧ 0 ≤ w ∧ w < q ∧ 0 ≤ f ∧ f < q ∧ ∃ n, i + n = k + 1 ∧ (w + f * hv q x n a) % q = hv q x (k + 1) c % q) (fun B G0 σ G H k' R z => w_range1 (by walk_at "ev") (by omega) (by omega) B G0 σ G H k' R (by rw [show ((k : Int) + 1).toNat = k + 1 by omega]; exact z)) ⟨0, 1, c, _, rfl, by omega, by omega, by omega, by omega, k + 1, by omega, by rw [Int.one_mul, Int.zero_add]⟩ ?_ ?_)
  · rintro i _ hi ⟨w, f, a, s, rfl, w0, w1, f0, f1, n, hn, he⟩
    refine ⟨_, gt_name, ?_⟩
    walk_at "nx"
    have ha0 := Int.emod_nonneg a (show q ≠ 0 by omega)
    have ha1 := Int.emod_lt_of_pos a (show 0 < q by omega)
    have hc1 : CMul (a % q) f := .inl ⟨by omega, by omega⟩
    walk_at "set"
    have hdv := hdiv a
    walk_at "set"
    have hc2 : CMul f x := .inl ⟨by omega, by omega⟩
    walk_at "set"
    cases n with
    | zero => omega
    | succ n =>
      refine ⟨_, _, _, _, rfl, Int.emod_nonneg _ (by omega), Int.emod_lt_of_pos _ (by omega), Int.emod_nonneg _ (by omega), Int.emod_lt_of_pos _ (by omega), n, by omega, ?_⟩
      rw [← he]
      exact hv_mod q w f a x _
  · rintro _ ⟨w, f, a, s, rfl, w0, w1, f0, f1, n, hn, he⟩
    show ES _ _ _ _
    refine es_ret (by walk_at "ev") ?_
    have n0 : n = 0 := by omega
    subst n0
    rw [show hv q x 0 a = 0 from rfl, Int.mul_zero, Int.add_zero, Int.emod_eq_of_lt w0 w1] at he
    rw [he]; rfl
end

section
variable {P : Program} {w : World} {K : PySem.W.Frag} {mg : Str → Option Value} {base : Heap}

abbrev s_shrunk : Stmt := topS 6
abbrev n_shrunk : List Str := ["color", "others", "step", "prime", "most", "place", "worth", "other"]
theorem sc_shrunk : FnScope n_shrunk ["color", "others", "step"] (defScope s_shrunk) := ⟨rfl, rfl, rfl, by decide +kernel, rfl, by decide +kernel, by decide +kernel⟩

abbrev sp_shrunk (K : PySem.W.Frag) : Sp := spX K (X := Int × List Int × Int × Nat × Int) (fun x => [.val (nI x.1), .val (lsA (x.2.1.map nI)), .val (prA (x.2.2.1, (x.2.2.2.1 : Int)))]) (fun x => 2 ≤ x.2.2.1 ∧ x.2.2.1 < 100000 ∧ x.2.2.2.1 ≤ 1000 ∧ x.2.1.length ≤ 1000 ∧ 0 ≤ x.2.2.2.2 ∧ x.2.2.2.2 < x.2.2.1 ∧ Good2 x.2.2.1 x.2.2.2.1 x.1 x.2.1 x.2.2.2.2 ∧ ∀ y : Int, 0 ≤ y → y < x.2.2.2.2 → ¬ Good2 x.2.2.1 x.2.2.2.1 x.1 x.2.1 y) (fun x => .val (nI (x.2.2.1 * x.2.2.2.2 + pvl x.2.2.1 x.2.2.2.1 x.1 x.2.2.2.2)))

theorem ok_shrunk (d : DefAt K mg "shrunk" s_shrunk ["color", "others", "step"]) (M : Bl mg) (c_worth : Cal P w K mg base 1 "_worth" (sp__worth K)) : Cal P w K mg base 2 "shrunk" (sp_shrunk K) := by
  refine calA d sc_shrunk (fun _ => rfl) fun f cdv A outer s H E hr => ⟨_, (pss_cons (ps_asg (pv 2) (pg_tupK K (by rfl) (pgs_cons (pg_name (i := 3) sc_shrunk.nd rfl (Or.inr rfl)) (pgs_cons (pg_name (i := 4) sc_shrunk.nd rfl (Or.inr rfl)) pgs_nil))))
      (pss_cons (ps_for PassesOwn.never rfl (pi_range1 (by rfl) M.range (pa_cons (pv 3) pa_nil)) (pg_name (i := 5) sc_shrunk.nd rfl (Or.inr rfl)) (pss_cons (ps_set (i := 6) sc_shrunk.nd rfl (Or.inl rfl) (pe_ca c_worth hr (by decide) (by rfl) (pa_cons (pv 0) (pa_cons (pv 5) (pa_cons (pv 3) (pa_cons (pv 4) pa_nil))))))
      (pss_one (ps_if (pt_cmpR (notIn_seqK K) (pv 6) (pe_lc (own := [("other", 7)]) rfl sc_shrunk.nd (pi_listK K (pv 1)) (blkOk_by (own := [("other", 7)]) (N := n_shrunk) (sc := defScope s_shrunk) (by decide +kernel)) (fun _ _ _ _ _ => (pg_name (i := 7) sc_shrunk.nd rfl (Or.inl rfl))) (fun _ _ _ _ _ => pts_nil) (fun _ _ _ _ _ => (pe_ca c_worth hr (by decide) (by rfl) (pa_cons (pv 7) (pa_cons (pv 5) (pa_cons (pv 3) (pa_cons (pv 4) pa_nil))))))) (by rfl)) (pss_one (ps_ret (pe_op op_add (pe_op op_mul (pv 3) (pv 5)) (pv 6)))) pss_nil))))
      (pss_one (ps_ret (pe_ca c_worth hr (by decide) (by rfl) (pa_cons (pv 0) (pa_cons pe_int (pa_cons (pv 3) (pa_cons (pv 4) pa_nil))))))))), ?_⟩
  try dsimp only [cxOf, Cx.nox, Cx.wish, Cx.blk]

  rintro ⟨c, os, q, k, x⟩ ⟨h1, h2, h3, h4, h5, h6, h7, h8⟩
  dsimp only at h1 h2 h3 h4 h5 h6 h7 h8
  show ES K [.val (nI c), .val (lsA (os.map nI)), .val (prA (q, (k : Int))), .un, .un, .un, .un, .un] _ _
  refine es_seq (es_asgG (ev_var rfl) (gt_tup (gts_cons gt_name (gts_cons gt_name gts_nil))) ?_)
  walk_at "nx"
  refine es_seq (es_forR (lo := 0) (n := q.toNat) (fun i E => (∃ s5 s6, E = [.val (nI c), .val (lsA (os.map nI)), .val (prA (q, (k : Int))), .val (nI q), .val (nI k), s5, s6, .un]) ∧ (i : Int) ≤ x) (fun B G0 σ G H k' R z => w_range1 (ev_var rfl) (by omega) (by omega) B G0 σ G H k' R z) ⟨⟨_, _, rfl⟩, h5⟩ ?_ ?_)
  · rintro i _ hi ⟨⟨s5, s6, rfl⟩, hle⟩
    refine ⟨_, gt_name, ?_⟩
    walk_at "nx"
    refine es_seq (es_asg (ev_call (c, 0 + (i : Int), q, k) (by walk_at "ea") ⟨h1, h2, h3⟩ rfl) ?_)
    walk_at "nx"
    have hmap : (accL (fun _ => true) (fun j => nI (pvl q k (os.getD j 0) (0 + (i : Int)))) (os.map nI).length) = (os.map fun o => pvl q k o (0 + (i : Int))).map nI := by
      rw [List.length_map, accL_map (fun o => nI (pvl q k o (0 + (i : Int)))), List.map_map]; rfl
    refine es_if (et_test (ev_ninI (ev_var rfl) (EVF.evl (EVF.is (evf_lcL (EV.evs (ev_var (r := lsA (os.map nI)) rfl)) (fun _ => true) (fun j => nI (pvl q k (os.getD j 0) (0 + (i : Int)))) (by rw [List.length_map]; omega) (fun j r hr => et_yes) (fun j r hr _ => ?_)) hmap)))) (fun hT => ?_) (fun hF => ?_)
    · rw [List.getElem?_map] at hr
      cases e : os[j]? with
      | none => rw [e] at hr; cases hr
      | some o =>
        rw [e] at hr
        cases hr
        have eo : os.getD j 0 = o := by rw [List.getD_eq_getElem?_getD, e]; rfl
        rw [eo]
        exact ev_call (o, 0 + (i : Int), q, k) (ea_val (ev_var rfl) (by walk_at "ea")) ⟨h1, h2, h3⟩ rfl
    · have hg : Good2 q k c os (0 + (i : Int)) := fun o ho z => by
        rw [Bool.not_eq_true'] at hT
        exact of_decide_eq_false hT (List.mem_map.mpr ⟨o, ho, z⟩)
      have hx : (0 + (i : Int)) = x := by
        rcases Int.lt_or_le (0 + (i : Int)) x with h | h
        · exact absurd hg (h8 _ (by omega) h)
        · omega
      have hc : CMul q (0 + (i : Int)) := .inl ⟨by omega, by omega⟩
      refine es_ret (by walk_at "ev") ?_
      rw [hx]; rfl
    · refine es_next ⟨⟨_, _, rfl⟩, ?_⟩
      have hne : (0 + (i : Int)) ≠ x := fun z => by
        rw [Bool.not_eq_false'] at hF
        obtain ⟨o, ho, e⟩ := List.mem_map.mp (of_decide_eq_true hF)
        rw [z] at e
        exact h7 o ho e
      omega
  · rintro _ ⟨⟨s5, s6, rfl⟩, hle⟩
    omega
end

section
variable {P : Program} {w : World} {K : PySem.W.Frag} {mg : Str → Option Value} {base : Heap}

abbrev s__law_cell : Stmt := topS 9
abbrev n__law_cell : List Str := ["script", "k"]
theorem sc__law_cell : FnScope n__law_cell ["script", "k"] (defScope s__law_cell) := ⟨rfl, rfl, rfl, by decide +kernel, rfl, by decide +kernel, by decide +kernel⟩

abbrev sp__law_cell (K : PySem.W.Frag) : Sp := spX K (X := List Int × Int) (fun x => [.scr x.1, .val (nI x.2)]) (fun x => 0 ≤ x.2) (fun x => .val (nI (x.1.getD x.2.toNat 0)))

theorem ok__law_cell (d : DefAt K mg "_law_cell" s__law_cell ["script", "k"]) (M : Bl mg)  : Cal P w K mg base 1 "_law_cell" (sp__law_cell K) := by
  refine calA d sc__law_cell (fun _ => rfl) fun f cdv A outer s H E hr => ⟨_, (pss_cons (ps_if (pt_cmpR op_lt (pv 1) (pe_callB (len_seqK K) (by rfl) M.len bt_len (pa_cons (pv 0) pa_nil)) (nomark _)) (pss_one (ps_ret (pe_ix (ix_listK K) (pv 0) (pv 1) (fun _ _ => rfl)))) pss_nil)
      (pss_one (ps_ret pe_int))), ?_⟩
  try dsimp only [cxOf, Cx.nox, Cx.wish, Cx.blk]

  rintro ⟨ns, k⟩ hk
  dsimp only at hk
  show ES K [.scr ns, .val (nI k)] _ _
  walk_at "if" <;> intro hT
  · have hlt : k < (ns.length : Int) := of_decide_eq_true hT
    have hx : ns[k.toNat]? = some (ns.getD k.toNat 0) := by
      rw [List.getD_eq_getElem?_getD, List.getElem?_eq_getElem (by omega)]; rfl
    exact es_ret (ev_ixS rfl (ev_var rfl) (j := k.toNat) (by omega) hx) rfl
  · refine es_next ?_
    walk_at "nx"
    have hge : ¬ k < (ns.length : Int) := of_decide_eq_false hT
    refine es_ret ev_int ?_
    have : ns.getD k.toNat 0 = 0 := by
      rw [List.getD_eq_getElem?_getD, List.getElem?_eq_none (by omega)]; rfl
    rw [this]; rfl
end

section
variable {P : Program} {w : World} {K : PySem.W.Frag} {mg : Str → Option Value} {base : Heap}

abbrev s__law_draws : Stmt := topS 10
abbrev n__law_draws : List Str := ["cell", "count", "rows", "left", "first", "k", "mixed"]
theorem sc__law_draws : FnScope n__law_draws ["cell", "count"] (defScope s__law_draws) := ⟨rfl, rfl, rfl, by decide +kernel, rfl, by decide +kernel, by decide +kernel⟩

abbrev sp__law_draws (K : PySem.W.Frag) : Sp := spX K (X := Int × Nat) (fun x => [.val (nI x.1), .val (nI x.2)]) (fun x => x.2 ≤ 1000) (fun x => .own ((drawsF x.1 x.2).map nI))

theorem ok__law_draws (d : DefAt K mg "_law_draws" s__law_draws ["cell", "count"]) (M : Bl mg)  : Cal P w K mg base 1 "_law_draws" (sp__law_draws K) := by
  refine calA d sc__law_draws (fun _ => rfl) fun f cdv A outer s H E hr => ⟨_, (pss_cons (ps_set (i := 2) sc__law_draws.nd rfl (Or.inl rfl) (pe_lst pa_nil))
      (pss_cons (ps_set (i := 3) sc__law_draws.nd rfl (Or.inl rfl) (pe_callB call_abs (by rfl) M.abs bt_abs (pa_cons (pv 0) pa_nil)))
      (pss_cons (ps_set (i := 4) sc__law_draws.nd rfl (Or.inl rfl) (pv 3))
      (pss_cons (ps_for PassesOwn.never rfl (pi_range1 (by rfl) M.range (pa_cons (pv 1) pa_nil)) (pg_name (i := 5) sc__law_draws.nd rfl (Or.inl rfl)) (pss_one (ps_if (PW.pt (pw_and (pt_cmpR op_ge (pv 4) (pe_op op_pow pe_int pe_int) (nomark _)) (pw_and1 (pt_cmpR op_gt (pv 3) pe_int (nomark _))))) (pss_cons (ps_expr (pe_bm PySem.F.plainAttrs_list PySem.F.slot_list_append PySem.F.type_list_append mt_append (pv 2) (pa_cons (pe_op op_mod (pe_callTy call_int1 (by rfl) M.int bt_int (pa_cons (pv 3) pa_nil)) pe_int) pa_nil)))
      (pss_one (ps_set (i := 3) sc__law_draws.nd rfl (Or.inl rfl) (pe_op op_fdiv (pv 3) pe_int)))) (pss_cons (ps_set (i := 6) sc__law_draws.nd rfl (Or.inl rfl) (pe_op op_mod (pe_callTy call_int1 (by rfl) M.int bt_int (pa_cons (pe_op op_add (pe_op op_mul (pv 4) pe_int) (pe_op op_mul (pe_op op_add (pv 5) pe_int) pe_int)) pa_nil)) pe_int))
      (pss_cons (ps_set (i := 6) sc__law_draws.nd rfl (Or.inl rfl) (pe_op op_mod (pe_callTy call_int1 (by rfl) M.int bt_int (pa_cons (pe_op op_add (pe_op op_add (pe_op op_mul (pv 6) (pv 6)) (pe_op op_mul (pv 6) pe_int)) (pe_op op_mul (pv 5) pe_int)) pa_nil)) pe_int))
      (pss_cons (ps_set (i := 6) sc__law_draws.nd rfl (Or.inl rfl) (pe_op op_mod (pe_callTy call_int1 (by rfl) M.int bt_int (pa_cons (pe_op op_add (pe_op op_add (pe_op op_mul (pv 6) (pv 6)) (pv 4)) (pe_op op_mul pe_int (pv 5))) pa_nil)) pe_int))
      (pss_one (ps_expr (pe_bm PySem.F.plainAttrs_list PySem.F.slot_list_append PySem.F.type_list_append mt_append (pv 2) (pa_cons (pe_op op_mod (pe_op op_fdiv (pv 6) pe_int) pe_int) pa_nil))))))))))
      (pss_one (ps_ret (pv 2))))))), ?_⟩
  try dsimp only [cxOf, Cx.nox, Cx.wish, Cx.blk]

  rintro ⟨c, n⟩ hn
  dsimp only at hn
  show ES K [.val (nI c), .val (nI n), .un, .un, .un, .un, .un] _ _
  walk_at "set"
  walk_at "set"
  walk_at "set"
  refine es_seq (es_forR (lo := 0) (n := n) (fun i E => ∃ s5 s6, E = [.val (nI c), .val (nI n), .own ((drawsS c i).1.map nI), .val (nI (drawsS c i).2), .val (nI (absI c)), s5, s6]) (fun B G0 σ G H k R z => w_range1 (by walk_at "ev") (by omega) (by omega) B G0 σ G H k R (by rw [Int.toNat_natCast]; exact z)) ⟨_, _, rfl⟩ ?_ ?_)
  · rintro i _ hi ⟨s5, s6, rfl⟩
    refine ⟨_, gt_name, ?_⟩
    walk_at "nx"
    have hl := drawsS_len c i
    have hcp : CPow 10 18 := ⟨by decide, by decide, by decide⟩
    refine es_if (by walk_at "et") (fun hT => ?_) (fun hF => ?_)
    · refine es_seq (es_app rfl (by walk_at "ev") (by rw [List.length_map, hl]; omega) ?_)
      walk_at "nx"
      walk_at "set"
      have e : drawsS c (i + 1) = ((drawsS c i).1 ++ [(drawsS c i).2 % 4096], (drawsS c i).2 / 4096) := if_pos hT
      exact ⟨_, _, by rw [e, List.map_append]; rfl⟩
    · walk_at "set"
      walk_at "set"
      walk_at "set"
      refine es_app rfl (by walk_at "ev") (by rw [List.length_map, hl]; omega) ?_
      have e : drawsS c (i + 1) = ((drawsS c i).1 ++ [mixF (absI c) (0 + (i : Int))], (drawsS c i).2) := if_neg (by rw [hF]; exact Bool.false_ne_true)
      exact ⟨_, _, by rw [e, List.map_append]; rfl⟩
  · rintro _ ⟨s5, s6, rfl⟩
    show ES _ _ _ _
    exact es_retO rfl rfl
end

section
variable {P : Program} {w : World} {K : PySem.W.Frag} {mg : Str → Option Value} {base : Heap}

abbrev s__law_like : Stmt := topS 11
abbrev n__law_like : List Str := ["actual", "due", "k"]
theorem sc__law_like : FnScope n__law_like ["actual", "due"] (defScope s__law_like) := ⟨rfl, rfl, rfl, by decide +kernel, rfl, by decide +kernel, by decide +kernel⟩

abbrev sp_like (n : Nat) (K : PySem.W.Frag) : Sp := spX K (X := PyData) (fun d => [.val (dat d), .val (dat d)]) (fun d => Fit n d) (fun _ => .val (nB true))
abbrev sp__law_like (K : PySem.W.Frag) : Sp := sp_like 5 K
-- @mk have c_law_like := ok_like (P := l.prog) (w := w) (base := base) D__law_like M 5


theorem ok_like (d : DefAt K mg "_law_like" s__law_like ["actual", "due"]) (M : Bl mg) : ∀ n : Nat, Cal P w K mg base n "_law_like" (sp_like n K)
  | 0 => cal_never d fun x h => h
  | n + 1 => by
    have c_law_like := ok_like d M n
    refine calA d sc__law_like (fun _ => rfl) fun f cdv A outer s H E hr => ⟨_, (pss_cons (ps_if (pt_cmp (pc_isN (pv 1))) (pss_one (ps_ret (pe_cmp (pc_isN (pv 0))))) pss_nil)
      (pss_cons (ps_if (pt_val (pe_callB (isiK K) (by rfl) M.isinstance bt_isinstance (pa_cons (pv 1) (pa_cons (pe_bltn (v := .ty "bool") (by rfl) M.bool bt_bool rfl) pa_nil)))) (pss_one (ps_ret (pe_and (pe_callB (isiK K) (by rfl) M.isinstance bt_isinstance (pa_cons (pv 0) (pa_cons (pe_bltn (v := .ty "bool") (by rfl) M.bool bt_bool rfl) pa_nil))) (pe_one (pe_cmpR op_eq (pv 0) (pv 1) (nomark _)))))) pss_nil)
      (pss_cons (ps_if (pt_val (pe_callB (isiK K) (by rfl) M.isinstance bt_isinstance (pa_cons (pv 1) (pa_cons (pe_bltn (v := .ty "str") (by rfl) M.str bt_str rfl) pa_nil)))) (pss_one (ps_ret (pe_and (pe_callB (isiK K) (by rfl) M.isinstance bt_isinstance (pa_cons (pv 0) (pa_cons (pe_bltn (v := .ty "str") (by rfl) M.str bt_str rfl) pa_nil))) (pe_one (pe_cmpR op_eq (pv 0) (pv 1) (nomark _)))))) pss_nil)
      (pss_cons (ps_if (pt_val (pe_callB (isiK K) (by rfl) M.isinstance bt_isinstance (pa_cons (pv 1) (pa_cons (pe_bltn (v := .ty "int") (by rfl) M.int bt_int rfl) pa_nil)))) (pss_one (ps_ret (pe_and (pe_callB (isiK K) (by rfl) M.isinstance bt_isinstance (pa_cons (pv 0) (pa_cons (pe_bltn (v := .ty "int") (by rfl) M.int bt_int rfl) pa_nil))) (pe_and (pe_not (pe_callB (isiK K) (by rfl) M.isinstance bt_isinstance (pa_cons (pv 0) (pa_cons (pe_bltn (v := .ty "bool") (by rfl) M.bool bt_bool rfl) pa_nil)))) (pe_one (pe_cmpR op_eq (pv 0) (pv 1) (nomark _))))))) pss_nil)
      (pss_cons (ps_if (PW.pt (pw_or (pt_cmpR op_ne (pe_callB (isiK K) (by rfl) M.isinstance bt_isinstance (pa_cons (pv 1) (pa_cons (pe_bltn (v := .ty "list") (by rfl) M.list bt_list rfl) pa_nil))) (pe_callB (isiK K) (by rfl) M.isinstance bt_isinstance (pa_cons (pv 0) (pa_cons (pe_bltn (v := .ty "list") (by rfl) M.list bt_list rfl) pa_nil))) (nomark _)) (pw_or1 (pt_cmpR op_ne (pe_callB (isiK K) (by rfl) M.isinstance bt_isinstance (pa_cons (pv 1) (pa_cons (pe_bltn (v := .ty "tuple") (by rfl) M.tuple bt_tuple rfl) pa_nil))) (pe_callB (isiK K) (by rfl) M.isinstance bt_isinstance (pa_cons (pv 0) (pa_cons (pe_bltn (v := .ty "tuple") (by rfl) M.tuple bt_tuple rfl) pa_nil))) (nomark _))))) (pss_one (ps_ret pe_bl)) pss_nil)
      (pss_cons (ps_if (pt_cmpR op_ne (pe_callB (len_seqK K) (by rfl) M.len bt_len (pa_cons (pv 0) pa_nil)) (pe_callB (len_seqK K) (by rfl) M.len bt_len (pa_cons (pv 1) pa_nil)) (nomark _)) (pss_one (ps_ret pe_bl)) pss_nil)
      (pss_one (ps_ret (pe_callB (allK K rfl) (by rfl) M.all bt_all (pa_cons (pe_lc (own := [("k", 2)]) rfl sc__law_like.nd (pi_range1 (by rfl) M.range (pa_cons (pe_callB (len_seqK K) (by rfl) M.len bt_len (pa_cons (pv 1) pa_nil)) pa_nil)) (blkOk_by (own := [("k", 2)]) (N := n__law_like) (sc := defScope s__law_like) (by decide +kernel)) (fun _ _ _ _ _ => (pg_name (i := 2) sc__law_like.nd rfl (Or.inl rfl))) (fun _ _ _ _ _ => pts_nil) (fun _ _ _ _ _ => (pe_ca c_law_like hr (Nat.le_refl _) (by rfl) (pa_cons (pe_ix (ix_seqK K) (pv 0) (pv 2) (fun _ _ => rfl)) (pa_cons (pe_ix (ix_seqK K) (pv 1) (pv 2) (fun _ _ => rfl)) pa_nil))))) pa_nil)))))))))), ?_⟩
    try dsimp only [cxOf, Cx.nox, Cx.wish, Cx.blk]
    intro x hx
    show ES K [.val (dat x), .val (dat x), .un] _ _
    have no : ∀ {ts us : TS} {A : AE} {t : TT}, ET K [.val (dat x), .val (dat x), .un] t false → ES K [.val (dat x), .val (dat x), .un] us A → ES K [.val (dat x), .val (dat x), .un] (tSeq (tIfS t ts tNext) us) A := fun ht hu => es_seq (es_if ht (fun z => by cases z) fun _ => es_next hu)
    have yes : ∀ {ts us : TS} {A : AE} {t : TT}, ET K [.val (dat x), .val (dat x), .un] t true → ES K [.val (dat x), .val (dat x), .un] ts { A with nx := fun E' => ES K E' us A } → ES K [.val (dat x), .val (dat x), .un] (tSeq (tIfS t ts tNext) us) A := fun ht hu => es_seq (es_if ht (fun _ => hu) fun z => by cases z)
    have isi0 : ∀ {nm : String} {b : Bool}, kitB (tyD x) nm = some b → EV K [.val (dat x), .val (dat x), .un] (tCB (rIsi K) (tCons (tVar 0) (tCons (tC (.ty nm)) tNil))) (nB b) := fun h => ev_isi (ev_var rfl) h
    have isi1 : ∀ {nm : String} {b : Bool}, kitB (tyD x) nm = some b → EV K [.val (dat x), .val (dat x), .un] (tCB (rIsi K) (tCons (tVar 1) (tCons (tC (.ty nm)) tNil))) (nB b) := fun h => ev_isi (ev_var rfl) h
    have seqs : ∀ (ds : List PyData), (x = .list ds ∨ x = .tuple ds) → ds.length ≤ 1000 → (∀ y ∈ ds, Fit n y) → EVL K [.val (dat x), .val (dat x), .un] (tVar 1) (dats ds) ∨ EV K [.val (dat x), .val (dat x), .un] (tVar 1) (tuA (dats ds)) := fun ds h _ _ => by
      rcases h with rfl | rfl
      · exact .inl (evl_var (l := dats ds) rfl)
      · exact .inr (ev_var (r := tuA (dats ds)) rfl)
    cases x with
    | none =>
      refine yes (et_B (ev_isNd (d := .none) (ev_var rfl))) ?_
      exact es_ret (ev_isNd (d := .none) (ev_var rfl)) rfl
    | bool b =>
      refine no (et_B (ev_isNd (d := .bool b) (ev_var rfl))) ?_
      refine yes (et_B (isi1 rfl)) ?_
      refine es_ret (ev_andV (isi0 rfl) fun _ => ev_eq (ev_var rfl) (ev_var rfl) rfl) ?_
      simp [AR]
    | str z =>
      refine no (et_B (ev_isNd (d := .str z) (ev_var rfl))) ?_
      refine no (et_B (isi1 rfl)) ?_
      refine yes (et_B (isi1 rfl)) ?_
      refine es_ret (ev_andV (isi0 rfl) fun _ => ev_eq (ev_var rfl) (ev_var rfl) rfl) ?_
      simp [AR]
    | int i =>
      refine no (et_B (ev_isNd (d := .int i) (ev_var rfl))) ?_
      refine no (et_B (isi1 rfl)) ?_
      refine no (et_B (isi1 rfl)) ?_
      refine yes (et_B (isi1 rfl)) ?_
      refine es_ret (ev_andV (isi0 rfl) fun _ => ev_andV (ev_notV (isi0 (b := false) rfl)) fun _ => ev_eq (ev_var rfl) (ev_var rfl) rfl) ?_
      simp [AR]
    | dict z => rcases hx with h | ⟨ds, h | h, _⟩ <;> first | exact h.elim | cases h
    | list ds =>
      obtain ⟨hl, hf⟩ : ds.length ≤ 1000 ∧ ∀ y ∈ ds, Fit n y := by
        rcases hx with h | ⟨ds', h | h, h2⟩
        · exact h.elim
        · cases h; exact h2
        · cases h
      have l0 : EVL K [.val (dat (.list ds)), .val (dat (.list ds)), .un] (tVar 0) (dats ds) := evl_var rfl
      have l1 : EVL K [.val (dat (.list ds)), .val (dat (.list ds)), .un] (tVar 1) (dats ds) := evl_var rfl
      refine no (et_B (ev_isNd (d := .list ds) (ev_var rfl))) ?_
      refine no (et_B (isi1 rfl)) ?_
      refine no (et_B (isi1 rfl)) ?_
      refine no (et_B (isi1 rfl)) ?_
      refine no ((et_or (et_test (ev_ne (isi1 (b := true) rfl) (isi0 (b := true) rfl) rfl)) fun _ => et_test (ev_ne (isi1 (b := false) rfl) (isi0 (b := false) rfl) rfl)).is (by simp)) ?_
      refine no ((et_test (ev_neI (ev_len l0) (ev_len l1))).is (by simp)) ?_
      have hdl : (dats ds).length = ds.length := by rw [dats_map, List.length_map]
      refine es_ret (ev_all (bs := (List.range ds.length).map fun _ => true) (EVF.evl (EVF.is (evf_lcR (lo := 0) (n := ds.length) (fun B G0 σ G H k R z => w_range1 (ev_len l1) (by omega) (by omega) B G0 σ G H k R (by rw [hdl, Int.toNat_natCast]; exact z)) (fun _ => true) (fun _ => nB true) (by omega) (fun j hj => et_yes) (fun j hj _ => ?_)) (by rw [accL_all, List.map_map]; rfl)))) ?_
      · have hj2 : ds[j]? = some ds[j] := List.getElem?_eq_getElem hj
        have hat : (dats ds)[j]? = some (dat ds[j]) := by rw [dats_map, List.getElem?_map, hj2]; rfl
        refine ev_call ds[j] (ea_val (ev_ixA (i := j) (.inl (evl_var (l := dats ds) rfl)) (ev_var rfl) (by omega) hat) (ea_val (ev_ixA (i := j) (.inl (evl_var (l := dats ds) rfl)) (ev_var rfl) (by omega) hat) ea_nil)) (hf _ (List.getElem_mem hj)) rfl
      · rw [all_true]; rfl
    | tuple ds =>
      obtain ⟨hl, hf⟩ : ds.length ≤ 1000 ∧ ∀ y ∈ ds, Fit n y := by
        rcases hx with h | ⟨ds', h | h, h2⟩
        · exact h.elim
        · cases h
        · cases h; exact h2
      have l0 : EV K [.val (dat (.tuple ds)), .val (dat (.tuple ds)), .un] (tVar 0) (tuA (dats ds)) := ev_var rfl
      have l1 : EV K [.val (dat (.tuple ds)), .val (dat (.tuple ds)), .un] (tVar 1) (tuA (dats ds)) := ev_var rfl
      refine no (et_B (ev_isNd (d := .tuple ds) (ev_var rfl))) ?_
      refine no (et_B (isi1 rfl)) ?_
      refine no (et_B (isi1 rfl)) ?_
      refine no (et_B (isi1 rfl)) ?_
      refine no ((et_or (et_test (ev_ne (isi1 (b := false) rfl) (isi0 (b := false) rfl) rfl)) fun _ => et_test (ev_ne (isi1 (b := true) rfl) (isi0 (b := true) rfl) rfl)).is (by simp)) ?_
      refine no ((et_test (ev_neI (ev_lenT l0) (ev_lenT l1))).is (by simp)) ?_
      have hdl : (dats ds).length = ds.length := by rw [dats_map, List.length_map]
      refine es_ret (ev_all (bs := (List.range ds.length).map fun _ => true) (EVF.evl (EVF.is (evf_lcR (lo := 0) (n := ds.length) (fun B G0 σ G H k R z => w_range1 (ev_lenT l1) (by omega) (by omega) B G0 σ G H k R (by rw [hdl, Int.toNat_natCast]; exact z)) (fun _ => true) (fun _ => nB true) (by omega) (fun j hj => et_yes) (fun j hj _ => ?_)) (by rw [accL_all, List.map_map]; rfl)))) ?_
      · have hj2 : ds[j]? = some ds[j] := List.getElem?_eq_getElem hj
        have hat : (dats ds)[j]? = some (dat ds[j]) := by rw [dats_map, List.getElem?_map, hj2]; rfl
        refine ev_call ds[j] (ea_val (ev_ixA (i := j) (.inr (ev_var (r := tuA (dats ds)) rfl)) (ev_var rfl) (by omega) hat) (ea_val (ev_ixA (i := j) (.inr (ev_var (r := tuA (dats ds)) rfl)) (ev_var rfl) (by omega) hat) ea_nil)) (hf _ (List.getElem_mem hj)) rfl
      · rw [all_true]; rfl
end

section
variable {P : Program} {w : World} {K : PySem.W.Frag} {mg : Str → Option Value} {base : Heap}

abbrev s__law_value : Stmt := topS 12
abbrev n__law_value : List Str := ["color", "place", "step", "q", "k", "total", "power", "j"]
theorem sc__law_value : FnScope n__law_value ["color", "place", "step"] (defScope s__law_value) := ⟨rfl, rfl, rfl, by decide +kernel, rfl, by decide +kernel, by decide +kernel⟩

abbrev sp__law_value (K : PySem.W.Frag) : Sp := spX K (X := Int × Int × Int × Nat) (fun x => [.val (nI x.1), .val (nI x.2.1), .val (prA (x.2.2.1, (x.2.2.2 : Int)))]) (fun x => 2 ≤ x.2.2.1 ∧ x.2.2.1 < 100000 ∧ x.2.2.2 ≤ 1000 ∧ 0 ≤ x.2.1 ∧ x.2.1 < 100000) (fun x => .val (nI (pvl x.2.2.1 x.2.2.2 x.1 x.2.1)))

theorem ok__law_value (d : DefAt K mg "_law_value" s__law_value ["color", "place", "step"]) (M : Bl mg)  : Cal P w K mg base 1 "_law_value" (sp__law_value K) := by
  refine calA d sc__law_value (fun _ => rfl) fun f cdv A outer s H E hr => ⟨_, (pss_cons (ps_asg (pv 2) (pg_tupK K (by rfl) (pgs_cons (pg_name (i := 3) sc__law_value.nd rfl (Or.inl rfl)) (pgs_cons (pg_name (i := 4) sc__law_value.nd rfl (Or.inl rfl)) pgs_nil))))
      (pss_cons (ps_set (i := 5) sc__law_value.nd rfl (Or.inl rfl) pe_int)
      (pss_cons (ps_set (i := 6) sc__law_value.nd rfl (Or.inl rfl) pe_int)
      (pss_cons (ps_for PassesOwn.never rfl (pi_range1 (by rfl) M.range (pa_cons (pe_op op_add (pv 4) pe_int) pa_nil)) (pg_name (i := 7) sc__law_value.nd rfl (Or.inl rfl)) (pss_cons (ps_set (i := 5) sc__law_value.nd rfl (Or.inl rfl) (pe_op op_add (pv 5) (pe_op op_mul (pe_op op_mod (pe_callTy call_int1 (by rfl) M.int bt_int (pa_cons (pv 0) pa_nil)) (pv 3)) (pv 6))))
      (pss_cons (ps_set (i := 0) sc__law_value.nd rfl (Or.inl rfl) (pe_op op_fdiv (pv 0) (pv 3)))
      (pss_one (ps_set (i := 6) sc__law_value.nd rfl (Or.inl rfl) (pe_op op_mul (pv 6) (pv 1)))))))
      (pss_one (ps_ret (pe_op op_mod (pv 5) (pv 3)))))))), ?_⟩
  try dsimp only [cxOf, Cx.nox, Cx.wish, Cx.blk]

  rintro ⟨c, x, q, k⟩ ⟨h1, h2, h3, h4, h5⟩
  dsimp only at h1 h2 h3 h4 h5
  show ES K [.val (nI c), .val (nI x), .val (prA (q, (k : Int))), .un, .un, .un, .un, .un] _ _
  refine es_seq (es_asgG (ev_var rfl) (gt_tup (gts_cons gt_name (gts_cons gt_name gts_nil))) ?_)
  walk_at "nx"
  walk_at "set"
  walk_at "set"
  have hdiv : ∀ a : Int, CDiv a q := fun a => ⟨by omega, by omega⟩
  refine es_seq (es_forR (lo := 0) (n := k + 1) (fun i E => ∃ (w f a : Int) (s : Slot), E = [.val (nI a), .val (nI x), .val (prA (q, (k : Int))), .val (nI q), .val (nI k), .val (nI w), .val (nI f), s] ∧ ∃ n, i + n = k + 1 ∧ w + f * hv q x n a = hv q x (k + 1) c) (fun B G0 σ G H k' R z => w_range1 (by walk_at "ev") (by omega) (by omega) B G0 σ G H k' R (by rw [show ((k : Int) + 1).toNat = k + 1 by omega]; exact z)) ⟨0, 1, c, _, rfl, k + 1, by omega, by rw [Int.one_mul, Int.zero_add]⟩ ?_ ?_)
  · rintro i _ hi ⟨w, f, a, s, rfl, n, hn, he⟩
    refine ⟨_, gt_name, ?_⟩
    walk_at "nx"
    have ha0 := Int.emod_nonneg a (show q ≠ 0 by omega)
    have ha1 := Int.emod_lt_of_pos a (show 0 < q by omega)
    have hc1 : CMul (a % q) f := .inl ⟨by omega, by omega⟩
    walk_at "set"
    have hdv := hdiv a
    walk_at "set"
    have hc2 : CMul f x := .inr ⟨by omega, by omega⟩
    walk_at "set"
    cases n with
    | zero => omega
    | succ n =>
      refine ⟨_, _, _, _, rfl, n, by omega, ?_⟩
      rw [← he]
      show w + a % q * f + f * x * hv q x n (a / q) = w + f * (a % q + x * hv q x n (a / q))
      rw [Int.mul_add, Int.mul_comm f (a % q), Int.mul_assoc]
      omega
  · rintro _ ⟨w, f, a, s, rfl, n, hn, he⟩
    show ES _ _ _ _
    refine es_ret (by walk_at "ev") ?_
    have n0 : n = 0 := by omega
    subst n0
    rw [show hv q x 0 a = 0 from rfl, Int.mul_zero, Int.add_zero] at he
    rw [he]; rfl
end

section
variable {P : Program} {w : World} {K : PySem.W.Frag} {mg : Str → Option Value} {base : Heap}

abbrev s__law_shrunk : Stmt := topS 13
abbrev n__law_shrunk : List Str := ["color", "others", "step", "x", "own", "other"]
theorem sc__law_shrunk : FnScope n__law_shrunk ["color", "others", "step"] (defScope s__law_shrunk) := ⟨rfl, rfl, rfl, by decide +kernel, rfl, by decide +kernel, by decide +kernel⟩

abbrev sp__law_shrunk (K : PySem.W.Frag) : Sp := spX K (X := Int × List Int × Int × Nat × Int) (fun x => [.val (nI x.1), .val (lsA (x.2.1.map nI)), .val (prA (x.2.2.1, (x.2.2.2.1 : Int)))]) (fun x => 2 ≤ x.2.2.1 ∧ x.2.2.1 < 100000 ∧ x.2.2.2.1 ≤ 1000 ∧ x.2.1.length ≤ 1000 ∧ 0 ≤ x.2.2.2.2 ∧ x.2.2.2.2 < x.2.2.1 ∧ Good2 x.2.2.1 x.2.2.2.1 x.1 x.2.1 x.2.2.2.2 ∧ ∀ y : Int, 0 ≤ y → y < x.2.2.2.2 → ¬ Good2 x.2.2.1 x.2.2.2.1 x.1 x.2.1 y) (fun x => .val (nI (x.2.2.1 * x.2.2.2.2 + pvl x.2.2.1 x.2.2.2.1 x.1 x.2.2.2.2)))

theorem ok__law_shrunk (d : DefAt K mg "_law_shrunk" s__law_shrunk ["color", "others", "step"]) (M : Bl mg) (c_law_value : Cal P w K mg base 1 "_law_value" (sp__law_value K)) : Cal P w K mg base 2 "_law_shrunk" (sp__law_shrunk K) := by
  refine calA d sc__law_shrunk (fun _ => rfl) fun f cdv A outer s H E hr => ⟨_, (pss_cons (ps_for PassesOwn.never rfl (pi_range1 (by rfl) M.range (pa_cons (pe_ix (ix_tupK K) (pv 2) pe_int (fun _ _ => rfl)) pa_nil)) (pg_name (i := 3) sc__law_shrunk.nd rfl (Or.inr rfl)) (pss_cons (ps_set (i := 4) sc__law_shrunk.nd rfl (Or.inr rfl) (pe_ca c_law_value hr (by decide) (by rfl) (pa_cons (pv 0) (pa_cons (pv 3) (pa_cons (pv 2) pa_nil)))))
      (pss_one (ps_if (pt_val (pe_callB (allK K rfl) (by rfl) M.all bt_all (pa_cons (pe_lc (own := [("other", 5)]) rfl sc__law_shrunk.nd (pi_listK K (pv 1)) (blkOk_by (own := [("other", 5)]) (N := n__law_shrunk) (sc := defScope s__law_shrunk) (by decide +kernel)) (fun _ _ _ _ _ => (pg_name (i := 5) sc__law_shrunk.nd rfl (Or.inl rfl))) (fun _ _ _ _ _ => pts_nil) (fun _ _ _ _ _ => (pe_cmpR op_ne (pe_ca c_law_value hr (by decide) (by rfl) (pa_cons (pv 5) (pa_cons (pv 3) (pa_cons (pv 2) pa_nil)))) (pv 4) (nomark _)))) pa_nil))) (pss_one (ps_ret (pe_op op_add (pe_op op_mul (pe_ix (ix_tupK K) (pv 2) pe_int (fun _ _ => rfl)) (pv 3)) (pv 4)))) pss_nil))))
      (pss_one (ps_ret (pe_un un_neg pe_int)))), ?_⟩
  try dsimp only [cxOf, Cx.nox, Cx.wish, Cx.blk]

  rintro ⟨c, os, q, k, x⟩ ⟨h1, h2, h3, h4, h5, h6, h7, h8⟩
  dsimp only at h1 h2 h3 h4 h5 h6 h7 h8
  show ES K [.val (nI c), .val (lsA (os.map nI)), .val (prA (q, (k : Int))), .un, .un, .un] _ _
  refine es_seq (es_forR (lo := 0) (n := q.toNat) (fun i E => (∃ s3 s4, E = [.val (nI c), .val (lsA (os.map nI)), .val (prA (q, (k : Int))), s3, s4, .un]) ∧ (i : Int) ≤ x) (fun B G0 σ G H k' R z => w_range1 (ev_ixT (i := 0) (ev_var rfl) ev_int rfl rfl) (by omega) (by omega) B G0 σ G H k' R z) ⟨⟨_, _, rfl⟩, h5⟩ ?_ ?_)
  · rintro i _ hi ⟨⟨s3, s4, rfl⟩, hle⟩
    refine ⟨_, gt_name, ?_⟩
    walk_at "nx"
    refine es_seq (es_asg (ev_call (c, 0 + (i : Int), q, k) (by walk_at "ea") ⟨h1, h2, h3, by dsimp only; omega, by dsimp only; omega⟩ rfl) ?_)
    walk_at "nx"
    have hmap : (accL (fun _ => true) (fun j => nB (!decide (pvl q k (os.getD j 0) (0 + (i : Int)) = pvl q k c (0 + (i : Int))))) (os.map nI).length) = (os.map fun o => !decide (pvl q k o (0 + (i : Int)) = pvl q k c (0 + (i : Int)))).map nB := by
      rw [List.length_map, accL_map (fun o => nB (!decide (pvl q k o (0 + (i : Int)) = pvl q k c (0 + (i : Int))))), List.map_map]; rfl
    refine es_if (et_B (ev_all (EVF.evl (EVF.is (evf_lcL (EV.evs (ev_var (r := lsA (os.map nI)) rfl)) (fun _ => true) (fun j => nB (!decide (pvl q k (os.getD j 0) (0 + (i : Int)) = pvl q k c (0 + (i : Int))))) (by rw [List.length_map]; omega) (fun j r hr => et_yes) (fun j r hr _ => ?_)) hmap)))) (fun hT => ?_) (fun hF => ?_)
    · rw [List.getElem?_map] at hr
      cases e : os[j]? with
      | none => rw [e] at hr; cases hr
      | some o =>
        rw [e] at hr
        cases hr
        have eo : os.getD j 0 = o := by rw [List.getD_eq_getElem?_getD, e]; rfl
        rw [eo]
        exact ev_neI (ev_call (o, 0 + (i : Int), q, k) (ea_val (ev_var rfl) (by walk_at "ea")) ⟨h1, h2, h3, by dsimp only; omega, by dsimp only; omega⟩ rfl) (ev_var rfl)
    · rw [List.all_eq_true] at hT
      have hg : Good2 q k c os (0 + (i : Int)) := fun o ho z => by
        have := hT _ (List.mem_map.mpr ⟨o, ho, rfl⟩)
        rw [decide_eq_true z] at this
        cases this
      have hx : (0 + (i : Int)) = x := by
        rcases Int.lt_or_le (0 + (i : Int)) x with h | h
        · exact absurd hg (h8 _ (by omega) h)
        · omega
      have hc : CMul q (0 + (i : Int)) := .inl ⟨by omega, by omega⟩
      refine es_ret (ev_I0 (ev_I (ev_ixT (i := 0) (ev_var rfl) ev_int rfl rfl) (ev_var rfl) hc) (ev_var rfl)) ?_
      rw [hx]; rfl
    · refine es_next ⟨⟨_, _, rfl⟩, ?_⟩
      have hne : (0 + (i : Int)) ≠ x := fun z => by
        have : (os.map fun o => !decide (pvl q k o (0 + (i : Int)) = pvl q k c (0 + (i : Int)))).all id = true := by
          rw [List.all_eq_true]
          intro b hb
          obtain ⟨o, ho, e⟩ := List.mem_map.mp hb
          rw [← e, z]
          simpa using h7 o ho
        rw [this] at hF
        cases hF
      omega
  · rintro _ ⟨⟨s3, s4, rfl⟩, hle⟩
    omega
end

section
variable {P : Program} {w : World} {K : PySem.W.Frag} {mg : Str → Option Value} {base : Heap}

abbrev s_law : Stmt := topS 14
abbrev n_law : List Str := ["script", "k", "draws", "degree", "colors", "step", "color", "others", "j", "other", "found", "near", "third"]
theorem sc_law : FnScope n_law ["script"] (defScope s_law) := ⟨rfl, rfl, rfl, by decide +kernel, rfl, by decide +kernel, by decide +kernel⟩

abbrev sp_law (K : PySem.W.Frag) : Sp := spX K (X := List Int) (fun ns => [.scr ns]) (fun _ => True) (fun _ => .val (nB true))

theorem ok_law {f : Addr} {fd : FuncData} (F : Fun K "law" "law" s_law f fd) (M : Bl mg) (cshrunk : Cal P w K mg base 2 "shrunk" (sp_shrunk K)) (c_law_like : Cal P w K mg base 5 "_law_like" (sp__law_like K)) (c_law_shrunk : Cal P w K mg base 2 "_law_shrunk" (sp__law_shrunk K)) (cstep_of : Cal P w K mg base 3 "step_of" (sp_step_of K)) (c_law_draws : Cal P w K mg base 1 "_law_draws" (sp__law_draws K)) (c_law_cell : Cal P w K mg base 1 "_law_cell" (sp__law_cell K)) : FnOk P w K mg base CX0 6 f fd ["script"] (sp_law K) := by
  refine okA F sc_law (fun _ => rfl) fun cdv A outer s H E hr => ⟨_, (pss_cons (ps_for PassesOwn.never rfl (pi_range1 (by rfl) M.range (pa_cons pe_int pa_nil)) (pg_name (i := 1) sc_law.nd rfl (Or.inl rfl)) (pss_cons (ps_set (i := 2) sc_law.nd rfl (Or.inl rfl) (pe_ca c_law_draws hr (by decide) (by rfl) (pa_cons (pe_ca c_law_cell hr (by decide) (by rfl) (pa_cons (pv 0) (pa_cons (pv 1) pa_nil))) (pa_cons pe_int pa_nil))))
      (pss_cons (ps_set (i := 3) sc_law.nd rfl (Or.inl rfl) (pe_op op_add pe_int (pe_op op_mod (pe_ix (ix_listK K) (pv 2) pe_int (fun _ _ => rfl)) pe_int)))
      (pss_cons (ps_set (i := 4) sc_law.nd rfl (Or.inl rfl) (pe_op op_add pe_int (pe_ix (ix_listK K) (pe_lst (pa_cons (pe_op op_mod (pe_ix (ix_listK K) (pv 2) pe_int (fun _ _ => rfl)) pe_int) (pa_cons (pe_op op_mul (pe_ix (ix_listK K) (pv 2) pe_int (fun _ _ => rfl)) pe_int) (pa_cons (pe_op op_mul (pe_ix (ix_listK K) (pv 2) pe_int (fun _ _ => rfl)) pe_int) pa_nil)))) (pe_op op_mod (pe_ix (ix_listK K) (pv 2) pe_int (fun _ _ => rfl)) pe_int) (fun _ _ => rfl))))
      (pss_cons (ps_set (i := 5) sc_law.nd rfl (Or.inl rfl) (pe_ca cstep_of hr (by decide) (by rfl) (pa_cons (pv 3) (pa_cons (pv 4) pa_nil))))
      (pss_cons (ps_set (i := 6) sc_law.nd rfl (Or.inl rfl) (pe_op op_mod (pe_op op_mul (pe_ix (ix_listK K) (pv 2) pe_int (fun _ _ => rfl)) pe_int) (pv 4)))
      (pss_cons (ps_set (i := 7) sc_law.nd rfl (Or.inl rfl) (pe_lst pa_nil))
      (pss_cons (ps_for PassesOwn.never rfl (pi_range1 (by rfl) M.range (pa_cons (pe_op op_mod (pe_ix (ix_listK K) (pv 2) pe_int (fun _ _ => rfl)) (pe_op op_add (pv 3) pe_int)) pa_nil)) (pg_name (i := 8) sc_law.nd rfl (Or.inl rfl)) (pss_cons (ps_set (i := 9) sc_law.nd rfl (Or.inr rfl) (pe_ix (ix_listK K) (pe_lst (pa_cons (pe_op op_mod (pe_op op_mul (pe_ix (ix_listK K) (pv 2) (pe_op op_add pe_int (pv 8)) (fun _ _ => rfl)) pe_int) (pv 4)) (pa_cons (pe_op op_mod (pe_op op_add (pe_op op_add (pv 6) pe_int) (pv 8)) (pv 4)) (pa_cons (pe_op op_mod (pe_op op_add (pv 6) (pe_op op_mul (pe_ix (ix_tupK K) (pv 5) pe_int (fun _ _ => rfl)) (pe_op op_add (pv 8) pe_int))) (pv 4)) pa_nil)))) (pe_op op_mod (pe_ix (ix_listK K) (pv 2) (pe_op op_add pe_int (pv 8)) (fun _ _ => rfl)) pe_int) (fun _ _ => rfl)))
      (pss_one (ps_if (pt_cmpR op_ne (pv 9) (pv 6) (nomark _)) (pss_one (ps_expr (pe_bm PySem.F.plainAttrs_list PySem.F.slot_list_append PySem.F.type_list_append mt_append (pv 7) (pa_cons (pv 9) pa_nil)))) pss_nil))))
      (pss_cons (ps_set (i := 10) sc_law.nd rfl (Or.inl rfl) (pe_ca cshrunk hr (by decide) (by rfl) (pa_cons (pv 6) (pa_cons (pe_callTy (list_ofK K) (by rfl) M.list bt_list (pa_cons (pv 7) pa_nil)) (pa_cons (pv 5) pa_nil)))))
      (pss_cons (ps_if (PW.pt (pw_or (pt_not (pt_val (pe_ca c_law_like hr (by decide) (by rfl) (pa_cons (pv 10) (pa_cons (pe_ca c_law_shrunk hr (by decide) (by rfl) (pa_cons (pv 6) (pa_cons (pv 7) (pa_cons (pv 5) pa_nil)))) pa_nil))))) (pw_or1 (pt_not (pt_chain op_le op_lt pe_int (pv 10) (pe_op op_mul (pe_ix (ix_tupK K) (pv 5) pe_int (fun _ _ => rfl)) (pe_ix (ix_tupK K) (pv 5) pe_int (fun _ _ => rfl)))))))) (pss_one (ps_ret pe_bl)) pss_nil)
      (pss_one (ps_for PassesOwn.never rfl (pi_listK K (pv 7)) (pg_name (i := 9) sc_law.nd rfl (Or.inr rfl)) (pss_cons (ps_set (i := 11) sc_law.nd rfl (Or.inl rfl) (pe_slice (sl_listK K) (pe_lc (own := [("third", 12)]) rfl sc_law.nd (pi_listK K (pv 7)) (blkOk_by (own := [("third", 12)]) (N := n_law) (sc := defScope s_law) (by decide +kernel)) (fun _ _ _ _ _ => (pg_name (i := 12) sc_law.nd rfl (Or.inl rfl))) (fun _ _ _ _ _ => (pts_one (pt_cmpR op_ne (pv 12) (pv 9) (nomark _)))) (fun _ _ _ _ _ => (pv 12))) po_none (po_some (pe_op op_sub (pv 3) pe_int))))
      (pss_one (ps_if (pt_cmpR op_eq (pe_ca cshrunk hr (by decide) (by rfl) (pa_cons (pv 9) (pa_cons (pe_op op_cat (pv 11) (pe_lst (pa_cons (pv 6) pa_nil))) (pa_cons (pv 5) pa_nil)))) (pv 10) (nomark _)) (pss_one (ps_ret pe_bl)) pss_nil)))))))))))))))
      (pss_one (ps_ret pe_bl))), ?_⟩
  try dsimp only [cxOf, Cx.nox, Cx.wish, Cx.blk]

  intro ns _
  show ES K [.scr ns, .un, .un, .un, .un, .un, .un, .un, .un, .un, .un, .un, .un] _ _
  refine es_seq (es_forR (lo := 0) (n := 3) (fun i E => ∃ s1 s2 s3 s4 s5 s6 s7 s8 s9 s10 s11, E = [.scr ns, s1, s2, s3, s4, s5, s6, s7, s8, s9, s10, s11, .un]) (fun B G0 σ G H k R z => w_range1 ev_int (by decide) (by decide) B G0 σ G H k R z) ⟨_, _, _, _, _, _, _, _, _, _, _, rfl⟩ ?_ ?_)
  · rintro i _ hi ⟨s1, s2, s3, s4, s5, s6, s7, s8, s9, s10, s11, rfl⟩
    refine ⟨_, gt_name, ?_⟩
    walk_at "nx"
    refine es_seq (es_asgF (evf_call (ns.getD (0 + (i : Int)).toNat 0, 12) (ea_val (ev_call (ns, 0 + (i : Int)) (by walk_at "ea") (by show 0 ≤ 0 + (i : Int); omega) rfl) (ea_val ev_int ea_nil)) (show 12 ≤ 1000 by decide) rfl) ?_)
    walk_at "nx"
    have hD : ∀ k : Nat, k < 12 → ∃ x, ((drawsF (ns.getD (0 + (i : Int)).toNat 0) 12).map nI)[k]? = some (nI x) ∧ 0 ≤ x ∧ x < 4096 := fun k hk => by
      obtain ⟨x, h, b⟩ := drawsF_at (ns.getD (0 + (i : Int)).toNat 0) hk
      exact ⟨x, by rw [List.getElem?_map, h]; rfl, b⟩
    generalize (drawsF (ns.getD (0 + (i : Int)).toNat 0) 12).map nI = dl at hD
    obtain ⟨x0, hx0, a0, b0⟩ := hD 0 (by decide)
    obtain ⟨x1, hx1, a1, b1⟩ := hD 1 (by decide)
    obtain ⟨x2, hx2, a2, b2⟩ := hD 2 (by decide)
    obtain ⟨x3, hx3, a3, b3⟩ := hD 3 (by decide)
    obtain ⟨x4, hx4, a4, b4⟩ := hD 4 (by decide)
    refine es_seq (es_asg (ev_I0 ev_int (ev_I (ev_ixL (i := 0) (evl_own rfl) ev_int rfl hx0) ev_int (by decide))) ?_)
    walk_at "nx"
    have d1 : (1 : Int) ≤ 1 + x0 % 6 := by omega
    have d8 : 1 + x0 % 6 ≤ 6 := by omega
    generalize 1 + x0 % 6 = d at d1 d8
    have hcm : CMul x1 24 := .inr ⟨by omega, by omega⟩
    obtain ⟨C, hC, c1, c2⟩ : ∃ C, [nI (x1 % 200), nI (x1 * 24), nI (x1 * 24)][(x2 % 3).toNat]? = some (nI C) ∧ 0 ≤ C ∧ C < 98290 := by
      have c : (x2 % 3).toNat = 0 ∨ (x2 % 3).toNat = 1 ∨ (x2 % 3).toNat = 2 := by omega
      rcases c with e | e | e <;> rw [e]
      · exact ⟨_, rfl, by omega, by omega⟩
      · exact ⟨_, rfl, by omega, by omega⟩
      · exact ⟨_, rfl, by omega, by omega⟩
    refine es_seq (es_asg (ev_I0 ev_int (ev_ixL (i := (x2 % 3).toNat) (EVF.evl (evf_lst (eav_cons (ev_I (ev_ixL (i := 1) (evl_own rfl) ev_int rfl hx1) ev_int (by decide)) (eav_cons (ev_I (ev_ixL (i := 1) (evl_own rfl) ev_int rfl hx1) ev_int hcm) (eav_cons (ev_I (ev_ixL (i := 1) (evl_own rfl) ev_int rfl hx1) ev_int hcm) eav_nil))) (by simp))) (ev_I (ev_ixL (i := 2) (evl_own rfl) ev_int rfl hx2) ev_int (by decide)) (by omega) hC)) ?_)
    walk_at "nx"
    have m1 : 2 ≤ 2 + C := by omega
    have m2 : 2 + C ≤ 100000 := by omega
    generalize 2 + C = m at m1 m2
    obtain ⟨best, hb⟩ := step_ex (D := Dg m) (d := d) (m := m) (Dg_pos (by omega)) (by have := Dg_le (m := m) (by omega) (by omega); omega) d1 (by omega) (by omega) (by omega)
    refine es_seq (es_asg (ev_call (d, m, best) (by walk_at "ea") ⟨d1, by dsimp only; omega, by dsimp only; omega, by dsimp only; omega, hb⟩ rfl) ?_)
    walk_at "nx"
    obtain ⟨kk, k1, k2, ek, hQ, hq4⟩ := step_pr hb
    have hkb : kk ≤ 24 := by have := Dg_le (m := m) (by omega) (by omega); omega
    obtain ⟨q, kz⟩ := best
    dsimp only at ek hQ hq4
    subst ek
    have hq2 := hQ.1.1
    have hmq : m ≤ q ^ (kk + 1) := hQ.2.2.1
    have hcm3 : CMul x3 25 := .inr ⟨by omega, by omega⟩
    refine es_seq (es_asg (ev_I (ev_I (ev_ixL (i := 3) (evl_own rfl) ev_int rfl hx3) ev_int hcm3) (ev_var rfl) (by show 0 < m; omega)) ?_)
    walk_at "nx"
    have cc0 : 0 ≤ x3 * 25 % m := Int.emod_nonneg _ (by omega)
    have cc1 : x3 * 25 % m < m := Int.emod_lt_of_pos _ (by omega)
    generalize x3 * 25 % m = c at cc0 cc1
    walk_at "set"
    have hr0 : 0 ≤ x4 % (d + 1) := Int.emod_nonneg _ (by omega)
    have hr1 : x4 % (d + 1) < d + 1 := Int.emod_lt_of_pos _ (by omega)
    refine es_seq (es_forR (lo := 0) (n := (x4 % (d + 1)).toNat) (fun j E => ∃ (os : List Int) (t8 t9 : Slot), E = [.scr ns, .val (nI (0 + (i : Int))), .own dl, .val (nI d), .val (nI m), .val (prA (q, (kk : Int))), .val (nI c), .own (os.map nI), t8, t9, s10, s11, .un] ∧ os.length ≤ j ∧ ∀ o ∈ os, 0 ≤ o ∧ o < m ∧ o ≠ c) (fun B G0 σ G H k R z => w_range1 (ev_I (ev_ixL (i := 4) (evl_own rfl) ev_int rfl hx4) (by walk_at "ev") (by show 0 < d + 1; omega)) (by omega) (by omega) B G0 σ G H k R z) ⟨[], _, _, rfl, by simp, fun o ho => by cases ho⟩ ?_ ?_)
    · rintro j _ hj ⟨os, t8, t9, rfl, hol, ho⟩
      refine ⟨_, gt_name, ?_⟩
      walk_at "nx"
      obtain ⟨y, hy, y0, y1⟩ := hD (5 + j) (by omega)
      have hiy : ∀ (E' : List Slot), E' = [.scr ns, .val (nI (0 + (i : Int))), .own dl, .val (nI d), .val (nI m), .val (prA (q, (kk : Int))), .val (nI c), .own (os.map nI), .val (nI (0 + (j : Int))), t9, s10, s11, .un] → EV K E' (tOp (rIxL K) (tVar 2) (tOp (rI0 fun i j => .int (i + j)) (tC (.int 5)) (tVar 8))) (nI y) := fun E' hE => by
        subst hE
        exact ev_ixL (i := 5 + j) (evl_own rfl) (by walk_at "ev") (by omega) hy
      have hcy : CMul y 25 := .inr ⟨by omega, by omega⟩
      have hcq : CMul q (0 + (j : Int) + 1) := .inl ⟨by omega, by omega⟩
      have e0 : ∀ z : Int, 0 ≤ z % m := fun z => Int.emod_nonneg _ (by omega)
      have e1 : ∀ z : Int, z % m < m := fun z => Int.emod_lt_of_pos _ (by omega)
      obtain ⟨o, hO, o0, o1⟩ : ∃ o, [nI (y * 25 % m), nI ((c + 1 + (0 + (j : Int))) % m), nI ((c + q * (0 + (j : Int) + 1)) % m)][(y % 3).toNat]? = some (nI o) ∧ 0 ≤ o ∧ o < m := by
        have c : (y % 3).toNat = 0 ∨ (y % 3).toNat = 1 ∨ (y % 3).toNat = 2 := by omega
        rcases c with e | e | e <;> rw [e]
        · exact ⟨_, rfl, e0 _, e1 _⟩
        · exact ⟨_, rfl, e0 _, e1 _⟩
        · exact ⟨_, rfl, e0 _, e1 _⟩
      have hm0 : 0 < m := by omega
      refine es_seq (es_asg (ev_ixL (i := (y % 3).toNat) (EVF.evl (evf_lst (eav_cons (ev_I (ev_I (hiy _ rfl) ev_int hcy) (ev_var rfl) hm0) (eav_cons (ev_I (by walk_at "ev") (ev_var rfl) hm0) (eav_cons (ev_I (ev_I0 (ev_var rfl) (ev_I (ev_ixT (i := 0) (ev_var rfl) ev_int rfl rfl) (by walk_at "ev") hcq)) (ev_var rfl) hm0) eav_nil))) (by simp))) (ev_I (hiy _ rfl) ev_int (by decide)) (by omega) hO) ?_)
      walk_at "nx"
      refine es_if (by walk_at "et") (fun hT => ?_) (fun hF => ?_)
      · have hne : o ≠ c := by simpa using hT
        refine es_app rfl (r := nI o) (ev_var rfl) (by rw [List.length_map]; omega) ?_
        refine ⟨os ++ [o], _, _, by rw [List.map_append]; rfl, by simp; omega, fun o' h' => ?_⟩
        rcases List.mem_append.mp h' with h | h
        · exact ho o' h
        · rw [List.mem_singleton.mp h]; exact ⟨o0, o1, hne⟩
      · exact es_next ⟨os, _, _, rfl, by omega, ho⟩
    · rintro _ ⟨os, t8, t9, rfl, hol, ho⟩
      show ES _ _ _ _
      refine es_freeze (i := 7) rfl ?_
      walk_at "nx"
      have hol2 : (os.length : Int) ≤ d := by omega
      have hdk := hQ.2.1
      have hlt : ∀ L : List Int, (L.length : Int) ≤ d → ((L.length * kk : Nat) : Int) < q := fun L hL => by
        have : (L.length : Int) * (kk : Int) ≤ d * (kk : Int) := Int.mul_le_mul_of_nonneg_right hL (by omega)
        have e : ((L.length * kk : Nat) : Int) = (L.length : Int) * (kk : Int) := by norm_cast
        omega
      obtain ⟨x, p1, p2, p3, p4⟩ := part_least (c := c) hQ.1 cc0 (by omega) (os := os) (fun o h => ⟨(ho o h).1, by have := (ho o h).2.1; omega, (ho o h).2.2⟩) (hlt os hol2)
      have hpv := pvl_bd hq2 kk c x
      refine es_seq (es_asg (ev_call (c, os, q, kk, x) (ea_val (ev_var rfl) (ea_val (EVF.ev (evf_list (evl_var (l := os.map nI) rfl))) (ea_val (ev_var rfl) ea_nil))) ⟨hq2, by dsimp only; omega, by dsimp only; omega, by dsimp only; omega, p1, p2, p3, p4⟩ rfl) ?_)
      walk_at "nx"
      have hqx : 0 ≤ q * x := Int.mul_nonneg (by omega) p1
      have hqx2 : q * x ≤ q * (q - 1) := Int.mul_le_mul_of_nonneg_left (by omega) (by omega)
      have hqq : q * (q - 1) = q * q - q := by rw [Int.mul_sub, Int.mul_one]
      have hcqq : CMul q q := .inl ⟨by omega, by omega⟩
      have hle : decide ((0 : Int) ≤ q * x + pvl q kk c x) = true := decide_eq_true (by omega)
      have hlt3 : decide (q * x + pvl q kk c x < q * q) = true := decide_eq_true (by omega)
      refine es_seq (es_if (b := false) ((et_or (et_not (et_B (ev_call (PyData.int (q * x + pvl q kk c x)) (ea_val (ev_var rfl) (ea_val (ev_call (c, os, q, kk, x) (ea_val (ev_var rfl) (ea_val (ev_var rfl) (ea_val (ev_var rfl) ea_nil))) ⟨hq2, by dsimp only; omega, by dsimp only; omega, by dsimp only; omega, p1, p2, p3, p4⟩ rfl) ea_nil)) (fit_flat trivial) rfl))) fun _ => et_not (et_test (ev_chI ev_int (ev_var rfl) (ev_I (ev_ixT (i := 0) (ev_var rfl) ev_int rfl rfl) (ev_ixT (i := 0) (ev_var rfl) ev_int rfl rfl) hcqq)))).is (by rw [hle, hlt3]; rfl)) (fun z => by cases z) fun _ => es_next ?_)
      walk_at "nx"
      refine es_forL (l := os.map nI) (fun j E => ∃ t8 t9 t11 : Slot, E = [.scr ns, .val (nI (0 + (i : Int))), .own dl, .val (nI d), .val (nI m), .val (prA (q, (kk : Int))), .val (nI c), .val (lsA (os.map nI)), t8, t9, .val (nI (q * x + pvl q kk c x)), t11, .un]) (EV.evs (ev_var rfl)) ⟨_, _, _, rfl⟩ ?_ ?_
      · rintro j r _ hr ⟨t8, t9, t11, rfl⟩
        rw [List.getElem?_map] at hr
        cases e : os[j]? with
        | none => rw [e] at hr; cases hr
        | some o =>
          rw [e] at hr
          cases hr
          have hom := List.mem_of_getElem? e
          obtain ⟨o0, o1, o2⟩ := ho o hom
          refine ⟨_, gt_name, ?_⟩
          walk_at "nx"
          have hacc : (accL (fun j => !decide (os.getD j 0 = o)) (fun j => nI (os.getD j 0)) (os.map nI).length) = (os.filter fun z => !decide (z = o)).map nI := by
            rw [List.length_map]
            exact accL_filter nI (fun z => !decide (z = o)) os 0
          have key : ∀ (u v : Nat) (r : AbsV), (os.map nI)[v]? = some r → r = nI (os.getD v 0) := fun u v r hv => by
            rw [List.getElem?_map] at hv
            cases e : os[v]? with
            | none => rw [e] at hv; cases hv
            | some z =>
              rw [e] at hv
              cases hv
              rw [List.getD_eq_getElem?_getD, e]; rfl
          refine es_seq (es_asgF (EVF.is (evf_to (l := (os.filter fun z => !decide (z = o)).map nI) (EVF.evl (EVF.is (evf_lcL (EV.evs (ev_var (r := lsA (os.map nI)) rfl)) (fun j => !decide (os.getD j 0 = o)) (fun j => nI (os.getD j 0)) (by rw [List.length_map]; omega) (fun v r hv => ?_) (fun v r hv _ => ?_)) hacc)) (by walk_at "ev") (by omega)) (by rw [← List.map_take])) ?_)
          · rw [key 0 v r hv]
            exact et_test (ev_neI (ev_var rfl) (ev_var rfl))
          · rw [key 0 v r hv]
            exact ev_var rfl
          walk_at "nx"
          have hnear : ∀ z ∈ (os.filter fun z => !decide (z = o)).take (d - 1).toNat, z ∈ os ∧ z ≠ o := fun z hz => by
            have h1 := List.mem_filter.mp (List.mem_of_mem_take hz)
            exact ⟨h1.1, by simpa using h1.2⟩
          have hnl : ((os.filter fun z => !decide (z = o)).take (d - 1).toNat).length ≤ (d - 1).toNat := by rw [List.length_take]; exact Nat.min_le_left _ _
          generalize (os.filter fun z => !decide (z = o)).take (d - 1).toNat = near at hnear hnl
          obtain ⟨x', q1, q2', q3, q4⟩ := part_least (c := o) hQ.1 o0 (by omega) (os := near ++ [c]) (fun z hz => by
            rcases List.mem_append.mp hz with h | h
            · obtain ⟨u1, u2⟩ := hnear z h
              exact ⟨(ho z u1).1, by have := (ho z u1).2.1; omega, u2⟩
            · rw [List.mem_singleton.mp h]; exact ⟨cc0, by omega, fun z => o2 z.symm⟩) (hlt (near ++ [c]) (by simp; omega))
          have hpo := pvl_bd hq2 kk o x'
          have hne : decide (q * x' + pvl q kk o x' = q * x + pvl q kk c x) = false := decide_eq_false fun z => by
            have hxx : x' = x := by
              rcases Int.lt_trichotomy x' x with h | h | h
              · have : q * x' ≤ q * (x - 1) := Int.mul_le_mul_of_nonneg_left (by omega) (by omega)
                rw [Int.mul_sub, Int.mul_one] at this
                omega
              · exact h
              · have : q * x ≤ q * (x' - 1) := Int.mul_le_mul_of_nonneg_left (by omega) (by omega)
                rw [Int.mul_sub, Int.mul_one] at this
                omega
            subst hxx
            have : pvl q kk c x' = pvl q kk o x' := by omega
            exact q3 c (List.mem_append.mpr (.inr (List.mem_singleton.mpr rfl))) this
          refine es_if (b := false) ((et_test (ev_eqI (ev_call (o, near ++ [c], q, kk, x') (ea_val (ev_var rfl) (ea_val ((EVF.ev (evf_cat (m := [nI c]) (evl_own rfl) (EVF.evl (evf_lst (by walk_at "eav") (by simp))) (by simp; omega))).is (by show lsA _ = lsA _; rw [List.map_append]; rfl)) (ea_val (ev_var rfl) ea_nil))) ⟨hq2, by dsimp only; omega, by dsimp only; omega, by dsimp only; simp; omega, q1, q2', q3, q4⟩ rfl) (ev_var rfl))).is hne) (fun z => by cases z) fun _ => es_next ⟨_, _, _, rfl⟩
      · rintro _ ⟨t8, t9, t11, rfl⟩
        exact ⟨_, _, _, _, _, _, _, _, _, _, _, rfl⟩
  · rintro _ ⟨s1, s2, s3, s4, s5, s6, s7, s8, s9, s10, s11, rfl⟩
    show ES _ _ _ _
    exact es_ret ev_bl rfl
end

theorem all_mk {l : PySem.W.OpenLaw} {w : World} {K : PySem.W.Frag} {h : Heap} {mg : Str → Option Value} {fa f0 f1 f2 f3 f4 f5 f6 f7 f8 f9 f10 f11 f12 : Addr} (X : K.In h) (G : h.Ns mainGlobals mg) (hfa : mg "law" = some (.ref fa))
    {od0 an0 od1 an1 od2 an2 od3 an3 od4 an4 od5 an5 od6 an6 od7 an7 od8 an8 od9 an9 od10 an10 od11 an11 od12 an12 : Option Addr} {sl0 sl1 sl2 sl3 sl4 sl5 sl6 sl7 sl8 sl9 sl10 sl11 sl12 : Array (Option Value)} {oc0 kV0 dc0 pm0 cd0 ct0 oc1 kV1 dc1 pm1 cd1 ct1 oc2 kV2 dc2 pm2 cd2 ct2 oc3 kV3 dc3 pm3 cd3 ct3 oc4 kV4 dc4 pm4 cd4 ct4 oc5 kV5 dc5 pm5 cd5 ct5 oc6 kV6 dc6 pm6 cd6 ct6 oc7 kV7 dc7 pm7 cd7 ct7 oc8 kV8 dc8 pm8 cd8 ct8 oc9 kV9 dc9 pm9 cd9 ct9 oc10 kV10 dc10 pm10 cd10 ct10 oc11 kV11 dc11 pm11 cd11 ct11 oc12 kV12 dc12 pm12 cd12 ct12 : Value}
    (a0 : PySem.W.nsIn K mainGlobals "is_prime" = some (some (.ref f0))) (l0 : K.lookup f0 = some ⟨oc0, od0, .func (PySem.W.fnOf "is_prime" "is_prime" (defArgs s_is_prime) (defBody s_is_prime) (defScope s_is_prime) .none kV0 dc0 pm0 an0 cd0 ct0), sl0⟩) (c0 : PySem.W.codeIn K cd0 "is_prime" = true) (k0 : PySem.W.keepIn K (.ref f0) = true)
    (a1 : PySem.W.nsIn K mainGlobals "prime_from" = some (some (.ref f1))) (l1 : K.lookup f1 = some ⟨oc1, od1, .func (PySem.W.fnOf "prime_from" "prime_from" (defArgs s_prime_from) (defBody s_prime_from) (defScope s_prime_from) .none kV1 dc1 pm1 an1 cd1 ct1), sl1⟩) (c1 : PySem.W.codeIn K cd1 "prime_from" = true) (k1 : PySem.W.keepIn K (.ref f1) = true)
    (a2 : PySem.W.nsIn K mainGlobals "_power" = some (some (.ref f2))) (l2 : K.lookup f2 = some ⟨oc2, od2, .func (PySem.W.fnOf "_power" "_power" (defArgs s__power) (defBody s__power) (defScope s__power) .none kV2 dc2 pm2 an2 cd2 ct2), sl2⟩) (c2 : PySem.W.codeIn K cd2 "_power" = true) (k2 : PySem.W.keepIn K (.ref f2) = true)
    (a3 : PySem.W.nsIn K mainGlobals "_least_root" = some (some (.ref f3))) (l3 : K.lookup f3 = some ⟨oc3, od3, .func (PySem.W.fnOf "_least_root" "_least_root" (defArgs s__least_root) (defBody s__least_root) (defScope s__least_root) .none kV3 dc3 pm3 an3 cd3 ct3), sl3⟩) (c3 : PySem.W.codeIn K cd3 "_least_root" = true) (k3 : PySem.W.keepIn K (.ref f3) = true)
    (a4 : PySem.W.nsIn K mainGlobals "step_of" = some (some (.ref f4))) (l4 : K.lookup f4 = some ⟨oc4, od4, .func (PySem.W.fnOf "step_of" "step_of" (defArgs s_step_of) (defBody s_step_of) (defScope s_step_of) .none kV4 dc4 pm4 an4 cd4 ct4), sl4⟩) (c4 : PySem.W.codeIn K cd4 "step_of" = true) (k4 : PySem.W.keepIn K (.ref f4) = true)
    (a5 : PySem.W.nsIn K mainGlobals "_worth" = some (some (.ref f5))) (l5 : K.lookup f5 = some ⟨oc5, od5, .func (PySem.W.fnOf "_worth" "_worth" (defArgs s__worth) (defBody s__worth) (defScope s__worth) .none kV5 dc5 pm5 an5 cd5 ct5), sl5⟩) (c5 : PySem.W.codeIn K cd5 "_worth" = true) (k5 : PySem.W.keepIn K (.ref f5) = true)
    (a6 : PySem.W.nsIn K mainGlobals "shrunk" = some (some (.ref f6))) (l6 : K.lookup f6 = some ⟨oc6, od6, .func (PySem.W.fnOf "shrunk" "shrunk" (defArgs s_shrunk) (defBody s_shrunk) (defScope s_shrunk) .none kV6 dc6 pm6 an6 cd6 ct6), sl6⟩) (c6 : PySem.W.codeIn K cd6 "shrunk" = true) (k6 : PySem.W.keepIn K (.ref f6) = true)
    (a7 : PySem.W.nsIn K mainGlobals "_law_cell" = some (some (.ref f7))) (l7 : K.lookup f7 = some ⟨oc7, od7, .func (PySem.W.fnOf "_law_cell" "_law_cell" (defArgs s__law_cell) (defBody s__law_cell) (defScope s__law_cell) .none kV7 dc7 pm7 an7 cd7 ct7), sl7⟩) (c7 : PySem.W.codeIn K cd7 "_law_cell" = true) (k7 : PySem.W.keepIn K (.ref f7) = true)
    (a8 : PySem.W.nsIn K mainGlobals "_law_draws" = some (some (.ref f8))) (l8 : K.lookup f8 = some ⟨oc8, od8, .func (PySem.W.fnOf "_law_draws" "_law_draws" (defArgs s__law_draws) (defBody s__law_draws) (defScope s__law_draws) .none kV8 dc8 pm8 an8 cd8 ct8), sl8⟩) (c8 : PySem.W.codeIn K cd8 "_law_draws" = true) (k8 : PySem.W.keepIn K (.ref f8) = true)
    (a9 : PySem.W.nsIn K mainGlobals "_law_like" = some (some (.ref f9))) (l9 : K.lookup f9 = some ⟨oc9, od9, .func (PySem.W.fnOf "_law_like" "_law_like" (defArgs s__law_like) (defBody s__law_like) (defScope s__law_like) .none kV9 dc9 pm9 an9 cd9 ct9), sl9⟩) (c9 : PySem.W.codeIn K cd9 "_law_like" = true) (k9 : PySem.W.keepIn K (.ref f9) = true)
    (a10 : PySem.W.nsIn K mainGlobals "_law_value" = some (some (.ref f10))) (l10 : K.lookup f10 = some ⟨oc10, od10, .func (PySem.W.fnOf "_law_value" "_law_value" (defArgs s__law_value) (defBody s__law_value) (defScope s__law_value) .none kV10 dc10 pm10 an10 cd10 ct10), sl10⟩) (c10 : PySem.W.codeIn K cd10 "_law_value" = true) (k10 : PySem.W.keepIn K (.ref f10) = true)
    (a11 : PySem.W.nsIn K mainGlobals "_law_shrunk" = some (some (.ref f11))) (l11 : K.lookup f11 = some ⟨oc11, od11, .func (PySem.W.fnOf "_law_shrunk" "_law_shrunk" (defArgs s__law_shrunk) (defBody s__law_shrunk) (defScope s__law_shrunk) .none kV11 dc11 pm11 an11 cd11 ct11), sl11⟩) (c11 : PySem.W.codeIn K cd11 "_law_shrunk" = true) (k11 : PySem.W.keepIn K (.ref f11) = true)
    (a12 : PySem.W.nsIn K mainGlobals "law" = some (some (.ref f12))) (l12 : K.lookup f12 = some ⟨oc12, od12, .func (PySem.W.fnOf "law" "law" (defArgs s_law) (defBody s_law) (defScope s_law) .none kV12 dc12 pm12 an12 cd12 ct12), sl12⟩) (c12 : PySem.W.codeIn K cd12 "law" = true) (k12 : PySem.W.keepIn K (.ref f12) = true)
    (z_abs : PySem.W.nsIn K mainGlobals "abs" = some none) (z_all : PySem.W.nsIn K mainGlobals "all" = some none) (z_bool : PySem.W.nsIn K mainGlobals "bool" = some none) (z_int : PySem.W.nsIn K mainGlobals "int" = some none) (z_isinstance : PySem.W.nsIn K mainGlobals "isinstance" = some none) (z_len : PySem.W.nsIn K mainGlobals "len" = some none) (z_list : PySem.W.nsIn K mainGlobals "list" = some none) (z_max : PySem.W.nsIn K mainGlobals "max" = some none) (z_min : PySem.W.nsIn K mainGlobals "min" = some none) (z_range : PySem.W.nsIn K mainGlobals "range" = some none) (z_str : PySem.W.nsIn K mainGlobals "str" = some none) (z_tuple : PySem.W.nsIn K mainGlobals "tuple" = some none) :
    ∃ fd : FuncData, (∀ (s : Shared) (v : Value), BindsTo s fd ⟨[v], []⟩ [("script", v)]) ∧ ∀ base : Heap, K.In base → base.Ns mainGlobals mg → FnOk l.prog w K mg base CX0 6 fa fd ["script"] (sp_law K) := by
  have e := hfa.symm.trans (PySem.W.mg_of X G a12)
  cases e
  have M : Bl mg := ⟨PySem.W.mg_none_of X G z_abs, PySem.W.mg_none_of X G z_all, PySem.W.mg_none_of X G z_bool, PySem.W.mg_none_of X G z_int, PySem.W.mg_none_of X G z_isinstance, PySem.W.mg_none_of X G z_len, PySem.W.mg_none_of X G z_list, PySem.W.mg_none_of X G z_max, PySem.W.mg_none_of X G z_min, PySem.W.mg_none_of X G z_range, PySem.W.mg_none_of X G z_str, PySem.W.mg_none_of X G z_tuple⟩
  have D_is_prime : DefAt K mg "is_prime" s_is_prime ["number"] := ⟨_, _, fun_mk (st := s_is_prime) l0 c0 k0, PySem.W.mg_of X G a0, (fun_mk (st := s_is_prime) l0 c0 k0).binds (ps := ["number"]) fun _ _ _ _ _ _ us hl => match us, hl with | [_], _ => rfl⟩
  have D_prime_from : DefAt K mg "prime_from" s_prime_from ["number"] := ⟨_, _, fun_mk (st := s_prime_from) l1 c1 k1, PySem.W.mg_of X G a1, (fun_mk (st := s_prime_from) l1 c1 k1).binds (ps := ["number"]) fun _ _ _ _ _ _ us hl => match us, hl with | [_], _ => rfl⟩
  have D__power : DefAt K mg "_power" s__power ["base", "exponent"] := ⟨_, _, fun_mk (st := s__power) l2 c2 k2, PySem.W.mg_of X G a2, (fun_mk (st := s__power) l2 c2 k2).binds (ps := ["base", "exponent"]) fun _ _ _ _ _ _ us hl => match us, hl with | [_, _], _ => rfl⟩
  have D__least_root : DefAt K mg "_least_root" s__least_root ["number", "exponent"] := ⟨_, _, fun_mk (st := s__least_root) l3 c3 k3, PySem.W.mg_of X G a3, (fun_mk (st := s__least_root) l3 c3 k3).binds (ps := ["number", "exponent"]) fun _ _ _ _ _ _ us hl => match us, hl with | [_, _], _ => rfl⟩
  have D_step_of : DefAt K mg "step_of" s_step_of ["degree", "colors"] := ⟨_, _, fun_mk (st := s_step_of) l4 c4 k4, PySem.W.mg_of X G a4, (fun_mk (st := s_step_of) l4 c4 k4).binds (ps := ["degree", "colors"]) fun _ _ _ _ _ _ us hl => match us, hl with | [_, _], _ => rfl⟩
  have D__worth : DefAt K mg "_worth" s__worth ["color", "place", "prime", "most"] := ⟨_, _, fun_mk (st := s__worth) l5 c5 k5, PySem.W.mg_of X G a5, (fun_mk (st := s__worth) l5 c5 k5).binds (ps := ["color", "place", "prime", "most"]) fun _ _ _ _ _ _ us hl => match us, hl with | [_, _, _, _], _ => rfl⟩
  have D_shrunk : DefAt K mg "shrunk" s_shrunk ["color", "others", "step"] := ⟨_, _, fun_mk (st := s_shrunk) l6 c6 k6, PySem.W.mg_of X G a6, (fun_mk (st := s_shrunk) l6 c6 k6).binds (ps := ["color", "others", "step"]) fun _ _ _ _ _ _ us hl => match us, hl with | [_, _, _], _ => rfl⟩
  have D__law_cell : DefAt K mg "_law_cell" s__law_cell ["script", "k"] := ⟨_, _, fun_mk (st := s__law_cell) l7 c7 k7, PySem.W.mg_of X G a7, (fun_mk (st := s__law_cell) l7 c7 k7).binds (ps := ["script", "k"]) fun _ _ _ _ _ _ us hl => match us, hl with | [_, _], _ => rfl⟩
  have D__law_draws : DefAt K mg "_law_draws" s__law_draws ["cell", "count"] := ⟨_, _, fun_mk (st := s__law_draws) l8 c8 k8, PySem.W.mg_of X G a8, (fun_mk (st := s__law_draws) l8 c8 k8).binds (ps := ["cell", "count"]) fun _ _ _ _ _ _ us hl => match us, hl with | [_, _], _ => rfl⟩
  have D__law_like : DefAt K mg "_law_like" s__law_like ["actual", "due"] := ⟨_, _, fun_mk (st := s__law_like) l9 c9 k9, PySem.W.mg_of X G a9, (fun_mk (st := s__law_like) l9 c9 k9).binds (ps := ["actual", "due"]) fun _ _ _ _ _ _ us hl => match us, hl with | [_, _], _ => rfl⟩
  have D__law_value : DefAt K mg "_law_value" s__law_value ["color", "place", "step"] := ⟨_, _, fun_mk (st := s__law_value) l10 c10 k10, PySem.W.mg_of X G a10, (fun_mk (st := s__law_value) l10 c10 k10).binds (ps := ["color", "place", "step"]) fun _ _ _ _ _ _ us hl => match us, hl with | [_, _, _], _ => rfl⟩
  have D__law_shrunk : DefAt K mg "_law_shrunk" s__law_shrunk ["color", "others", "step"] := ⟨_, _, fun_mk (st := s__law_shrunk) l11 c11 k11, PySem.W.mg_of X G a11, (fun_mk (st := s__law_shrunk) l11 c11 k11).binds (ps := ["color", "others", "step"]) fun _ _ _ _ _ _ us hl => match us, hl with | [_, _, _], _ => rfl⟩
  refine ⟨PySem.W.fnOf "law" "law" (defArgs s_law) (defBody s_law) (defScope s_law) .none kV12 dc12 pm12 an12 cd12 ct12, fun s v => .of_eq rfl, fun base _ _ => ?_⟩
  have cis_prime := ok_is_prime (P := l.prog) (w := w) (base := base) D_is_prime M 
  have cprime_from := ok_prime_from (P := l.prog) (w := w) (base := base) D_prime_from M cis_prime
  have c_power := ok__power (P := l.prog) (w := w) (base := base) D__power M 
  have c_least_root := ok__least_root (P := l.prog) (w := w) (base := base) D__least_root M c_power
  have cstep_of := ok_step_of (P := l.prog) (w := w) (base := base) D_step_of M cprime_from c_least_root
  have c_worth := ok__worth (P := l.prog) (w := w) (base := base) D__worth M 
  have cshrunk := ok_shrunk (P := l.prog) (w := w) (base := base) D_shrunk M c_worth
  have c_law_cell := ok__law_cell (P := l.prog) (w := w) (base := base) D__law_cell M 
  have c_law_draws := ok__law_draws (P := l.prog) (w := w) (base := base) D__law_draws M 
  have c_law_like := ok_like (P := l.prog) (w := w) (base := base) D__law_like M 5
  have c_law_value := ok__law_value (P := l.prog) (w := w) (base := base) D__law_value M 
  have c_law_shrunk := ok__law_shrunk (P := l.prog) (w := w) (base := base) D__law_shrunk M c_law_value
  exact ok_law (fun_mk (st := s_law) l12 c12 k12) M cshrunk c_law_like c_law_shrunk cstep_of c_law_draws c_law_cell

theorem walk {l : PySem.W.OpenLaw} {q : Program} {loose : List Str} {XP : (Str → Option Value) → Heap → Prop} {YP : World → Heap → Prop} {d : DefRec} {K : Params → PySem.W.Frag} (hn : l.most = some 63) (hdf : d.params.defaults = [])
    (hY : ∀ (w : World) (h : Heap), YP w h → (K w.params).In h)
    (F : ∀ (w : World) (mg : Str → Option Value) (fa : Addr) (h : Heap), (K w.params).In h → h.Ns mainGlobals mg → mg d.name = some (.ref fa) →
      ∃ fd : FuncData, (∀ (s : Shared) (u : Value), BindsTo s fd ⟨[u], []⟩ [("script", u)]) ∧ ∀ base : Heap, (K w.params).In base → base.Ns mainGlobals mg → FnOk l.prog w (K w.params) mg base CX0 6 fa fd ["script"] (sp_law (K w.params))) :
    PySem.W.WalkO q loose XP YP l.row.toRowW d [] (fun f vs => PySem.call f vs) :=
  L2.walk_ofK (n := 63) (k := 6) (x := "script") (CX := CX0) (sp := sp_law) hn (by decide) hdf ⟨rfl, by decide, by decide⟩ hY F (fun K H a ns hl _ hS => ⟨ns, H, by first | trivial | exact hl, Same.refl _, .cons ⟨a, rfl, hS⟩ .nil, fun v G' H' _ hv => hv⟩) fun _ _ _ _ z => z

end K10

open PySem PySem.W PyProof.Rows
set_option maxRecDepth 100000 in
set_option maxHeartbeats 0 in
theorem PySem.Challenge.cw_nearby_k10_colors_that_shrink_holds : PySem.Challenge.rw_nearby_k10_colors_that_shrink.Holds := by
  w_on; o_law; k_head; (case hw => w_witness2)
  k_fill
  refine K10.walk (l := PySem.Challenge.rw_nearby_k10_colors_that_shrink) rfl rfl (fun w h Y => PySem.W.kIn_of Y) ?F
  case F =>
    intro w mg fa h KX G hmg
    refine' K10.all_mk KX G hmg ?a0 ?l0 ?c0 ?k0 ?a1 ?l1 ?c1 ?k1 ?a2 ?l2 ?c2 ?k2 ?a3 ?l3 ?c3 ?k3 ?a4 ?l4 ?c4 ?k4 ?a5 ?l5 ?c5 ?k5 ?a6 ?l6 ?c6 ?k6 ?a7 ?l7 ?c7 ?k7 ?a8 ?l8 ?c8 ?k8 ?a9 ?l9 ?c9 ?k9 ?a10 ?l10 ?c10 ?k10 ?a11 ?l11 ?c11 ?k11 ?a12 ?l12 ?c12 ?k12 ?z_abs ?z_all ?z_bool ?z_int ?z_isinstance ?z_len ?z_list ?z_max ?z_min ?z_range ?z_str ?z_tuple
    (case a0 => k_is); (case l0 => k_is); (case c0 => k_is); (case k0 => k_is)
    (case a1 => k_is); (case l1 => k_is); (case c1 => k_is); (case k1 => k_is)
    (case a2 => k_is); (case l2 => k_is); (case c2 => k_is); (case k2 => k_is)
    (case a3 => k_is); (case l3 => k_is); (case c3 => k_is); (case k3 => k_is)
    (case a4 => k_is); (case l4 => k_is); (case c4 => k_is); (case k4 => k_is)
    (case a5 => k_is); (case l5 => k_is); (case c5 => k_is); (case k5 => k_is)
    (case a6 => k_is); (case l6 => k_is); (case c6 => k_is); (case k6 => k_is)
    (case a7 => k_is); (case l7 => k_is); (case c7 => k_is); (case k7 => k_is)
    (case a8 => k_is); (case l8 => k_is); (case c8 => k_is); (case k8 => k_is)
    (case a9 => k_is); (case l9 => k_is); (case c9 => k_is); (case k9 => k_is)
    (case a10 => k_is); (case l10 => k_is); (case c10 => k_is); (case k10 => k_is)
    (case a11 => k_is); (case l11 => k_is); (case c11 => k_is); (case k11 => k_is)
    (case a12 => k_is); (case l12 => k_is); (case c12 => k_is); (case k12 => k_is)
    (case z_abs => k_is)
    (case z_all => k_is)
    (case z_bool => k_is)
    (case z_int => k_is)
    (case z_isinstance => k_is)
    (case z_len => k_is)
    (case z_list => k_is)
    (case z_max => k_is)
    (case z_min => k_is)
    (case z_range => k_is)
    (case z_str => k_is)
    (case z_tuple => k_is)
