import PyProof.Rows.All
import Wide.All
import OpenK.AllK
import Wide.FinOn
import HandS.ForMost
import HandS.Wide
import HandS.IsInst
import HandS.WideBits
import HandS.Sort
import HandS.SortRule
import KE.DataMinMax
import KE.SortData
import PyProof.P3Eq
import HandS.DictComp
import HandS.Zip
import HandS.Conv
import HandS.ForExc
import HandS.WordsExc
import HandS.TryOnly
import HandS.ExcOwn
import HandS.Exc
import PySem.Challenge.RW_nearby_k03_standard_networks
set_option Elab.async false
set_option linter.all false
set_option maxRecDepth 100000
/-! Ab: readings over plain data. A slot of the frame holds a value of known meaning; an own list grows in place. -/
namespace Ab
open PySem PySem.Spec PyProof.Rows L2

/-! ### meanings of values -/
structure AbsV where
  rep : Hp → V → Prop
  mono : ∀ {G G' : Hp} {v : V}, Same G G' → rep G v → rep G' v
theorem AbsV.ext' {r s : AbsV} (h : ∀ G v, r.rep G v ↔ s.rep G v) : r = s := by
  cases r with
  | mk a b =>
    cases s with
    | mk c d =>
      have e : a = c := funext fun G => funext fun v => propext (h G v)
      subst e
      rfl
abbrev PR (G : Hp) : List V → List AbsV → Prop := Paired fun v (r : AbsV) => r.rep G v
theorem PR.mono {G G' : Hp} (s : Same G G') : ∀ {vs : List V} {l : List AbsV}, PR G vs l → PR G' vs l
  | _, _, .nil => .nil
  | _, _, .cons h t => .cons (AbsV.mono _ s h) (PR.mono s t)
theorem PR.get {G : Hp} : ∀ {vs : List V} {l : List AbsV} {i : Nat} {r : AbsV}, PR G vs l → l[i]? = some r → ∃ v, vs[i]? = some v ∧ r.rep G v
  | _, _, i, r, .nil, h => by simp at h
  | _, _, 0, r, .cons a t, h => ⟨_, rfl, by cases (Option.some.inj h); exact a⟩
  | _, _, i + 1, r, .cons a t, h => PR.get (i := i) t h
theorem PR.get' {G : Hp} : ∀ {vs : List V} {l : List AbsV} {i : Nat} {v : V}, PR G vs l → vs[i]? = some v → ∃ r, l[i]? = some r ∧ r.rep G v
  | _, _, i, r, .nil, h => by simp at h
  | _, _, 0, r, .cons a t, h => ⟨_, rfl, by cases (Option.some.inj h); exact a⟩
  | _, _, i + 1, r, .cons a t, h => PR.get' (i := i) t h
theorem PR.append {G : Hp} : ∀ {vs ws : List V} {l m : List AbsV}, PR G vs l → PR G ws m → PR G (vs ++ ws) (l ++ m)
  | _, _, _, _, .nil, h => h
  | _, _, _, _, .cons a t, h => .cons a (PR.append t h)
theorem PR.len {G : Hp} {vs : List V} {l : List AbsV} (h : PR G vs l) : vs.length = l.length := Paired.length h
theorem PR.set {G : Hp} {r : AbsV} {v : V} (h : r.rep G v) : ∀ {vs : List V} {l : List AbsV} (i : Nat), PR G vs l → PR G (vs.set i v) (l.set i r)
  | _, _, i, .nil => .nil
  | _, _, 0, .cons a t => .cons h t
  | _, _, i + 1, .cons a t => .cons a (PR.set h i t)
theorem PR.take {G : Hp} : ∀ {vs : List V} {l : List AbsV} (n : Nat), PR G vs l → PR G (vs.take n) (l.take n)
  | _, _, 0, _ => .nil
  | _, _, n + 1, .nil => .nil
  | _, _, n + 1, .cons a t => .cons a (PR.take n t)
theorem PR.drop {G : Hp} : ∀ {vs : List V} {l : List AbsV} (n : Nat), PR G vs l → PR G (vs.drop n) (l.drop n)
  | _, _, 0, h => h
  | _, _, n + 1, .nil => .nil
  | _, _, n + 1, .cons a t => PR.drop n t
theorem PR.eraseIdx {G : Hp} : ∀ {vs : List V} {l : List AbsV} (n : Nat), PR G vs l → PR G (vs.eraseIdx n) (l.eraseIdx n)
  | _, _, _, .nil => .nil
  | _, _, 0, .cons a t => t
  | _, _, n + 1, .cons a t => .cons a (PR.eraseIdx n t)
theorem PR.reverse {G : Hp} : ∀ {vs : List V} {l : List AbsV}, PR G vs l → PR G vs.reverse l.reverse
  | _, _, .nil => .nil
  | _, _, .cons a t => by
    rw [List.reverse_cons, List.reverse_cons]
    exact (PR.reverse t).append (.cons a .nil)

def lsA (l : List AbsV) : AbsV := ⟨fun G v => ∃ p vs, v = .ref p ∧ G p = some (.lst vs) ∧ PR G vs l, fun s ⟨p, vs, e, h, r⟩ => ⟨p, vs, e, s _ _ h, r.mono s⟩⟩
def tuA (l : List AbsV) : AbsV := ⟨fun G v => ∃ p vs, v = .ref p ∧ G p = some (.tup vs) ∧ PR G vs l, fun s ⟨p, vs, e, h, r⟩ => ⟨p, vs, e, s _ _ h, r.mono s⟩⟩
/-- a flat value -/
def flA (x : V) : AbsV := ⟨fun _ v => v = x, fun _ h => h⟩
abbrev nI (n : Int) : AbsV := flA (.int n)
abbrev nB (b : Bool) : AbsV := flA (.bl b)
abbrev nS (z : Str) : AbsV := flA (.str z)
abbrev nN : AbsV := flA .non
mutual
def dat : PyData → AbsV
  | .none => nN
  | .bool b => nB b
  | .int i => nI i
  | .str z => nS z
  | .list ds => lsA (dats ds)
  | .tuple ds => tuA (dats ds)
  | .dict _ => ⟨fun _ _ => False, fun _ h => h⟩
def dats : List PyData → List AbsV
  | [] => []
  | d :: ds => dat d :: dats ds
end
theorem dats_map : ∀ ds : List PyData, dats ds = ds.map dat
  | [] => rfl
  | d :: ds => by
    show dat d :: dats ds = dat d :: ds.map dat
    rw [dats_map ds]
mutual
theorem dat_dp {K : PySem.W.Frag} {G : Hp} : ∀ (d : PyData) {v : V}, (dat d).rep G v → Dp K G v d
  | .none, _, h => by cases h; exact .non
  | .bool b, _, h => by cases h; exact .bl b
  | .int i, _, h => by cases h; exact .int i
  | .str z, _, h => by cases h; exact .str z
  | .list ds, _, h => by
    obtain ⟨p, vs, e, g, r⟩ := h
    subst e
    exact .lst (SqL.of g) (dats_dp ds r)
  | .tuple ds, _, h => by
    obtain ⟨p, vs, e, g, r⟩ := h
    subst e
    exact .tup (SqT.of g) (dats_dp ds r)
  | .dict _, _, h => h.elim
theorem dats_dp {K : PySem.W.Frag} {G : Hp} : ∀ (ds : List PyData) {vs : List V}, PR G vs (dats ds) → DpAll K G vs ds
  | [], _, h => by cases h; exact .nil
  | d :: ds, _, h => by
    cases h with
    | cons a t => exact .cons (dat_dp d a) (dats_dp ds t)
end

/-! ### slots -/
inductive Slot where
  | un
  | val (r : AbsV)
  | own (l : List AbsV)
  | red (l : List AbsV)
  | scr (ns : List Int)
  | dic (kvs : List (Key × AbsV))
  | ins (p C : Addr) (fs : List (Str × AbsV))
/-- a thing of the frame's own, that may still change -/
def Slot.mut : Slot → Bool
  | .own _ | .dic _ | .ins _ _ _ => true
  | _ => false
abbrev PK {κ : Type} (G : Hp) : List (κ × V) → List (κ × AbsV) → Prop := Paired fun a b => a.1 = b.1 ∧ b.2.rep G a.2
theorem PK.mono {κ : Type} {G G' : Hp} (s : Same G G') : ∀ {ws : List (κ × V)} {kvs : List (κ × AbsV)}, PK G ws kvs → PK G' ws kvs
  | _, _, .nil => .nil
  | _, _, .cons h t => .cons ⟨h.1, AbsV.mono _ s h.2⟩ (PK.mono s t)
def dcA (kvs : List (Key × AbsV)) : AbsV := ⟨fun G v => ∃ p ws, v = .ref p ∧ G p = some (.dK ws) ∧ PK G ws kvs, fun s ⟨p, vs, e, h, r⟩ => ⟨p, vs, e, s _ _ h, r.mono s⟩⟩
def inA (C : Addr) (fs : List (Str × AbsV)) : AbsV := ⟨fun G v => ∃ p dx ws, v = .ref p ∧ G p = some (.ins C dx ws) ∧ PK G ws fs, fun s ⟨p, dx, vs, e, h, r⟩ => ⟨p, dx, vs, e, s _ _ h, r.mono s⟩⟩
/-- the object at p itself -/
def iaA (p C : Addr) (fs : List (Str × AbsV)) : AbsV := ⟨fun G v => v = .ref p ∧ ∃ dx ws, G p = some (.ins C dx ws) ∧ PK G ws fs, fun s ⟨e, dx, vs, h, r⟩ => ⟨e, dx, vs, s _ _ h, r.mono s⟩⟩
def SlotOk (K : PySem.W.Frag) (B G H : Hp) : Slot → Option V → Prop
  | .un, _ => True
  | .val r, o => ∃ v, o = some v ∧ r.rep G v
  | .own l, o => ∃ p vs, o = some (.ref p) ∧ B p = none ∧ G p = none ∧ H p = some (.lst vs) ∧ PR G vs l
  | .red l, o => ∃ p vs, o = some (.ref p) ∧ B p = some (.lst vs) ∧ PR G vs l
  | .scr ns, o => ∃ p, o = some (.ref p) ∧ SqL K B p (ns.map V.int)
  | .dic kvs, o => ∃ p ws, o = some (.ref p) ∧ B p = none ∧ G p = none ∧ H p = some (.dK ws) ∧ PK G ws kvs
  | .ins p C fs, o => ∃ dx ws, o = some (.ref p) ∧ B p = none ∧ G p = none ∧ H p = some (.ins C dx ws) ∧ PK G ws fs
theorem SlotOk.addr {K : PySem.W.Frag} {B G H : Hp} : ∀ {s : Slot} {o : Option V}, s.mut = true → SlotOk K B G H s o → ∃ p u, o = some (.ref p) ∧ B p = none ∧ G p = none ∧ H p = some u
  | .own _, _, _, ⟨p, vs, e, b, g, h, _⟩ => ⟨p, _, e, b, g, h⟩
  | .dic _, _, _, ⟨p, vs, e, b, g, h, _⟩ => ⟨p, _, e, b, g, h⟩
  | .ins p _ _, _, _, ⟨_, vs, e, b, g, h, _⟩ => ⟨p, _, e, b, g, h⟩
  | .un, _, h, _ => by cases h
  | .val _, _, h, _ => by cases h
  | .red _, _, h, _ => by cases h
  | .scr _, _, h, _ => by cases h
structure Ext (G H G' H' : Hp) : Prop where
  g : Same G G'
  h : Same H H'
  gh : Same G' H'
  n : ∀ p, H p ≠ none → G p = none → G' p = none
theorem Ext.refl {G H : Hp} (gh : Same G H) : Ext G H G H := ⟨Same.refl _, Same.refl _, gh, fun _ _ h => h⟩
theorem some_of_same {H H' : Hp} {p : Addr} (s : Same H H') (h : H p ≠ none) : H' p ≠ none := by
  cases e : H p with
  | none => exact absurd e h
  | some o => rw [s p o e]; exact fun z => by cases z
theorem Ext.trans {G H G1 H1 G2 H2 : Hp} (a : Ext G H G1 H1) (b : Ext G1 H1 G2 H2) : Ext G H G2 H2 :=
  ⟨a.g.trans b.g, a.h.trans b.h, b.gh, fun p h e => b.n p (some_of_same a.h h) (a.n p h e)⟩
/-- a new thing, at once known for good -/
theorem Ext.new {G H : Hp} {p : Addr} {o : HO} (gh : Same G H) (h : H p = none) : Ext G H (upd G p o) (upd H p o) := by
  have g : G p = none := gh.free h
  refine ⟨fun b u e => ?_, fun b u e => ?_, fun b u e => ?_, fun q hq e => ?_⟩
  · rw [upd_ne (ne_of_none e g)]; exact e
  · rw [upd_ne (ne_of_none e h)]; exact e
  · by_cases z : b = p
    · subst z; rw [upd_same] at e ⊢; exact e
    · rw [upd_ne z] at e ⊢; exact gh b u e
  · have z : q ≠ p := fun z => hq (by rw [z]; exact h)
    rw [upd_ne z]; exact e
/-- a new thing that may still change -/
theorem Ext.newO {G H : Hp} {p : Addr} {o : HO} (gh : Same G H) (h : H p = none) : Ext G H G (upd H p o) :=
  ⟨Same.refl _, fun b u e => by rw [upd_ne (ne_of_none e h)]; exact e, fun b u e => by rw [upd_ne (ne_of_none (gh b u e) h)]; exact gh b u e, fun _ _ e => e⟩
/-- what was new and may change is from now on known for good -/
theorem Ext.freeze {G H G' H' : Hp} {p : Addr} {u : HO} (x : Ext G H G' H') (h : H p = none) (g' : G' p = none) (h' : H' p = some u) : Ext G H (upd G' p u) H' := by
  refine ⟨fun b u e => ?_, x.h, fun b u e => ?_, fun q hq e => ?_⟩
  · have e' := x.g b u e
    rw [upd_ne (ne_of_none e' g')]; exact e'
  · by_cases z : b = p
    · subst z; rw [upd_same] at e; rw [h']; exact e
    · rw [upd_ne z] at e; exact x.gh b u e
  · have z : q ≠ p := fun z => hq (by rw [z]; exact h)
    rw [upd_ne z]; exact x.n q hq e
structure OkB (B G0 G H : Hp) : Prop where
  bh : Same B H
  gh : Same G H
  g0 : Same G0 G
  nb : ∀ p, B p ≠ none → G0 p = none → G p = none
theorem OkB.ext {B G0 G H G' H' : Hp} (k : OkB B G0 G H) (x : Ext G H G' H') : OkB B G0 G' H' :=
  ⟨k.bh.trans x.h, x.gh, k.g0.trans x.g, fun p h e => x.n p (some_of_same k.bh h) (k.nb p h e)⟩
structure Ok (K : PySem.W.Frag) (B G0 : Hp) (E : List Slot) (σ : L2.St) (G H : Hp) : Prop extends OkB B G0 G H where
  sl : Paired (SlotOk K B G H) E σ
  ds : ∀ (i j : Nat) (p : Addr) (s s' : Slot), E[i]? = some s → E[j]? = some s' → s.mut = true → s'.mut = true → σ[i]? = some (some (.ref p)) → σ[j]? = some (some (.ref p)) → i = j
theorem P_get {α β : Type} {F : α → β → Prop} : ∀ {as : List α} {bs : List β} {i : Nat} {a : α}, Paired F as bs → as[i]? = some a → ∃ b, bs[i]? = some b ∧ F a b
  | _, _, i, r, .nil, h => by simp at h
  | _, _, 0, r, .cons a t, h => ⟨_, rfl, by cases (Option.some.inj h); exact a⟩
  | _, _, i + 1, r, .cons a t, h => P_get (i := i) t h
theorem P_set {α β : Type} {F : α → β → Prop} {a : α} {b : β} (h : F a b) : ∀ {as : List α} {bs : List β} (i : Nat), Paired F as bs → Paired F (as.set i a) (bs.set i b)
  | _, _, i, .nil => .nil
  | _, _, 0, .cons _ t => .cons h t
  | _, _, i + 1, .cons c t => .cons c (P_set h i t)
theorem P_mono {α β : Type} {F F' : α → β → Prop} (hm : ∀ a b, F a b → F' a b) : ∀ {as : List α} {bs : List β}, Paired F as bs → Paired F' as bs
  | _, _, .nil => .nil
  | _, _, .cons c t => .cons (hm _ _ c) (P_mono hm t)
theorem SlotOk.ext {K : PySem.W.Frag} {B G H G' H' : Hp} (bh : Same B H) (gh : Same G H) (x : Ext G H G' H') : ∀ (s : Slot) (o : Option V), SlotOk K B G H s o → SlotOk K B G' H' s o
  | .un, _, _ => trivial
  | .val r, _, ⟨v, e, h⟩ => ⟨v, e, r.mono x.g h⟩
  | .own l, _, ⟨p, vs, e, b, g, h, q⟩ => ⟨p, vs, e, b, x.n p (by rw [h]; exact fun z => by cases z) g, x.h _ _ h, q.mono x.g⟩
  | .red l, _, ⟨p, vs, e, b, q⟩ => ⟨p, vs, e, b, q.mono x.g⟩
  | .scr ns, _, h => h
  | .dic l, _, ⟨p, vs, e, b, g, h, q⟩ => ⟨p, vs, e, b, x.n p (by rw [h]; exact fun z => by cases z) g, x.h _ _ h, q.mono x.g⟩
  | .ins p C l, _, ⟨dx, vs, e, b, g, h, q⟩ => ⟨dx, vs, e, b, x.n p (by rw [h]; exact fun z => by cases z) g, x.h _ _ h, q.mono x.g⟩
theorem Ok.ext {K : PySem.W.Frag} {B G0 G H G' H' : Hp} {E : List Slot} {σ : L2.St} (k : Ok K B G0 E σ G H) (x : Ext G H G' H') : Ok K B G0 E σ G' H' :=
  ⟨k.toOkB.ext x, P_mono (SlotOk.ext k.bh k.gh x) k.sl, k.ds⟩
theorem P_len {α β : Type} {F : α → β → Prop} : ∀ {as : List α} {bs : List β}, Paired F as bs → as.length = bs.length
  | _, _, .nil => rfl
  | _, _, .cons _ t => congrArg (· + 1) (P_len t)
theorem P_of {α β : Type} {F : α → β → Prop} : ∀ {as : List α} {bs : List β}, as.length = bs.length → (∀ (i : Nat) (a : α) (b : β), as[i]? = some a → bs[i]? = some b → F a b) → Paired F as bs
  | [], [], _, _ => .nil
  | [], _ :: _, h, _ => by cases h
  | _ :: _, [], h, _ => by cases h
  | a :: as, b :: bs, h, q => .cons (q 0 a b rfl rfl) (P_of (Nat.succ.inj h) fun i x y hx hy => q (i + 1) x y hx hy)
/-- a slot gets a value of a known meaning, or is forgotten -/
theorem Ok.set {K : PySem.W.Frag} {B G0 G H : Hp} {E : List Slot} {σ : L2.St} {s : Slot} {o : Option V} (k : Ok K B G0 E σ G H) (i : Nat) (h : SlotOk K B G H s o) (hn : s.mut = false) : Ok K B G0 (E.set i s) (σ.set i o) G H := by
  refine ⟨k.toOkB, P_set h i k.sl, fun a b p l l' ea eb ma mb sa sb => ?_⟩
  have no : ∀ (a : Nat) (l : Slot), (E.set i s)[a]? = some l → l.mut = true → i ≠ a := fun a l ea ma z => by
    subst z
    by_cases hl : i < E.length
    · rw [List.getElem?_set_self hl] at ea; cases ea; rw [hn] at ma; cases ma
    · rw [List.getElem?_eq_none (by simpa using hl)] at ea; cases ea
  have na := no a l ea ma
  have nb := no b l' eb mb
  rw [List.getElem?_set_ne na] at ea sa
  rw [List.getElem?_set_ne nb] at eb sb
  exact k.ds a b p l l' ea eb ma mb sa sb
/-- a slot gets a thing that may still change -/
theorem Ok.setM {K : PySem.W.Frag} {B G0 G H : Hp} {E : List Slot} {σ : L2.St} {p : Addr} {s : Slot} (k : Ok K B G0 E σ G H) (i : Nat) (h : SlotOk K B G H s (some (.ref p)))
    (hn : ∀ (j : Nat) (s' : Slot), j ≠ i → E[j]? = some s' → s'.mut = true → σ[j]? ≠ some (some (.ref p))) : Ok K B G0 (E.set i s) (σ.set i (some (.ref p))) G H := by
  refine ⟨k.toOkB, P_set h i k.sl, fun a c r m m' ea ec ma mc sa sc => ?_⟩
  have hl : E.length = σ.length := P_len k.sl
  have key : ∀ (a : Nat) (m : Slot), i ≠ a → (E.set i s)[a]? = some m → m.mut = true → (σ.set i (some (.ref p)))[a]? ≠ some (some (.ref p)) := fun a m na ea ma => by
    rw [List.getElem?_set_ne na] at ea ⊢
    exact hn a m (fun z => na z.symm) ea ma
  have at_i : ∀ (a : Nat) (r : Addr) (m : Slot), i = a → (E.set i s)[a]? = some m → (σ.set i (some (.ref p)))[a]? = some (some (.ref r)) → r = p := fun a r m z ea sa => by
    subst z
    by_cases hlt : i < E.length
    · rw [List.getElem?_set_self (by omega)] at sa; cases sa; rfl
    · rw [List.getElem?_eq_none (by simpa using hlt)] at ea; cases ea
  by_cases na : i = a
  · by_cases nc : i = c
    · omega
    · have := at_i a r m na ea sa
      subst this
      exact absurd sc (key c m' nc ec mc)
  · by_cases nc : i = c
    · have := at_i c r m' nc ec sc
      subst this
      exact absurd sa (key a m na ea ma)
    · rw [List.getElem?_set_ne na] at ea sa
      rw [List.getElem?_set_ne nc] at ec sc
      exact k.ds a c r m m' ea ec ma mc sa sc
/-- a new thing's address is no own one's -/
theorem Ok.fresh {K : PySem.W.Frag} {B G0 G H : Hp} {E : List Slot} {σ : L2.St} {p : Addr} {j : Nat} {s : Slot} (k : Ok K B G0 E σ G H) (hp : H p = none) (e : E[j]? = some s) (m : s.mut = true) : σ[j]? ≠ some (some (.ref p)) := fun z => by
  obtain ⟨o, e1, so⟩ := P_get k.sl e
  obtain ⟨p', u, e2, _, _, h'⟩ := so.addr m
  rw [e1, e2] at z
  cases z
  rw [hp] at h'; cases h'
/-- a thing of the frame's own changes -/
theorem Ok.updM {K : PySem.W.Frag} {B G0 G H : Hp} {E : List Slot} {σ : L2.St} {i : Nat} {p : Addr} {s s' : Slot} {u : HO} (k : Ok K B G0 E σ G H) (h : E[i]? = some s) (hm : s.mut = true) (e : σ[i]? = some (some (.ref p))) (hs : SlotOk K B G (upd H p u) s' (some (.ref p))) : Ok K B G0 (E.set i s') σ G (upd H p u) := by
  obtain ⟨o, eO, so⟩ := P_get k.sl h
  obtain ⟨pO, u0, e2, b, g, hh⟩ := so.addr hm
  rw [e] at eO
  have e3 := Option.some.inj eO
  rw [e2] at e3
  clear eO
  cases e3
  have hl : i < E.length := (List.getElem?_eq_some_iff.mp h).1
  refine ⟨⟨fun b' u z => ?_, fun b' u z => ?_, k.g0, k.nb⟩, ?_, fun a c r n n' ea ec ma mc sa sc => ?_⟩
  · rw [upd_ne (ne_of_none z b)]; exact k.bh b' u z
  · rw [upd_ne (ne_of_none z g)]; exact k.gh b' u z
  · refine P_of (by rw [List.length_set]; exact P_len k.sl) fun j t o hs' ho => ?_
    by_cases hj : i = j
    · subst hj
      rw [List.getElem?_set_self hl] at hs'
      rw [e] at ho
      cases hs'; cases ho
      exact hs
    · rw [List.getElem?_set_ne hj] at hs'
      obtain ⟨o', eo, so'⟩ := P_get k.sl hs'
      have hoo : o' = o := by rw [eo] at ho; exact Option.some.inj ho
      rw [hoo] at so'
      have np : ∀ p' : Addr, t.mut = true → o = some (V.ref p') → p' ≠ p := fun p' mt e' z => by
        rw [z] at e'
        exact hj (k.ds i j p s t h hs' hm mt e (by rw [ho, e']))
      cases t with
      | un => trivial
      | val r' => exact so'
      | own l' =>
        obtain ⟨p', vs', e', b', g', h', pr'⟩ := so'
        exact ⟨p', vs', e', b', g', by rw [upd_ne (np p' rfl e')]; exact h', pr'⟩
      | dic l' =>
        obtain ⟨p', vs', e', b', g', h', pr'⟩ := so'
        exact ⟨p', vs', e', b', g', by rw [upd_ne (np p' rfl e')]; exact h', pr'⟩
      | ins p' C l' =>
        obtain ⟨dx', vs', e', b', g', h', pr'⟩ := so'
        exact ⟨dx', vs', e', b', g', by rw [upd_ne (np p' rfl e')]; exact h', pr'⟩
      | red l' => exact so'
      | scr ns => exact so'
  · have own : ∀ (a : Nat) (n : Slot), (E.set i s')[a]? = some n → n.mut = true → ∃ n', E[a]? = some n' ∧ n'.mut = true := fun a n ea ma => by
      by_cases z : i = a
      · subst z; exact ⟨s, h, hm⟩
      · rw [List.getElem?_set_ne z] at ea; exact ⟨n, ea, ma⟩
    obtain ⟨n1, ea', m1⟩ := own a n ea ma
    obtain ⟨n2, ec', m2⟩ := own c n' ec mc
    exact k.ds a c r n1 n2 ea' ec' m1 m2 sa sc
/-- a thing of the frame's own is known for good from now on -/
theorem Ok.freezeM {K : PySem.W.Frag} {B G0 G H : Hp} {E : List Slot} {σ : L2.St} {i : Nat} {p : Addr} {s : Slot} {u : HO} {r : AbsV} (k : Ok K B G0 E σ G H) (h : E[i]? = some s) (hm : s.mut = true) (e : σ[i]? = some (some (.ref p))) (hu : H p = some u) (hr : r.rep (upd G p u) (.ref p)) : Ok K B G0 (E.set i (.val r)) σ (upd G p u) H := by
  obtain ⟨o, eO, so⟩ := P_get k.sl h
  obtain ⟨pO, u0, e2, b, g, hh⟩ := so.addr hm
  rw [e] at eO
  have e3 := Option.some.inj eO
  rw [e2] at e3
  clear eO
  cases e3
  have hl : i < E.length := (List.getElem?_eq_some_iff.mp h).1
  have sg : Same G (upd G p u) := fun b u' e => by rw [upd_ne (ne_of_none e g)]; exact e
  have bb : OkB B G0 (upd G p u) H := ⟨k.bh, fun b u' e => by
      by_cases z : b = p
      · subst z; rw [upd_same] at e; rw [hu]; exact e
      · rw [upd_ne z] at e; exact k.gh b u' e, k.g0.trans sg, fun q' hq e => by
      have z : q' ≠ p := fun z => hq (by rw [z]; exact b)
      rw [upd_ne z]; exact k.nb q' hq e⟩
  refine ⟨bb, P_of (by rw [List.length_set]; exact P_len k.sl) fun j t o hs' ho => ?_, fun a c ra m m' ea ec ma mc sa sc => ?_⟩
  · by_cases hj : i = j
    · subst hj
      rw [List.getElem?_set_self hl] at hs'
      rw [e] at ho
      cases hs'; cases ho
      exact ⟨_, rfl, hr⟩
    · rw [List.getElem?_set_ne hj] at hs'
      obtain ⟨o', eo, so'⟩ := P_get k.sl hs'
      have hoo : o' = o := by rw [eo] at ho; exact Option.some.inj ho
      rw [hoo] at so'
      have np : ∀ p' : Addr, t.mut = true → o = some (V.ref p') → p' ≠ p := fun p' mt e' z => by
        rw [z] at e'
        exact hj (k.ds i j p s t h hs' hm mt e (by rw [ho, e']))
      cases t with
      | un => trivial
      | val r' => obtain ⟨v, e, rv⟩ := so'; exact ⟨v, e, r'.mono sg rv⟩
      | own l' =>
        obtain ⟨p', vs', e', b', g', h', pr'⟩ := so'
        exact ⟨p', vs', e', b', by rw [upd_ne (np p' rfl e')]; exact g', h', pr'.mono sg⟩
      | dic l' =>
        obtain ⟨p', vs', e', b', g', h', pr'⟩ := so'
        exact ⟨p', vs', e', b', by rw [upd_ne (np p' rfl e')]; exact g', h', pr'.mono sg⟩
      | ins p' C l' =>
        obtain ⟨dx', vs', e', b', g', h', pr'⟩ := so'
        exact ⟨dx', vs', e', b', by rw [upd_ne (np p' rfl e')]; exact g', h', pr'.mono sg⟩
      | red l' => obtain ⟨p', vs', e', b', pr'⟩ := so'; exact ⟨p', vs', e', b', pr'.mono sg⟩
      | scr ns => exact so'
  · have na : i ≠ a := fun z => by subst z; rw [List.getElem?_set_self hl] at ea; cases ea; cases ma
    have nc : i ≠ c := fun z => by subst z; rw [List.getElem?_set_self hl] at ec; cases ec; cases mc
    rw [List.getElem?_set_ne na] at ea
    rw [List.getElem?_set_ne nc] at ec
    exact k.ds a c _ m m' ea ec ma mc sa sc
end Ab

namespace Ab
open PySem PySem.Spec PyProof.Rows L2

/-! ### judgements -/
def EV (K : PySem.W.Frag) (E : List Slot) (te : TE) (r : AbsV) : Prop := ∀ (B G0 : Hp) (σ : L2.St) (G H : Hp), Ok K B G0 E σ G H → ∀ Q : VK, (∀ v G' H', Ext G H G' H' → r.rep G' v → Q v H') → te σ H Q
/-- a list that can be read now -/
def EVL (K : PySem.W.Frag) (E : List Slot) (te : TE) (l : List AbsV) : Prop := ∀ (B G0 : Hp) (σ : L2.St) (G H : Hp), Ok K B G0 E σ G H → ∀ Q : VK, (∀ p vs G' H', Ext G H G' H' → H' p = some (.lst vs) → PR G' vs l → Q (.ref p) H') → te σ H Q
/-- a new list -/
def EVF (K : PySem.W.Frag) (E : List Slot) (te : TE) (l : List AbsV) : Prop := ∀ (B G0 : Hp) (σ : L2.St) (G H : Hp), Ok K B G0 E σ G H → ∀ Q : VK, (∀ p vs G' H', Ext G H G' H' → H p = none → G' p = none → H' p = some (.lst vs) → PR G' vs l → Q (.ref p) H') → te σ H Q
def ET (K : PySem.W.Frag) (E : List Slot) (tt : TT) (b : Bool) : Prop := ∀ (B G0 : Hp) (σ : L2.St) (G H : Hp), Ok K B G0 E σ G H → ∀ Q : Bool → Hp → Prop, (∀ G' H', Ext G H G' H' → Q b H') → tt σ H Q
def ArgOk (K : PySem.W.Frag) (G H : Hp) : Slot → V → Prop
  | .un, _ => True
  | .val r, v => r.rep G v
  | .own _, _ => False
  | .red l, v => ∃ p vs, v = .ref p ∧ H p = some (.lst vs) ∧ PR G vs l
  | .scr ns, v => ∃ p, v = .ref p ∧ SqL K H p (ns.map V.int)
  | .dic _, _ => False
  | .ins _ _ _, _ => False
theorem ArgOk.ext {K : PySem.W.Frag} {G H G' H' : Hp} (x : Ext G H G' H') : ∀ {s : Slot} {v : V}, ArgOk K G H s v → ArgOk K G' H' s v
  | .un, _, h => h
  | .val r, _, h => r.mono x.g h
  | .own _, _, h => h
  | .red l, _, ⟨p, vs, e, h, q⟩ => ⟨p, vs, e, x.h _ _ h, q.mono x.g⟩
  | .scr ns, _, ⟨p, e, h⟩ => ⟨p, e, x.h.seq h⟩
  | .dic _, _, h => h
  | .ins _ _ _, _, h => h
def EA (K : PySem.W.Frag) (E : List Slot) (ta : TA) (as : List Slot) : Prop := ∀ (B G0 : Hp) (σ : L2.St) (G H : Hp), Ok K B G0 E σ G H → ∀ Q : List V → Hp → Prop, (∀ vs G' H', Ext G H G' H' → Paired (ArgOk K G' H') as vs → Q vs H') → ta σ H Q
structure AE where
  nx : List Slot → Prop
  bk : List Slot → Prop
  ct : List Slot → Prop
  rt : Slot → Prop
  ex : List Slot → Addr → Prop := fun _ _ => False
  ew : Value → Option Addr → L2.St → Hp → Prop := fun _ _ _ _ => True
structure Sat (K : PySem.W.Frag) (B G0 : Hp) (A : AE) (D : Ends) : Prop where
  nx : ∀ E σ G H, A.nx E → Ok K B G0 E σ G H → D.nx σ H
  bk : ∀ E σ G H, A.bk E → Ok K B G0 E σ G H → D.bk σ H
  ct : ∀ E σ G H, A.ct E → Ok K B G0 E σ G H → D.ct σ H
  rtV : ∀ r v G H, A.rt (.val r) → OkB B G0 G H → r.rep G v → D.rt v H
  rtO : ∀ l p vs G H, A.rt (.own l) → OkB B G0 G H → B p = none → G p = none → H p = some (.lst vs) → PR G vs l → D.rt (.ref p) H
  ex : ∀ E σ G H C, A.ex E C → Ok K B G0 E σ G H → A.ew (.ref C) none σ H
def ES (K : PySem.W.Frag) (E : List Slot) (ts : TS) (A : AE) : Prop := ∀ (B G0 : Hp) (σ : L2.St) (G H : Hp) (D : Ends), Ok K B G0 E σ G H → Sat K B G0 A D → ts D σ H

section
variable {K : PySem.W.Frag} {E : List Slot} {ta tb tc te : TE} {t u : TT} {r s : AbsV} {l m : List AbsV}
theorem EVF.ev (h : EVF K E te l) : EV K E te (lsA l) := fun B G0 σ G H k Q q => h B G0 σ G H k Q fun p vs G' H' x hn g' h' pr =>
  q (.ref p) (upd G' p (.lst vs)) H' (x.freeze hn g' h') ⟨p, vs, rfl, upd_same, pr.mono (fun b u e => by rw [upd_ne (ne_of_none e g')]; exact e)⟩
theorem EVF.evl (h : EVF K E te l) : EVL K E te l := fun B G0 σ G H k Q q => h B G0 σ G H k Q fun p vs G' H' x _ _ h' pr => q p vs G' H' x h' pr
theorem EV.evl (h : EV K E te (lsA l)) : EVL K E te l := fun B G0 σ G H k Q q => h B G0 σ G H k Q fun v G' H' x ⟨p, vs, e, g, pr⟩ => by
  subst e
  exact q p vs G' H' x (x.gh _ _ g) pr
theorem EV.is (h : EV K E te r) (e : r = s) : EV K E te s := by
  rw [← e]; exact h
theorem ET.is {a b : Bool} (h : ET K E t a) (e : a = b) : ET K E t b := by
  rw [← e]; exact h
theorem EVL.is (h : EVL K E te l) (e : l = m) : EVL K E te m := by
  rw [← e]; exact h
theorem EVF.is (h : EVF K E te l) (e : l = m) : EVF K E te m := by
  rw [← e]; exact h

/-! names and constants -/
theorem ev_var {i : Nat} (h : E[i]? = some (.val r)) : EV K E (tVar i) r := fun B G0 σ G H k Q q => by
  obtain ⟨o, e, v, e2, rv⟩ := P_get k.sl h
  subst e2
  exact ⟨v, e, q v G H (Ext.refl k.gh) rv⟩
theorem evl_own {i : Nat} (h : E[i]? = some (.own l)) : EVL K E (tVar i) l := fun B G0 σ G H k Q q => by
  obtain ⟨o, e, p, vs, e2, b, g, hh, pr⟩ := P_get k.sl h
  subst e2
  exact ⟨.ref p, e, q p vs G H (Ext.refl k.gh) hh pr⟩
theorem evl_red {i : Nat} (h : E[i]? = some (.red l)) : EVL K E (tVar i) l := fun B G0 σ G H k Q q => by
  obtain ⟨o, e, p, vs, e2, b, pr⟩ := P_get k.sl h
  subst e2
  exact ⟨.ref p, e, q p vs G H (Ext.refl k.gh) (k.bh _ _ b) pr⟩
theorem evl_var {i : Nat} (h : E[i]? = some (.val (lsA l))) : EVL K E (tVar i) l := (ev_var h).evl
theorem ev_int {n : Int} : EV K E (tC (.int n)) (nI n) := fun B G0 σ G H k Q q => q _ G H (Ext.refl k.gh) rfl
theorem ev_bl {n : Bool} : EV K E (tC (.bl n)) (nB n) := fun B G0 σ G H k Q q => q _ G H (Ext.refl k.gh) rfl
theorem ev_str {n : Str} : EV K E (tC (.str n)) (nS n) := fun B G0 σ G H k Q q => q _ G H (Ext.refl k.gh) rfl
theorem ev_non : EV K E (tC .non) nN := fun B G0 σ G H k Q q => q _ G H (Ext.refl k.gh) rfl

/-! operators -/
/-- two operands, then what is asked of the values -/
theorem ev_two {R : R2} {z : AbsV} (ha : EV K E ta r) (hb : EV K E tb s) (hr : ∀ x y G H (Q : VK), Same G H → r.rep G x → s.rep G y → (∀ v, z.rep G v → Q v H) → R x y H Q) : EV K E (tOp R ta tb) z := fun B G0 σ G H k Q q =>
  ha B G0 σ G H k _ fun x G1 H1 x1 r1 => hb B G0 σ G1 H1 (k.ext x1) _ fun y G2 H2 x2 r2 => hr x y G2 H2 Q x2.gh (r.mono x2.g r1) r2 fun v rv => q v G2 H2 (x1.trans x2) rv
theorem ev_I0 {g : Int → Int → V} {a b : Int} (ha : EV K E ta (nI a)) (hb : EV K E tb (nI b)) : EV K E (tOp (rI0 g) ta tb) (flA (g a b)) :=
  ev_two ha hb fun x y G H Q _ hx hy q => ⟨a, b, hx, hy, q _ rfl⟩
theorem ev_I {C : Int → Int → Prop} {g : Int → Int → V} {a b : Int} (ha : EV K E ta (nI a)) (hb : EV K E tb (nI b)) (hc : C a b) : EV K E (tOp (rI C g) ta tb) (flA (g a b)) :=
  ev_two ha hb fun x y G H Q _ hx hy q => ⟨a, b, hx, hy, hc, q _ rfl⟩
theorem ev_U {g : Int → V} {a : Int} (ha : EV K E ta (nI a)) : EV K E (tUn (rU g) ta) (flA (g a)) := fun B G0 σ G H k Q q =>
  ha B G0 σ G H k _ fun x G1 H1 x1 r1 => ⟨a, r1, q _ G1 H1 x1 rfl⟩
/-- == and != of flat values -/
theorem ev_eq {a b : V} (ha : EV K E ta (flA a)) (hb : EV K E tb (flA b)) (hs : scal a b = true) : EV K E (tOp rEq ta tb) (nB (decide (a = b))) :=
  ev_two ha hb fun x y G H Q _ hx hy q => by
    cases hx; cases hy
    exact ⟨hs, q _ rfl⟩
theorem ev_ne {a b : V} (ha : EV K E ta (flA a)) (hb : EV K E tb (flA b)) (hs : scal a b = true) : EV K E (tOp rNe ta tb) (nB (!decide (a = b))) :=
  ev_two ha hb fun x y G H Q _ hx hy q => by
    cases hx; cases hy
    exact ⟨hs, q _ rfl⟩
theorem dec_int (a b : Int) : decide (V.int a = V.int b) = decide (a = b) := by
  by_cases h : a = b
  · rw [h]; simp
  · rw [decide_eq_false h, decide_eq_false (fun z => h (by cases z; rfl))]
theorem ev_eqI {a b : Int} (ha : EV K E ta (nI a)) (hb : EV K E tb (nI b)) : EV K E (tOp rEq ta tb) (nB (decide (a = b))) := by
  have h := ev_eq ha hb rfl
  rw [dec_int] at h; exact h
theorem ev_neI {a b : Int} (ha : EV K E ta (nI a)) (hb : EV K E tb (nI b)) : EV K E (tOp rNe ta tb) (nB (!decide (a = b))) := by
  have h := ev_ne ha hb rfl
  rw [dec_int] at h; exact h

/-! tests -/
theorem et_test {b : Bool} (h : EV K E te (nB b)) : ET K E (tTest te) b := fun B G0 σ G H k Q q => h B G0 σ G H k _ fun v G' H' x rv => ⟨b, rv, q G' H' x⟩
theorem et_B {b : Bool} (h : EV K E te (nB b)) : ET K E (tB te) b := fun B G0 σ G H k Q q => h B G0 σ G H k _ fun v G' H' x rv => ⟨b, rv, q G' H' x⟩
theorem et_and {a b : Bool} (h1 : ET K E t a) (h2 : a = true → ET K E u b) : ET K E (tAnd t u) (a && b) := fun B G0 σ G H k Q q => h1 B G0 σ G H k _ fun G1 H1 x1 => by
  cases a with
  | true =>
    show u σ H1 Q
    exact h2 rfl B G0 σ G1 H1 (k.ext x1) Q fun G2 H2 x2 => q G2 H2 (x1.trans x2)
  | false => exact q G1 H1 x1
theorem et_or {a b : Bool} (h1 : ET K E t a) (h2 : a = false → ET K E u b) : ET K E (tOr t u) (a || b) := fun B G0 σ G H k Q q => h1 B G0 σ G H k _ fun G1 H1 x1 => by
  cases a with
  | true => exact q G1 H1 x1
  | false =>
    show u σ H1 Q
    exact h2 rfl B G0 σ G1 H1 (k.ext x1) Q fun G2 H2 x2 => q G2 H2 (x1.trans x2)
theorem et_not {a : Bool} (h1 : ET K E t a) : ET K E (tNot t) (!a) := fun B G0 σ G H k Q q => h1 B G0 σ G H k _ q
theorem ev_andV {a b : Bool} (h1 : EV K E ta (nB a)) (h2 : a = true → EV K E tb (nB b)) : EV K E (tAndV ta tb) (nB (a && b)) := fun B G0 σ G H k Q q => h1 B G0 σ G H k _ fun v G1 H1 x1 r1 => ⟨a, r1, by
  cases a with
  | true =>
    show tb σ H1 Q
    exact h2 rfl B G0 σ G1 H1 (k.ext x1) Q fun v G2 H2 x2 r2 => q v G2 H2 (x1.trans x2) r2
  | false => exact q _ G1 H1 x1 rfl⟩
theorem ev_orV {a b : Bool} (h1 : EV K E ta (nB a)) (h2 : a = false → EV K E tb (nB b)) : EV K E (tOrV ta tb) (nB (a || b)) := fun B G0 σ G H k Q q => h1 B G0 σ G H k _ fun v G1 H1 x1 r1 => ⟨a, r1, by
  cases a with
  | true => exact q _ G1 H1 x1 rfl
  | false =>
    show tb σ H1 Q
    exact h2 rfl B G0 σ G1 H1 (k.ext x1) Q fun v G2 H2 x2 r2 => q v G2 H2 (x1.trans x2) r2⟩
theorem ev_notV {a : Bool} (h1 : EV K E ta (nB a)) : EV K E (tNotV ta) (nB (!a)) := fun B G0 σ G H k Q q => h1 B G0 σ G H k _ fun v G1 H1 x1 r1 => ⟨a, r1, q _ G1 H1 x1 rfl⟩
theorem ev_if {b : Bool} (h : ET K E t b) (h1 : b = true → EV K E ta r) (h2 : b = false → EV K E tb r) : EV K E (tIf t ta tb) r := fun B G0 σ G H k Q q => h B G0 σ G H k _ fun G1 H1 x1 => by
  cases b with
  | true =>
    show ta σ H1 Q
    exact h1 rfl B G0 σ G1 H1 (k.ext x1) Q fun v G2 H2 x2 r2 => q v G2 H2 (x1.trans x2) r2
  | false =>
    show tb σ H1 Q
    exact h2 rfl B G0 σ G1 H1 (k.ext x1) Q fun v G2 H2 x2 r2 => q v G2 H2 (x1.trans x2) r2
theorem ev_chain {p : Bool} {R R' : R2} {a b c : AbsV} {z : Bool} (ha : EV K E ta a) (hb : EV K E tb b) (hr : ∀ x y G H (Q : VK), Same G H → a.rep G x → b.rep G y → (Q (.bl p) H) → R x y H Q)
    (hc : p = true → EV K E tc c) (hr' : p = true → ∀ x y G H (Q : VK), Same G H → b.rep G x → c.rep G y → Q (.bl z) H → R' x y H Q) : EV K E (tChain R R' ta tb tc) (nB (p && z)) := fun B G0 σ G H k Q q =>
  ha B G0 σ G H k _ fun x G1 H1 x1 r1 => hb B G0 σ G1 H1 (k.ext x1) _ fun y G2 H2 x2 r2 => hr x y G2 H2 _ x2.gh (a.mono x2.g r1) r2 ⟨p, rfl, by
    cases p with
    | true => exact hc rfl B G0 σ G2 H2 ((k.ext x1).ext x2) _ fun w G3 H3 x3 r3 => hr' rfl y w G3 H3 Q x3.gh (b.mono x3.g r2) r3 (q _ G3 H3 ((x1.trans x2).trans x3) rfl)
    | false => exact q _ G2 H2 (x1.trans x2) rfl⟩
theorem ev_chI {g g' : Int → Int → Bool} {a b c : Int} (ha : EV K E ta (nI a)) (hb : EV K E tb (nI b)) (hc : EV K E tc (nI c)) :
    EV K E (tChain (rI0 fun i j => .bl (g i j)) (rI0 fun i j => .bl (g' i j)) ta tb tc) (nB (g a b && g' b c)) :=
  ev_chain (p := g a b) ha hb (fun x y G H Q _ hx hy q => ⟨a, b, hx, hy, q⟩) (fun _ => hc) fun _ x y G H Q _ hx hy q => ⟨b, c, hx, hy, q⟩

/-! arguments -/
theorem ea_nil : EA K E tNil [] := fun B G0 σ G H k Q q => q [] G H (Ext.refl k.gh) .nil
theorem ea_val {tr : TA} {as : List Slot} (h : EV K E te r) (hr : EA K E tr as) : EA K E (tCons te tr) (.val r :: as) := fun B G0 σ G H k Q q =>
  h B G0 σ G H k _ fun v G1 H1 x1 r1 => hr B G0 σ G1 H1 (k.ext x1) _ fun vs G2 H2 x2 p2 => q (v :: vs) G2 H2 (x1.trans x2) (.cons (r.mono x2.g r1) p2)
theorem ea_red {tr : TA} {as : List Slot} (h : EVL K E te l) (hr : EA K E tr as) : EA K E (tCons te tr) (.red l :: as) := fun B G0 σ G H k Q q =>
  h B G0 σ G H k _ fun p vs G1 H1 x1 h1 r1 => hr B G0 σ G1 H1 (k.ext x1) _ fun ws G2 H2 x2 p2 => q (.ref p :: ws) G2 H2 (x1.trans x2) (.cons ⟨p, vs, rfl, x2.h _ _ h1, r1.mono x2.g⟩ p2)
theorem ea_scr {tr : TA} {as : List Slot} {i : Nat} {ns : List Int} (h : E[i]? = some (.scr ns)) (hr : EA K E tr as) : EA K E (tCons (tVar i) tr) (.scr ns :: as) := fun B G0 σ G H k Q q => by
  obtain ⟨o, e, p, e2, hs⟩ := P_get k.sl h
  subst e2
  exact ⟨.ref p, e, hr B G0 σ G H k _ fun ws G2 H2 x2 p2 => q (.ref p :: ws) G2 H2 x2 (.cons ⟨p, rfl, x2.h.seq (k.bh.seq hs)⟩ p2)⟩
theorem args_pr {G H : Hp} : ∀ {l : List AbsV} {vs : List V}, Paired (ArgOk K G H) (l.map Slot.val) vs → PR G vs l
  | [], _, h => by cases h; exact .nil
  | a :: l, _, h => by
    cases h with
    | cons h t => exact .cons h (args_pr t)

/-! displays -/
theorem small {n : Nat} (h : n ≤ 100000) : n ≤ sizeLine := Nat.le_trans h (by decide)
theorem smallT {n : Nat} (h : n < 100000) : n < sizeLine := Nat.lt_of_lt_of_le h (by decide)
def EAV (K : PySem.W.Frag) (E : List Slot) (ta : TA) (l : List AbsV) : Prop := EA K E ta (l.map Slot.val)
theorem eav_nil : EAV K E tNil [] := ea_nil
theorem eav_cons {tr : TA} (h : EV K E te r) (hr : EAV K E tr l) : EAV K E (tCons te tr) (r :: l) := ea_val h hr
theorem evf_lst {ta : TA} (h : EAV K E ta l) (hl : l.length ≤ 100000) : EVF K E (tLst ta) l := fun B G0 σ G H k Q q =>
  h B G0 σ G H k _ fun vs G1 H1 x1 a => by
    have pr := args_pr a
    exact ⟨by rw [pr.len]; exact small hl, fun p hp => q p vs G1 _ (x1.trans (Ext.newO x1.gh hp)) (x1.h.free hp) (x1.gh.free hp) upd_same pr⟩
theorem ev_tup {ta : TA} (h : EAV K E ta l) (hl : l.length ≤ 100000) : EV K E (tTup ta) (tuA l) := fun B G0 σ G H k Q q =>
  h B G0 σ G H k _ fun vs G1 H1 x1 a => by
    have pr := args_pr a
    exact ⟨by rw [pr.len]; exact small hl, fun p hp => q (.ref p) _ _ (x1.trans (Ext.new x1.gh hp)) ⟨p, vs, rfl, upd_same, pr.mono (Ext.new x1.gh hp).g⟩⟩

/-! calls of built-ins -/
theorem ev_cb1 {R : List V → Hp → VK → Prop} {z : AbsV} (h : EV K E te r) (hr : ∀ v G H (Q : VK), Same G H → r.rep G v → (∀ w, z.rep G w → Q w H) → R [v] H Q) : EV K E (tCB R (tCons te tNil)) z := fun B G0 σ G H k Q q =>
  h B G0 σ G H k _ fun v G1 H1 x1 r1 => hr v G1 H1 Q x1.gh r1 fun w rw' => q w G1 H1 x1 rw'
theorem ev_cb2 {R : List V → Hp → VK → Prop} {z : AbsV} (ha : EV K E ta r) (hb : EV K E tb s) (hr : ∀ v w G H (Q : VK), Same G H → r.rep G v → s.rep G w → (∀ y, z.rep G y → Q y H) → R [v, w] H Q) : EV K E (tCB R (tCons ta (tCons tb tNil))) z := fun B G0 σ G H k Q q =>
  ha B G0 σ G H k _ fun v G1 H1 x1 r1 => hb B G0 σ G1 H1 (k.ext x1) _ fun w G2 H2 x2 r2 => hr v w G2 H2 Q x2.gh (r.mono x2.g r1) r2 fun y ry => q y G2 H2 (x1.trans x2) ry
theorem ev_cbL {R : List V → Hp → VK → Prop} {z : AbsV} (h : EVL K E te l) (hr : ∀ p vs G H (Q : VK), Same G H → H p = some (.lst vs) → PR G vs l → (∀ w, z.rep G w → Q w H) → R [.ref p] H Q) : EV K E (tCB R (tCons te tNil)) z := fun B G0 σ G H k Q q =>
  h B G0 σ G H k _ fun p vs G1 H1 x1 h1 r1 => hr p vs G1 H1 Q x1.gh h1 r1 fun w rw' => q w G1 H1 x1 rw'
theorem ev_abs {a : Int} (h : EV K E te (nI a)) : EV K E (tCB (fun xs H Q => ∃ i, xs = [.int i] ∧ Q (.int (if i < 0 then -i else i)) H) (tCons te tNil)) (nI (if a < 0 then -a else a)) :=
  ev_cb1 h fun v G H Q _ e q => ⟨a, by rw [e], q _ rfl⟩
theorem ev_max2 {a b : Int} (ha : EV K E ta (nI a)) (hb : EV K E tb (nI b)) : EV K E (tCB (fun xs H Q => ∃ i j, xs = [.int i, .int j] ∧ Q (.int (if j > i then j else i)) H) (tCons ta (tCons tb tNil))) (nI (if b > a then b else a)) :=
  ev_cb2 ha hb fun v w G H Q _ e e2 q => ⟨a, b, by rw [e, e2], q _ rfl⟩
theorem ev_min2 {a b : Int} (ha : EV K E ta (nI a)) (hb : EV K E tb (nI b)) : EV K E (tCB (fun xs H Q => ∃ i j, xs = [.int i, .int j] ∧ Q (.int (if j < i then j else i)) H) (tCons ta (tCons tb tNil))) (nI (if b < a then b else a)) :=
  ev_cb2 ha hb fun v w G H Q _ e e2 q => ⟨a, b, by rw [e, e2], q _ rfl⟩
theorem ev_int1 {a : Int} (h : EV K E te (nI a)) : EV K E (tCB (fun xs H Q => (∃ i, xs = [.int i] ∧ Q (.int i) H) ∨ ∃ k, xs = [.bl k] ∧ Q (.int (if k then 1 else 0)) H) (tCons te tNil)) (nI a) :=
  ev_cb1 h fun v G H Q _ e q => .inl ⟨a, by rw [e], q _ rfl⟩
theorem ev_intB {b : Bool} (h : EV K E te (nB b)) : EV K E (tCB (fun xs H Q => (∃ i, xs = [.int i] ∧ Q (.int i) H) ∨ ∃ k, xs = [.bl k] ∧ Q (.int (if k then 1 else 0)) H) (tCons te tNil)) (nI (if b then 1 else 0)) :=
  ev_cb1 h fun v G H Q _ e q => .inr ⟨b, by rw [e], q _ rfl⟩
theorem ev_len (h : EVL K E te l) : EV K E (tCB (fun xs H Q => ∃ p ys, xs = [.ref p] ∧ (SqL K H p ys ∨ SqT K H p ys) ∧ Q (.int ys.length) H) (tCons te tNil)) (nI l.length) :=
  ev_cbL h fun p vs G H Q _ e pr q => ⟨p, vs, rfl, .inl (SqL.of e), q _ (by rw [pr.len]; rfl)⟩
theorem ev_lenT (h : EV K E te (tuA l)) : EV K E (tCB (fun xs H Q => ∃ p ys, xs = [.ref p] ∧ (SqL K H p ys ∨ SqT K H p ys) ∧ Q (.int ys.length) H) (tCons te tNil)) (nI l.length) :=
  ev_cb1 h fun v G H Q s ⟨p, vs, e, g, pr⟩ q => ⟨p, vs, by rw [e], .inr (SqT.of (s _ _ g)), q _ (by rw [pr.len]; rfl)⟩
theorem ev_lenS {i : Nat} {ns : List Int} (h : E[i]? = some (.scr ns)) : EV K E (tCB (fun xs H Q => ∃ p ys, xs = [.ref p] ∧ (SqL K H p ys ∨ SqT K H p ys) ∧ Q (.int ys.length) H) (tCons (tVar i) tNil)) (nI ns.length) := fun B G0 σ G H k Q q => by
  obtain ⟨o, e, p, e2, hs⟩ := P_get k.sl h
  subst e2
  exact ⟨.ref p, e, p, _, rfl, .inl (k.bh.seq hs), q _ G H (Ext.refl k.gh) (by rw [List.length_map]; rfl)⟩
theorem evf_list (h : EVL K E te l) : EVF K E (tCB (fun xs H Q => ∃ p ys, xs = [.ref p] ∧ (SqL K H p ys ∨ SqT K H p ys) ∧ ∀ l, H l = none → Q (.ref l) (upd H l (.lst ys))) (tCons te tNil)) l := fun B G0 σ G H k Q q =>
  h B G0 σ G H k _ fun p vs G1 H1 x1 h1 r1 => ⟨p, vs, rfl, .inl (SqL.of h1), fun z hz => q z vs G1 _ (x1.trans (Ext.newO x1.gh hz)) (x1.h.free hz) (x1.gh.free hz) upd_same r1⟩

/-! items -/
theorem ev_ixL {i : Nat} {n : Int} (ha : EVL K E ta l) (hb : EV K E tb (nI n)) (hn : n = (i : Int)) (hi : l[i]? = some r) : EV K E (tOp (rIxL K) ta tb) r := fun B G0 σ G H k Q q =>
  ha B G0 σ G H k _ fun p vs G1 H1 x1 h1 r1 => hb B G0 σ G1 H1 (k.ext x1) _ fun y G2 H2 x2 r2 => by
    obtain ⟨v, hv, rv⟩ := (r1.mono x2.g).get hi
    exact ⟨p, vs, n, v, rfl, r2, SqL.of (x2.h _ _ h1), at_of hn hv, q v G2 H2 (x1.trans x2) rv⟩
theorem atI_last {α : Type} {xs : List α} {v : α} (h : xs.getLast? = some v) : atI xs (-1) = some v := by
  rw [List.getLast?_eq_getElem?] at h
  have hl : xs.length - 1 < xs.length := by
    have := List.getElem?_eq_some_iff.mp h
    exact this.1
  unfold atI ixN
  rw [if_neg (by decide), if_pos (by omega)]
  have e : ((-1 : Int) + (xs.length : Int)).toNat = xs.length - 1 := by omega
  show xs[((-1 : Int) + (xs.length : Int)).toNat]? = some v
  rw [e]; exact h
theorem ev_ixLast {i : Nat} (ha : EVL K E ta l) (hb : EV K E tb (nI (-1))) (hi : l.getLast? = some r) : EV K E (tOp (rIxL K) ta tb) r := fun B G0 σ G H k Q q =>
  ha B G0 σ G H k _ fun p vs G1 H1 x1 h1 r1 => hb B G0 σ G1 H1 (k.ext x1) _ fun y G2 H2 x2 r2 => by
    rw [List.getLast?_eq_getElem?, ← r1.len] at hi
    obtain ⟨v, hv, rv⟩ := (r1.mono x2.g).get hi
    exact ⟨p, vs, -1, v, rfl, r2, SqL.of (x2.h _ _ h1), atI_last (by rw [List.getLast?_eq_getElem?]; exact hv), q v G2 H2 (x1.trans x2) rv⟩
theorem ev_ixT {i : Nat} {n : Int} (ha : EV K E ta (tuA l)) (hb : EV K E tb (nI n)) (hn : n = (i : Int)) (hi : l[i]? = some r) : EV K E (tOp (rIxT K) ta tb) r := fun B G0 σ G H k Q q =>
  ha B G0 σ G H k _ fun x G1 H1 x1 ⟨p, vs, e, g1, r1⟩ => hb B G0 σ G1 H1 (k.ext x1) _ fun y G2 H2 x2 r2 => by
    obtain ⟨v, hv, rv⟩ := (r1.mono x2.g).get hi
    subst e
    exact ⟨p, vs, n, v, rfl, r2, SqT.of (x2.gh _ _ (x2.g _ _ g1)), at_of hn hv, q v G2 H2 (x1.trans x2) rv⟩
end
end Ab

namespace Ab
open PySem PySem.Spec PyProof.Rows L2
section
variable {K : PySem.W.Frag} {E : List Slot} {ta tb tc te : TE} {t u : TT} {ts us : TS} {r s : AbsV} {l m : List AbsV} {A : AE}
theorem Ok.g0' {B G0 G1 G H : Hp} {σ : L2.St} (k1 : OkB B G0 G1 H) : True := trivial
theorem OkB.via {B G0 G1 H1 G H : Hp} (a : OkB B G0 G1 H1) (b : OkB B G1 G H) : OkB B G0 G H :=
  ⟨b.bh, b.gh, a.g0.trans b.g0, fun p h e => b.nb p h (a.nb p h e)⟩
theorem OkB.here {B G0 G H : Hp} (a : OkB B G0 G H) : OkB B G G H := ⟨a.bh, a.gh, Same.refl _, fun _ _ e => e⟩
theorem Ok.via {B G0 G1 H1 G H : Hp} {σ : L2.St} (a : OkB B G0 G1 H1) (b : Ok K B G1 E σ G H) : Ok K B G0 E σ G H := ⟨a.via b.toOkB, b.sl, b.ds⟩
theorem Ok.here {B G0 G H : Hp} {σ : L2.St} (a : Ok K B G0 E σ G H) : Ok K B G E σ G H := ⟨a.toOkB.here, a.sl, a.ds⟩
/-- from a later start the same ends are met -/
theorem Sat.later {B G0 G1 H1 : Hp} {D : Ends} (S : Sat K B G0 A D) (a : OkB B G0 G1 H1) : Sat K B G1 A D :=
  ⟨fun E σ G H h k => S.nx E σ G H h (k.via a), fun E σ G H h k => S.bk E σ G H h (k.via a), fun E σ G H h k => S.ct E σ G H h (k.via a),
    fun r v G H h k q => S.rtV r v G H h (a.via k) q, fun l p vs G H h k b g e pr => S.rtO l p vs G H h (a.via k) b g e pr, fun E σ G H C h k => S.ex E σ G H C h (k.via a)⟩
/-- from now on -/
theorem ES.imp {A' : AE} (h : ES K E ts A) (hn : ∀ E, A.nx E → A'.nx E) (hb : ∀ E, A.bk E → A'.bk E) (hc : ∀ E, A.ct E → A'.ct E) (hr : ∀ s, A.rt s → A'.rt s) (hx : ∀ E C, A.ex E C → A'.ex E C := by exact fun _ _ h => h) (he : A.ew = A'.ew := by rfl) : ES K E ts A' := fun B G0 σ G H D k S =>
  h B G0 σ G H D k ⟨fun E σ G H z => S.nx E σ G H (hn E z), fun E σ G H z => S.bk E σ G H (hb E z), fun E σ G H z => S.ct E σ G H (hc E z), fun r v G H z => S.rtV r v G H (hr _ z), fun l p vs G H z => S.rtO l p vs G H (hr _ z), fun E σ G H C z k => by rw [he]; exact S.ex E σ G H C (hx E C z) k⟩

theorem es_next (h : A.nx E) : ES K E tNext A := fun B G0 σ G H D k S => S.nx E σ G H h k
theorem es_break (h : A.bk E) : ES K E tBreak A := fun B G0 σ G H D k S => S.bk E σ G H h k
theorem es_cont (h : A.ct E) : ES K E tCont A := fun B G0 σ G H D k S => S.ct E σ G H h k
theorem es_seq (h : ES K E ts { A with nx := fun E' => ES K E' us A }) : ES K E (tSeq ts us) A := fun B G0 σ G H D k S =>
  h B G0 σ G H { D with nx := us D } k ⟨fun E' σ' G' H' h' k' => h' B G0 σ' G' H' D k' S, S.bk, S.ct, S.rtV, S.rtO, S.ex⟩
theorem es_asg {i : Nat} (h : EV K E te r) (q : A.nx (E.set i (.val r))) : ES K E (tAsg te (gName i)) A := fun B G0 σ G H D k S =>
  h B G0 σ G H k _ fun v G1 H1 x1 r1 => S.nx _ _ G1 H1 q ((k.ext x1).set i ⟨v, rfl, r1⟩ rfl)
theorem es_asgF {i : Nat} (h : EVF K E te l) (q : A.nx (E.set i (.own l))) : ES K E (tAsg te (gName i)) A := fun B G0 σ G H D k S =>
  h B G0 σ G H k _ fun p vs G1 H1 x1 hn g1 h1 r1 => S.nx _ _ G1 H1 q ((k.ext x1).setM i (s := .own l) ⟨p, vs, rfl, k.bh.free hn, g1, h1, r1⟩ fun j s' hj e m => k.fresh hn e m)
theorem es_drop (h : EV K E te r) (q : A.nx E) : ES K E (tDrop te) A := fun B G0 σ G H D k S =>
  h B G0 σ G H k _ fun v G1 H1 x1 r1 => S.nx _ _ G1 H1 q (k.ext x1)
theorem es_ret (h : EV K E te r) (q : A.rt (.val r)) : ES K E (tRet te) A := fun B G0 σ G H D k S =>
  h B G0 σ G H k _ fun v G1 H1 x1 r1 => S.rtV r v G1 H1 q (k.toOkB.ext x1) r1
theorem es_retN (q : A.rt (.val nN)) : ES K E tRetN A := fun B G0 σ G H D k S => S.rtV _ _ G H q k.toOkB rfl
theorem es_retF (h : EVF K E te l) (q : A.rt (.own l)) : ES K E (tRet te) A := fun B G0 σ G H D k S =>
  h B G0 σ G H k _ fun p vs G1 H1 x1 hn g1 h1 r1 => S.rtO l p vs G1 H1 q (k.toOkB.ext x1) (k.bh.free hn) g1 h1 r1
theorem es_retO {i : Nat} (h : E[i]? = some (.own l)) (q : A.rt (.own l)) : ES K E (tRet (tVar i)) A := fun B G0 σ G H D k S => by
  obtain ⟨o, e, p, vs, e2, b, g, hh, pr⟩ := P_get k.sl h
  subst e2
  exact ⟨.ref p, e, S.rtO l p vs G H q k.toOkB b g hh pr⟩
theorem es_if {b : Bool} (h : ET K E t b) (h1 : b = true → ES K E ts A) (h2 : b = false → ES K E us A) : ES K E (tIfS t ts us) A := fun B G0 σ G H D k S =>
  h B G0 σ G H k _ fun G1 H1 x1 => by
    cases b with
    | true => exact h1 rfl B G0 σ G1 H1 D (k.ext x1) S
    | false => exact h2 rfl B G0 σ G1 H1 D (k.ext x1) S
theorem es_aug {i : Nat} {f : Int → Int → Int} {a b : Int} (hx : E[i]? = some (.val (nI a))) (h : EV K E te (nI b)) (q : A.nx (E.set i (.val (nI (f a b))))) : ES K E (tAug i te (ipI f)) A := fun B G0 σ G H D k S => by
  obtain ⟨o, e, v, e2, rv⟩ := P_get k.sl hx
  subst e2
  cases rv
  exact ⟨.int a, e, h B G0 σ G H k _ fun v G1 H1 x1 r1 => ⟨a, b, rfl, r1, S.nx _ _ G1 H1 q ((k.ext x1).set i ⟨_, rfl, rfl⟩ rfl)⟩⟩
/-- an own list is known for good from now on -/
theorem es_freeze {i : Nat} (h : E[i]? = some (.own l)) (q : ES K (E.set i (.val (lsA l))) ts A) : ES K E ts A := fun B G0 σ G H D k S => by
  obtain ⟨o, e, p, vs, e2, b, g, hh, pr⟩ := P_get k.sl h
  subst e2
  have sg : Same G (upd G p (.lst vs)) := fun b u e => by rw [upd_ne (ne_of_none e g)]; exact e
  exact q B G0 σ _ H D (k.freezeM h rfl e hh ⟨p, vs, rfl, upd_same, pr.mono sg⟩) S
theorem es_freezeD {i : Nat} {kvs : List (Key × AbsV)} (h : E[i]? = some (.dic kvs)) (q : ES K (E.set i (.val (dcA kvs))) ts A) : ES K E ts A := fun B G0 σ G H D k S => by
  obtain ⟨o, e, p, vs, e2, b, g, hh, pr⟩ := P_get k.sl h
  subst e2
  have sg : Same G (upd G p (.dK vs)) := fun b u e => by rw [upd_ne (ne_of_none e g)]; exact e
  exact q B G0 σ _ H D (k.freezeM h rfl e hh ⟨p, vs, rfl, upd_same, pr.mono sg⟩) S
theorem es_freezeI {i : Nat} {p C : Addr} {fs : List (Str × AbsV)} (h : E[i]? = some (.ins p C fs)) (q : ES K (E.set i (.val (iaA p C fs))) ts A) : ES K E ts A := fun B G0 σ G H D k S => by
  obtain ⟨o, e, dx, vs, e2, b, g, hh, pr⟩ := P_get k.sl h
  subst e2
  have sg : Same G (upd G p (.ins C dx vs)) := fun b u e => by rw [upd_ne (ne_of_none e g)]; exact e
  exact q B G0 σ _ H D (k.freezeM h rfl e hh ⟨rfl, dx, vs, upd_same, pr.mono sg⟩) S
/-- an own list changes -/
theorem Ok.upd {B G0 G H : Hp} {σ : L2.St} {i : Nat} {p : Addr} {vs : List V} (k : Ok K B G0 E σ G H) (h : E[i]? = some (.own l)) (e : σ[i]? = some (some (.ref p))) (pr : PR G vs m) : Ok K B G0 (E.set i (.own m)) σ G (upd H p (.lst vs)) := by
  obtain ⟨o, eO, pO, ws, e2, b, g, hh, _⟩ := P_get k.sl h
  have e3 : some (V.ref p) = some (V.ref pO) := by rw [e] at eO; rw [← e2]; exact Option.some.inj eO
  cases e3
  exact k.updM h rfl e ⟨p, vs, rfl, b, g, upd_same, pr⟩
theorem es_app {i : Nat} (hx : E[i]? = some (.own l)) (h : EV K E te r) (hl : l.length < 100000) (q : A.nx (E.set i (.own (l ++ [r])))) : ES K E (tDrop (tBM K "list" rAppend (tVar i) (tCons te tNil))) A := fun B G0 σ G H D k S => by
  obtain ⟨o, e, p, vs, e2, b, g, hh, pr⟩ := P_get k.sl hx
  subst e2
  refine ⟨.ref p, e, .inl ⟨rfl, _, SqL.of hh⟩, h B G0 σ G H k _ fun v G1 H1 x1 r1 => ?_⟩
  have k1 := k.ext x1
  exact ⟨p, vs, v, rfl, rfl, x1.h _ _ hh, by rw [pr.len]; exact smallT hl, S.nx _ _ _ _ q (k1.upd hx e ((pr.mono x1.g).append (.cons r1 .nil)))⟩
end
end Ab

namespace Ab
open PySem PySem.Spec PyProof.Rows L2
section
variable {K : PySem.W.Frag} {E : List Slot} {ta tb tc te : TE} {t u : TT} {ts us : TS} {r s : AbsV} {l m : List AbsV} {A : AE}
/-! loops -/
/-- the ends of a loop's turn -/
abbrev AE.turn (A : AE) (P : List Slot → Prop) : AE := { nx := P, ct := P, bk := A.nx, rt := A.rt, ex := A.ex, ew := A.ew }
theorem sat_turn {B G0 G1 H1 : Hp} {D : Ends} {P : List Slot → Prop} {N : L2.St → Hp → Prop} (S : Sat K B G0 A D) (o : OkB B G0 G1 H1) (h : ∀ E σ G H, P E → Ok K B G1 E σ G H → N σ H) : Sat K B G1 (A.turn P) { D with nx := N, ct := N, bk := D.nx } :=
  ⟨h, (S.later o).nx, h, (S.later o).rtV, (S.later o).rtO, (S.later o).ex⟩
/-- a target is stored to: what the slots are then -/
def GT (K : PySem.W.Frag) (g : TG) (r : AbsV) (E E' : List Slot) : Prop := ∀ (B G0 : Hp) (σ : L2.St) (G H : Hp) (v : V), Ok K B G0 E σ G H → r.rep G v → ∀ Q : L2.St → Hp → Prop, (∀ σ', Ok K B G0 E' σ' G H → Q σ' H) → g v σ H Q
theorem gt_name {i : Nat} : GT K (gName i) r E (E.set i (.val r)) := fun B G0 σ G H v k rv Q q => q _ (k.set i ⟨v, rfl, rv⟩ rfl)
def GTs (K : PySem.W.Frag) (g : TGs) (l : List AbsV) (E E' : List Slot) : Prop := ∀ (B G0 : Hp) (σ : L2.St) (G H : Hp) (vs : List V), Ok K B G0 E σ G H → PR G vs l → ∀ Q : L2.St → Hp → Prop, (∀ σ', Ok K B G0 E' σ' G H → Q σ' H) → g vs σ H Q
theorem gts_nil : GTs K gNil [] E E := fun B G0 σ G H vs k pr Q q => by
  cases pr
  exact ⟨rfl, q σ k⟩
theorem gts_cons {g : TG} {gs : TGs} {E1 E2 : List Slot} (h : GT K g r E E1) (hs : GTs K gs l E1 E2) : GTs K (gCons g gs) (r :: l) E E2 := fun B G0 σ G H vs k pr Q q => by
  cases pr with
  | cons a t => exact ⟨_, _, rfl, h B G0 σ G H _ k a _ fun σ' k' => hs B G0 σ' G H _ k' t Q q⟩
theorem gt_tup {n : Nat} {gs : TGs} {E' : List Slot} (h : GTs K gs l E E') (hn : l.length = n := by rfl) : GT K (gTup K n gs) (tuA l) E E' := fun B G0 σ G H v k ⟨p, vs, e, g, pr⟩ Q q =>
  ⟨p, vs, e, SqT.of (k.gh _ _ g), by rw [pr.len]; exact hn, h B G0 σ G H vs k pr Q q⟩
/-- target = e -/
theorem es_asgG {g : TG} {E' : List Slot} (h : EV K E te r) (hg : GT K g r E E') (q : A.nx E') : ES K E (tAsg te g) A := fun B G0 σ G H D k S =>
  h B G0 σ G H k _ fun v G1 H1 x1 r1 => hg B G0 σ G1 H1 v (k.ext x1) r1 _ fun σ' k' => S.nx _ _ G1 H1 q k'
/-- over a range -/
theorem es_forR {lo : Int} {n : Nat} {wi : TI} {g : TG} (P : Nat → List Slot → Prop) (hw : ∀ (B G0 : Hp) (σ : L2.St) (G H : Hp), Ok K B G0 E σ G H → ∀ R : It → Hp → Prop, (∀ G' H', Ext G H G' H' → R (Itr lo n) H') → wi σ H R)
    (h0 : P 0 E) (hs : ∀ i E', i < n → P i E' → ∃ E2, GT K g (nI (lo + i)) E' E2 ∧ ES K E2 ts (A.turn (P (i + 1)))) (hd : ∀ E', P n E' → A.nx E') : ES K E (tFor wi g ts) A := fun B G0 σ G H D k S =>
  hw B G0 σ G H k _ fun G1 H1 x1 => by
    have k1 := k.ext x1
    refine for_range (fun i σ' H' => ∃ E' G', P i E' ∧ Ok K B G1 E' σ' G' H') ⟨E, G1, h0, k1.here⟩ ?_ ?_
    · rintro i σ' H' hi ⟨E', G', hp, k'⟩
      obtain ⟨E2, hg, hb⟩ := hs i E' hi hp
      refine hg B G1 σ' G' H' _ k' rfl _ fun σ2 k2 => ?_
      refine hb B G1 σ2 G' H' _ k2 (sat_turn S k1.toOkB fun E3 σ3 G3 H3 h3 k3 => ⟨E3, G3, h3, k3⟩)
    · rintro σ' H' ⟨E', G', hp, k'⟩
      exact S.nx E' σ' G' H' (hd E' hp) (k'.via k1.toOkB)
theorem w_range1 {a : Int} (h : EV K E te (nI a)) (h1 : -(2 ^ 62) ≤ a) (h2 : a < 2 ^ 62) : ∀ (B G0 : Hp) (σ : L2.St) (G H : Hp), Ok K B G0 E σ G H → ∀ R : It → Hp → Prop, (∀ G' H', Ext G H G' H' → R (Itr 0 a.toNat) H') → iRng1 (tCons te tNil) σ H R := fun B G0 σ G H k R q =>
  h B G0 σ G H k _ fun v G1 H1 x1 r1 => ⟨a, by rw [r1], h1, h2, q G1 H1 x1⟩
theorem w_range2 {a b : Int} (ha : EV K E ta (nI a)) (hb : EV K E tb (nI b)) (h1 : -(2 ^ 62) ≤ a ∧ a < 2 ^ 62 ∧ -(2 ^ 62) ≤ b ∧ b < 2 ^ 62) : ∀ (B G0 : Hp) (σ : L2.St) (G H : Hp), Ok K B G0 E σ G H → ∀ R : It → Hp → Prop, (∀ G' H', Ext G H G' H' → R (Itr a (b - a).toNat) H') → iRng2 (tCons ta (tCons tb tNil)) σ H R := fun B G0 σ G H k R q =>
  ha B G0 σ G H k _ fun v G1 H1 x1 r1 => hb B G0 σ G1 H1 (k.ext x1) _ fun w G2 H2 x2 r2 => ⟨a, b, by rw [r1, r2], h1, q G2 H2 (x1.trans x2)⟩
/-- a list that stays as it is: known for good, or from ahead of the frame -/
def EVS (K : PySem.W.Frag) (E : List Slot) (te : TE) (l : List AbsV) : Prop := ∀ (B G0 : Hp) (σ : L2.St) (G H : Hp), Ok K B G0 E σ G H → ∀ Q : VK, (∀ p vs G' H', Ext G H G' H' → (G' p = some (.lst vs) ∨ B p = some (.lst vs)) → PR G' vs l → Q (.ref p) H') → te σ H Q
theorem EV.evs (h : EV K E te (lsA l)) : EVS K E te l := fun B G0 σ G H k Q q => h B G0 σ G H k Q fun v G' H' x ⟨p, vs, e, g, pr⟩ => by
  subst e
  exact q p vs G' H' x (.inl g) pr
theorem EVF.evs (h : EVF K E te l) : EVS K E te l := h.ev.evs
theorem evs_red {i : Nat} (h : E[i]? = some (.red l)) : EVS K E (tVar i) l := fun B G0 σ G H k Q q => by
  obtain ⟨o, e, p, vs, e2, b, pr⟩ := P_get k.sl h
  subst e2
  exact ⟨.ref p, e, q p vs G H (Ext.refl k.gh) (.inr b) pr⟩
theorem EVS.is (h : EVS K E te l) (e : l = m) : EVS K E te m := by
  rw [← e]; exact h
/-- over a list that stays -/
theorem es_forL {g : TG} (P : Nat → List Slot → Prop) (hw : EVS K E te l)
    (h0 : P 0 E) (hs : ∀ i r E', l[i]? = some r → P i E' → ∃ E2, GT K g r E' E2 ∧ ES K E2 ts (A.turn (P (i + 1)))) (hd : ∀ E', P l.length E' → A.nx E') : ES K E (tFor (iList K te) g ts) A := fun B G0 σ G H D k S =>
  hw B G0 σ G H k _ fun p vs G1 H1 x1 st pr => by
    have k1 := k.ext x1
    have stay : ∀ {G' H' : Hp}, OkB B G1 G' H' → H' p = some (.lst vs) := fun {G' H'} o => by
      rcases st with st | st
      · exact o.gh _ _ (o.g0 _ _ st)
      · exact o.bh _ _ st
    refine ⟨p, rfl, ⟨vs, SqL.of (stay k1.toOkB.here)⟩, ?_⟩
    refine for_list (K := K) (a := p) (xs := vs) (fun i σ' H' => ∃ E' G', P i E' ∧ Ok K B G1 E' σ' G' H') ⟨E, G1, h0, k1.here⟩ ?_ ?_ ?_
    · rintro i σ' H' _ ⟨E', G', hp, k'⟩
      exact SqL.of (stay k'.toOkB)
    · rintro i x σ' H' hi ⟨E', G', hp, k'⟩
      obtain ⟨r, hr, rv⟩ := PR.get' (pr.mono k'.g0) hi
      obtain ⟨E2, hg, hb⟩ := hs i r E' hr hp
      refine hg B G1 σ' G' H' _ k' rv _ fun σ2 k2 => ?_
      refine hb B G1 σ2 G' H' _ k2 (sat_turn S k1.toOkB fun E3 σ3 G3 H3 h3 k3 => ⟨E3, G3, h3, k3⟩)
    · rintro σ' H' ⟨E', G', hp, k'⟩
      rw [pr.len] at hp
      exact S.nx E' σ' G' H' (hd E' hp) (k'.via k1.toOkB)
/-- while -/
theorem es_while (W : Nat → List Slot → Prop) (m0 : Nat) (h0 : W m0 E) (hs : ∀ m E', W m E' → ∃ b, ET K E' t b ∧ (b = true → ES K E' ts (A.turn fun E2 => ∃ m', m' < m ∧ W m' E2)) ∧ (b = false → A.nx E')) : ES K E (tWhile t ts) A := fun B G0 σ G H D k S => by
  refine ⟨fun m σ' H' => ∃ E' G', W m E' ∧ Ok K B G E' σ' G' H', ⟨m0, E, G, h0, k.here⟩, ?_⟩
  rintro m σ' H' ⟨E', G', w, k'⟩
  obtain ⟨b, ht, h1, h2⟩ := hs m E' w
  refine ht B G σ' G' H' k' _ fun G2 H2 x2 => ?_
  have k2 := k'.ext x2
  cases b with
  | true =>
    rw [if_pos rfl]
    refine ⟨fun σ3 H3 => ∃ m', m' < m ∧ ∃ E3 G3, W m' E3 ∧ Ok K B G E3 σ3 G3 H3, fun σ3 H3 ⟨m', lt, E3, G3, w3, k3⟩ => ⟨m', lt, E3, G3, w3, k3⟩, ?_⟩
    exact h1 rfl B G σ' G2 H2 _ k2 (sat_turn S k.toOkB fun E3 σ3 G3 H3 ⟨m', lt, w3⟩ k3 => ⟨m', lt, E3, G3, w3, k3⟩)
  | false =>
    rw [if_neg Bool.false_ne_true]
    exact S.nx E' σ' G2 H2 (h2 rfl) (k2.via k.toOkB)
/-! comprehensions -/
def wipeE (E : List Slot) : List Nat → List Slot
  | [] => E
  | v :: vs => (wipeE E vs).set v .un
theorem Ok.wipe {B G0 G H : Hp} {σ : L2.St} (k : Ok K B G0 E σ G H) : ∀ vs : List Nat, Ok K B G0 (wipeE E vs) (wipe σ vs) G H
  | [] => k
  | v :: vs => (Ok.wipe k vs).set v trivial rfl
theorem wipe_set {σ : L2.St} {i : Nat} {v : V} : wipe ((wipe σ [i]).set i (some v)) [i] = wipe σ [i] := by
  show (((σ.set i none).set i (some v)).set i none) = σ.set i none
  rw [List.set_set, List.set_set]
/-- a thing that nobody ahead knew changes -/
theorem Ext.mut {G H G' H' : Hp} {D : Addr} {o : HO} (x : Ext G H G' H') (h : H D = none) (g : G' D = none) : Ext G H G' (upd H' D o) :=
  ⟨x.g, fun b u e => by rw [upd_ne (ne_of_none e h)]; exact x.h b u e, fun b u e => by rw [upd_ne (ne_of_none e g)]; exact x.gh b u e, x.n⟩
/-- the items of the new list after j turns -/
def accL (bs : Nat → Bool) (els : Nat → AbsV) (j : Nat) : List AbsV := ((List.range j).filter bs).map els
theorem accL_succ (bs : Nat → Bool) (els : Nat → AbsV) (j : Nat) : accL bs els (j + 1) = accL bs els j ++ (if bs j = true then [els j] else []) := by
  unfold accL
  rw [List.range_succ, List.filter_append, List.map_append]
  cases e : bs j <;> simp [e]
theorem accL_len (bs : Nat → Bool) (els : Nat → AbsV) (j : Nat) : (accL bs els j).length ≤ j := by
  unfold accL
  rw [List.length_map]
  exact Nat.le_trans (List.length_filter_le _ _) (by rw [List.length_range]; exact Nat.le_refl _)
def LcP (G1 H1 : Hp) (D : Addr) (bs : Nat → Bool) (els : Nat → AbsV) (j : Nat) (H : Hp) : Prop := ∃ G vs, Ext G1 H1 G H ∧ G D = none ∧ H D = some (.lst vs) ∧ PR G vs (accL bs els j)
theorem lc_turn {B G0 G1 H1 H : Hp} {σ : L2.St} {D : Addr} {v : V} {g : TG} {tt : TT} {E' : List Slot} {ix : List Nat} {item : AbsV} {bs : Nat → Bool} {els : Nat → AbsV} {j : Nat} (k : Ok K B G0 E σ G1 H1) (hD : H1 D = none)
    (hj : j < 100000) (hg : ∀ (G H : Hp), Ok K B G0 (wipeE E ix) (wipe σ ix) G H → item.rep G v → ∀ Q : L2.St → Hp → Prop, (∀ σ', wipe σ' ix = wipe σ ix → Ok K B G0 E' σ' G H → Q σ' H) → g v (wipe σ ix) H Q)
    (ht : ET K E' tt (bs j)) (he : bs j = true → EV K E' te (els j)) (hv : ∀ G, Same G1 G → item.rep G v) (hp : LcP G1 H1 D bs els j H) :
    g v (wipe σ ix) H fun σ2 H2 => wipe σ2 ix = wipe σ ix ∧ tt σ2 H2 fun b H3 => if b = true then te σ2 H3 fun y H4 => ∃ a, H4 D = some (.lst a) ∧ a.length < sizeLine ∧ LcP G1 H1 D bs els (j + 1) (upd H4 D (.lst (a ++ [y]))) else LcP G1 H1 D bs els (j + 1) H3 := by
  obtain ⟨G, vs, x, gD, hD', pr⟩ := hp
  have nz : H D ≠ none := by rw [hD']; exact fun z => by cases z
  refine hg G H (Ok.wipe (k.ext x) ix) (hv G x.g) _ fun σ' hs k' => ⟨hs, ht B G0 _ G H k' _ fun G2 H2 x2 => ?_⟩
  cases e : bs j with
  | true =>
    rw [if_pos rfl]
    refine he e B G0 _ G2 H2 (k'.ext x2) _ fun y G3 H3 x3 ry => ?_
    have x23 := x2.trans x3
    have g3 : G3 D = none := x23.n D nz gD
    refine ⟨vs, x23.h _ _ hD', ?_, G3, vs ++ [y], (x.trans x23).mut hD g3, g3, upd_same, ?_⟩
    · rw [pr.len]
      exact smallT (Nat.lt_of_le_of_lt (accL_len _ _ _) hj)
    · rw [accL_succ, if_pos e]
      exact (pr.mono x23.g).append (.cons ry .nil)
  | false =>
    rw [if_neg Bool.false_ne_true]
    refine ⟨G2, vs, x.trans x2, x2.n D nz gD, x2.h _ _ hD', ?_⟩
    rw [accL_succ, e, if_neg Bool.false_ne_true, List.append_nil]
    exact pr.mono x2.g
theorem lc_zero {B G0 G1 H1 : Hp} {σ : L2.St} {D : Addr} {bs : Nat → Bool} {els : Nat → AbsV} (k : Ok K B G0 E σ G1 H1) (hD : H1 D = none) : LcP G1 H1 D bs els 0 (upd H1 D (.lst [])) :=
  ⟨G1, [], Ext.newO k.gh hD, k.gh.free hD, upd_same, .nil⟩
theorem lc_name {B G0 : Hp} {σ : L2.St} {i : Nat} {v : V} (G H : Hp) (k : Ok K B G0 (wipeE E [i]) (wipe σ [i]) G H) (h : r.rep G v) (Q : L2.St → Hp → Prop) (q : ∀ σ', wipe σ' [i] = wipe σ [i] → Ok K B G0 ((wipeE E [i]).set i (.val r)) σ' G H → Q σ' H) : gName i v (wipe σ [i]) H Q :=
  q _ wipe_set (k.set i ⟨v, rfl, h⟩ rfl)
/-- [e for x in range(..) if ..] -/
theorem evf_lcR {lo : Int} {n : Nat} {wi : TI} {i : Nat} {tt : TT} (hw : ∀ (B G0 : Hp) (σ : L2.St) (G H : Hp), Ok K B G0 E σ G H → ∀ R : It → Hp → Prop, (∀ G' H', Ext G H G' H' → R (Itr lo n) H') → wi σ H R) (bs : Nat → Bool) (els : Nat → AbsV) (hn : n ≤ 100000)
    (ht : ∀ j, j < n → ET K ((wipeE E [i]).set i (.val (nI (lo + j)))) tt (bs j)) (he : ∀ j, j < n → bs j = true → EV K ((wipeE E [i]).set i (.val (nI (lo + j)))) te (els j)) :
    EVF K E (tLc wi (gName i) tt te [i]) (accL bs els n) := fun B G0 σ G H k Q q =>
  hw B G0 σ G H k _ fun G1 H1 x1 D hD => by
    have k1 := k.ext x1
    refine lc_range (LcP G1 H1 D bs els) (lc_zero k1 hD) (fun j H' hj hp => lc_turn (item := nI (lo + j)) k1 hD (Nat.lt_of_lt_of_le hj hn) (fun G H kk hh Q q => lc_name G H kk hh Q q) (ht j hj) (he j hj) (fun _ _ => rfl) hp) fun H' hp => ?_
    obtain ⟨G', vs, x, gD, hD', pr⟩ := hp
    exact q D vs G' H' (x1.trans x) (x1.h.free hD) gD hD' pr
/-- [e for x in xs if ..], xs a list that stays -/
theorem evf_lcL {i : Nat} {tt : TT} (hw : EVS K E ta l) (bs : Nat → Bool) (els : Nat → AbsV) (hn : l.length ≤ 100000)
    (ht : ∀ j r, l[j]? = some r → ET K ((wipeE E [i]).set i (.val r)) tt (bs j)) (he : ∀ j r, l[j]? = some r → bs j = true → EV K ((wipeE E [i]).set i (.val r)) te (els j)) :
    EVF K E (tLc (iList K ta) (gName i) tt te [i]) (accL bs els l.length) := fun B G0 σ G H k Q q =>
  hw B G0 σ G H k _ fun p vs G1 H1 x1 st pr => by
    have k1 := k.ext x1
    have sH : H1 p = some (.lst vs) := by
      rcases st with st | st
      · exact x1.gh _ _ st
      · exact k1.bh _ _ st
    refine ⟨p, rfl, ⟨vs, SqL.of sH⟩, fun D hD => ?_⟩
    refine lc_list (K := K) (a := p) (xs := vs) (LcP G1 H1 D bs els) (lc_zero k1 hD) (fun j H' _ hp => ?_) (fun j x H' hj hp => ?_) fun H' hp => ?_
    · obtain ⟨G', ws, x, _⟩ := hp
      exact SqL.of (x.h _ _ sH)
    · obtain ⟨r, hr, rv⟩ := PR.get' pr hj
      exact lc_turn (item := r) k1 hD (Nat.lt_of_lt_of_le (List.getElem?_eq_some_iff.mp hr).1 hn) (fun G H kk hh Q q => lc_name G H kk hh Q q) (ht j r hr) (he j r hr) (fun G s => r.mono s rv) hp
    · obtain ⟨G', ws, x, gD, hD', pr'⟩ := hp
      rw [pr.len] at pr'
      exact q D ws G' H' (x1.trans x) (x1.h.free hD) gD hD' pr'
theorem et_yes : ET K E tYes true := fun B G0 σ G H k Q q => q G H (Ext.refl k.gh)
end

/-! calls of defs -/
def ResOk (G H G' H' : Hp) : Slot → V → Prop
  | .val r, v => r.rep G' v
  | .own l, v => ∃ p vs, v = .ref p ∧ H p = none ∧ G' p = none ∧ H' p = some (.lst vs) ∧ PR G' vs l
  | _, _ => False
/-- a promise: for such arguments this result; all that stood stands -/
def spX (K : PySem.W.Frag) {X : Type} (args : X → List Slot) (pre : X → Prop) (res : X → Slot) : Sp := fun vs H Q _ => ∃ (x : X) (G : Hp), pre x ∧ Same G H ∧ Paired (ArgOk K G H) (args x) vs ∧ ∀ v G' H', Ext G H G' H' → ResOk G H G' H' (res x) v → Q v H'
section
variable {K : PySem.W.Frag} {E : List Slot} {te : TE} {ta : TA} {r : AbsV} {l : List AbsV} {X : Type} {args : X → List Slot} {pre : X → Prop} {res : X → Slot} {Ex0 : XK}
theorem ev_call (x : X) (h : EA K E ta (args x)) (hp : pre x) (hr : res x = .val r) : EV K E (tCall (spX K args pre res) [] Ex0 ta) r := fun B G0 σ G H k Q q =>
  h B G0 σ G H k _ fun vs G1 H1 x1 a => ⟨x, G1, hp, x1.gh, by rw [List.append_nil]; exact a, fun v G2 H2 x2 rv => q v G2 H2 (x1.trans x2) (by rw [hr] at rv; exact rv)⟩
theorem evf_call (x : X) (h : EA K E ta (args x)) (hp : pre x) (hr : res x = .own l) : EVF K E (tCall (spX K args pre res) [] Ex0 ta) l := fun B G0 σ G H k Q q =>
  h B G0 σ G H k _ fun vs G1 H1 x1 a => ⟨x, G1, hp, x1.gh, by rw [List.append_nil]; exact a, fun v G2 H2 x2 rv => by
    rw [hr] at rv
    obtain ⟨p, ws, e, h1, g2, h2, pr⟩ := rv
    subst e
    exact q p ws G2 H2 (x1.trans x2) (x1.h.free h1) g2 h2 pr⟩
end
/-- the ends of a def that hands back s -/
def AR (s : Slot) : AE := { nx := fun _ => s = .val nN, bk := fun _ => False, ct := fun _ => False, rt := fun s' => s' = s }
section
variable {P : Program} {w : World} {K : PySem.W.Frag} {mg : Str → Option Value} {base : Heap}
theorem P_app {α β : Type} {F : α → β → Prop} : ∀ {as as' : List α} {bs bs' : List β}, Paired F as bs → Paired F as' bs' → Paired F (as ++ as') (bs ++ bs')
  | _, _, _, _, .nil, h => h
  | _, _, _, _, .cons a t, h => .cons a (P_app t h)
theorem slots_start {K : PySem.W.Frag} {G H : Hp} : ∀ {as : List Slot} {vs : List V}, Paired (ArgOk K G H) as vs → Paired (SlotOk K H G H) as (vs.map some)
  | _, _, .nil => .nil
  | s :: as, v :: vs, .cons a t => .cons (by
      cases s with
      | un => trivial
      | val r => exact ⟨v, rfl, a⟩
      | own l => exact a.elim
      | red l => obtain ⟨p, ws, e, h, pr⟩ := a; exact ⟨p, ws, by rw [e], h, pr⟩
      | scr ns => obtain ⟨p, e, h⟩ := a; exact ⟨p, by rw [e], h⟩
      | dic _ => exact a.elim
      | ins _ _ _ => exact a.elim) (slots_start t)
theorem slots_un {K : PySem.W.Frag} {B G H : Hp} : ∀ n : Nat, Paired (SlotOk K B G H) (List.replicate n Slot.un) (List.replicate n (none : Option V))
  | 0 => .nil
  | n + 1 => .cons trivial (slots_un n)
theorem no_mut {K : PySem.W.Frag} {G H : Hp} : ∀ {as : List Slot} {vs : List V} {i : Nat} {s : Slot}, Paired (ArgOk K G H) as vs → as[i]? = some s → s.mut = false
  | _, _, i, s, .nil, h => by simp at h
  | s' :: as, v :: vs, 0, s, .cons a t, h => by
    have e : s' = s := Option.some.inj h
    subst e
    cases s' with
    | own _ => exact a.elim
    | dic _ => exact a.elim
    | ins _ _ _ => exact a.elim
    | _ => rfl
  | s' :: as, v :: vs, i + 1, s, .cons a t, h => no_mut t (i := i) h
theorem start_ok {G H : Hp} {as : List Slot} {vs : List V} (gh : Same G H) (a : Paired (ArgOk K G H) as vs) (n : Nat) : Ok K H G (as ++ List.replicate n .un) (vs.map some ++ List.replicate n none) G H :=
  ⟨⟨Same.refl _, gh, Same.refl _, fun _ _ e => e⟩, P_app (slots_start a) (slots_un n), fun i j p s s' ea _ ms => by
    have hf : s.mut = false := by
      by_cases hi : i < as.length
      · rw [List.getElem?_append_left hi] at ea; exact no_mut a ea
      · rw [List.getElem?_append_right (by omega)] at ea
        have := List.mem_of_getElem? ea
        have := (List.mem_replicate.mp this).2
        rw [this]; rfl
    rw [hf] at ms; cases ms⟩
/-- THE RULE for a def of the text -/
theorem okA {X : Type} {args : X → List Slot} {pre : X → Prop} {res : X → Slot} {x qual : Str} {st : Stmt} {f : Addr} {fd : FuncData} {N ps : List Str} {k : Nat} (F : Fun K x qual st f fd) (S : FnScope N ps (defScope st)) (la : ∀ x, (args x).length = ps.length)
    (hb : ∀ (cdv : Value) (A : Around) (outer : List Env) (s : Shared) (H : Hp) (E : XK), Room k (A.deeper (envOfC qual (defScope st) s.heap.objs.size f cdv)) →
      ∃ t, PSs (cxOf CX0 P w K mg base N qual (defScope st) f cdv A outer s H E).nox (defBody st) t ∧ ∀ x, pre x → ES K (args x ++ List.replicate (N.length - ps.length) .un) t (AR (res x))) : FnOk P w K mg base CX0 (k + 1) f fd ps (spX K args pre res) := by
  refine F.ok S (fun vs H Q E h => ?_) fun cdv A outer s H vs Q E hr h => ?_
  · obtain ⟨x, G, _, _, a, _⟩ := h
    rw [← P_len a, la]
  · obtain ⟨t, ht, he⟩ := hb cdv A outer s H E hr
    obtain ⟨x, G, hp, gh, a, q⟩ := h
    refine ⟨t, ht, ?_⟩
    have lv : vs.length = ps.length := by rw [← P_len a, la]
    unfold L2.start
    rw [lv]
    refine he x hp H G _ G H _ (start_ok gh a _) ⟨fun E σ G' H' h' k' => ?_, fun _ _ _ _ h' _ => h'.elim, fun _ _ _ _ h' _ => h'.elim, fun r v G' H' h' k' rv => ?_, fun l p ws G' H' h' k' b g e pr => ?_, fun _ _ _ _ _ h' _ => h'.elim⟩
    · refine q _ G' H' ⟨k'.g0, k'.bh, k'.gh, k'.nb⟩ ?_
      rw [h']; exact rfl
    · refine q _ G' H' ⟨k'.g0, k'.bh, k'.gh, k'.nb⟩ ?_
      have h2 : Slot.val r = res x := h'
      rw [← h2]; exact rv
    · refine q _ G' H' ⟨k'.g0, k'.bh, k'.gh, k'.nb⟩ ?_
      have h2 : Slot.own l = res x := h'
      rw [← h2]; exact ⟨p, ws, rfl, b, g, e, pr⟩
end
end Ab

namespace Ab
open PySem PySem.Spec PyProof.Rows L2
/-- a def that may be called by its name -/
structure Cal (P : Program) (w : World) (K : PySem.W.Frag) (mg : Str → Option Value) (base : Heap) (k : Nat) (x : Str) (sp : Sp) : Prop where
  ex : ∃ (f : Addr) (fd : FuncData) (ps : List Str), FnOk P w K mg base CX0 k f fd ps sp ∧ mg x = some (.ref f) ∧ PySem.W.keepIn K (.ref f) = true ∧ Binds K fd ps []
/-- a def of the text as it stands behind the top -/
structure DefAt (K : PySem.W.Frag) (mg : Str → Option Value) (x : Str) (st : Stmt) (ps : List Str) : Prop where
  ex : ∃ (f : Addr) (fd : FuncData), Fun K x x st f fd ∧ mg x = some (.ref f) ∧ Binds K fd ps []
section
variable {X : Cx} {e : Expr} {es : List Expr} {t : TA} {p pos : Pos} {sp : Sp} {x : Str} {j k : Nat}
theorem pe_ca (c : Cal X.prog X.w X.K X.mg X.base k x sp) (hr : Room j X.A) (hk : k ≤ j) (hg : Gl X x) (ha : PA X (e :: es) t)
    (hdb : (x == ("__debug__" : Str)) = false := by decide) (he : starEach (e :: es) X.env = (false, eval e X.env) :: starEach es X.env := by rfl) (hpl : (backTo pos (starEach es X.env)).any (·.1) = false := by rfl) :
    PE X (.Call (.Name x p) (e :: es) [] pos) (tCall sp [] E0 t) := by
  obtain ⟨f, fd, ps, F, hm, kp, b⟩ := c.ex
  exact pe_call F (hr.mono hk) hg hm kp b .nil pass0 ha hdb he hpl
end
section
variable {P : Program} {w : World} {K : PySem.W.Frag} {mg : Str → Option Value} {base : Heap}
theorem calA {X : Type} {args : X → List Slot} {pre : X → Prop} {res : X → Slot} {x : Str} {st : Stmt} {N ps : List Str} {k : Nat} (d : DefAt K mg x st ps) (S : FnScope N ps (defScope st)) (la : ∀ x, (args x).length = ps.length)
    (hb : ∀ (f : Addr) (cdv : Value) (A : Around) (outer : List Env) (s : Shared) (H : Hp) (E : XK), Room k (A.deeper (envOfC x (defScope st) s.heap.objs.size f cdv)) →
      ∃ t, PSs (cxOf CX0 P w K mg base N x (defScope st) f cdv A outer s H E).nox (defBody st) t ∧ ∀ x, pre x → ES K (args x ++ List.replicate (N.length - ps.length) .un) t (AR (res x))) : Cal P w K mg base (k + 1) x (spX K args pre res) := by
  obtain ⟨f, fd, F, hm, b⟩ := d.ex
  exact ⟨f, fd, ps, okA F S la (fun cdv A outer s H E hr => hb f cdv A outer s H E hr), hm, F.kp, b⟩
theorem Cal.mono {x : Str} {sp : Sp} {j k : Nat} (c : Cal P w K mg base j x sp) (h : j ≤ k) : Cal P w K mg base k x sp := by
  obtain ⟨f, fd, ps, F, r⟩ := c.ex
  exact ⟨f, fd, ps, F.mono h, r⟩
end
/-! rules whose reading names the written part itself -/
section
variable {X : Cx} (K : PySem.W.Frag)
theorem ix_listK (h : X.K = K := by rfl) : IxR X (rIxL K) := by subst h; exact ix_list
theorem ix_tupK (h : X.K = K := by rfl) : IxR X (rIxT K) := by subst h; exact ix_tup
theorem ix_seqK (h : X.K = K := by rfl) : IxR X (rIx K) := by subst h; exact ix_seq
theorem sl_listK (h : X.K = K := by rfl) : SlR X (rSlL K) := by subst h; exact sl_list
theorem sl_tupK (h : X.K = K := by rfl) : SlR X (rSlT K) := by subst h; exact sl_tup
theorem len_seqK (h : X.K = K := by rfl) : CallR X (.builtin "len") (fun xs H Q => ∃ p ys, xs = [.ref p] ∧ (SqL K H p ys ∨ SqT K H p ys) ∧ Q (.int ys.length) H) := by subst h; exact call_len_seq
theorem list_ofK (h : X.K = K := by rfl) : CallR X (.type "list") (fun xs H Q => ∃ p ys, xs = [.ref p] ∧ (SqL K H p ys ∨ SqT K H p ys) ∧ ∀ l, H l = none → Q (.ref l) (upd H l (.lst ys))) := by subst h; exact call_list_of
theorem isiK (h : X.K = K := by rfl) : CallR X (.builtin "isinstance") (rIsi K) := by subst h; exact call_isi
theorem in_seqK (h : X.K = K := by rfl) : OpR X (compareOp .In) (rIn K false) := by subst h; exact op_in_seq
theorem notIn_seqK (h : X.K = K := by rfl) : OpR X (compareOp .NotIn) (rIn K true) := by subst h; exact op_notIn_seq
end
section
variable {X : Cx} (K : PySem.W.Frag)
theorem allK (hc : X.calm = true) (h : X.K = K := by rfl) : CallR X (.builtin "all") (rAll K) := by subst h; exact cr_all hc
theorem anyK (hc : X.calm = true) (h : X.K = K := by rfl) : CallR X (.builtin "any") (rAny K) := by subst h; exact cr_any hc
theorem maxK (hc : X.calm = true) (h : X.K = K := by rfl) : CallR X (.builtin "max") (rMax K) := by subst h; exact cr_max hc
theorem minK (hc : X.calm = true) (h : X.K = K := by rfl) : CallR X (.builtin "min") (rMin K) := by subst h; exact cr_min hc
theorem sumK (hc : X.calm = true) (h : X.K = K := by rfl) : CallR X (.builtin "sum") (rSum K) := by subst h; exact cr_sum hc
theorem sortedK (h : X.K = K := by rfl) : CallR X (.builtin "sorted") (rSorted K) := by subst h; exact cr_sorted
theorem eqDK (hu : X.A.units + 64 < cLine) (h : X.K = K := by rfl) : OpR X (compareOp .Eq) (rEqD K) := by subst h; exact op_eqD hu
theorem neDK (hu : X.A.units + 64 < cLine) (h : X.K = K := by rfl) : OpR X (compareOp .NotEq) (rNeD K) := by subst h; exact op_neD hu
theorem pi_listK {tg l : Expr} {tl : TE} (hl : PE X l tl) (h : X.K = K := by rfl) : PI X tg l (iList K tl) := by subst h; exact pi_list hl
theorem pi_tupK {tg l : Expr} {tl : TE} (hl : PE X l tl) (h : X.K = K := by rfl) : PI X tg l (iTup K tl) := by subst h; exact pi_tup hl
theorem pg_tupK {es : List Expr} {k : Nat} {t : TGs} {n : Nat} {pos : Pos} (hc : X.calm = true) (h : PGs X es t) (hk : X.K = K := by rfl)
    (hn : (assignEach es X.env).length = n := by rfl) (hst : (assignEach es X.env).findIdx? (·.1) = none := by rfl) : PG X (.Tuple es k pos) (gTup K n t) := by subst hk; exact pg_tup hc h hn hst
end
/-! bootstrap names -/
theorem bt_len : bootBuiltins "len" = some (.builtin "len") := by decide +kernel
theorem bt_abs : bootBuiltins "abs" = some (.builtin "abs") := by decide +kernel
theorem bt_max : bootBuiltins "max" = some (.builtin "max") := by decide +kernel
theorem bt_min : bootBuiltins "min" = some (.builtin "min") := by decide +kernel
theorem bt_all : bootBuiltins "all" = some (.builtin "all") := by decide +kernel
theorem bt_any : bootBuiltins "any" = some (.builtin "any") := by decide +kernel
theorem bt_sorted : bootBuiltins "sorted" = some (.builtin "sorted") := by decide +kernel
theorem bt_isinstance : bootBuiltins "isinstance" = some (.builtin "isinstance") := by decide +kernel
theorem bt_int : bootBuiltins "int" = some (.type "int") := by decide +kernel
theorem bt_bool : bootBuiltins "bool" = some (.type "bool") := by decide +kernel
theorem bt_str : bootBuiltins "str" = some (.type "str") := by decide +kernel
theorem bt_list : bootBuiltins "list" = some (.type "list") := by decide +kernel
theorem bt_tuple : bootBuiltins "tuple" = some (.type "tuple") := by decide +kernel
section
variable {K : PySem.W.Frag} {E : List Slot} {ta tb tc te : TE} {t u : TT} {ts us : TS} {r s : AbsV} {l m : List AbsV} {A : AE}
/-! more expressions -/
theorem ev_bits {a : Int} (h : EV K E te (nI a)) : EV K E (tBits te) (nI ((Builtin.Int.intBits a : Nat) : Int)) := fun B G0 σ G H k Q q =>
  h B G0 σ G H k _ fun v G1 H1 x1 r1 => ⟨a, r1, q _ G1 H1 x1 rfl⟩
theorem ev_isN {b : Bool} (h : EV K E te r) (hb : ∀ G v, r.rep G v → decide (v = .non) = b) : EV K E (tIsN te) (nB b) := fun B G0 σ G H k Q q =>
  h B G0 σ G H k _ fun v G1 H1 x1 r1 => q _ G1 H1 x1 (by rw [hb G1 v r1]; exact rfl)
theorem all_bl {G : Hp} : ∀ {bs : List Bool} {vs : List V}, PR G vs (bs.map nB) → vs = bs.map V.bl
  | [], _, h => by cases h; rfl
  | b :: bs, _, h => by
    cases h with
    | cons a t => rw [all_bl t, show _ = V.bl b from a]; rfl
theorem all_int {G : Hp} : ∀ {bs : List Int} {vs : List V}, PR G vs (bs.map nI) → vs = bs.map V.int
  | [], _, h => by cases h; rfl
  | b :: bs, _, h => by
    cases h with
    | cons a t => rw [all_int t, show _ = V.int b from a]; rfl
theorem ev_all {bs : List Bool} (h : EVL K E te (bs.map nB)) : EV K E (tCB (rAll K) (tCons te tNil)) (nB (bs.all id)) :=
  ev_cbL h fun p vs G H Q _ e pr q => ⟨p, bs, rfl, SqL.of (by rw [← all_bl pr]; exact e), q _ rfl⟩
theorem ev_any {bs : List Bool} (h : EVL K E te (bs.map nB)) : EV K E (tCB (rAny K) (tCons te tNil)) (nB (bs.any id)) :=
  ev_cbL h fun p vs G H Q _ e pr q => ⟨p, bs, rfl, SqL.of (by rw [← all_bl pr]; exact e), q _ rfl⟩
end
end Ab

set_option maxHeartbeats 2000000
namespace Ab
open PySem PySem.Spec PyProof.Rows L2
/-! ### pairs of ints: the least one, the first of the sorted ones -/
abbrev prA (p : Int × Int) : AbsV := tuA [nI p.1, nI p.2]
def lexle (p q : Int × Int) : Prop := p.1 < q.1 ∨ (p.1 = q.1 ∧ p.2 ≤ q.2)
theorem lexle_anti {p q : Int × Int} (h : lexle p q) (h' : lexle q p) : p = q := by
  obtain ⟨a, b⟩ := p
  obtain ⟨c, d⟩ := q
  unfold lexle at h h'
  dsimp only at h h'
  have e1 : a = c := by omega
  have e2 : b = d := by omega
  rw [e1, e2]
abbrev tpD (p : Int × Int) : PyData := .tuple [.int p.1, .int p.2]
def ltb (q p : Int × Int) : Bool := decide (q.1 < p.1 ∨ (q.1 = p.1 ∧ q.2 < p.2))
def minP (p : Int × Int) (ps : List (Int × Int)) : Int × Int := ps.foldl (fun a y => if ltb y a = true then y else a) p
theorem minD_pairs : ∀ (ps : List (Int × Int)) (p : Int × Int), PySem.W.minD (tpD p) (ps.map tpD) = tpD (minP p ps)
  | [], p => rfl
  | q :: ps, p => by
    show (ps.map tpD).foldl _ (if PySem.W.dataLt (tpD q) (tpD p) = true then tpD q else tpD p) = tpD (ps.foldl _ (if ltb q p = true then q else p))
    have e : PySem.W.dataLt (tpD q) (tpD p) = ltb q p := PySem.W.dataLt_ii _ _ _ _
    rw [e]
    cases h : ltb q p with
    | true => rw [if_pos rfl, if_pos rfl]; exact minD_pairs ps q
    | false => rw [if_neg Bool.false_ne_true, if_neg Bool.false_ne_true]; exact minD_pairs ps p
theorem minP_spec : ∀ (ps : List (Int × Int)) (p : Int × Int), minP p ps ∈ p :: ps ∧ ∀ q ∈ p :: ps, lexle (minP p ps) q
  | [], p => ⟨List.mem_cons_self, fun q hq => by
    rw [List.mem_singleton.mp hq]; exact .inr ⟨rfl, Int.le_refl _⟩⟩
  | x :: ps, p => by
    show (ps.foldl _ (if ltb x p = true then x else p)) ∈ p :: x :: ps ∧ ∀ q ∈ p :: x :: ps, lexle (ps.foldl _ (if ltb x p = true then x else p)) q
    cases h : ltb x p with
    | true =>
      rw [if_pos rfl]
      obtain ⟨h1, h2⟩ := minP_spec ps x
      refine ⟨List.mem_cons_of_mem _ h1, fun q hq => ?_⟩
      rcases List.mem_cons.mp hq with e | hq
      · have hx := h2 x List.mem_cons_self
        have hl : x.1 < p.1 ∨ (x.1 = p.1 ∧ x.2 < p.2) := of_decide_eq_true h
        rw [e]
        unfold lexle minP at *
        omega
      · exact h2 q hq
    | false =>
      rw [if_neg Bool.false_ne_true]
      obtain ⟨h1, h2⟩ := minP_spec ps p
      refine ⟨?_, fun q hq => ?_⟩
      · rcases List.mem_cons.mp h1 with e | h1
        · exact List.mem_cons.mpr (.inl e)
        · exact List.mem_cons_of_mem _ (List.mem_cons_of_mem _ h1)
      · rcases List.mem_cons.mp hq with e | hq
        · exact h2 q (by rw [e]; exact List.mem_cons_self)
        · rcases List.mem_cons.mp hq with e | hq
          · have hx := h2 p List.mem_cons_self
            have hl : ¬ (x.1 < p.1 ∨ (x.1 = p.1 ∧ x.2 < p.2)) := of_decide_eq_false h
            rw [e]
            unfold lexle minP at *
            omega
          · exact h2 q (List.mem_cons_of_mem _ hq)
/-- min(xs), xs a list of pairs of ints -/
def rMinP (K : PySem.W.Frag) : List V → Hp → VK → Prop := fun vs H Q => ∃ (a : Addr) (xs : List V) (p : Int × Int) (ps : List (Int × Int)), vs = [V.ref a] ∧ SqL K H a xs ∧ DpAll K H xs ((p :: ps).map tpD) ∧
  ∀ (i : Nat) (v : V), xs[i]? = some v → (p :: ps)[i]? = some (minP p ps) → Q v H
theorem canLay_pairs : ∀ ps : List (Int × Int), PyData.canLayAll0 (ps.map tpD) = true
  | [] => by simp [PyData.canLayAll0]
  | p :: ps => by
    have ih := canLay_pairs ps
    rw [List.map_cons]
    simp only [PyData.canLayAll0, PyData.canLay0, ih, Bool.and_self, Bool.and_true]
theorem depth_pairs : ∀ ps : List (Int × Int), PyData.depthAll (ps.map tpD) ≤ 3
  | [] => by simp [PyData.depthAll]
  | p :: ps => by
    have ih := depth_pairs ps
    rw [List.map_cons]
    simp only [PyData.depthAll, PyData.depth]
    omega
section
variable {X : Cx}
theorem cr_minP (hu : X.A.units + 64 < cLine) (hc : X.calm = true) : CallR X (.builtin "min") (rMinP X.K) := by
  intro pins s σ H vs us Q I r h
  obtain ⟨a, xs, p, ps, rfl, hs, hd, q⟩ := h
  obtain ⟨its, rv, hl, _⟩ := I.list hs
  rw [Vals.ref1 r]
  obtain ⟨as, hr⟩ := Dp.readsAll I _ _ _ hd rv
  have hal : PySem.W.AlikeAll ((p :: ps).map tpD) := by
    refine ⟨fun x hx y hy => ?_, fun x hx => ?_⟩
    · obtain ⟨u, _, rfl⟩ := List.mem_map.mp hx
      obtain ⟨v, _, rfl⟩ := List.mem_map.mp hy
      simp [PySem.W.alike, PySem.W.alikeAll]
    · obtain ⟨u, _, rfl⟩ := List.mem_map.mp hx
      exact fun z => by cases z
  have hdep := depth_pairs (p :: ps)
  refine PySem.W.min_list_data (vs := its.toArray) (x := tpD p) (xs := ps.map tpD) (I.ok.hd hc) hl.isList (by simpa using hr) hal (by
    have : PyData.depthAll (tpD p :: ps.map tpD) ≤ 3 := hdep
    omega) fun i v h' tk bs hv hrd hk => ?_
  rw [minD_pairs] at hrd
  have hv' : its[i]? = some v := by simpa using hv
  obtain ⟨cs, hr2, hi, _, _⟩ := PySem.W.readsAll_atA (vs := its.toArray) (by simpa using hr) i v hv
  have hr3 := PySem.W.reads_keeps hk hr2
  have e := PySem.SeqAt.Reads.unique _ _ _ _ _ (by simp [PyData.canLay0, PyData.canLayAll0]) hrd hr3
  rw [List.getD_eq_getElem?_getD] at e
  have hi2 : i < (p :: ps).length := by simpa using hi
  have e2 : ((p :: ps).map tpD)[i]? = some (tpD (p :: ps)[i]) := by rw [List.getElem?_map, List.getElem?_eq_getElem hi2]; rfl
  rw [show (tpD p :: ps.map tpD) = (p :: ps).map tpD from rfl, e2] at e
  have e3 : minP p ps = (p :: ps)[i] := by
    have z : tpD (minP p ps) = tpD (p :: ps)[i] := e
    simp only [tpD, PyData.tuple.injEq, List.cons.injEq, PyData.int.injEq, and_true] at z
    exact Prod.ext z.1 z.2
  have hxl : xs.length = its.length := Vals.length rv
  have hi3 : i < xs.length := by rw [hxl]; exact (List.getElem?_eq_some_iff.mp hv').1
  have hx : xs[i]? = some xs[i] := List.getElem?_eq_getElem hi3
  obtain ⟨u, hu2, ru⟩ := rv.get hx
  rw [hu2] at hv'
  cases hv'
  exact ⟨xs[i], H, I.kept hk, ru, q i xs[i] hx (by rw [List.getElem?_eq_getElem hi2, e3])⟩
end
section
variable {X : Cx} (K : PySem.W.Frag)
theorem minPK (hu : X.A.units + 64 < cLine) (hc : X.calm = true) (h : X.K = K := by rfl) : CallR X (.builtin "min") (rMinP K) := by subst h; exact cr_minP hu hc
theorem sortedPOK (h : X.K = K := by rfl) : CallR X (.builtin "sorted") (rSortedPO K) := by subst h; exact cr_sortedPO
end
section
variable {K : PySem.W.Frag} {E : List Slot} {te : TE} {r : AbsV}
theorem pr_dp {G : Hp} : ∀ {ps : List (Int × Int)} {vs : List V}, PR G vs (ps.map prA) → DpAll K G vs (ps.map tpD)
  | [], _, h => by cases h; exact .nil
  | p :: ps, _, h => by
    cases h with
    | cons a t =>
      obtain ⟨q, ws, e, g, pr⟩ := a
      subst e
      cases pr with
      | cons a1 t1 =>
        cases t1 with
        | cons a2 t2 =>
          cases t2
          cases a1; cases a2
          exact .cons (.tup (SqT.of g) (.cons (.int _) (.cons (.int _) .nil))) (pr_dp t)
theorem dp_mono {K : PySem.W.Frag} {G H : Hp} (s : Same G H) : ∀ {ps : List (Int × Int)} {vs : List V}, PR G vs (ps.map prA) → PR H vs (ps.map prA) := fun h => h.mono s
theorem ev_minP {p m : Int × Int} {ps : List (Int × Int)} (h : EVL K E te ((p :: ps).map prA)) (hm : m ∈ p :: ps) (hl : ∀ q ∈ p :: ps, lexle m q) : EV K E (tCB (rMinP K) (tCons te tNil)) (prA m) := fun B G0 σ G H k Q q =>
  h B G0 σ G H k _ fun a vs G1 H1 x1 h1 pr => ⟨a, vs, p, ps, rfl, SqL.of h1, pr_dp (pr.mono x1.gh), fun i v hv hi => by
    have e : m = minP p ps := lexle_anti (hl _ (minP_spec ps p).1) ((minP_spec ps p).2 _ hm)
    rw [← e] at hi
    obtain ⟨w, hw, rw'⟩ := pr.get (i := i) (r := prA m) (by rw [List.getElem?_map, hi]; rfl)
    rw [hv] at hw
    cases hw
    exact q v G1 H1 x1 rw'⟩
/-- sorted(xs)[0], xs a list of pairs of ints -/
theorem ev_sorted0 {m : Int × Int} {ps : List (Int × Int)} (h : EVL K E te (ps.map prA)) (hm : m ∈ ps) (hl : ∀ q ∈ ps, lexle m q) : EV K E (tOp (rIxL K) (tCB (rSortedPO K) (tCons te tNil)) (tC (.int 0))) (prA m) := fun B G0 σ G H k Q q =>
  h B G0 σ G H k _ fun a vs G1 H1 x1 h1 pr => by
    -- which pair a value stands for
    have key : ∀ x ∈ vs, ∃ (t : Addr) (p : Int × Int), x = V.ref t ∧ p ∈ ps ∧ H1 t = some (.tup [.int p.1, .int p.2]) ∧ (prA p).rep G1 x := fun x hx => by
      obtain ⟨i, hi⟩ := List.getElem?_of_mem hx
      obtain ⟨r, hr, rr⟩ := pr.get' hi
      rw [List.getElem?_map] at hr
      cases e : ps[i]? with
      | none => rw [e] at hr; cases hr
      | some p =>
        rw [e] at hr
        cases hr
        obtain ⟨t, ws, ex, g, pr2⟩ := id rr
        cases pr2 with
        | cons a1 t1 =>
          cases t1 with
          | cons a2 t2 =>
            cases t2; cases a1; cases a2
            exact ⟨t, p, ex, List.mem_of_getElem? e, x1.gh _ _ g, rr⟩
    let f : V → Int × Int := fun x => match x with
      | .ref t => match H1 t with
        | some (.tup [.int i, .int j]) => (i, j)
        | _ => (0, 0)
      | _ => (0, 0)
    have hf : ∀ x ∈ vs, ∃ t p, x = V.ref t ∧ f x = p ∧ p ∈ ps ∧ H1 t = some (.tup [.int p.1, .int p.2]) ∧ (prA p).rep G1 x := fun x hx => by
      obtain ⟨t, p, e, hp, ht, rr⟩ := key x hx
      refine ⟨t, p, e, ?_, hp, ht, rr⟩
      subst e
      show (match H1 t with | some (.tup [.int i, .int j]) => (i, j) | _ => (0, 0)) = p
      rw [ht]
    refine ⟨a, vs, f, rfl, SqL.of h1, fun x hx => ?_, fun ys p srt stb np => ?_⟩
    · obtain ⟨t, p, e, ef, hp, ht, _⟩ := hf x hx
      exact ⟨t, e, by rw [ef]; exact ht⟩
    · -- m stands in the list
      obtain ⟨i, hi⟩ := List.getElem?_of_mem hm
      obtain ⟨vm, hvm, rm⟩ := pr.get (i := i) (r := prA m) (by rw [List.getElem?_map, hi]; rfl)
      have hvm2 : vm ∈ vs := List.mem_of_getElem? hvm
      have hym : vm ∈ ys := stb.perm.mem_iff.mpr hvm2
      cases ys with
      | nil => cases hym
      | cons y yr =>
        have hyv : y ∈ vs := stb.perm.mem_iff.mp List.mem_cons_self
        obtain ⟨t, py, ey, efy, hpy, hty, ry⟩ := hf y hyv
        -- nothing is less than the first
        have first : ∀ z ∈ y :: yr, ltP f z y = false := fun z hz => by
          rcases List.mem_cons.mp hz with e | hz
          · rw [e]; exact (ltP_swo f).refl y
          · exact SrtO.srtd_head srt z hz
        have fm : f vm = m := by
          obtain ⟨t2, p2, e2, ef2, _, ht2, _⟩ := hf vm hvm2
          obtain ⟨t3, ws, e3, g3, pr3⟩ := id rm
          cases pr3 with
          | cons a1 t1 =>
            cases t1 with
            | cons a2 t2' =>
              cases t2'; cases a1; cases a2
              rw [e2] at e3
              cases e3
              have hh := x1.gh _ _ g3
              rw [ht2] at hh
              rw [ef2]
              have := Option.some.inj hh
              simp only [HO.tup.injEq, List.cons.injEq, V.int.injEq, and_true] at this
              exact Prod.ext this.1 this.2
        have le1 : lexle py m := by
          have := SrtO.lexB_no.mp (first vm hym)
          rw [fm, efy] at this
          unfold lexle
          omega
        have e : py = m := lexle_anti le1 (hl py hpy)
        refine ⟨p, y :: yr, 0, y, rfl, rfl, SqL.of upd_same, at_of (j := 0) rfl rfl, ?_⟩
        refine q y G1 _ (x1.trans (Ext.newO x1.gh np)) ?_
        rw [← e]; exact ry
end

/-! ### isinstance of data -/
def tyD : PyData → String
  | .none => "NoneType"
  | .bool _ => "bool"
  | .int _ => "int"
  | .str _ => "str"
  | .list _ => "list"
  | .tuple _ => "tuple"
  | .dict _ => "dict"
section
variable {K : PySem.W.Frag} {E : List Slot} {te ta tb : TE} {r : AbsV}
theorem dat_ty {G : Hp} : ∀ (d : PyData) {v : V}, (dat d).rep G v → TyX K G v (.type (tyD d))
  | .none, _, h => by cases h; exact .base .non
  | .bool b, _, h => by cases h; exact .base (.bl b)
  | .int i, _, h => by cases h; exact .base (.int i)
  | .str z, _, h => by cases h; exact .base (.str z)
  | .list ds, _, h => by
    obtain ⟨p, vs, e, g, _⟩ := h
    subst e
    exact .base (.lst g)
  | .tuple ds, _, h => by
    obtain ⟨p, vs, e, g, _⟩ := h
    subst e
    exact .base (.tup g)
  | .dict _, _, h => h.elim
theorem ev_isi {b : Bool} {n : String} {d : PyData} (h : EV K E te (dat d)) (hk : kitB (tyD d) n = some b) : EV K E (tCB (rIsi K) (tCons te (tCons (tC (.ty n)) tNil))) (nB b) := fun B G0 σ G H k Q q =>
  h B G0 σ G H k _ fun v G1 H1 x1 r1 => ⟨v, .ty n, .type (tyD d), .type n, b, rfl, .ty n, dat_ty d ((dat d).mono x1.gh r1), kit_ty hk, q _ G1 H1 x1 rfl⟩
theorem ev_isNd {d : PyData} (h : EV K E te (dat d)) : EV K E (tIsN te) (nB (decide (tyD d = "NoneType"))) := ev_isN h fun G v hv => by
  cases d with
  | none => cases hv; rfl
  | bool b => cases hv; rfl
  | int i => cases hv; rfl
  | str z => cases hv; rfl
  | list ds => obtain ⟨p, vs, e, _⟩ := hv; subst e; rfl
  | tuple ds => obtain ⟨p, vs, e, _⟩ := hv; subst e; rfl
  | dict _ => exact hv.elim
end
section
variable {K : PySem.W.Frag} {E : List Slot} {ta tb : TE} {r : AbsV} {l : List AbsV}
/-- an item of a list or a tuple, where the text may meet either -/
theorem ev_ixA {i : Nat} {n : Int} (ha : EVL K E ta l ∨ EV K E ta (tuA l)) (hb : EV K E tb (nI n)) (hn : n = (i : Int)) (hi : l[i]? = some r) : EV K E (tOp (rIx K) ta tb) r := fun B G0 σ G H k Q q => by
  rcases ha with ha | ha
  · exact ha B G0 σ G H k _ fun p vs G1 H1 x1 h1 r1 => hb B G0 σ G1 H1 (k.ext x1) _ fun y G2 H2 x2 r2 => by
      obtain ⟨v, hv, rv⟩ := (r1.mono x2.g).get hi
      exact .inl ⟨p, vs, n, v, rfl, r2, SqL.of (x2.h _ _ h1), at_of hn hv, q v G2 H2 (x1.trans x2) rv⟩
  · exact ha B G0 σ G H k _ fun x G1 H1 x1 ⟨p, vs, e, g1, r1⟩ => hb B G0 σ G1 H1 (k.ext x1) _ fun y G2 H2 x2 r2 => by
      obtain ⟨v, hv, rv⟩ := (r1.mono x2.g).get hi
      subst e
      exact .inr (.inl ⟨p, vs, n, v, rfl, r2, SqT.of (x2.gh _ _ (x2.g _ _ g1)), at_of hn hv, q v G2 H2 (x1.trans x2) rv⟩)
end
/-- a def that is never called: no arguments fit -/
theorem cal_never {P : Program} {w : World} {K : PySem.W.Frag} {mg : Str → Option Value} {base : Heap} {X : Type} {args : X → List Slot} {res : X → Slot} {x : Str} {st : Stmt} {ps : List Str} {pre : X → Prop} (d : DefAt K mg x st ps) (hp : ∀ x, ¬ pre x) : Cal P w K mg base 0 x (spX K args pre res) := by
  obtain ⟨f, fd, F, hm, b⟩ := d.ex
  exact ⟨f, fd, ps, ⟨fun vs H Q E h => (hp _ h.choose_spec.choose_spec.1).elim, fun A outer s H as us vs Q E _ _ _ _ h => (hp _ h.choose_spec.choose_spec.1).elim⟩, hm, F.kp, b⟩
end Ab

set_option maxHeartbeats 2000000
namespace Ab
open PySem PySem.Spec PyProof.Rows L2
theorem ev_ixS {K : PySem.W.Frag} {E : List Slot} {tb : TE} {i j : Nat} {ns : List Int} {n x : Int} (h : E[i]? = some (.scr ns)) (hb : EV K E tb (nI n)) (hn : n = (j : Int)) (hx : ns[j]? = some x) : EV K E (tOp (rIxL K) (tVar i) tb) (nI x) := fun B G0 σ G H k Q q => by
  obtain ⟨o, e, p, e2, hs⟩ := P_get k.sl h
  subst e2
  exact ⟨.ref p, e, hb B G0 σ G H k _ fun v G1 H1 x1 r1 => ⟨p, ns.map V.int, n, .int x, rfl, r1, x1.h.seq (k.bh.seq hs), at_of hn (by rw [List.getElem?_map, hx]; rfl), q _ G1 H1 x1 rfl⟩⟩
def absI (c : Int) : Int := if c < 0 then -c else c
def mixF (f k : Int) : Int :=
  let m1 := (f * 48271 + (k + 1) * 69621) % 2147483647
  let m2 := (m1 * m1 + m1 * 16807 + k * 7919) % 2147483629
  let m3 := (m2 * m2 + f + 13 * k) % 2147483587
  m3 / 7 % 4096
def drawsS (c : Int) : Nat → List Int × Int
  | 0 => ([], absI c)
  | i + 1 => if (decide (10 ^ (18 : Int).toNat ≤ absI c) && decide (0 < (drawsS c i).2)) = true then ((drawsS c i).1 ++ [(drawsS c i).2 % 4096], (drawsS c i).2 / 4096) else ((drawsS c i).1 ++ [mixF (absI c) (0 + (i : Int))], (drawsS c i).2)
def drawsF (c : Int) (n : Nat) : List Int := (drawsS c n).1
theorem drawsS_len (c : Int) : ∀ n : Nat, (drawsS c n).1.length = n
  | 0 => rfl
  | n + 1 => by
    have ih := drawsS_len c n
    unfold drawsS
    split <;> (rw [List.length_append, ih]; rfl)
theorem drawsS_mem (c : Int) : ∀ (n : Nat) (x : Int), x ∈ (drawsS c n).1 → 0 ≤ x ∧ x < 4096
  | 0, x, h => by cases h
  | n + 1, x, h => by
    have ih := drawsS_mem c n x
    unfold drawsS at h
    split at h
    · rcases List.mem_append.mp h with h | h
      · exact ih h
      · rw [List.mem_singleton.mp h]; omega
    · rcases List.mem_append.mp h with h | h
      · exact ih h
      · rw [List.mem_singleton.mp h]; unfold mixF; dsimp only; omega
theorem drawsF_at (c : Int) {n k : Nat} (h : k < n) : ∃ x, (drawsF c n)[k]? = some x ∧ 0 ≤ x ∧ x < 4096 := by
  have hl := drawsS_len c n
  have hk : k < (drawsF c n).length := by unfold drawsF; rw [hl]; exact h
  exact ⟨_, List.getElem?_eq_getElem hk, drawsS_mem c n _ (List.getElem_mem hk)⟩
def Flat : PyData → Prop
  | .none | .bool _ | .int _ | .str _ => True
  | _ => False
def Fit : Nat → PyData → Prop
  | 0, _ => False
  | n + 1, d => Flat d ∨ ∃ ds : List PyData, (d = .list ds ∨ d = .tuple ds) ∧ ds.length ≤ 1000 ∧ ∀ x ∈ ds, Fit n x
theorem all_true (n : Nat) : ((List.range n).map (fun _ : Nat => true)).all id = true := by
  rw [List.all_eq_true]
  intro x hx
  obtain ⟨_, _, e⟩ := List.mem_map.mp hx
  rw [← e]; rfl
theorem accL_all (els : Nat → AbsV) (n : Nat) : accL (fun _ => true) els n = (List.range n).map els := by
  unfold accL
  rw [List.filter_eq_self.mpr (fun _ _ => rfl)]
theorem eqV_int (a b : Int) : eqV (.int a) (.int b) = decide (a = b) := by
  unfold eqV
  rfl
theorem ev_inI {K : PySem.W.Frag} {E : List Slot} {ta tb : TE} {n : Int} {ns : List Int} (ha : EV K E ta (nI n)) (hb : EVL K E tb (ns.map nI)) : EV K E (tOp (rIn K false) ta tb) (nB (decide (n ∈ ns))) := fun B G0 σ G H k Q q =>
  ha B G0 σ G H k _ fun x G1 H1 x1 r1 => hb B G0 σ G1 H1 (k.ext x1) _ fun p vs G2 H2 x2 h2 pr => by
    have e := all_int pr
    subst e
    cases r1
    refine ⟨p, _, rfl, .inl (SqL.of h2), rfl, ?_, q _ G2 H2 (x1.trans x2) ?_⟩
    · rw [List.all_eq_true]
      intro v hv
      obtain ⟨z, _, rfl⟩ := List.mem_map.mp hv
      rfl
    · show V.bl _ = V.bl _
      congr 1
      rw [if_neg Bool.false_ne_true]
      unfold inV
      rw [List.any_map, Bool.eq_iff_iff, List.any_eq_true, decide_eq_true_eq]
      constructor
      · rintro ⟨z, hz, e⟩
        have : z = n := of_decide_eq_true ((eqV_int z n).symm.trans e)
        rw [← this]; exact hz
      · intro hz
        exact ⟨n, hz, (eqV_int n n).trans (decide_eq_true rfl)⟩
theorem acc_first {bs : Nat → Bool} {els : Nat → AbsV} {n j0 : Nat} (h : bs j0 = true) (hl : ∀ j, j < j0 → bs j = false) (hn : j0 < n) : (accL bs els n)[0]? = some (els j0) := by
  have e0 : ∀ j, j ≤ j0 → accL bs els j = [] := fun j => by
    induction j with
    | zero => intro _; rfl
    | succ j ih =>
      intro hj
      rw [accL_succ, ih (by omega), hl j (by omega)]
      rfl
  have e1 : ∀ d, (accL bs els (j0 + 1 + d))[0]? = some (els j0) := fun d => by
    induction d with
    | zero =>
      rw [Nat.add_zero, accL_succ, e0 j0 (Nat.le_refl _), h]
      rfl
    | succ d ih =>
      rw [show j0 + 1 + (d + 1) = (j0 + 1 + d) + 1 by omega, accL_succ]
      have hlen : 0 < (accL bs els (j0 + 1 + d)).length := by
        rcases Nat.eq_zero_or_pos (accL bs els (j0 + 1 + d)).length with z | z
        · rw [List.getElem?_eq_none (by omega)] at ih; cases ih
        · exact z
      rw [List.getElem?_append_left hlen]
      exact ih
  have := e1 (n - (j0 + 1))
  rw [show j0 + 1 + (n - (j0 + 1)) = n by omega] at this
  exact this
theorem dats_int : ∀ ns : List Int, dats (ns.map PyData.int) = ns.map nI
  | [] => rfl
  | n :: ns => by
    show nI n :: dats (ns.map PyData.int) = nI n :: ns.map nI
    rw [dats_int ns]
theorem fit_flat {d : PyData} {n : Nat} (h : Flat d) : Fit (n + 1) d := .inl h
theorem fit_ints {ns : List Int} (h : ns.length ≤ 1000) {n : Nat} : Fit (n + 2) (.list (ns.map PyData.int)) := .inr ⟨_, .inl rfl, by rw [List.length_map]; exact h, fun x hx => by
  obtain ⟨z, _, rfl⟩ := List.mem_map.mp hx
  exact .inl trivial⟩

theorem accL_map {α : Type} (f : α → AbsV) : ∀ (l : List α) (d : α), accL (fun _ => true) (fun j => f (l.getD j d)) l.length = l.map f := fun l d => by
  rw [accL_all]
  apply List.ext_getElem
  · simp
  · intro i h1 h2
    simp only [List.length_map, List.length_range] at h1
    simp [h1]
theorem range_getD {α : Type} (l : List α) (d : α) : (List.range l.length).map (fun j => l.getD j d) = l := by
  apply List.ext_getElem
  · simp
  · intro i h1 h2
    simp [h2]
theorem accL_filter {α : Type} (f : α → AbsV) (p : α → Bool) (l : List α) (d : α) : accL (fun j => p (l.getD j d)) (fun j => f (l.getD j d)) l.length = (l.filter p).map f := by
  have h : l.filter p = ((List.range l.length).map (fun j => l.getD j d)).filter p := by rw [range_getD]
  rw [h, List.filter_map, List.map_map]
  rfl
section
variable {K : PySem.W.Frag} {E : List Slot} {ta tb te th : TE} {r : AbsV} {l m : List AbsV}
theorem ev_ninI {n : Int} {ns : List Int} (ha : EV K E ta (nI n)) (hb : EVL K E tb (ns.map nI)) : EV K E (tOp (rIn K true) ta tb) (nB (!decide (n ∈ ns))) := fun B G0 σ G H k Q q =>
  ha B G0 σ G H k _ fun x G1 H1 x1 r1 => hb B G0 σ G1 H1 (k.ext x1) _ fun p vs G2 H2 x2 h2 pr => by
    have e := all_int pr
    subst e
    cases r1
    refine ⟨p, _, rfl, .inl (SqL.of h2), rfl, ?_, q _ G2 H2 (x1.trans x2) ?_⟩
    · rw [List.all_eq_true]
      intro v hv
      obtain ⟨z, _, rfl⟩ := List.mem_map.mp hv
      rfl
    · show V.bl _ = V.bl _
      congr 1
      rw [if_pos rfl]
      congr 1
      unfold inV
      rw [List.any_map, Bool.eq_iff_iff, List.any_eq_true, decide_eq_true_eq]
      constructor
      · rintro ⟨z, hz, e⟩
        have : z = n := of_decide_eq_true ((eqV_int z n).symm.trans e)
        rw [← this]; exact hz
      · intro hz
        exact ⟨n, hz, (eqV_int n n).trans (decide_eq_true rfl)⟩
/-- xs + ys -/
theorem evf_cat (ha : EVL K E ta l) (hb : EVL K E tb m) (hl : l.length + m.length ≤ 100000) : EVF K E (tOp rCat ta tb) (l ++ m) := fun B G0 σ G H k Q q =>
  ha B G0 σ G H k _ fun p vs G1 H1 x1 h1 r1 => hb B G0 σ G1 H1 (k.ext x1) _ fun p2 ws G2 H2 x2 h2 r2 =>
    ⟨p, p2, vs, ws, rfl, rfl, x2.h _ _ h1, h2, by rw [r1.len, r2.len]; exact small hl, fun z hz => q z (vs ++ ws) G2 _ ((x1.trans x2).trans (Ext.newO x2.gh hz)) ((x1.trans x2).h.free hz) (x2.gh.free hz) upd_same ((r1.mono x2.g).append r2)⟩
/-- xs[:n] -/
theorem evf_to {n : Int} (ha : EVL K E te l) (hb : EV K E th (nI n)) (h0 : 0 ≤ n) : EVF K E (tSl (rSlL K) te tNoPart (tPart th)) (l.take n.toNat) := fun B G0 σ G H k Q q =>
  ha B G0 σ G H k _ fun p vs G1 H1 x1 h1 r1 => hb B G0 σ G1 H1 (k.ext x1) _ fun v G2 H2 x2 r2 => ⟨n, r2, p, vs, rfl, SqL.of (x2.h _ _ h1), fun z hz => by
    have e : cutV vs none (some n) = vs.take n.toNat := by
      have en : (some n : Option Int) = some ((n.toNat : Nat) : Int) := by rw [Int.toNat_of_nonneg h0]
      unfold cutV
      rw [en, HT.sIx_nat, HT.sIx_none, Nat.sub_zero, List.drop_zero]
      rcases Nat.le_total n.toNat vs.length with h | h
      · rw [Nat.min_eq_left h]
      · rw [Nat.min_eq_right h, List.take_length, List.take_of_length_le h]
    rw [e]
    exact q z _ G2 _ ((x1.trans x2).trans (Ext.newO x2.gh hz)) ((x1.trans x2).h.free hz) (x2.gh.free hz) upd_same ((r1.mono x2.g).take n.toNat)⟩
/-- xs[n:] -/
theorem evf_from {n : Int} (ha : EVL K E te l) (hb : EV K E th (nI n)) (h0 : 0 ≤ n) : EVF K E (tSl (rSlL K) te (tPart th) tNoPart) (l.drop n.toNat) := fun B G0 σ G H k Q q =>
  ha B G0 σ G H k _ fun p vs G1 H1 x1 h1 r1 => hb B G0 σ G1 H1 (k.ext x1) _ fun v G2 H2 x2 r2 => ⟨n, r2, p, vs, rfl, SqL.of (x2.h _ _ h1), fun z hz => by
    have e : cutV vs (some n) none = vs.drop n.toNat := by
      have en : (some n : Option Int) = some ((n.toNat : Nat) : Int) := by rw [Int.toNat_of_nonneg h0]
      unfold cutV
      rw [en, HT.sIx_nat, HT.sIx_none]
      rcases Nat.le_total n.toNat vs.length with h | h
      · rw [Nat.min_eq_left h]
        exact List.take_of_length_le (by rw [List.length_drop]; omega)
      · rw [Nat.min_eq_right h, List.drop_of_length_le h, List.drop_of_length_le (Nat.le_refl _)]; exact List.take_nil
    rw [e]
    exact q z _ G2 _ ((x1.trans x2).trans (Ext.newO x2.gh hz)) ((x1.trans x2).h.free hz) (x2.gh.free hz) upd_same ((r1.mono x2.g).drop n.toNat)⟩
end
end Ab

set_option maxHeartbeats 2000000
namespace Ab
open PySem PySem.Spec PyProof.Rows L2
section
variable {K : PySem.W.Frag} {E : List Slot} {ta tb tc te ti : TE} {t u : TT} {ts us : TS} {r s : AbsV} {l m : List AbsV} {A : AE}
/-! ### greatest, least -/
theorem ev_maxL {n : Int} {ns : List Int} (h : EVL K E te (ns.map nI)) (hm : n ∈ ns) (hl : ∀ x ∈ ns, x ≤ n) : EV K E (tCB (rMax K) (tCons te tNil)) (nI n) :=
  ev_cbL h fun p vs G H Q _ e pr q => ⟨p, ns, rfl, SqL.of (by rw [← all_int pr]; exact e), List.length_pos_of_mem hm, fun m h1 h2 => q _ (by
    have : m = n := by have a := h2 n hm; have b := hl m h1; omega
    rw [this]; rfl)⟩
theorem ev_minL {n : Int} {ns : List Int} (h : EVL K E te (ns.map nI)) (hm : n ∈ ns) (hl : ∀ x ∈ ns, n ≤ x) : EV K E (tCB (rMin K) (tCons te tNil)) (nI n) :=
  ev_cbL h fun p vs G H Q _ e pr q => ⟨p, ns, rfl, SqL.of (by rw [← all_int pr]; exact e), List.length_pos_of_mem hm, fun m h1 h2 => q _ (by
    have : m = n := by have a := h2 n hm; have b := hl m h1; omega
    rw [this]; rfl)⟩
/-! ### xs[i] = e -/
theorem PR_len {G : Hp} {vs : List V} {l : List AbsV} (h : PR G vs l) : vs.length = l.length := h.len
theorem es_setI {i j : Nat} {n : Int} (hx : E[i]? = some (.own l)) (h : EV K E te r) (hi : EV K E ti (nI n)) (hn : n = (j : Int)) (hj : j < l.length) (q : A.nx (E.set i (.own (l.set j r)))) : ES K E (tAsg te (gSub (tVar i) ti rSetL)) A := fun B G0 σ G H D k S =>
  h B G0 σ G H k _ fun v G1 H1 x1 r1 => by
    have k1 := k.ext x1
    obtain ⟨o, e, p, vs, e2, b, g, hh, pr⟩ := P_get k1.sl hx
    subst e2
    refine ⟨.ref p, e, hi B G0 σ G1 H1 k1 _ fun w G2 H2 x2 r2 => ?_⟩
    have k2 := k1.ext x2
    have hl : j < vs.length := by rw [pr.len]; exact hj
    refine ⟨p, vs, n, j, rfl, r2, x2.h _ _ hh, ?_, S.nx _ _ _ _ q (k2.upd hx e (PR.set (r.mono x2.g r1) j (pr.mono x2.g)))⟩
    unfold ixN
    rw [if_pos (by omega), if_pos (by omega), hn]; rfl
/-! ### the truth of a list -/
theorem et_truthL (h : EVL K E te l) (tt : TT) (ht : ∀ σ H Q, (te σ H fun x H1 => ∃ k, TruV K x H1 k ∧ Q k H1) → tt σ H Q) : ET K E tt (!l.isEmpty) := fun B G0 σ G H k Q q =>
  ht σ H Q (h B G0 σ G H k _ fun p vs G1 H1 x1 h1 pr => ⟨!l.isEmpty, .inl ⟨vs, SqL.of h1, by
    have := pr.len
    cases vs <;> cases l <;> first | rfl | simp at this⟩, q G1 H1 x1⟩)
/-! ### [x] * n -/
theorem evf_rep {n : Int} (ha : EVL K E ta l) (hb : EV K E tb (nI n)) (h0 : 0 ≤ n) (h1 : l.length * n.toNat ≤ 100000) (h2 : n ≤ 100000) : EVF K E (tOp rRep ta tb) (List.flatten (List.replicate n.toNat l)) := fun B G0 σ G H k Q q =>
  ha B G0 σ G H k _ fun p vs G1 H1 x1 e1 r1 => hb B G0 σ G1 H1 (k.ext x1) _ fun w G2 H2 x2 r2 =>
    ⟨p, n, vs, rfl, r2, x2.h _ _ e1, by omega, by omega, by rw [r1.len]; exact small h1, fun z hz => by
      refine q z _ G2 _ ((x1.trans x2).trans (Ext.newO x2.gh hz)) ((x1.trans x2).h.free hz) (x2.gh.free hz) upd_same ?_
      have hr := r1.mono x2.g
      clear h1 h2 h0 r2 hz
      generalize n.toNat = c
      induction c with
      | zero => exact .nil
      | succ c ih => rw [List.replicate_succ, List.replicate_succ, List.flatten_cons, List.flatten_cons]; exact hr.append ih⟩
/-! ### for i, x in enumerate(xs) -/
theorem es_forE {g : TG} (P : Nat → List Slot → Prop) (hw : EVS K E te l)
    (h0 : P 0 E) (hs : ∀ i r E', l[i]? = some r → P i E' → ∃ E2, GT K g (tuA [nI (i : Nat), r]) E' E2 ∧ ES K E2 ts (A.turn (P (i + 1)))) (hd : ∀ E', P l.length E' → A.nx E') : ES K E (tFor (iEnum K (tCons te tNil)) g ts) A := fun B G0 σ G H D k S =>
  hw B G0 σ G H k _ fun p vs G1 H1 x1 st pr => by
    have k1 := k.ext x1
    have stay : ∀ {G' H' : Hp}, OkB B G1 G' H' → H' p = some (.lst vs) := fun {G' H'} o => by
      rcases st with st | st
      · exact o.gh _ _ (o.g0 _ _ st)
      · exact o.bh _ _ st
    refine ⟨p, vs, rfl, SqL.of (stay k1.toOkB.here), fun i m σ' H' => m = vs.length - i ∧ i ≤ vs.length ∧ ∃ E' G', P i E' ∧ Ok K B G1 E' σ' G' H', ⟨vs.length, by simp, Nat.zero_le _, E, G1, h0, k1.here⟩, ?_⟩
    rintro i m σ' H' ⟨rfl, hi, E', G', hp, k'⟩
    have hH := stay k'.toOkB
    by_cases hlt : i < vs.length
    · obtain ⟨r, hr, rv⟩ := PR.get' (pr.mono k'.g0) (List.getElem?_eq_getElem hlt)
      obtain ⟨E2, hg, hb⟩ := hs i r E' hr hp
      refine .inr ⟨⟨vs, vs[i], SqL.of hH, List.getElem?_eq_getElem hlt⟩, fun σ3 H3 => ∃ E3 G3, P (i + 1) E3 ∧ Ok K B G1 E3 σ3 G3 H3, fun σ3 H3 ⟨E3, G3, h3, k3⟩ => ⟨vs.length - (i + 1), by omega, rfl, hlt, E3, G3, h3, k3⟩, fun x H2 hy => ?_⟩
      obtain ⟨T, y, rfl, hT, rfl, fy⟩ := hy
      have ey : y = vs[i] := Option.some.inj ((fy vs (SqL.of hH)).symm.trans (List.getElem?_eq_getElem hlt))
      have xT := Ext.new (o := .tup [.int (i : Nat), y]) k'.gh hT
      have k2 := k'.ext xT
      refine hg B G1 σ' _ _ _ k2 ⟨T, _, rfl, upd_same, .cons rfl (.cons (r.mono xT.g (by rw [ey]; exact rv)) .nil)⟩ _ fun σ2 k3 => ?_
      exact hb B G1 σ2 _ _ _ k3 (sat_turn S k1.toOkB fun E3 σ3 G3 H3 h3 k3 => ⟨E3, G3, h3, k3⟩)
    · have e : i = vs.length := by omega
      subst e
      rw [pr.len] at hp
      exact .inl ⟨⟨vs, SqL.of hH, Nat.le_refl _⟩, S.nx E' σ' H' |> fun f => f |> fun _ => S.nx E' σ' G' H' (hd E' hp) (k'.via k1.toOkB)⟩
/-! ### dicts -/
def lookA {κ : Type} [DecidableEq κ] (kvs : List (κ × AbsV)) (k : κ) : Option AbsV := (kvs.find? fun kv => decide (kv.1 = k)).map (·.2)
theorem PK.look {κ : Type} [DecidableEq κ] {G : Hp} (k : κ) : ∀ {ws : List (κ × V)} {kvs : List (κ × AbsV)}, PK G ws kvs → match lookA kvs k with | some r => ∃ v, (ws.find? fun kv => decide (kv.1 = k)).map (·.2) = some v ∧ r.rep G v | none => (ws.find? fun kv => decide (kv.1 = k)).map (·.2) = none
  | _, _, .nil => rfl
  | (a, v) :: ws, (b, r) :: kvs, .cons h t => by
    obtain ⟨e, hv⟩ := h
    dsimp only at e hv
    subst e
    unfold lookA
    rw [List.find?_cons, List.find?_cons]
    dsimp only
    by_cases z : a = k
    · rw [decide_eq_true z]; exact ⟨v, rfl, hv⟩
    · rw [decide_eq_false z]; exact PK.look k t
/-- a dict that can be read now -/
def EVD (K : PySem.W.Frag) (E : List Slot) (te : TE) (kvs : List (Key × AbsV)) : Prop := ∀ (B G0 : Hp) (σ : L2.St) (G H : Hp), Ok K B G0 E σ G H → ∀ Q : VK, (∀ p ws G' H', Ext G H G' H' → H' p = some (.dK ws) → PK G' ws kvs → Q (.ref p) H') → te σ H Q
theorem EV.evd {kvs : List (Key × AbsV)} (h : EV K E te (dcA kvs)) : EVD K E te kvs := fun B G0 σ G H k Q q => h B G0 σ G H k Q fun v G' H' x ⟨p, ws, e, g, pr⟩ => by
  subst e
  exact q p ws G' H' x (x.gh _ _ g) pr
theorem evd_own {i : Nat} {kvs : List (Key × AbsV)} (h : E[i]? = some (.dic kvs)) : EVD K E (tVar i) kvs := fun B G0 σ G H k Q q => by
  obtain ⟨o, e, p, ws, e2, b, g, hh, pr⟩ := P_get k.sl h
  subst e2
  exact ⟨.ref p, e, q p ws G H (Ext.refl k.gh) hh pr⟩
theorem ev_din {n : Int} {kvs : List (Key × AbsV)} (hk : EV K E ta (nI n)) (hd : EVD K E tb kvs) : EV K E (tDIn ta tb) (nB (lookA kvs (Sum.inl n)).isSome) := fun B G0 σ G H k Q q =>
  hk B G0 σ G H k _ fun x G1 H1 x1 r1 => hd B G0 σ G1 H1 (k.ext x1) _ fun p ws G2 H2 x2 h2 pr => by
    cases r1
    refine ⟨p, valV ws (Sum.inl n), rfl, DGet.k (k := Sum.inl n) h2, q _ G2 H2 (x1.trans x2) ?_⟩
    have hl := PK.look (Sum.inl n : Key) pr
    show V.bl (valV ws (Sum.inl n)).isSome = V.bl _
    unfold valV
    cases e : lookA kvs (Sum.inl n) with
    | none => rw [e] at hl; rw [hl]; rfl
    | some r => rw [e] at hl; obtain ⟨v, e2, _⟩ := hl; rw [e2]; rfl
theorem ev_dnotin {n : Int} {kvs : List (Key × AbsV)} (hk : EV K E ta (nI n)) (hd : EVD K E tb kvs) : EV K E (tDNotIn ta tb) (nB (!(lookA kvs (Sum.inl n)).isSome)) := fun B G0 σ G H k Q q =>
  hk B G0 σ G H k _ fun x G1 H1 x1 r1 => hd B G0 σ G1 H1 (k.ext x1) _ fun p ws G2 H2 x2 h2 pr => by
    cases r1
    refine ⟨p, valV ws (Sum.inl n), rfl, DGet.k (k := Sum.inl n) h2, q _ G2 H2 (x1.trans x2) ?_⟩
    have hl := PK.look (Sum.inl n : Key) pr
    show V.bl (!(valV ws (Sum.inl n)).isSome) = V.bl _
    unfold valV
    cases e : lookA kvs (Sum.inl n) with
    | none => rw [e] at hl; rw [hl]; rfl
    | some r => rw [e] at hl; obtain ⟨v, e2, _⟩ := hl; rw [e2]; rfl
theorem ev_dget {n : Int} {kvs : List (Key × AbsV)} (hd : EVD K E ta kvs) (hk : EV K E tb (nI n)) (hl : lookA kvs (Sum.inl n) = some r) : EV K E (tDGet ta tb) r := fun B G0 σ G H k Q q =>
  hd B G0 σ G H k _ fun p ws G1 H1 x1 h1 pr => hk B G0 σ G1 H1 (k.ext x1) _ fun x G2 H2 x2 r2 => by
    cases r2
    have hl2 := PK.look (Sum.inl n : Key) (pr.mono x2.g)
    rw [hl] at hl2
    obtain ⟨v, e2, rv⟩ := hl2
    exact ⟨p, v, rfl, (by have := DGet.k (k := Sum.inl n) (x2.h _ _ h1); unfold valV at this; rw [e2] at this; exact this), q v G2 H2 (x1.trans x2) rv⟩
theorem ev_dget2 {n : Int} {kvs : List (Key × AbsV)} (hd : EVD K E ta kvs) (hk : EV K E tb (nI n)) (hx : EV K E tc s) : EV K E (tDGet2 ta tb tc) ((lookA kvs (Sum.inl n)).getD s) := fun B G0 σ G H k Q q =>
  hd B G0 σ G H k _ fun p ws G1 H1 x1 h1 pr => ⟨p, rfl, .inl ⟨ws, .inl h1⟩, hk B G0 σ G1 H1 (k.ext x1) _ fun x G2 H2 x2 r2 => hx B G0 σ G2 H2 ((k.ext x1).ext x2) _ fun z G3 H3 x3 r3 => by
    cases r2
    have hl2 := PK.look (Sum.inl n : Key) (pr.mono (x2.trans x3).g)
    refine ⟨valV ws (Sum.inl n), DGet.k (k := Sum.inl n) ((x2.trans x3).h _ _ h1), q _ G3 H3 ((x1.trans x2).trans x3) ?_⟩
    unfold valV
    cases e : lookA kvs (Sum.inl n) with
    | none => rw [e] at hl2; rw [hl2]; exact r3
    | some r => rw [e] at hl2; obtain ⟨v, e2, rv⟩ := hl2; rw [e2]; exact rv⟩
def putA {κ : Type} [DecidableEq κ] (kvs : List (κ × AbsV)) (k : κ) (r : AbsV) : List (κ × AbsV) := if (kvs.any fun kv => decide (kv.1 = k)) = true then kvs.map fun kv => if kv.1 = k then (kv.1, r) else kv else kvs ++ [(k, r)]
theorem PK.any {κ : Type} [DecidableEq κ] {G : Hp} (k : κ) : ∀ {ws : List (κ × V)} {kvs : List (κ × AbsV)}, PK G ws kvs → (ws.any fun kv => decide (kv.1 = k)) = (kvs.any fun kv => decide (kv.1 = k))
  | _, _, .nil => rfl
  | (a, v) :: ws, (b, r) :: kvs, .cons h t => by
    obtain ⟨e, _⟩ := h
    dsimp only at e
    subst e
    rw [List.any_cons, List.any_cons, PK.any k t]
theorem PK.append {κ : Type} {G : Hp} : ∀ {ws ws' : List (κ × V)} {kvs kvs' : List (κ × AbsV)}, PK G ws kvs → PK G ws' kvs' → PK G (ws ++ ws') (kvs ++ kvs')
  | _, _, _, _, .nil, h => h
  | _, _, _, _, .cons a t, h => .cons a (PK.append t h)
theorem PK.mapput {κ : Type} [DecidableEq κ] {G : Hp} (k : κ) {v : V} {r : AbsV} (hv : r.rep G v) : ∀ {ws : List (κ × V)} {kvs : List (κ × AbsV)}, PK G ws kvs → PK G (ws.map fun kv => if kv.1 = k then (kv.1, v) else kv) (kvs.map fun kv => if kv.1 = k then (kv.1, r) else kv)
  | _, _, .nil => .nil
  | (a, u) :: ws, (b, r') :: kvs, .cons h t => by
    obtain ⟨e, hb⟩ := h
    dsimp only at e hb
    subst e
    rw [List.map_cons, List.map_cons]
    refine .cons ?_ (PK.mapput k hv t)
    dsimp only
    split
    · exact ⟨rfl, hv⟩
    · exact ⟨rfl, hb⟩
theorem PK.put {κ : Type} [DecidableEq κ] {G : Hp} (k : κ) {v : V} {r : AbsV} (hv : r.rep G v) {ws : List (κ × V)} {kvs : List (κ × AbsV)} (h : PK G ws kvs) : PK G (putK ws k v) (putA kvs k r) := by
  unfold putK putA
  rw [PK.any k h]
  split
  · exact PK.mapput k hv h
  · exact PK.append h (.cons ⟨rfl, hv⟩ .nil)
theorem PK.len {κ : Type} {G : Hp} {ws : List (κ × V)} {kvs : List (κ × AbsV)} (h : PK G ws kvs) : ws.length = kvs.length := Paired.length h
theorem es_dput {i : Nat} {n : Int} {kvs : List (Key × AbsV)} (hx : E[i]? = some (.dic kvs)) (hk : EV K E ti (nI n)) (h : EV K E te r) (hl : kvs.length < 100000) (q : A.nx (E.set i (.dic (putA kvs (Sum.inl n) r)))) : ES K E (sDPut (tVar i) ti te) A := fun B G0 σ G H D k S =>
  h B G0 σ G H k _ fun v G1 H1 x1 r1 => by
    have k1 := k.ext x1
    obtain ⟨o, e, p, ws, e2, b, g, hh, pr⟩ := P_get k1.sl hx
    subst e2
    refine ⟨.ref p, e, hk B G0 σ G1 H1 k1 _ fun w G2 H2 x2 r2 => ?_⟩
    cases r2
    have k2 := k1.ext x2
    refine ⟨p, _, rfl, DPut.k (k := Sum.inl n) (x2.h _ _ hh) (by rw [pr.len]; exact smallT hl), S.nx _ _ _ _ q (k2.updM hx rfl e ⟨p, _, rfl, b, x2.n p (by rw [hh]; exact fun z => by cases z) g, upd_same, PK.put _ (r.mono x2.g r1) (pr.mono x2.g)⟩)⟩
/-- {k: v} -/
theorem es_asgD1 {i : Nat} {n : Int} {tk tv : TE} (hk : EV K E tk (nI n)) (hv : EV K E tv r) (q : A.nx (E.set i (.dic [(Sum.inl n, r)]))) : ES K E (tAsg (tDisp [(tk, tv)]) (gName i)) A := fun B G0 σ G H D k S => fun p hp =>
  hk B G0 σ G _ (k.ext (Ext.newO k.gh hp)) _ fun x G1 H1 x1 r1 => hv B G0 σ G1 H1 ((k.ext (Ext.newO k.gh hp)).ext x1) _ fun v G2 H2 x2 r2 => by
    cases r1
    have x0 := (Ext.newO (o := .dK []) k.gh hp).trans (x1.trans x2)
    have hH : H2 p = some (.dK []) := (x1.trans x2).h _ _ upd_same
    have hG : G2 p = none := (x1.trans x2).n p (by rw [upd_same]; exact fun z => by cases z) (k.gh.free hp)
    refine ⟨hH, [(Sum.inl n, v)], rfl, (by show 1 ≤ 15; decide), S.nx _ _ G2 _ q ?_⟩
    have k2 := k.ext x0
    have xm : Ok K B G0 (E.set i (.dic [(Sum.inl n, r)])) (σ.set i (some (.ref p))) G2 (upd H2 p (.dK [(Sum.inl n, v)])) := by
      have bn : B p = none := k.bh.free hp
      have kk : Ok K B G0 E σ G2 (upd H2 p (.dK [(Sum.inl n, v)])) := by
        refine k.ext ⟨x0.g, fun b u e => ?_, fun b u e => ?_, x0.n⟩
        · rw [upd_ne (ne_of_none e hp)]; exact x0.h b u e
        · rw [upd_ne (ne_of_none e hG)]; exact x0.gh b u e
      exact kk.setM i ⟨p, _, rfl, bn, hG, upd_same, .cons ⟨rfl, r2⟩ .nil⟩ fun j s' _ e m => k.fresh hp e m
    exact xm
/-! ### objects -/
theorem lookup_find {κ : Type} [DecidableEq κ] [BEq κ] [LawfulBEq κ] (k : κ) {β : Type} : ∀ ws : List (κ × β), ws.lookup k = (ws.find? fun kv => decide (kv.1 = k)).map (·.2)
  | [] => rfl
  | (a, v) :: ws => by
    rw [List.lookup_cons, List.find?_cons]
    dsimp only
    by_cases z : k = a
    · subst z
      rw [beq_self_eq_true, decide_eq_true rfl]; rfl
    · rw [decide_eq_false (fun e => z e.symm), beq_false_of_ne z]
      exact lookup_find k ws
/-- x.f -/
theorem ev_fld {C : Addr} {fs : List (Str × AbsV)} {f : Str} (h : EV K E te (inA C fs)) (hc : Cls K C) (hn : NoAttr K C f) (hl : lookA fs f = some r) : EV K E (tFld K te f) r := fun B G0 σ G H k Q q =>
  h B G0 σ G H k _ fun x G1 H1 x1 ⟨p, dx, ws, e, g, pr⟩ => by
    subst e
    have hl2 := PK.look f pr
    rw [hl] at hl2
    obtain ⟨v, e2, rv⟩ := hl2
    exact ⟨p, C, dx, ws, v, rfl, x1.gh _ _ g, hc, hn, by rw [lookup_find]; exact e2, q v G1 H1 x1 rv⟩
theorem putF_new {f : Str} {v : V} : ∀ {ws : List (Str × V)}, (ws.find? fun kv => decide (kv.1 = f)) = none → putF f v ws = ws ++ [(f, v)]
  | [], _ => rfl
  | (a, u) :: ws, h => by
    rw [List.find?_cons] at h
    dsimp only at h
    by_cases z : a = f
    · rw [decide_eq_true z] at h; cases h
    · rw [decide_eq_false z] at h
      show (if a = f then _ else (a, u) :: putF f v ws) = _
      rw [if_neg z, putF_new h]; rfl
/-- self.f = e, f new -/
theorem es_fld {i : Nat} {p C : Addr} {fs : List (Str × AbsV)} {f : Str} (hx : E[i]? = some (.ins p C fs)) (hc : Cls K C) (hn : NoAttr K C f) (h : EV K E te r) (hl : lookA fs f = none) (hs : fs.length < 900) (q : A.nx (E.set i (.ins p C (fs ++ [(f, r)])))) : ES K E (sFld K (tVar i) te f) A := fun B G0 σ G H D k S =>
  h B G0 σ G H k _ fun v G1 H1 x1 r1 => by
    have k1 := k.ext x1
    obtain ⟨o, e, dx, ws, e2, b, g, hh, pr⟩ := P_get k1.sl hx
    subst e2
    have hl2 := PK.look f pr
    rw [hl] at hl2
    have hl3 : (ws.find? fun kv => decide (kv.1 = f)) = none := by
      cases z : ws.find? fun kv => decide (kv.1 = f) with
      | none => rfl
      | some w => rw [z] at hl2; cases hl2
    refine ⟨.ref p, e, p, C, dx, ws, rfl, hh, hc, hn, by rw [pr.len]; omega, S.nx _ σ G1 _ q ?_⟩
    have hp2 : PK G1 (putF f v ws) (fs ++ [(f, r)]) := by
      rw [putF_new hl3]
      exact PK.append pr (.cons ⟨rfl, r1⟩ .nil)
    exact k1.updM hx rfl e ⟨dx, putF f v ws, rfl, b, g, upd_same, hp2⟩
theorem EV.ofI {p C : Addr} {fs : List (Str × AbsV)} (h : EV K E te (iaA p C fs)) : EV K E te (inA C fs) := fun B G0 σ G H k Q q => h B G0 σ G H k Q fun v G' H' x ⟨e, dx, ws, g, pk⟩ => q v G' H' x ⟨p, dx, ws, e, g, pk⟩
/-- o.m(..), o known for good -/
theorem ev_meth {X : Type} {args : X → List Slot} {pre : X → Prop} {res : X → Slot} {Ex0 : XK} {C : Addr} {fs : List (Str × AbsV)} {f : Str} {tr : TA} {as : List Slot} (x : X) (h : EV K E te (inA C fs)) (hl : lookA fs f = none) (ha : EA K E tr as) (hx : args x = .val (inA C fs) :: as) (hp : pre x) (hr : res x = .val r) : EV K E (tMeth C f (spX K args pre res) [] Ex0 te tr) r := fun B G0 σ G H k Q q =>
  h B G0 σ G H k _ fun o G1 H1 x1 r1 => by
    obtain ⟨p, dx, ws, e, g, pr⟩ := id r1
    subst e
    have hl2 := PK.look f pr
    rw [hl] at hl2
    refine ⟨p, dx, ws, rfl, x1.gh _ _ g, by rw [lookup_find]; exact hl2, ha B G0 σ G1 H1 (k.ext x1) _ fun vs G2 H2 x2 a => ⟨x, G2, hp, x2.gh, ?_, fun v G3 H3 x3 rv => q v G3 H3 ((x1.trans x2).trans x3) (by rw [hr] at rv; exact rv)⟩⟩
    rw [hx, List.append_nil]
    exact .cons ((inA C fs).mono x2.g r1) a
theorem evf_meth {X : Type} {args : X → List Slot} {pre : X → Prop} {res : X → Slot} {Ex0 : XK} {C : Addr} {fs : List (Str × AbsV)} {f : Str} {tr : TA} {as : List Slot} (x : X) (h : EV K E te (inA C fs)) (hl : lookA fs f = none) (ha : EA K E tr as) (hx : args x = .val (inA C fs) :: as) (hp : pre x) (hr : res x = .own l) : EVF K E (tMeth C f (spX K args pre res) [] Ex0 te tr) l := fun B G0 σ G H k Q q =>
  h B G0 σ G H k _ fun o G1 H1 x1 r1 => by
    obtain ⟨p, dx, ws, e, g, pr⟩ := id r1
    subst e
    have hl2 := PK.look f pr
    rw [hl] at hl2
    refine ⟨p, dx, ws, rfl, x1.gh _ _ g, by rw [lookup_find]; exact hl2, ha B G0 σ G1 H1 (k.ext x1) _ fun vs G2 H2 x2 a => ⟨x, G2, hp, x2.gh, ?_, fun v G3 H3 x3 rv => ?_⟩⟩
    · rw [hx, List.append_nil]
      exact .cons ((inA C fs).mono x2.g r1) a
    · rw [hr] at rv
      obtain ⟨p2, ws2, e, h1, g2, h2, pr2⟩ := rv
      subst e
      exact q p2 ws2 G3 H3 ((x1.trans x2).trans x3) ((x1.trans x2).h.free h1) g2 h2 pr2
/-- the promise of an __init__: a new object with these fields -/
def spI (K : PySem.W.Frag) (C : Addr) {X : Type} (args : X → List Slot) (pre : X → Prop) (fs : X → List (Str × AbsV)) : Sp := fun vs H Q _ => ∃ (x : X) (p dx : Addr) (Hb G : Hp) (us : List V), vs = .ref p :: us ∧ Hb p = none ∧ Hb dx = none ∧ dx ≠ p ∧ H = upd (upd Hb dx (.own p)) p (.ins C dx []) ∧ pre x ∧ Same G Hb ∧ Paired (ArgOk K G Hb) (args x) us ∧
  ∀ G' H', Ext G Hb G' H' → (inA C (fs x)).rep G' (.ref p) → Q .non H'
theorem ev_make {X : Type} {args : X → List Slot} {pre : X → Prop} {fs : X → List (Str × AbsV)} {Ex0 : XK} {C : Addr} {tr : TA} (x : X) (ha : EA K E tr (args x)) (hp : pre x) : EV K E (tMake C (spI K C args pre fs) [] Ex0 tr) (inA C (fs x)) := fun B G0 σ G H k Q q =>
  ha B G0 σ G H k _ fun vs G1 H1 x1 a => fun p dx np nd ne => ⟨x, p, dx, H1, G1, vs, by rw [List.append_nil], np, nd, ne, rfl, hp, x1.gh, a, fun G2 H2 x2 rv => ⟨rfl, q _ G2 H2 (x1.trans x2) rv⟩⟩
end
section
variable {P : Program} {w : World} {K : PySem.W.Frag} {mg : Str → Option Value} {base : Heap}
/-- THE RULE for an __init__ -/
theorem okI {C : Addr} {X : Type} {args : X → List Slot} {pre : X → Prop} {fs : X → List (Str × AbsV)} {qual : Str} {st : Stmt} {f : Addr} {fd : FuncData} {N ps : List Str} {k : Nat} (F : Fun K "__init__" qual st f fd) (S : FnScope N ps (defScope st)) (la : ∀ x, (args x).length + 1 = ps.length)
    (hb : ∀ (cdv : Value) (A : Around) (outer : List Env) (s : Shared) (H : Hp) (E : XK), Room k (A.deeper (envOfC qual (defScope st) s.heap.objs.size f cdv)) →
      ∃ t, PSs (cxOf CX0 P w K mg base N qual (defScope st) f cdv A outer s H E).nox (defBody st) t ∧ ∀ p x, pre x → ES K (.ins p C [] :: args x ++ List.replicate (N.length - ps.length) .un) t { nx := fun E' => E'[0]? = some (.val (iaA p C (fs x))), bk := fun _ => False, ct := fun _ => False, rt := fun _ => False }) : FnOk P w K mg base CX0 (k + 1) f fd ps (spI K C args pre fs) := by
  refine F.ok S (fun vs H Q E h => ?_) fun cdv A outer s H vs Q E hr h => ?_
  · obtain ⟨x, p, dx, Hb, G, us, e, _, _, _, _, _, _, a, _⟩ := h
    rw [e, List.length_cons, ← P_len a, la]
  · obtain ⟨t, ht, he⟩ := hb cdv A outer s H E hr
    obtain ⟨x, p, dx, Hb, G, us, e, np, nd, ne, eH, hp, gh, a, q⟩ := h
    subst e
    refine ⟨t, ht, ?_⟩
    have lv : (V.ref p :: us).length = ps.length := by rw [List.length_cons, ← P_len a, la]
    have e0 : L2.start N (V.ref p :: us) = (some (V.ref p) :: us.map some) ++ List.replicate (N.length - ps.length) none := by
      unfold L2.start
      rw [lv]; rfl
    rw [e0]
    have s1 : Same Hb H := fun b o e => by
      rw [eH, upd_ne (ne_of_none e np), upd_ne (ne_of_none e nd)]; exact e
    have hH : H p = some (.ins C dx []) := by rw [eH, upd_same]
    have k0 : Ok K Hb G (.ins p C [] :: args x ++ List.replicate (N.length - ps.length) .un) ((some (V.ref p) :: us.map some) ++ List.replicate (N.length - ps.length) none) G H := by
      have k1 := start_ok (K := K) (G := G) (H := Hb) gh a (N.length - ps.length)
      have x1 : Ext G Hb G H := ⟨Same.refl _, s1, gh.trans s1, fun _ _ e => e⟩
      have k2 := k1.ext x1
      refine ⟨k2.toOkB, .cons ⟨dx, [], rfl, np, gh.free np, hH, .nil⟩ k2.sl, fun i j r s s' ei ej mi mj si sj => ?_⟩
      have only : ∀ (i : Nat) (s : Slot), (Slot.ins p C [] :: (args x ++ List.replicate (N.length - ps.length) Slot.un))[i]? = some s → s.mut = true → i = 0 := fun i s ei mi => by
        cases i with
        | zero => rfl
        | succ i =>
          have ei' : (args x ++ List.replicate (N.length - ps.length) Slot.un)[i]? = some s := ei
          have hf : s.mut = false := by
            by_cases hi : i < (args x).length
            · rw [List.getElem?_append_left hi] at ei'; exact no_mut a ei'
            · rw [List.getElem?_append_right (by omega)] at ei'
              have := List.mem_of_getElem? ei'
              have := (List.mem_replicate.mp this).2
              rw [this]; rfl
          rw [hf] at mi; cases mi
      rw [only i s ei mi, only j s' ej mj]
    refine he p x hp Hb G _ G H _ k0 ⟨fun E σ G' H' h' k' => ?_, fun _ _ _ _ h' _ => h'.elim, fun _ _ _ _ h' _ => h'.elim, fun r v G' H' h' _ _ => h'.elim, fun l p ws G' H' h' _ _ _ _ _ => h'.elim, fun _ _ _ _ _ h' _ => h'.elim⟩
    obtain ⟨o, e, v, e2, e3, rv⟩ := P_get k'.sl (show E[0]? = some (.val (iaA p C (fs x))) from h')
    obtain ⟨dx', ws', g', pk⟩ := rv
    exact q G' H' ⟨k'.g0, k'.bh, k'.gh, k'.nb⟩ ⟨p, dx', ws', rfl, g', pk⟩
end
end Ab

set_option maxHeartbeats 2000000
namespace Ab
open PySem PySem.Spec PyProof.Rows L2
section
variable {K : PySem.W.Frag} {E : List Slot} {ta tb tc te ti tk tv : TE} {t u : TT} {ts us : TS} {r s : AbsV} {l m : List AbsV} {A : AE}
theorem lenSetK {X : Cx} (K : PySem.W.Frag) {a : Expr} {ta : TE} {p p2 q pos : Pos} (hg : Gl X "len") (hm : X.mg "len" = none) (hg2 : Gl X "set") (hm2 : X.mg "set" = none) (ha : PE X a ta) (h : X.K = K := by rfl) (hc : X.calm = true := by rfl)
    (na : starEach [a] X.env = (false, eval a X.env) :: starEach [] X.env := by rfl) : PE X (.Call (.Name "len" p) [.Call (.Name "set" p2) [a] [] q] [] pos) (RZ.tLenSetI K ta) := by
  subst h; exact RZ.pe_lenSetI hg hm hg2 hm2 ha hc na
theorem ev_lenSet {ns : List Int} (h : EVL K E te (ns.map nI)) (hn : ns.Nodup) (hl : ns.length ≤ 4000) : EV K E (RZ.tLenSetI K te) (nI ns.length) := fun B G0 σ G H k Q q =>
  h B G0 σ G H k _ fun p vs G1 H1 x1 h1 pr => ⟨p, ns, rfl, SqL.of (by rw [← all_int pr]; exact h1), hn, hl, q _ G1 H1 x1 rfl⟩
/-- len(set(xs)), xs ints, whether or not some stand twice -/
def dd (ns : List Int) : Nat := (PyProof.Rows.firstMet (fun i => ns.getD i 0) ns.length).length
def tLenSetG (K : PySem.W.Frag) (ta : TE) : TE := fun σ H Q => ta σ H fun x H1 => ∃ (l : Addr) (ns : List Int), x = .ref l ∧ SqL K H1 l (ns.map V.int) ∧ ns.length ≤ 4000 ∧ Q (.int (dd ns : Nat)) H1
theorem pe_lenSetG {X : Cx} {a : Expr} {ta : TE} {p p2 q pos : Pos} (hg : Gl X "len") (hm : X.mg "len" = none) (hg2 : Gl X "set") (hm2 : X.mg "set" = none) (ha : PE X a ta) (hc : X.calm = true := by rfl)
    (na : starEach [a] X.env = (false, eval a X.env) :: starEach [] X.env := by rfl) : PE X (.Call (.Name "len" p) [.Call (.Name "set" p2) [a] [] q] [] pos) (tLenSetG X.K ta) := by
  refine ⟨fun pins s σ H Q I h => ?_⟩
  refine Call_ (ld_blt I hg hm boot_len ?_)
  refine PyProof.Rows.callWith_builtin1 (PyProof.Rows.args_cons ?_ rfl) rfl rfl
  refine Call_ (ld_blt I hg2 hm2 boot_set ?_)
  refine PyProof.Rows.callWith_type1 (PyProof.Rows.args_cons (thn (ha.run pins s σ H _ I h) fun v s1 ⟨x, H1, I1, r1, q1⟩ => PyProof.Rows.args_nil ?_) na) na rfl
  obtain ⟨l, ns, ex, hs, hle, q1⟩ := q1
  subst ex
  cases r1
  obtain ⟨its, r, pl, hz⟩ := I1.list hs
  have hlen : its.toArray.size = ns.length := by rw [List.size_toArray, ← r.length, List.length_map]
  have hfl := PyProof.Rows.firstMet_length_le (fun i => ns.getD i 0) ns.length
  refine call_set_list (I1.ok.hd hc) pl.isList (by simpa using RZ.intsAre_vals r) (by rw [hlen]; unfold scanBound; omega) fun h' tk hS hk => ?_
  refine PyProof.Rows.args_nil ?_
  rw [hlen] at hS
  obtain ⟨o, es, ep, t, ho, hex, hd, _, _, _, hf, hn⟩ := hS
  have I2 : Inv X pins σ H1 { s1 with heap := h', toks := tk } := I1.kept fun b o e => hk b o (Heap.lt_size e) e
  exact call_len_set ho hex hd hf (by rw [hn] <;> omega) ⟨.int (dd ns : Nat), H1, I2.tok _, ⟨_, by rw [hn]; rfl⟩, q1⟩
theorem lenSetGK {X : Cx} (K : PySem.W.Frag) {a : Expr} {ta : TE} {p p2 q pos : Pos} (hg : Gl X "len") (hm : X.mg "len" = none) (hg2 : Gl X "set") (hm2 : X.mg "set" = none) (ha : PE X a ta) (h : X.K = K := by rfl) (hc : X.calm = true := by rfl)
    (na : starEach [a] X.env = (false, eval a X.env) :: starEach [] X.env := by rfl) : PE X (.Call (.Name "len" p) [.Call (.Name "set" p2) [a] [] q] [] pos) (tLenSetG K ta) := by
  subst h; exact pe_lenSetG hg hm hg2 hm2 ha hc na
theorem ev_lenSetG {ns : List Int} (h : EVL K E te (ns.map nI)) (hl : ns.length ≤ 4000) : EV K E (tLenSetG K te) (nI (dd ns : Nat)) := fun B G0 σ G H k Q q =>
  h B G0 σ G H k _ fun p vs G1 H1 x1 h1 pr => ⟨p, ns, rfl, SqL.of (by rw [← all_int pr]; exact h1), hl, q _ G1 H1 x1 rfl⟩
/-- a new dict -/
def EVDF (K : PySem.W.Frag) (E : List Slot) (te : TE) (kvs : List (Key × AbsV)) : Prop := ∀ (B G0 : Hp) (σ : L2.St) (G H : Hp), Ok K B G0 E σ G H → ∀ Q : VK, (∀ p ws G' H', Ext G H G' H' → H p = none → G' p = none → H' p = some (.dK ws) → PK G' ws kvs → Q (.ref p) H') → te σ H Q
theorem EVDF.ev {kvs : List (Key × AbsV)} (h : EVDF K E te kvs) : EV K E te (dcA kvs) := fun B G0 σ G H k Q q => h B G0 σ G H k Q fun p ws G' H' x hn g' h' pr =>
  q (.ref p) (upd G' p (.dK ws)) H' (x.freeze hn g' h') ⟨p, ws, rfl, upd_same, pr.mono (fun b u e => by rw [upd_ne (ne_of_none e g')]; exact e)⟩
def dcL (kf : Nat → Int) (vf : Nat → AbsV) (n : Nat) : List (Key × AbsV) := (List.range n).map fun c => (Sum.inl (kf c), vf c)
theorem dcL_succ (kf : Nat → Int) (vf : Nat → AbsV) (n : Nat) : dcL kf vf (n + 1) = dcL kf vf n ++ [(Sum.inl (kf n), vf n)] := by
  unfold dcL
  rw [List.range_succ, List.map_append]; rfl
theorem dcL_len (kf : Nat → Int) (vf : Nat → AbsV) (n : Nat) : (dcL kf vf n).length = n := by
  unfold dcL
  rw [List.length_map, List.length_range]
theorem dcL_new {kf : Nat → Int} {vf : Nat → AbsV} {n : Nat} {k : Int} (h : ∀ c, c < n → kf c ≠ k) {r : AbsV} : putA (dcL kf vf n) (Sum.inl k) r = dcL kf vf n ++ [(Sum.inl k, r)] := by
  unfold putA
  rw [if_neg]
  intro z
  rw [List.any_eq_true] at z
  obtain ⟨kv, hm, e⟩ := z
  unfold dcL at hm
  obtain ⟨c, hc, e2⟩ := List.mem_map.mp hm
  rw [← e2] at e
  have e3 : (Sum.inl (kf c) : Key) = Sum.inl k := of_decide_eq_true e
  cases e3
  exact h c (List.mem_range.mp hc) rfl
theorem wipe2 {σ : L2.St} {i j : Nat} {v w : V} (hij : i ≠ j) : wipe (((wipe σ [i, j]).set i (some v)).set j (some w)) [i, j] = wipe σ [i, j] := by
  show (((((σ.set j none).set i none).set i (some v)).set j (some w)).set j none).set i none = (σ.set j none).set i none
  rw [List.set_set, List.set_set, List.set_comm _ _ hij, List.set_set, List.set_set]
theorem evd_dcE {i j : Nat} (hij : i ≠ j) (hw : EVS K E ta l) (kf : Nat → Int) (vf : Nat → AbsV) (inj : ∀ a b, a < b → b < l.length → kf a ≠ kf b) (hn : l.length ≤ 100000)
    (hk : ∀ c r, l[c]? = some r → EV K (((wipeE E [i, j]).set i (.val (nI (c : Nat)))).set j (.val r)) tk (nI (kf c))) (hv : ∀ c r, l[c]? = some r → EV K (((wipeE E [i, j]).set i (.val (nI (c : Nat)))).set j (.val r)) tv (vf c)) :
    EVDF K E (tDc (iEnum K (tCons ta tNil)) (gTup K 2 (gCons (gName i) (gCons (gName j) gNil))) tYes tk tv [i, j]) (dcL kf vf l.length) := fun B G0 σ G H k Q q =>
  hw B G0 σ G H k _ fun p vs G1 H1 x1 st pr => by
    have k1 := k.ext x1
    have sH : H1 p = some (.lst vs) := by
      rcases st with st | st
      · exact x1.gh _ _ st
      · exact k1.bh _ _ st
    refine ⟨p, vs, rfl, SqL.of sH, fun D hD => ?_⟩
    let Pv := fun (c : Nat) (H : Hp) => ∃ G ws, Ext G1 H1 G H ∧ G D = none ∧ H D = some (.dK ws) ∧ PK G ws (dcL kf vf c)
    refine ⟨fun c m H => m = vs.length - c ∧ c ≤ vs.length ∧ Pv c H, ⟨vs.length, by simp, Nat.zero_le _, G1, [], Ext.newO k1.gh hD, k1.gh.free hD, upd_same, .nil⟩, ?_⟩
    rintro c m H' ⟨rfl, hc, G', ws, x, gD, hD', pk⟩
    have hH := x.h _ _ sH
    by_cases hlt : c < vs.length
    · obtain ⟨r, hr, rv⟩ := PR.get' (pr.mono x.g) (List.getElem?_eq_getElem hlt)
      refine .inr ⟨⟨vs, vs[c], SqL.of hH, List.getElem?_eq_getElem hlt⟩, Pv (c + 1), fun H3 h3 => ⟨vs.length - (c + 1), by omega, rfl, hlt, h3⟩, fun y H2 hy => ?_⟩
      obtain ⟨T, z, rfl, hT, rfl, fy⟩ := hy
      have ez : z = vs[c] := Option.some.inj ((fy vs (SqL.of hH)).symm.trans (List.getElem?_eq_getElem hlt))
      have xT := Ext.new (o := .tup [.int (c : Nat), z]) x.gh hT
      have kT := Ok.wipe ((k1.ext x).ext xT) [i, j]
      refine ⟨T, [.int (c : Nat), z], rfl, SqT.of upd_same, rfl, .int (c : Nat), [z], rfl, z, [], rfl, rfl, wipe2 hij, ?_⟩
      have k2 := (kT.set i (s := .val (nI (c : Nat))) (o := some (.int (c : Nat))) ⟨_, rfl, rfl⟩ rfl).set j (s := .val r) (o := some z) ⟨_, rfl, r.mono xT.g (by rw [ez]; exact rv)⟩ rfl
      change tk _ _ _
      refine hk c r hr B G0 _ _ _ k2 _ fun yk G3 H3 x3 r3 => hv c r hr B G0 _ _ _ (k2.ext x3) _ fun yv G4 H4 x4 r4 => ?_
      cases r3
      have xx := xT.trans (x3.trans x4)
      have nz : H' D ≠ none := by rw [hD']; exact fun z => by cases z
      have g4 : G4 D = none := xx.n D nz gD
      have h4 := xx.h _ _ hD'
      have pk4 := pk.mono xx.g
      have hcl : c < l.length := by rw [← pr.len]; exact hlt
      refine ⟨ws, Sum.inl (kf c), rfl, h4, by rw [PK.len pk, dcL_len]; exact smallT (by omega), G4, _, (x.trans xx).mut hD g4, g4, upd_same, ?_⟩
      have h5 := PK.put (Sum.inl (kf c) : Key) r4 pk4
      rw [dcL_new fun a ha => inj a c ha hcl, ← dcL_succ] at h5
      exact h5
    · have e : c = vs.length := by omega
      subst e
      rw [pr.len] at pk
      exact .inl ⟨⟨vs, SqL.of hH, Nat.le_refl _⟩, q D ws G' H' (x1.trans x) (x1.h.free hD) gD hD' pk⟩
/-- the dict of a row: who stands at which port -/
def portsL (row : List Int) : List (Key × AbsV) := dcL (fun c => row.getD c 0) (fun c => nI (c : Nat)) row.length
theorem look_ports {row : List Int} {c : Nat} {o : Int} (hn : row.Nodup) (h : row[c]? = some o) : lookA (portsL row) (Sum.inl o) = some (nI (c : Nat)) := by
  have hc : c < row.length := (List.getElem?_eq_some_iff.mp h).1
  have key : ∀ n, c < n → n ≤ row.length → (dcL (fun c => row.getD c 0) (fun c => nI (c : Nat)) n).find? (fun kv => decide (kv.1 = (Sum.inl o : Key))) = some (Sum.inl o, nI (c : Nat)) := fun n => by
    induction n with
    | zero => intro h; omega
    | succ n ih =>
      intro h1 h2
      rw [dcL_succ, List.find?_append]
      by_cases hcn : c < n
      · rw [ih hcn (by omega)]; rfl
      · have e : c = n := by omega
        subst e
        have hnone : (dcL (fun c => row.getD c 0) (fun c => nI (c : Nat)) c).find? (fun kv => decide (kv.1 = (Sum.inl o : Key))) = none := by
          rw [List.find?_eq_none]
          intro kv hm hd
          unfold dcL at hm
          obtain ⟨a, ha, e2⟩ := List.mem_map.mp hm
          have ha := List.mem_range.mp ha
          have e3 : kv.1 = (Sum.inl o : Key) := of_decide_eq_true hd
          rw [← e2] at e3
          cases e3
          have ha2 : row[a]? = some (row.getD a 0) := by
            rw [List.getD_eq_getElem?_getD, List.getElem?_eq_getElem (by omega)]; rfl
          have := nd_ix hn ha2 h
          omega
        have ho : row.getD c 0 = o := by rw [List.getD_eq_getElem?_getD, h]; rfl
        rw [hnone, ho, List.find?_cons]
        dsimp only
        rw [decide_eq_true rfl]; rfl
  unfold lookA portsL
  rw [key row.length hc (Nat.le_refl _)]; rfl
theorem look_ports_none {row : List Int} {o : Int} (h : o ∉ row) : lookA (portsL row) (Sum.inl o) = none := by
  unfold lookA portsL
  have : (dcL (fun c => row.getD c 0) (fun c => nI (c : Nat)) row.length).find? (fun kv => decide (kv.1 = (Sum.inl o : Key))) = none := by
    rw [List.find?_eq_none]
    intro kv hm hd
    unfold dcL at hm
    obtain ⟨a, ha, e2⟩ := List.mem_map.mp hm
    have ha := List.mem_range.mp ha
    have e3 : kv.1 = (Sum.inl o : Key) := of_decide_eq_true hd
    rw [← e2] at e3
    cases e3
    refine h ?_
    show row.getD a 0 ∈ row
    rw [List.getD_eq_getElem?_getD, List.getElem?_eq_getElem ha]
    exact List.getElem_mem ha
  rw [this]; rfl
end
end Ab

set_option maxHeartbeats 2000000
namespace Ab
open PySem PySem.Spec PyProof.Rows L2
/-! ### exceptions of the text's own classes: what comes out of a call is a result or a class that is raised -/
abbrev Out := Slot ⊕ Addr
/-- a call that may raise -/
def EX (K : PySem.W.Frag) (E : List Slot) (te : TE) (ew : WX) (o : Out) : Prop := ∀ (B G0 : Hp) (σ : L2.St) (G H : Hp), Ok K B G0 E σ G H → ∀ Q : VK, (∀ r v G' H', o = .inl r → Ext G H G' H' → ResOk G H G' H' r v → Q v H') → (∀ C G' H', o = .inr C → Ext G H G' H' → ew (.ref C) none σ H') → te σ H Q
section
variable {K : PySem.W.Frag} {E : List Slot} {ta tb te : TE} {r : AbsV} {l : List AbsV} {A : AE} {ew : WX} {o : Out}
theorem EX.is {o' : Out} (h : EX K E te ew o) (e : o = o') : EX K E te ew o' := by
  rw [← e]; exact h
theorem EX.ev (h : EX K E te ew o) (e : o = .inl (.val r)) : EV K E te r := fun B G0 σ G H k Q q => h B G0 σ G H k Q (fun s v G' H' z x rv => by
  rw [e] at z
  cases z
  exact q v G' H' x rv) fun C G' H' z => by rw [e] at z; cases z
theorem EX.evf (h : EX K E te ew o) (e : o = .inl (.own l)) : EVF K E te l := fun B G0 σ G H k Q q => h B G0 σ G H k Q (fun s v G' H' z x rv => by
  rw [e] at z
  cases z
  obtain ⟨p, ws, e, h1, g2, h2, pr⟩ := rv
  subst e
  exact q p ws G' H' x h1 g2 h2 pr) fun C G' H' z => by rw [e] at z; cases z
theorem es_dropX (h : EX K E te ew o) (he : A.ew = ew) (hok : ∀ r, o = .inl r → A.nx E) (hex : ∀ C, o = .inr C → A.ex E C) : ES K E (tDrop te) A := fun B G0 σ G H D k S =>
  h B G0 σ G H k _ (fun s v G' H' z x rv => S.nx _ _ G' H' (hok s z) (k.ext x)) fun C G' H' z x => by
    rw [← he]; exact S.ex _ _ G' H' C (hex C z) (k.ext x)
theorem es_retX (h : EX K E te ew o) (he : A.ew = ew) (hok : ∀ r, o = .inl r → A.rt r) (hex : ∀ C, o = .inr C → A.ex E C) : ES K E (tRet te) A := fun B G0 σ G H D k S =>
  h B G0 σ G H k _ (fun s v G' H' z x rv => by
    have hs := hok s z
    cases s with
    | val r => exact S.rtV r v G' H' hs (k.toOkB.ext x) rv
    | own l =>
      obtain ⟨p, ws, e, h1, g2, h2, pr⟩ := rv
      subst e
      exact S.rtO l p ws G' H' hs (k.toOkB.ext x) (k.bh.free h1) g2 h2 pr
    | un => exact rv.elim
    | red _ => exact rv.elim
    | scr _ => exact rv.elim
    | dic _ => exact rv.elim
    | ins _ _ _ => exact rv.elim) fun C G' H' z x => by
    rw [← he]; exact S.ex _ _ G' H' C (hex C z) (k.ext x)
theorem es_asgX {i : Nat} (h : EX K E te ew o) (he : A.ew = ew) (hok : ∀ r, o = .inl r → A.nx (E.set i r)) (hex : ∀ C, o = .inr C → A.ex E C) : ES K E (tAsg te (gName i)) A := fun B G0 σ G H D k S =>
  h B G0 σ G H k _ (fun s v G' H' z x rv => by
    have hs := hok s z
    cases s with
    | val r => exact S.nx _ _ G' H' hs ((k.ext x).set i ⟨v, rfl, rv⟩ rfl)
    | own l =>
      obtain ⟨p, ws, e, h1, g2, h2, pr⟩ := rv
      subst e
      exact S.nx _ _ G' H' hs ((k.ext x).setM i (s := .own l) ⟨p, ws, rfl, k.bh.free h1, g2, h2, pr⟩ fun j s' hj e m => k.fresh h1 e m)
    | un => exact rv.elim
    | red _ => exact rv.elim
    | scr _ => exact rv.elim
    | dic _ => exact rv.elim
    | ins _ _ _ => exact rv.elim) fun C G' H' z x => by
    rw [← he]; exact S.ex _ _ G' H' C (hex C z) (k.ext x)
/-- raise C(..) -/
theorem es_raise {C : Addr} {Ex : XK} (he : A.ew = fun cls d _ H => Ex cls d H) (h : A.ex E C) : ES K E (fun _ _ H => Ex (.ref C) none H) A := fun B G0 σ G H D k S => by
  have := S.ex E σ G H C h k
  rw [he] at this
  exact this
theorem es_never (h : False) {ts : TS} : ES K E ts A := h.elim
/-- try: body except X: suite -/
theorem es_try {tb : WX → TS} {tsu : Addr → Value → Option Addr → TS} {c : Value} {Wout : WX} (px : List Slot → Addr → Prop)
    (hb : ∀ W : WX, ES K E (tb W) { A with ex := px, ew := W }) (hs : ∀ E' C, px E' C → PySem.W.exmOne K (.ref C) c = some true ∧ ∀ a, ES K E' (tsu a (.ref C) none) A) : ES K E (fun D σ H => tb (wOnly K c tsu Wout D) D σ H) A := fun B G0 σ G H D k S =>
  hb _ B G0 σ G H D k ⟨S.nx, S.bk, S.ct, S.rtV, S.rtO, fun E' σ' G' H' C h' k' => ⟨true, (hs E' C h').1, fun _ a _ => (hs E' C h').2 a B G0 σ' G' H' D k' S, fun z => nomatch z⟩⟩
end
/-- a promise of a def that may raise -/
def spE (K : PySem.W.Frag) {X : Type} (args : X → List Slot) (pre : X → Prop) (out : X → Out) : Sp := fun vs H Q E => ∃ (x : X) (G : Hp), pre x ∧ Same G H ∧ Paired (ArgOk K G H) (args x) vs ∧ (∀ r, out x = .inl r → ∀ v G' H', Ext G H G' H' → ResOk G H G' H' r v → Q v H') ∧ (∀ C, out x = .inr C → ∀ G' H', Ext G H G' H' → E (.ref C) none H')
/-- the promise of an __init__ that may raise -/
def spIE (K : PySem.W.Frag) (C : Addr) {X : Type} (args : X → List Slot) (pre : X → Prop) (fs : X → List (Str × AbsV)) (bad : X → Option Addr) : Sp := fun vs H Q E => ∃ (x : X) (p dx : Addr) (Hb G : Hp) (us : List V), vs = .ref p :: us ∧ Hb p = none ∧ Hb dx = none ∧ dx ≠ p ∧ H = upd (upd Hb dx (.own p)) p (.ins C dx []) ∧ pre x ∧ Same G Hb ∧ Paired (ArgOk K G Hb) (args x) us ∧
  (bad x = none → ∀ G' H', Ext G Hb G' H' → (inA C (fs x)).rep G' (.ref p) → Q .non H') ∧ (∀ D, bad x = some D → ∀ G' H', Ext G Hb G' H' → E (.ref D) none H')
def outI (C : Addr) (fs : List (Str × AbsV)) : Option Addr → Out
  | none => .inl (.val (inA C fs))
  | some D => .inr D
theorem ResOk.later {G H G1 H1 G' H' : Hp} {s : Slot} {v : V} (x : Ext G H G1 H1) (h : ResOk G1 H1 G' H' s v) : ResOk G H G' H' s v := by
  cases s with
  | val r => exact h
  | own l =>
    obtain ⟨p, ws, e, h1, g2, h2, pr⟩ := h
    exact ⟨p, ws, e, x.h.free h1, g2, h2, pr⟩
  | un => exact h
  | red _ => exact h
  | scr _ => exact h
  | dic _ => exact h
  | ins _ _ _ => exact h
section
variable {K : PySem.W.Frag} {E : List Slot} {te : TE} {ta : TA} {r : AbsV} {l : List AbsV} {X : Type} {args : X → List Slot} {pre : X → Prop} {out : X → Out} {Ex : XK} {W : WX} {C : Addr} {fs : List (Str × AbsV)}
theorem ex_call (x : X) (h : EA K E ta (args x)) (hp : pre x) : EX K E (tCall (spE K args pre out) [] Ex ta) (fun cls d _ H => Ex cls d H) (out x) := fun B G0 σ G H k Q q qx =>
  h B G0 σ G H k _ fun vs G1 H1 x1 a => ⟨x, G1, hp, x1.gh, by rw [List.append_nil]; exact a, fun r e v G2 H2 x2 rv => q r v G2 H2 e (x1.trans x2) (rv.later x1), fun C e G2 H2 x2 => qx C G2 H2 e (x1.trans x2)⟩
theorem ex_callS (x : X) (h : EA K E ta (args x)) (hp : pre x) : EX K E (tCallS (spE K args pre out) (fun σ => WE W σ) ta) W (out x) := fun B G0 σ G H k Q q qx =>
  h B G0 σ G H k _ fun vs G1 H1 x1 a => ⟨x, G1, hp, x1.gh, a, fun r e v G2 H2 x2 rv => q r v G2 H2 e (x1.trans x2) (rv.later x1), fun C e G2 H2 x2 => qx C G2 H2 e (x1.trans x2)⟩
theorem ex_meth {f : Str} {as : List Slot} (x : X) (h : EV K E te (inA C fs)) (hl : lookA fs f = none) (ha : EA K E ta as) (hx : args x = .val (inA C fs) :: as) (hp : pre x) : EX K E (tMeth C f (spE K args pre out) [] Ex te ta) (fun cls d _ H => Ex cls d H) (out x) := fun B G0 σ G H k Q q qx =>
  h B G0 σ G H k _ fun o G1 H1 x1 r1 => by
    obtain ⟨p, dx, ws, e, g, pr⟩ := id r1
    subst e
    have hl2 := PK.look f pr
    rw [hl] at hl2
    refine ⟨p, dx, ws, rfl, x1.gh _ _ g, by rw [lookup_find]; exact hl2, ha B G0 σ G1 H1 (k.ext x1) _ fun vs G2 H2 x2 a => ⟨x, G2, hp, x2.gh, ?_, fun r e v G3 H3 x3 rv => q r v G3 H3 e ((x1.trans x2).trans x3) (rv.later (x1.trans x2)), fun C e G3 H3 x3 => qx C G3 H3 e ((x1.trans x2).trans x3)⟩⟩
    rw [hx, List.append_nil]
    exact .cons ((inA C fs).mono x2.g r1) a
theorem ex_make {fs : X → List (Str × AbsV)} {bad : X → Option Addr} (x : X) (ha : EA K E ta (args x)) (hp : pre x) : EX K E (tMake C (spIE K C args pre fs bad) [] Ex ta) (fun cls d _ H => Ex cls d H) (outI C (fs x) (bad x)) := fun B G0 σ G H k Q q qx =>
  ha B G0 σ G H k _ fun vs G1 H1 x1 a => fun p dx np nd ne => ⟨x, p, dx, H1, G1, vs, by rw [List.append_nil], np, nd, ne, rfl, hp, x1.gh, a, fun e G2 H2 x2 rv => ⟨rfl, q (.val (inA C (fs x))) _ G2 H2 (by rw [e]; rfl) (x1.trans x2) rv⟩, fun D e G2 H2 x2 => qx D G2 H2 (by rw [e]; rfl) (x1.trans x2)⟩
end
/-- the ends of a def that may raise -/
def AX (o : Out) (Ex : XK) : AE := { nx := fun _ => o = .inl (.val nN), bk := fun _ => False, ct := fun _ => False, rt := fun s' => o = .inl s', ex := fun _ C => o = .inr C, ew := fun cls d _ H => Ex cls d H }
section
variable {P : Program} {w : World} {K : PySem.W.Frag} {mg : Str → Option Value} {base : Heap}
/-- THE RULE for a def that may raise -/
theorem okE {X : Type} {args : X → List Slot} {pre : X → Prop} {out : X → Out} {x qual : Str} {st : Stmt} {f : Addr} {fd : FuncData} {N ps : List Str} {k : Nat} (F : Fun K x qual st f fd) (S : FnScope N ps (defScope st)) (la : ∀ x, (args x).length = ps.length)
    (hb : ∀ (cdv : Value) (A : Around) (outer : List Env) (s : Shared) (H : Hp) (E : XK), Room k (A.deeper (envOfC qual (defScope st) s.heap.objs.size f cdv)) →
      ∃ t, PSs (cxOf (CX P w) P w K mg base N qual (defScope st) f cdv A outer s H E) (defBody st) t ∧ ∀ x, pre x → ES K (args x ++ List.replicate (N.length - ps.length) .un) t (AX (out x) E)) : FnOk P w K mg base (CX P w) (k + 1) f fd ps (spE K args pre out) := by
  refine F.okX S (fun vs H Q E h => ?_) fun cdv A outer s H vs Q E hr h => ?_
  · obtain ⟨x, G, _, _, a, _⟩ := h
    rw [← P_len a, la]
  · obtain ⟨t, ht, he⟩ := hb cdv A outer s H E hr
    obtain ⟨x, G, hp, gh, a, q, qx⟩ := h
    refine ⟨t, ht, ?_⟩
    have lv : vs.length = ps.length := by rw [← P_len a, la]
    unfold L2.start
    rw [lv]
    refine he x hp H G _ G H _ (start_ok gh a _) ⟨fun E σ G' H' h' k' => ?_, fun _ _ _ _ h' _ => h'.elim, fun _ _ _ _ h' _ => h'.elim, fun r v G' H' h' k' rv => ?_, fun l p ws G' H' h' k' b g e pr => ?_, fun E' σ' G' H' C h' k' => ?_⟩
    · exact q _ h' _ G' H' ⟨k'.g0, k'.bh, k'.gh, k'.nb⟩ rfl
    · exact q _ h' _ G' H' ⟨k'.g0, k'.bh, k'.gh, k'.nb⟩ rv
    · exact q _ h' _ G' H' ⟨k'.g0, k'.bh, k'.gh, k'.nb⟩ ⟨p, ws, rfl, b, g, e, pr⟩
    · exact qx C h' G' H' ⟨k'.g0, k'.bh, k'.gh, k'.nb⟩
/-- THE RULE for an __init__ that may raise -/
theorem okIE {C : Addr} {X : Type} {args : X → List Slot} {pre : X → Prop} {fs : X → List (Str × AbsV)} {bad : X → Option Addr} {qual : Str} {st : Stmt} {f : Addr} {fd : FuncData} {N ps : List Str} {k : Nat} (F : Fun K "__init__" qual st f fd) (S : FnScope N ps (defScope st)) (la : ∀ x, (args x).length + 1 = ps.length)
    (hb : ∀ (cdv : Value) (A : Around) (outer : List Env) (s : Shared) (H : Hp) (E : XK), Room k (A.deeper (envOfC qual (defScope st) s.heap.objs.size f cdv)) →
      ∃ t, PSs (cxOf (CX P w) P w K mg base N qual (defScope st) f cdv A outer s H E) (defBody st) t ∧ ∀ p x, pre x → ES K (.ins p C [] :: args x ++ List.replicate (N.length - ps.length) .un) t { nx := fun E' => bad x = none ∧ E'[0]? = some (.val (iaA p C (fs x))), bk := fun _ => False, ct := fun _ => False, rt := fun _ => False, ex := fun _ D => bad x = some D, ew := fun cls d _ H => E cls d H }) : FnOk P w K mg base (CX P w) (k + 1) f fd ps (spIE K C args pre fs bad) := by
  refine F.okX S (fun vs H Q E h => ?_) fun cdv A outer s H vs Q E hr h => ?_
  · obtain ⟨x, p, dx, Hb, G, us, e, _, _, _, _, _, _, a, _⟩ := h
    rw [e, List.length_cons, ← P_len a, la]
  · obtain ⟨t, ht, he⟩ := hb cdv A outer s H E hr
    obtain ⟨x, p, dx, Hb, G, us, e, np, nd, ne, eH, hp, gh, a, q, qx⟩ := h
    subst e
    refine ⟨t, ht, ?_⟩
    have lv : (V.ref p :: us).length = ps.length := by rw [List.length_cons, ← P_len a, la]
    have e0 : L2.start N (V.ref p :: us) = (some (V.ref p) :: us.map some) ++ List.replicate (N.length - ps.length) none := by
      unfold L2.start
      rw [lv]; rfl
    rw [e0]
    have s1 : Same Hb H := fun b o e => by
      rw [eH, upd_ne (ne_of_none e np), upd_ne (ne_of_none e nd)]; exact e
    have hH : H p = some (.ins C dx []) := by rw [eH, upd_same]
    have k0 : Ok K Hb G (.ins p C [] :: args x ++ List.replicate (N.length - ps.length) .un) ((some (V.ref p) :: us.map some) ++ List.replicate (N.length - ps.length) none) G H := by
      have k1 := start_ok (K := K) (G := G) (H := Hb) gh a (N.length - ps.length)
      have x1 : Ext G Hb G H := ⟨Same.refl _, s1, gh.trans s1, fun _ _ e => e⟩
      have k2 := k1.ext x1
      refine ⟨k2.toOkB, .cons ⟨dx, [], rfl, np, gh.free np, hH, .nil⟩ k2.sl, fun i j r s s' ei ej mi mj si sj => ?_⟩
      have only : ∀ (i : Nat) (s : Slot), (Slot.ins p C [] :: (args x ++ List.replicate (N.length - ps.length) Slot.un))[i]? = some s → s.mut = true → i = 0 := fun i s ei mi => by
        cases i with
        | zero => rfl
        | succ i =>
          have ei' : (args x ++ List.replicate (N.length - ps.length) Slot.un)[i]? = some s := ei
          have hf : s.mut = false := by
            by_cases hi : i < (args x).length
            · rw [List.getElem?_append_left hi] at ei'; exact no_mut a ei'
            · rw [List.getElem?_append_right (by omega)] at ei'
              have := List.mem_of_getElem? ei'
              have := (List.mem_replicate.mp this).2
              rw [this]; rfl
          rw [hf] at mi; cases mi
      rw [only i s ei mi, only j s' ej mj]
    refine he p x hp Hb G _ G H _ k0 ⟨fun E σ G' H' h' k' => ?_, fun _ _ _ _ h' _ => h'.elim, fun _ _ _ _ h' _ => h'.elim, fun r v G' H' h' _ _ => h'.elim, fun l p ws G' H' h' _ _ _ _ _ => h'.elim, fun E' σ' G' H' D h' k' => qx D h' G' H' ⟨k'.g0, k'.bh, k'.gh, k'.nb⟩⟩
    obtain ⟨o, e, v, e2, e3, rv⟩ := P_get k'.sl (show E[0]? = some (.val (iaA p C (fs x))) from h'.2)
    obtain ⟨dx', ws', g', pk⟩ := rv
    exact q h'.1 G' H' ⟨k'.g0, k'.bh, k'.gh, k'.nb⟩ ⟨p, dx', ws', rfl, g', pk⟩
end
/-! ### what may be called -/
structure CalX (P : Program) (w : World) (K : PySem.W.Frag) (mg : Str → Option Value) (base : Heap) (k : Nat) (x : Str) (sp : Sp) : Prop where
  ex : ∃ (f : Addr) (fd : FuncData) (ps : List Str), FnOk P w K mg base (CX P w) k f fd ps sp ∧ mg x = some (.ref f) ∧ PySem.W.keepIn K (.ref f) = true ∧ Binds K fd ps []
/-- a method of the class at C, that raises nothing -/
structure MetA (P : Program) (w : World) (K : PySem.W.Frag) (mg : Str → Option Value) (base : Heap) (k : Nat) (C : Addr) (m : Str) (sp : Sp) : Prop where
  ex : Cls K C ∧ ∃ (f : Addr) (fd : FuncData) (ps : List Str), FnOk P w K mg base CX0 k f fd ps sp ∧ Meth K C m f ∧ Binds K fd ps []
structure MetX (P : Program) (w : World) (K : PySem.W.Frag) (mg : Str → Option Value) (base : Heap) (k : Nat) (C : Addr) (m : Str) (sp : Sp) : Prop where
  ex : Cls K C ∧ ∃ (f : Addr) (fd : FuncData) (ps : List Str), FnOk P w K mg base (CX P w) k f fd ps sp ∧ Meth K C m f ∧ Binds K fd ps []
structure MakX (P : Program) (w : World) (K : PySem.W.Frag) (mg : Str → Option Value) (base : Heap) (k : Nat) (x : Str) (C : Addr) (sp : Sp) : Prop where
  ex : ∃ (f : Addr) (fd : FuncData) (ps : List Str), Mk K C f ∧ FnOk P w K mg base (CX P w) k f fd ps sp ∧ mg x = some (.ref C) ∧ Binds K fd ps []
/-- an exception class of the text over ValueError, without __init__ -/
structure ExcC (K : PySem.W.Frag) (mg : Str → Option Value) (x : Str) (C : Addr) : Prop where
  g : mg x = some (.ref C)
  x : PySem.W.excIn K C [.type "ValueError", .type "Exception", .type "BaseException", .type "object"] "ValueError.__new__" = true
  k : PySem.W.keepIn K (.ref C) = true
  b : PySem.W.subIn K (.ref C) (.type "BaseException") = some true
  t : PySem.W.typeIn K (.ref C) = some (.type "type")
  e : PySem.W.exmOne K (.ref C) (.ref C) = some true
/-- a method's def as it stands behind the top -/
structure MetAt (K : PySem.W.Frag) (C : Addr) (m qual : Str) (st : Stmt) (ps : List Str) : Prop where
  ex : Cls K C ∧ ∃ (f : Addr) (fd : FuncData), Fun K m qual st f fd ∧ Meth K C m f ∧ Binds K fd ps []
structure MakAt (K : PySem.W.Frag) (mg : Str → Option Value) (C : Addr) (x qual : Str) (st : Stmt) (ps : List Str) : Prop where
  ex : ∃ (f : Addr) (fd : FuncData), Fun K "__init__" qual st f fd ∧ Mk K C f ∧ mg x = some (.ref C) ∧ Binds K fd ps []
theorem exc_self {K : PySem.W.Frag} {S : Addr} (h1 : PySem.W.subIn K (.ref S) (.type "BaseException") = some true) (h2 : PySem.W.isClsIn K S = true) (h3 : PySem.W.typeIn K (.ref S) = some (.type "type")) (h4 : PySem.W.subIn K (.ref S) (.ref S) = some true) : PySem.W.exmOne K (.ref S) (.ref S) = some true := by
  have a : (PySem.W.clsIn K S).isSome = true := h2
  unfold PySem.W.exmOne PySem.W.kitCls
  simp [h1, h3, h4, a]
section
variable {X : Cx} {e o : Expr} {es : List Expr} {t : TA} {ta : TE} {p pos : Pos} {sp : Sp} {x m : Str} {j k : Nat} {Ex : XK} {C : Addr}
theorem pe_cx (c : CalX X.prog X.w X.K X.mg X.base k x sp) (hr : Room j X.A) (hk : k ≤ j) (hg : Gl X x) (hx : Passes (CX X.prog X.w) X Ex) (ha : PA X (e :: es) t)
    (hdb : (x == ("__debug__" : Str)) = false := by decide) (he : starEach (e :: es) X.env = (false, eval e X.env) :: starEach es X.env := by rfl) (hpl : (backTo pos (starEach es X.env)).any (·.1) = false := by rfl) :
    PE X (.Call (.Name x p) (e :: es) [] pos) (tCall sp [] Ex t) := by
  obtain ⟨f, fd, ps, F, hm, kp, b⟩ := c.ex
  exact pe_call F (hr.mono hk) hg hm kp b .nil hx ha hdb he hpl
theorem pe_cxS {W : WX} (c : CalX X.prog X.w X.K X.mg X.base k x sp) (hr : Room j X.A) (hk : k ≤ j) (hg : Gl X x) (tk : Takes X W) (ha : PA X (e :: es) t)
    (hdb : (x == ("__debug__" : Str)) = false := by decide) (he : starEach (e :: es) X.env = (false, eval e X.env) :: starEach es X.env := by rfl) (hpl : (backTo pos (starEach es X.env)).any (·.1) = false := by rfl) :
    PE X (.Call (.Name x p) (e :: es) [] pos) (tCallS sp (fun σ => WE W σ) t) := by
  obtain ⟨f, fd, ps, F, hm, kp, b⟩ := c.ex
  exact pe_callS F (hr.mono hk) hg hm kp b (fun σ => passAt tk σ) ha hdb he hpl
theorem pe_mx (c : MakX X.prog X.w X.K X.mg X.base k x C sp) (hr : Room j X.A) (hk : k + 1 ≤ j) (hg : Gl X x) (hx : Passes (CX X.prog X.w) X Ex) (ha : PA X (e :: es) t)
    (hdb : (x == ("__debug__" : Str)) = false := by decide) (he : starEach (e :: es) X.env = (false, eval e X.env) :: starEach es X.env := by rfl) (hpl : (backTo pos (starEach es X.env)).any (·.1) = false := by rfl) :
    PE X (.Call (.Name x p) (e :: es) [] pos) (tMake C sp [] Ex t) := by
  obtain ⟨f, fd, ps, M, F, hm, b⟩ := c.ex
  exact pe_make M F (hr.mono hk) hg hm b .nil hx ha hdb he hpl
end
end Ab

set_option maxHeartbeats 2000000
namespace Ab
open PySem PySem.Spec PyProof.Rows L2
section
variable {X : Cx} {e o : Expr} {es : List Expr} {t : TA} {ta : TE} {p pos apos : Pos} {sp : Sp} {x m : Str} {j k : Nat} {Ex : XK} {C : Addr} {pl : Sem Bool}
theorem pe_ma (c : MetA X.prog X.w X.K X.mg X.base k C m sp) (hr : Room j X.A) (hk : k ≤ j) (he : PE X o ta) (ha : PA X (e :: es) t)
    (hst : starEach (e :: es) X.env = (false, eval e X.env) :: starEach es X.env := by rfl) (hpl : (backTo pos (starEach es X.env)).any (·.1) = false := by rfl)
    (ht : eval (.Call (.Attribute o m apos) (e :: es) [] pos) X.env = (do
      let ov ← eval o X.env
      standAt apos.atName
      let (f, first) ← holding [ov] (getMethod ov m pl)
      callWith pos f first (backTo pos (starEach (e :: es) X.env)) (backToKw pos (keywordEach [] X.env))) := by rfl) :
    PE X (.Call (.Attribute o m apos) (e :: es) [] pos) (tMeth C m sp [] E0 ta t) := by
  obtain ⟨cl, f, fd, ps, F, hm, b⟩ := c.ex
  exact pe_meth he cl hm F (hr.mono hk) b .nil pass0 ha hst hpl ht
theorem pe_ma0 (c : MetA X.prog X.w X.K X.mg X.base k C m sp) (hr : Room j X.A) (hk : k ≤ j) (he : PE X o ta)
    (ht : eval (.Call (.Attribute o m apos) [] [] pos) X.env = (do
      let ov ← eval o X.env
      standAt apos.atName
      let (f, first) ← holding [ov] (getMethod ov m pl)
      callWith pos f first (backTo pos (starEach [] X.env)) (backToKw pos (keywordEach [] X.env))) := by rfl) :
    PE X (.Call (.Attribute o m apos) [] [] pos) (tMeth C m sp [] E0 ta tNil) := by
  obtain ⟨cl, f, fd, ps, F, hm, b⟩ := c.ex
  exact pe_meth0 he cl hm F (hr.mono hk) b .nil pass0 ht
theorem pe_mex0 (c : MetX X.prog X.w X.K X.mg X.base k C m sp) (hr : Room j X.A) (hk : k ≤ j) (he : PE X o ta) (hx : Passes (CX X.prog X.w) X Ex)
    (ht : eval (.Call (.Attribute o m apos) [] [] pos) X.env = (do
      let ov ← eval o X.env
      standAt apos.atName
      let (f, first) ← holding [ov] (getMethod ov m pl)
      callWith pos f first (backTo pos (starEach [] X.env)) (backToKw pos (keywordEach [] X.env))) := by rfl) :
    PE X (.Call (.Attribute o m apos) [] [] pos) (tMeth C m sp [] Ex ta tNil) := by
  obtain ⟨cl, f, fd, ps, F, hm, b⟩ := c.ex
  exact pe_meth0 he cl hm F (hr.mono hk) b .nil hx ht
end
section
variable {P : Program} {w : World} {K : PySem.W.Frag} {mg : Str → Option Value} {base : Heap}
theorem calX {X : Type} {args : X → List Slot} {pre : X → Prop} {out : X → Out} {x : Str} {st : Stmt} {N ps : List Str} {k : Nat} (d : DefAt K mg x st ps) (S : FnScope N ps (defScope st)) (la : ∀ x, (args x).length = ps.length)
    (hb : ∀ (f : Addr) (cdv : Value) (A : Around) (outer : List Env) (s : Shared) (H : Hp) (E : XK), Room k (A.deeper (envOfC x (defScope st) s.heap.objs.size f cdv)) →
      ∃ t, PSs (cxOf (CX P w) P w K mg base N x (defScope st) f cdv A outer s H E) (defBody st) t ∧ ∀ x, pre x → ES K (args x ++ List.replicate (N.length - ps.length) .un) t (AX (out x) E)) : CalX P w K mg base (k + 1) x (spE K args pre out) := by
  obtain ⟨f, fd, F, hm, b⟩ := d.ex
  exact ⟨f, fd, ps, okE F S la (fun cdv A outer s H E hr => hb f cdv A outer s H E hr), hm, F.kp, b⟩
theorem metA {X : Type} {args : X → List Slot} {pre : X → Prop} {res : X → Slot} {C : Addr} {m qual : Str} {st : Stmt} {N ps : List Str} {k : Nat} (d : MetAt K C m qual st ps) (S : FnScope N ps (defScope st)) (la : ∀ x, (args x).length = ps.length)
    (hb : ∀ (f : Addr) (cdv : Value) (A : Around) (outer : List Env) (s : Shared) (H : Hp) (E : XK), Room k (A.deeper (envOfC qual (defScope st) s.heap.objs.size f cdv)) →
      ∃ t, PSs (cxOf CX0 P w K mg base N qual (defScope st) f cdv A outer s H E).nox (defBody st) t ∧ ∀ x, pre x → ES K (args x ++ List.replicate (N.length - ps.length) .un) t (AR (res x))) : MetA P w K mg base (k + 1) C m (spX K args pre res) := by
  obtain ⟨cl, f, fd, F, hm, b⟩ := d.ex
  exact ⟨cl, f, fd, ps, okA F S la (fun cdv A outer s H E hr => hb f cdv A outer s H E hr), hm, b⟩
theorem metX {X : Type} {args : X → List Slot} {pre : X → Prop} {out : X → Out} {C : Addr} {m qual : Str} {st : Stmt} {N ps : List Str} {k : Nat} (d : MetAt K C m qual st ps) (S : FnScope N ps (defScope st)) (la : ∀ x, (args x).length = ps.length)
    (hb : ∀ (f : Addr) (cdv : Value) (A : Around) (outer : List Env) (s : Shared) (H : Hp) (E : XK), Room k (A.deeper (envOfC qual (defScope st) s.heap.objs.size f cdv)) →
      ∃ t, PSs (cxOf (CX P w) P w K mg base N qual (defScope st) f cdv A outer s H E) (defBody st) t ∧ ∀ x, pre x → ES K (args x ++ List.replicate (N.length - ps.length) .un) t (AX (out x) E)) : MetX P w K mg base (k + 1) C m (spE K args pre out) := by
  obtain ⟨cl, f, fd, F, hm, b⟩ := d.ex
  exact ⟨cl, f, fd, ps, okE F S la (fun cdv A outer s H E hr => hb f cdv A outer s H E hr), hm, b⟩
theorem makX {C : Addr} {X : Type} {args : X → List Slot} {pre : X → Prop} {fs : X → List (Str × AbsV)} {bad : X → Option Addr} {x qual : Str} {st : Stmt} {N ps : List Str} {k : Nat} (d : MakAt K mg C x qual st ps) (S : FnScope N ps (defScope st)) (la : ∀ x, (args x).length + 1 = ps.length)
    (hb : ∀ (f : Addr) (cdv : Value) (A : Around) (outer : List Env) (s : Shared) (H : Hp) (E : XK), Room k (A.deeper (envOfC qual (defScope st) s.heap.objs.size f cdv)) →
      ∃ t, PSs (cxOf (CX P w) P w K mg base N qual (defScope st) f cdv A outer s H E) (defBody st) t ∧ ∀ p x, pre x → ES K (.ins p C [] :: args x ++ List.replicate (N.length - ps.length) .un) t { nx := fun E' => bad x = none ∧ E'[0]? = some (.val (iaA p C (fs x))), bk := fun _ => False, ct := fun _ => False, rt := fun _ => False, ex := fun _ D => bad x = some D, ew := fun cls d _ H => E cls d H }) : MakX P w K mg base (k + 1) x C (spIE K C args pre fs bad) := by
  obtain ⟨f, fd, F, M, hm, b⟩ := d.ex
  exact ⟨f, fd, ps, M, okIE F S la (fun cdv A outer s H E hr => hb f cdv A outer s H E hr), hm, b⟩
end
section
variable {K : PySem.W.Frag} {E : List Slot} {ta tb te : TE} {r : AbsV} {l : List AbsV} {A : AE}
theorem units1 {k : Nat} {A : Around} (h : Room k A) : A.units + 1 < cLine := by have := h.units; omega
/-! list(range(..)) -/
def rgI (a b : Int) : List Int := (List.range (b - a).toNat).map fun i => a + (i : Nat)
theorem rgI_len (a b : Int) : (rgI a b).length = (b - a).toNat := by unfold rgI; rw [List.length_map, List.length_range]
theorem rgV_pr (G : Hp) (a b : Int) : PR G (rgV a b) ((rgI a b).map nI) := by
  unfold rgV rgI
  rw [List.map_map]
  generalize List.range (b - a).toNat = xs
  induction xs with
  | nil => exact .nil
  | cons x xs ih => exact .cons rfl ih
theorem evf_rg1 {b : Int} (hb : EV K E te (nI b)) (h : b ≤ 100000 ∧ -100000 ≤ b) : EVF K E (tLstRg (tRg1 te)) ((rgI 0 b).map nI) := fun B G0 σ G H k Q q =>
  hb B G0 σ G H k _ fun v G1 H1 x1 r1 => ⟨b, r1, ⟨by decide, by decide, by omega, by omega, by omega⟩, fun z hz => q z _ G1 _ (x1.trans (Ext.newO x1.gh hz)) (x1.h.free hz) (x1.gh.free hz) upd_same (rgV_pr _ _ _)⟩
theorem evf_rg2 {a b : Int} (ha : EV K E ta (nI a)) (hb : EV K E te (nI b)) (h : b ≤ 100000 ∧ -100000 ≤ b) (h' : a ≤ 100000 ∧ -100000 ≤ a) : EVF K E (tLstRg (tRg2 ta te)) ((rgI a b).map nI) := fun B G0 σ G H k Q q =>
  ha B G0 σ G H k _ fun v0 G0' H0 x0 r0 => hb B G0 σ G0' H0 (k.ext x0) _ fun v G1 H1 x1 r1 => ⟨a, b, r0, r1, ⟨by omega, by omega, by omega, by omega, by omega⟩, fun z hz => q z _ G1 _ ((x0.trans x1).trans (Ext.newO x1.gh hz)) ((x0.trans x1).h.free hz) (x1.gh.free hz) upd_same (rgV_pr _ _ _)⟩
/-! [e for a in range(..) for b in range(..)] -/
def acc2 (els : Nat → Nat → AbsV) (m : Nat) : Nat → List AbsV
  | 0 => []
  | a + 1 => acc2 els m a ++ (List.range m).map (els a)
theorem acc2_len (els : Nat → Nat → AbsV) (m : Nat) : ∀ a, (acc2 els m a).length = a * m
  | 0 => by rw [Nat.zero_mul]; rfl
  | a + 1 => by
    show (acc2 els m a ++ (List.range m).map (els a)).length = _
    rw [List.length_append, acc2_len els m a, List.length_map, List.length_range, Nat.succ_mul]
def LcQ (G1 H1 : Hp) (D : Addr) (L : List AbsV) (H : Hp) : Prop := ∃ G vs, Ext G1 H1 G H ∧ G D = none ∧ H D = some (.lst vs) ∧ PR G vs L
theorem evf_lcR2 {lo lo1 : Int} {n m : Nat} {wi wi1 : TI} {i j : Nat} (hij : i ≠ j) (hw : ∀ (B G0 : Hp) (σ : L2.St) (G H : Hp), Ok K B G0 E σ G H → ∀ R : It → Hp → Prop, (∀ G' H', Ext G H G' H' → R (Itr lo n) H') → wi σ H R)
    (hw1 : ∀ a, a < n → ∀ (B G0 : Hp) (σ : L2.St) (G H : Hp), Ok K B G0 ((wipeE E [i, j]).set i (.val (nI (lo + a)))) σ G H → ∀ R : It → Hp → Prop, (∀ G' H', Ext G H G' H' → R (Itr lo1 m) H') → wi1 σ H R) (els : Nat → Nat → AbsV) (hn : n * m ≤ 100000)
    (he : ∀ a b, a < n → b < m → EV K ((((wipeE E [i, j]).set i (.val (nI (lo + a)))).set j .un).set j (.val (nI (lo1 + b)))) te (els a b)) :
    EVF K E (tLc2 wi (gName i) tYes wi1 (gName j) tYes te [i, j] [j]) (acc2 els m n) := fun B G0 σ G H k Q q =>
  hw B G0 σ G H k _ fun G1 H1 x1 D hD => by
    have k1 := k.ext x1
    refine ⟨fun a mm H => mm = n - a ∧ a ≤ n ∧ LcQ G1 H1 D (acc2 els m a) H, ⟨n, by omega, Nat.zero_le _, G1, [], Ext.newO k1.gh hD, k1.gh.free hD, upd_same, .nil⟩, ?_⟩
    rintro a mm H' ⟨rfl, ha, G', vs, x, gD, hD', pr⟩
    by_cases hlt : a < n
    · refine .inr ⟨hlt, LcQ G1 H1 D (acc2 els m (a + 1)), fun H3 h3 => ⟨n - (a + 1), by omega, rfl, hlt, h3⟩, fun y H2 hy => ?_⟩
      obtain ⟨e, rfl⟩ := hy
      subst e
      have k2 := (Ok.wipe (k1.ext x) [i, j]).set i (s := .val (nI (lo + a))) (o := some (.int (lo + a))) ⟨_, rfl, rfl⟩ rfl
      refine ⟨?_, ?_⟩
      · show ((((σ.set j none).set i none).set i _).set j none).set i none = (σ.set j none).set i none
        rw [List.set_set, List.set_comm _ _ hij, List.set_set, List.set_set]
      · dsimp only [tYes]
        rw [if_pos rfl]
        refine hw1 a hlt B G0 _ _ _ k2 _ fun G3 H3 x3 => ?_
        have nz : H2 D ≠ none := by rw [hD']; exact fun z => by cases z
        refine ⟨fun b kk H => kk = m - b ∧ b ≤ m ∧ LcQ G1 H1 D (acc2 els m a ++ (List.range b).map (els a)) H, ⟨m, by omega, Nat.zero_le _, G3, vs, x.trans x3, x3.n D nz gD, x3.h _ _ hD', ?_⟩, ?_⟩
        · rw [List.range_zero, List.map_nil, List.append_nil]
          exact pr.mono x3.g
        rintro b kk H4 ⟨rfl, hb, G4, ws, x4, gD4, hD4, pr4⟩
        by_cases hbt : b < m
        · refine .inr ⟨hbt, LcQ G1 H1 D (acc2 els m a ++ (List.range (b + 1)).map (els a)), fun H5 h5 => ⟨m - (b + 1), by omega, rfl, hbt, h5⟩, fun y H5 hy => ?_⟩
          obtain ⟨e, rfl⟩ := hy
          subst e
          have k4 := (Ok.wipe ((Ok.wipe (k1.ext x4) [i, j]).set i (s := .val (nI (lo + a))) (o := some (.int (lo + a))) ⟨_, rfl, rfl⟩ rfl) [j]).set j (s := .val (nI (lo1 + b))) (o := some (.int (lo1 + b))) ⟨_, rfl, rfl⟩ rfl
          refine ⟨wipe_set, ?_⟩
          rw [if_pos rfl]
          refine he a b hlt hbt B G0 _ _ _ k4 _ fun y G6 H6 x6 r6 => ?_
          have nz4 : H5 D ≠ none := by rw [hD4]; exact fun z => by cases z
          have g6 := x6.n D nz4 gD4
          refine ⟨ws, x6.h _ _ hD4, ?_, G6, ws ++ [y], (x4.trans x6).mut hD g6, g6, upd_same, ?_⟩
          · rw [pr4.len, List.length_append, acc2_len, List.length_map, List.length_range]
            refine smallT ?_
            have : a * m + m ≤ n * m := by
              rw [← Nat.succ_mul]
              exact Nat.mul_le_mul_right m hlt
            omega
          · rw [List.range_succ, List.map_append, ← List.append_assoc]
            exact (pr4.mono x6.g).append (.cons r6 .nil)
        · have e : b = m := by omega
          subst e
          exact .inl ⟨Nat.le_refl _, G4, ws, x4, gD4, hD4, pr4⟩
    · have e : a = n := by omega
      subst e
      exact .inl ⟨Nat.le_refl _, q D vs G' H' (x1.trans x) (x1.h.free hD) gD hD' pr⟩
/-- [e for a, b in xs if ..], xs a list of pairs that stays -/
theorem evf_lcT {i j : Nat} {tt : TT} {α : Type} {ps : List α} (hij : i ≠ j) (fa fb : α → AbsV) (hw : EVS K E ta (ps.map fun p => tuA [fa p, fb p])) (bs : Nat → Bool) (els : Nat → AbsV) (hn : ps.length ≤ 100000)
    (ht : ∀ c p, ps[c]? = some p → ET K (((wipeE E [i, j]).set i (.val (fa p))).set j (.val (fb p))) tt (bs c)) (he : ∀ c p, ps[c]? = some p → bs c = true → EV K (((wipeE E [i, j]).set i (.val (fa p))).set j (.val (fb p))) te (els c)) :
    EVF K E (tLc (iList K ta) (gTup K 2 (gCons (gName i) (gCons (gName j) gNil))) tt te [i, j]) (accL bs els ps.length) := fun B G0 σ G H k Q q =>
  hw B G0 σ G H k _ fun p vs G1 H1 x1 st pr => by
    have k1 := k.ext x1
    have sH : H1 p = some (.lst vs) := by
      rcases st with st | st
      · exact x1.gh _ _ st
      · exact k1.bh _ _ st
    refine ⟨p, rfl, ⟨vs, SqL.of sH⟩, fun D hD => ?_⟩
    refine lc_list (K := K) (a := p) (xs := vs) (LcP G1 H1 D bs els) (lc_zero k1 hD) (fun j H' _ hp => ?_) (fun c x H' hj hp => ?_) fun H' hp => ?_
    · obtain ⟨G', ws, x, _⟩ := hp
      exact SqL.of (x.h _ _ sH)
    · obtain ⟨r, hr, rv⟩ := PR.get' pr hj
      rw [List.getElem?_map] at hr
      cases hc : ps[c]? with
      | none => rw [hc] at hr; cases hr
      | some pp =>
        rw [hc] at hr
        have er : tuA [fa pp, fb pp] = r := Option.some.inj hr
        subst er
        refine lc_turn (item := tuA [fa pp, fb pp]) k1 hD (Nat.lt_of_lt_of_le (List.getElem?_eq_some_iff.mp hc).1 hn) (fun G H kk hh Q q => ?_) (ht c pp hc) (he c pp hc) (fun G s => AbsV.mono _ s rv) hp
        obtain ⟨T, us, e, g, pu⟩ := hh
        cases pu with
        | cons h1 t1 =>
          cases t1 with
          | cons h2 t2 =>
            cases t2
            refine ⟨T, _, e, SqT.of (kk.gh _ _ g), rfl, _, _, rfl, _, _, rfl, rfl, q _ (wipe2 hij) ?_⟩
            exact (kk.set i (s := .val (fa pp)) (o := some _) ⟨_, rfl, h1⟩ rfl).set j (s := .val (fb pp)) (o := some _) ⟨_, rfl, h2⟩ rfl
    · obtain ⟨G', ws, x, gD, hD', pr'⟩ := hp
      rw [pr.len, List.length_map] at pr'
      exact q D ws G' H' (x1.trans x) (x1.h.free hD) gD hD' pr'
end
end Ab
set_option maxHeartbeats 4000000
namespace k03x
open PySem PySem.Spec PyProof.Rows L2 Ab

local macro_rules | `(tactic| walk_at "sc") => `(tactic| first
  | assumption
  | omega
  | decide
  | (refine Or.inl ?_; omega)
  | (refine Or.inr ?_; omega)
  | (refine ⟨?_, ?_⟩ <;> omega)
  | (refine ⟨?_, ?_, ?_⟩ <;> omega))
local macro_rules | `(tactic| walk_at "evl") => `(tactic| first
  | exact evl_own rfl
  | exact evl_red rfl
  | exact evl_var rfl
  | ((with_reducible refine' EVF.evl ?h0); (case h0 => walk_at "evf"))
  | ((with_reducible refine' EV.evl ?h0); (case h0 => walk_at "ev")))
local macro_rules | `(tactic| walk_at "eav") => `(tactic| first
  | exact eav_nil
  | ((with_reducible refine' eav_cons ?h0 ?h1); (case h0 => walk_at "ev"); (case h1 => walk_at "eav")))
local macro_rules | `(tactic| walk_at "evf") => `(tactic| first
  | ((with_reducible refine' evf_lst ?h0 ?h1); (case h0 => walk_at "eav"); (case h1 => (first | decide | (simp; done) | omega)))
  | ((with_reducible refine' evf_list ?h0); (case h0 => walk_at "evl")))
local macro_rules | `(tactic| walk_at "ea") => `(tactic| first
  | exact ea_nil
  | ((with_reducible refine' ea_scr ?h0 ?h1); (case h0 => rfl); (case h1 => walk_at "ea"))
  | ((with_reducible refine' ea_val ?h0 ?h1); (case h0 => walk_at "ev"); (case h1 => walk_at "ea"))
  | ((with_reducible refine' ea_red ?h0 ?h1); (case h0 => walk_at "evl"); (case h1 => walk_at "ea")))
local macro_rules | `(tactic| walk_at "ev") => `(tactic| first
  | exact ev_var rfl
  | exact ev_int
  | exact ev_bl
  | exact ev_str
  | exact ev_non
  | ((with_reducible refine' ev_I0 ?h0 ?h1); (case h0 => walk_at "ev"); (case h1 => walk_at "ev"))
  | ((with_reducible refine' ev_I ?h0 ?h1 ?h2); (case h0 => walk_at "ev"); (case h1 => walk_at "ev"); (case h2 => walk_at "sc"))
  | ((with_reducible refine' ev_U ?h0); (case h0 => walk_at "ev"))
  | ((with_reducible refine' ev_eqI ?h0 ?h1); (case h0 => walk_at "ev"); (case h1 => walk_at "ev"))
  | ((with_reducible refine' ev_neI ?h0 ?h1); (case h0 => walk_at "ev"); (case h1 => walk_at "ev"))
  | ((with_reducible refine' ev_chI ?h0 ?h1 ?h2); (case h0 => walk_at "ev"); (case h1 => walk_at "ev"); (case h2 => walk_at "ev"))
  | ((with_reducible refine' ev_abs ?h0); (case h0 => walk_at "ev"))
  | ((with_reducible refine' ev_max2 ?h0 ?h1); (case h0 => walk_at "ev"); (case h1 => walk_at "ev"))
  | ((with_reducible refine' ev_min2 ?h0 ?h1); (case h0 => walk_at "ev"); (case h1 => walk_at "ev"))
  | ((with_reducible refine' ev_int1 ?h0); (case h0 => walk_at "ev"))
  | ((with_reducible refine' ev_intB ?h0); (case h0 => walk_at "ev"))
  | exact ev_lenS rfl
  | ((with_reducible refine' ev_len ?h0); (case h0 => walk_at "evl"))
  | ((with_reducible refine' ev_lenT ?h0); (case h0 => walk_at "ev"))
  | ((with_reducible refine' ev_bits ?h0); (case h0 => walk_at "ev"))
  | ((with_reducible refine' ev_notV ?h0); (case h0 => walk_at "ev"))
  | ((with_reducible refine' ev_tup ?h0 ?h1); (case h0 => walk_at "eav"); (case h1 => (first | decide | (simp; done) | omega)))
  | walk_at "evc"
  | ((with_reducible show EV _ _ (tLst _) _); refine' EVF.ev ?h0; (case h0 => walk_at "evf")))
local macro_rules | `(tactic| walk_at "et") => `(tactic| first
  | ((with_reducible refine' et_test ?h0); (case h0 => walk_at "ev"))
  | ((with_reducible refine' et_B ?h0); (case h0 => walk_at "ev"))
  | ((with_reducible refine' et_not ?h0); (case h0 => walk_at "et"))
  | ((with_reducible refine' et_and ?h0 ?h1); (case h0 => walk_at "et"); (case h1 => (intro _; walk_at "et")))
  | ((with_reducible refine' et_or ?h0 ?h1); (case h0 => walk_at "et"); (case h1 => (intro _; walk_at "et"))))
local macro_rules | `(tactic| walk_at "nx") => `(tactic| (first | (with_reducible show ES _ _ _ _) | skip); try (dsimp only [List.set_cons_zero, List.set_cons_succ, List.length_cons, List.length_nil, List.replicate, List.cons_append, List.nil_append]))
local macro_rules | `(tactic| walk_at "set") => `(tactic| (first
  | ((with_reducible show ES _ _ (tSeq (tAsg _ _) _) _); first | refine es_seq (es_asgF (by walk_at "evf") ?_) | refine es_seq (es_asg (by walk_at "ev") ?_))
  | ((with_reducible show ES _ _ (tAsg _ _) _); first | refine es_asgF (by walk_at "evf") ?_ | refine es_asg (by walk_at "ev") ?_)
  | ((with_reducible show ES _ _ (tSeq (tAug _ _ _) _) _); refine es_seq (es_aug rfl (by walk_at "ev") ?_))
  | ((with_reducible show ES _ _ (tAug _ _ _) _); refine es_aug rfl (by walk_at "ev") ?_)); walk_at "nx")
local macro_rules | `(tactic| walk_at "if") => `(tactic| (first
  | ((with_reducible show ES _ _ (tSeq _ _) _); refine es_seq (es_if (by walk_at "et") ?_ ?_))
  | refine es_if (by walk_at "et") ?_ ?_))
local macro_rules | `(tactic| walk_at "nest") => `(tactic| (dsimp only [Cx.blk, Cx.nox, Cx.wish, cxOf, compEnvC]; exact blkOk_by (by first | decide +kernel | rfl)))

def topS (i : Nat) : Stmt := PySem.Challenge.pw_nearby_k03_standard_networks.main.body.getD i (.Pass ⟨0, 0, 0, 0⟩)

structure Bl (mg : Str → Option Value) : Prop where
  abs : mg "abs" = none
  all : mg "all" = none
  bool : mg "bool" = none
  enumerate : mg "enumerate" = none
  int : mg "int" = none
  isinstance : mg "isinstance" = none
  len : mg "len" = none
  list : mg "list" = none
  min : mg "min" = none
  range : mg "range" = none
  set : mg "set" = none
  str : mg "str" = none
  tuple : mg "tuple" = none

structure Cs where
  InvalidNetwork : Addr
  Network : Addr
structure Tx (K : PySem.W.Frag) (mg : Str → Option Value) (c : Cs) : Prop where
  x_InvalidNetwork : ExcC K mg "InvalidNetwork" c.InvalidNetwork
  cl_Network : Cls K c.Network
  n_Network__names : NoAttr K c.Network "_names"
  n_Network__neighbors : NoAttr K c.Network "_neighbors"
  n_Network__ports : NoAttr K c.Network "_ports"

def ndb (ns : List Int) : Bool := decide (dd ns = ns.length)
/-- names that are names -/
def okNames (ns : List Int) : Bool := !ns.isEmpty && (ns.all (fun x => decide (0 ≤ x)) && ndb ns)
def okRow (n : Int) (row : List Int) (size : Int) : Bool := row.all (fun o => decide (0 ≤ o) && decide (o < size) && !decide (o = n)) && ndb row
theorem out_bad {b : Bool} {x : Slot} {y : Addr} (h : b = false) : (if b = true then (.inl x : Out) else .inr y) = .inr y := by rw [h]; rfl
theorem out_ok {b : Bool} {x : Slot} {y : Addr} (h : b = true) : (if b = true then (.inl x : Out) else .inr y) = .inl x := by rw [h]; rfl
theorem exists_min : ∀ {ns : List Int}, ns ≠ [] → ∃ m ∈ ns, ∀ x ∈ ns, m ≤ x
  | [], h => absurd rfl h
  | [a], _ => ⟨a, by simp, fun x h => by rw [List.mem_singleton.mp h]; exact Int.le_refl _⟩
  | a :: b :: l, _ => by
    obtain ⟨m, hm, hl⟩ := exists_min (ns := b :: l) (by simp)
    by_cases h : a ≤ m
    · exact ⟨a, by simp, fun x hx => by
        rcases List.mem_cons.mp hx with e | e
        · rw [e]; exact Int.le_refl _
        · have := hl x e; omega⟩
    · exact ⟨m, List.mem_cons_of_mem _ hm, fun x hx => by
        rcases List.mem_cons.mp hx with e | e
        · rw [e]; omega
        · exact hl x e⟩
theorem emp_map {α β : Type} (f : α → β) (l : List α) : (l.map f).isEmpty = l.isEmpty := by cases l <;> rfl
theorem fm_len {val : Nat → Int} : ∀ i : Nat, (PyProof.Rows.firstMet val i).length = i → ∀ a b, a < b → b < i → val a ≠ val b
  | 0, _, a, b, _, h => by omega
  | i + 1, hl, a, b, h1, h2 => by
    have hle := PyProof.Rows.firstMet_length_le val i
    rw [PyProof.Rows.firstMet_succ] at hl
    unfold PyProof.Rows.step_dedup at hl
    split at hl
    · omega
    · rename_i hno
      rw [List.length_append] at hl
      have hl2 : (PyProof.Rows.firstMet val i).length = i := by simpa using hl
      by_cases hb : b < i
      · exact fm_len i hl2 a b h1 hb
      · have e : b = i := by omega
        subst e
        intro z
        apply hno
        rw [PyProof.Rows.firstMet_any, List.any_eq_true]
        exact ⟨val a, List.mem_map.mpr ⟨a, List.mem_range.mpr h1, rfl⟩, by rw [z]; simp⟩
theorem ndb_iff {ns : List Int} : ndb ns = true ↔ ns.Nodup := by
  unfold ndb dd
  rw [decide_eq_true_eq]
  constructor
  · intro h
    rw [List.nodup_iff_pairwise_ne, List.pairwise_iff_getElem]
    intro a b ha hb hab
    have := fm_len _ h a b hab hb
    rw [List.getD_eq_getElem?_getD, List.getElem?_eq_getElem ha, List.getD_eq_getElem?_getD, List.getElem?_eq_getElem hb] at this
    exact this
  · intro h
    rw [RZ.firstMet_nodup h _ (Nat.le_refl _), List.take_length]
theorem out_inl {b : Bool} {x s : Slot} {y : Addr} (h : (if b = true then (.inl x : Out) else .inr y) = .inl s) : b = true := by
  cases b
  · cases h
  · rfl
theorem out_inr {b : Bool} {x : Slot} {y C : Addr} (h : (if b = true then (.inl x : Out) else .inr y) = .inr C) : b = false ∧ C = y := by
  cases b
  · cases h; exact ⟨rfl, rfl⟩
  · cases h
abbrev rowA (r : List Int) : AbsV := lsA (r.map nI)
def nF (ns : List Int) (nb : List (List Int)) : List (Str × AbsV) := [("_names", lsA (ns.map nI)), ("_neighbors", lsA (nb.map rowA)), ("_ports", lsA (nb.map fun r => dcA (portsL r)))]
def okBack (nb : List (List Int)) : Bool := (List.range nb.length).all fun i => (nb.getD i []).all fun o => (nb.getD o.toNat []).contains (i : Int)
theorem map_row {β : Type} {f : List Int → β} {nb : List (List Int)} {i : Nat} {r : β} (h : (nb.map f)[i]? = some r) : nb[i]? = some (nb.getD i []) ∧ r = f (nb.getD i []) := by
  rw [List.getElem?_map] at h
  cases e : nb[i]? with
  | none => rw [e] at h; cases h
  | some o =>
    rw [e] at h
    have e2 : nb.getD i [] = o := by rw [List.getD_eq_getElem?_getD, e]; rfl
    rw [e2]
    exact ⟨rfl, (Option.some.inj h).symm⟩
theorem map_int {row : List Int} {i : Nat} {r : AbsV} (h : (row.map nI)[i]? = some r) : ∃ o, row[i]? = some o ∧ r = nI o := by
  rw [List.getElem?_map] at h
  cases e : row[i]? with
  | none => rw [e] at h; cases h
  | some o => rw [e] at h; exact ⟨o, rfl, (Option.some.inj h).symm⟩
theorem accL_rows {β : List (List Int)} (f : List Int → AbsV) : accL (fun _ => true) (fun j => f (β.getD j [])) β.length = β.map f := by
  unfold accL
  rw [List.filter_eq_self.mpr (fun _ _ => rfl)]
  apply List.ext_getElem
  · simp
  · intro i h1 h2
    simp at h1
    simp [List.getD_eq_getElem?_getD, List.getElem?_eq_getElem h1]
def okNet (ns : List Int) (nb : List (List Int)) : Bool := okNames ns && (decide (nb.length = ns.length) && ((List.range nb.length).all (fun i => okRow (i : Nat) (nb.getD i []) ns.length) && okBack nb))
def stdOut (c : Cs) (nb : List (List Int)) : Out := outI c.Network (nF (rgI 0 nb.length) nb) (if okNet (rgI 0 nb.length) nb = true then none else some c.InvalidNetwork)
theorem accL_filter {α : Type} {ps : List α} (d : α) (t : α → Bool) (g : α → AbsV) : accL (fun j => t (ps.getD j d)) (fun j => g (ps.getD j d)) ps.length = (ps.filter t).map g := by
  unfold accL
  have e : (List.range ps.length).map (fun j => ps.getD j d) = ps := by
    apply List.ext_getElem
    · simp
    · intro i h1 h2
      simp at h1
      simp [List.getD_eq_getElem?_getD, List.getElem?_eq_getElem h1]
  conv => rhs; rw [← e, List.filter_map, List.map_map]
  rfl
/-- the row of a place of a grid -/
def gRow (rows cols : Int) (a b : Nat) : List Int := ([((a : Int) - 1, (b : Int)), ((a : Int), (b : Int) - 1), ((a : Int), (b : Int) + 1), ((a : Int) + 1, (b : Int))].filter fun p => (decide (0 ≤ p.1) && decide (p.1 < rows)) && (decide (0 ≤ p.2) && decide (p.2 < cols))).map fun p => p.1 * cols + p.2
def gnb (f : Nat → Nat → List Int) (m : Nat) : Nat → List (List Int)
  | 0 => []
  | a + 1 => gnb f m a ++ (List.range m).map (f a)
theorem acc2_gnb (f : Nat → Nat → List Int) (m : Nat) : ∀ n, acc2 (fun a b => rowA (f a b)) m n = (gnb f m n).map rowA
  | 0 => rfl
  | n + 1 => by
    show acc2 _ m n ++ _ = (gnb f m n ++ _).map rowA
    rw [acc2_gnb f m n, List.map_append, List.map_map]; rfl
def gridNb (rows cols : Int) : List (List Int) := gnb (gRow rows cols) cols.toNat rows.toNat
theorem gnb_len (f : Nat → Nat → List Int) (m : Nat) : ∀ n, (gnb f m n).length = n * m
  | 0 => by rw [Nat.zero_mul]; rfl
  | n + 1 => by
    show (gnb f m n ++ _).length = _
    rw [List.length_append, gnb_len f m n, List.length_map, List.length_range, Nat.succ_mul]
theorem gnb_all (f : Nat → Nat → List Int) (m : Nat) (P : List Int → Prop) (h : ∀ a b, P (f a b)) : ∀ n, ∀ r ∈ gnb f m n, P r
  | 0, r, hr => by cases hr
  | n + 1, r, hr => by
    rcases List.mem_append.mp hr with z | z
    · exact gnb_all f m P h n r z
    · obtain ⟨b, _, rfl⟩ := List.mem_map.mp z
      exact h n b
theorem gRow_len (rows cols : Int) (a b : Nat) : (gRow rows cols a b).length ≤ 4000 := by
  unfold gRow
  rw [List.length_map]
  exact Nat.le_trans (List.length_filter_le _ _) (by simp)
theorem rows_of {nb : List (List Int)} {P : List Int → Prop} (h : ∀ r ∈ nb, P r) (i : Nat) (hi : i < nb.length) : P (nb.getD i []) := by
  rw [List.getD_eq_getElem?_getD, List.getElem?_eq_getElem hi]
  exact h _ (List.getElem_mem hi)
def ringNb (n : Int) : List (List Int) := (List.range n.toNat).map fun (k : Nat) => [((k : Int) - 1) % n, ((k : Int) + 1) % n]
def starNb (n : Int) : List (List Int) := rgI 1 n :: (List.range (n - 1).toNat).map fun _ => [0]
def lawRow (rows cols k : Int) : List Int := ((([] ++ (if decide (k ≥ cols) = true then [k - cols] else [])) ++ (if decide (k % cols > 0) = true then [k - 1] else [])) ++ (if decide (k % cols < cols - 1) = true then [k + 1] else [])) ++ (if decide (k / cols < rows - 1) = true then [k + cols] else [])
theorem grid_due0 : ∀ r, r < 6 → ∀ c, c < 6 → (List.range ((r + 1) * (c + 1))).map (fun (k : Nat) => lawRow (r + 1 : Nat) (c + 1 : Nat) k) = gridNb (r + 1 : Nat) (c + 1 : Nat) ∧ okNet (rgI 0 (gridNb (r + 1 : Nat) (c + 1 : Nat)).length) (gridNb (r + 1 : Nat) (c + 1 : Nat)) = true := by decide +kernel
theorem grid_due (r : Nat) (h1 : r < 7) (c : Nat) (h2 : c < 7) (h3 : 1 ≤ r) (h4 : 1 ≤ c) : (List.range (r * c)).map (fun (k : Nat) => lawRow (r : Nat) (c : Nat) k) = gridNb (r : Nat) (c : Nat) ∧ okNet (rgI 0 (gridNb (r : Nat) (c : Nat)).length) (gridNb (r : Nat) (c : Nat)) = true := by
  have := grid_due0 (r - 1) (by omega) (c - 1) (by omega)
  rw [show r - 1 + 1 = r by omega, show c - 1 + 1 = c by omega] at this
  exact this
def pathDue (n : Int) : List (List Int) := (List.range n.toNat).map fun (k : Nat) => [(k : Int) - 1, (k : Int) + 1].filter fun o => decide (0 ≤ o) && decide (o < n)
theorem path_due : ∀ n, n < 41 → 1 ≤ n → pathDue (n : Nat) = gridNb 1 (n : Nat) ∧ okNet (rgI 0 (gridNb 1 (n : Nat)).length) (gridNb 1 (n : Nat)) = true := by decide +kernel
def ringDue (n : Int) : List (List Int) := (List.range n.toNat).map fun (k : Nat) => [[n - 1, 1], [(k : Int) - 1, (k : Int) + 1], [(k : Int) - 1, 0]].getD ((decide ((k : Int) > 0)).toNat + (decide ((k : Int) = n - 1)).toNat) []
theorem ring_due : ∀ n, n < 41 → 3 ≤ n → ringDue (n : Nat) = ringNb (n : Nat) ∧ okNet (rgI 0 (ringNb (n : Nat)).length) (ringNb (n : Nat)) = true := by decide +kernel
theorem star_due : ∀ n, n < 41 → 1 ≤ n → okNet (rgI 0 (starNb (n : Nat)).length) (starNb (n : Nat)) = true := by decide +kernel
section
variable {K : PySem.W.Frag} {E : List Slot} {te : TE} {t : TT} {r : AbsV} {l : List AbsV} {A : AE}
theorem es_appIf {i : Nat} {b : Bool} (ht : ET K E t b) (hx : E[i]? = some (.own l)) (he : EV K E te r) (hl : l.length < 100000) (q : A.nx (E.set i (.own (l ++ if b = true then [r] else [])))) : ES K E (tIfS t (tDrop (tBM K "list" rAppend (tVar i) (tCons te tNil))) tNext) A := by
  refine es_if ht (fun h => es_app hx he hl ?_) (fun h => es_next ?_)
  · rw [h] at q; exact q
  · rw [h, if_neg Bool.false_ne_true, List.append_nil] at q
    have : E.set i (.own l) = E := by
      obtain ⟨h1, h2⟩ := List.getElem?_eq_some_iff.mp hx
      rw [← h2]; exact List.set_getElem_self h1
    rw [this] at q; exact q
end
theorem es_seqJ {K : PySem.W.Frag} {E : List Slot} {ts us : TS} {A : AE} (P : List Slot → Prop) (h : ES K E ts { A with nx := P }) (hP : ∀ E', P E' → ES K E' us A) : ES K E (tSeq ts us) A :=
  es_seq (ES.imp h hP (fun _ h => h) (fun _ h => h) (fun _ h => h))
theorem stdOut_ok {c : Cs} {nb : List (List Int)} (h : okNet (rgI 0 nb.length) nb = true) : stdOut c nb = .inl (.val (inA c.Network (nF (rgI 0 nb.length) nb))) := by
  unfold stdOut
  rw [h]; rfl
theorem ite_map {b : Bool} {x : Int} : (if b = true then [nI x] else []) = (if b = true then [x] else []).map nI := by cases b <;> rfl
local macro_rules | `(tactic| walk_at "pre") => `(tactic| (refine ⟨?_, ?_, ?_, ?_, ?_, ?_⟩ <;> dsimp only <;> intros <;> omega))
local macro_rules | `(tactic| walk_at "lens") => `(tactic| (simp only [List.length_append, List.length_nil, apply_ite List.length, List.length_singleton]; repeat (first | decide | split)))

section
variable {P : Program} {w : World} {K : PySem.W.Frag} {mg : Str → Option Value} {base : Heap}

abbrev s__check_names : Stmt := topS 6
abbrev n__check_names : List Str := ["names"]
theorem sc__check_names : FnScope n__check_names ["names"] (defScope s__check_names) := ⟨rfl, rfl, rfl, by decide +kernel, rfl, by decide +kernel, by decide +kernel⟩

abbrev sp__check_names (K : PySem.W.Frag) (c : Cs) : Sp := spE K (X := List Int) (fun ns => [.val (lsA (ns.map nI))]) (fun ns => ns.length ≤ 4000) (fun ns => if okNames ns = true then .inl (.val nN) else .inr c.InvalidNetwork)

theorem ok__check_names {c : Cs} (T : Tx K mg c) (M : Bl mg)  (d : DefAt K mg "_check_names" s__check_names ["names"]) : CalX P w K mg base 1 "_check_names" (sp__check_names K c) := by
  refine calX d sc__check_names (fun _ => rfl) fun f cdv A outer s H E hr => ⟨_, (pss_cons (ps_if (pt_not (pt_truth (pv 0) (by intro _; rfl))) (pss_one (ps_raise rfl (takes_of rfl rfl rfl rfl) (pmk_own PySem.F.excBase_ValueError T.x_InvalidNetwork.x T.x_InvalidNetwork.g T.x_InvalidNetwork.k (raises_own T.x_InvalidNetwork.b T.x_InvalidNetwork.t) (by rfl)))) pss_nil)
      (pss_cons (ps_if (pt_cmpR op_lt (pe_callB (minK K rfl) (by rfl) M.min bt_min (pa_cons (pv 0) pa_nil)) pe_int (nomark _)) (pss_one (ps_raise rfl (takes_of rfl rfl rfl rfl) (pmk_own PySem.F.excBase_ValueError T.x_InvalidNetwork.x T.x_InvalidNetwork.g T.x_InvalidNetwork.k (raises_own T.x_InvalidNetwork.b T.x_InvalidNetwork.t) (by rfl)))) pss_nil)
      (pss_one (ps_if (pt_cmpR op_ne (lenSetGK K (by rfl) M.len (by rfl) M.set (pv 0)) (pe_callB (len_seqK K) (by rfl) M.len bt_len (pa_cons (pv 0) pa_nil)) (nomark _)) (pss_one (ps_raise rfl (takes_of rfl rfl rfl rfl) (pmk_own PySem.F.excBase_ValueError T.x_InvalidNetwork.x T.x_InvalidNetwork.g T.x_InvalidNetwork.k (raises_own T.x_InvalidNetwork.b T.x_InvalidNetwork.t) (by rfl)))) pss_nil)))), ?_⟩
  try dsimp only [cxOf, Cx.nox, Cx.wish, Cx.blk]

  intro ns hn
  show ES K [.val (lsA (ns.map nI))] _ _
  refine es_seq (es_if (et_not (et_truthL (l := ns.map nI) (by walk_at "evl") _ (fun _ _ _ h => h))) (fun h => ?_) (fun h => ?_))
  · refine es_raise rfl (out_bad ?_)
    rw [emp_map] at h
    unfold okNames
    revert h
    cases ns.isEmpty <;> simp
  refine es_next ?_
  walk_at "nx"
  rw [emp_map] at h
  have hne : ns ≠ [] := fun z => by rw [z] at h; cases h
  have he : ns.isEmpty = false := by revert h; cases ns.isEmpty <;> simp
  obtain ⟨m, hm, hl⟩ := exists_min hne
  refine es_seq (es_if (et_test (ev_I0 (ev_minL (ns := ns) (by walk_at "evl") hm hl) (by walk_at "ev"))) (fun h2 => ?_) (fun h2 => ?_))
  · refine es_raise rfl (out_bad ?_)
    have h3 : m < 0 := of_decide_eq_true h2
    have : ns.all (fun x => decide (0 ≤ x)) = false := by
      rw [List.all_eq_false]
      exact ⟨m, hm, by simp; omega⟩
    unfold okNames
    rw [this]; simp
  refine es_next ?_
  walk_at "nx"
  have h3 : ns.all (fun x => decide (0 ≤ x)) = true := by
    have h3 : ¬ m < 0 := of_decide_eq_false h2
    rw [List.all_eq_true]
    intro x hx
    have := hl x hx
    exact decide_eq_true (by omega)
  refine es_if (et_test (ev_neI (ev_lenSetG (ns := ns) (by walk_at "evl") hn) (by walk_at "ev"))) (fun h4 => ?_) (fun h4 => ?_)
  · refine es_raise rfl (out_bad ?_)
    have : ndb ns = false := by
      unfold ndb
      have h5 : ¬ ((dd ns : Nat) : Int) = ((ns.map nI).length : Nat) := by simpa using h4
      rw [List.length_map] at h5
      exact decide_eq_false (by omega)
    unfold okNames
    rw [this]; simp
  · refine es_next (out_ok ?_)
    have : ndb ns = true := by
      unfold ndb
      have h5 : ((dd ns : Nat) : Int) = ((ns.map nI).length : Nat) := by simpa using h4
      rw [List.length_map] at h5
      exact decide_eq_true (by omega)
    unfold okNames
    rw [he, h3, this]; rfl
end

section
variable {P : Program} {w : World} {K : PySem.W.Frag} {mg : Str → Option Value} {base : Heap}

abbrev s__check_row : Stmt := topS 7
abbrev n__check_row : List Str := ["node", "row", "size", "other"]
theorem sc__check_row : FnScope n__check_row ["node", "row", "size"] (defScope s__check_row) := ⟨rfl, rfl, rfl, by decide +kernel, rfl, by decide +kernel, by decide +kernel⟩

abbrev sp__check_row (K : PySem.W.Frag) (c : Cs) : Sp := spE K (X := Int × List Int × Int) (fun x => [.val (nI x.1), .val (lsA (x.2.1.map nI)), .val (nI x.2.2)]) (fun x => x.2.1.length ≤ 4000) (fun x => if okRow x.1 x.2.1 x.2.2 = true then .inl (.val nN) else .inr c.InvalidNetwork)

theorem ok__check_row {c : Cs} (T : Tx K mg c) (M : Bl mg)  (d : DefAt K mg "_check_row" s__check_row ["node", "row", "size"]) : CalX P w K mg base 1 "_check_row" (sp__check_row K c) := by
  refine calX d sc__check_row (fun _ => rfl) fun f cdv A outer s H E hr => ⟨_, (pss_cons (ps_for (passes_of rfl) rfl (pi_listK K (pv 1)) (pg_name (i := 3) sc__check_row.nd rfl (Or.inl rfl)) (pss_cons (ps_if (pt_not (pt_chain op_le op_lt pe_int (pv 3) (pv 2))) (pss_one (ps_raise rfl (takes_of rfl rfl rfl rfl) (pmk_own PySem.F.excBase_ValueError T.x_InvalidNetwork.x T.x_InvalidNetwork.g T.x_InvalidNetwork.k (raises_own T.x_InvalidNetwork.b T.x_InvalidNetwork.t) (by rfl)))) pss_nil)
      (pss_one (ps_if (pt_cmpR op_eq (pv 3) (pv 0) (nomark _)) (pss_one (ps_raise rfl (takes_of rfl rfl rfl rfl) (pmk_own PySem.F.excBase_ValueError T.x_InvalidNetwork.x T.x_InvalidNetwork.g T.x_InvalidNetwork.k (raises_own T.x_InvalidNetwork.b T.x_InvalidNetwork.t) (by rfl)))) pss_nil))))
      (pss_one (ps_if (pt_cmpR op_ne (lenSetGK K (by rfl) M.len (by rfl) M.set (pv 1)) (pe_callB (len_seqK K) (by rfl) M.len bt_len (pa_cons (pv 1) pa_nil)) (nomark _)) (pss_one (ps_raise rfl (takes_of rfl rfl rfl rfl) (pmk_own PySem.F.excBase_ValueError T.x_InvalidNetwork.x T.x_InvalidNetwork.g T.x_InvalidNetwork.k (raises_own T.x_InvalidNetwork.b T.x_InvalidNetwork.t) (by rfl)))) pss_nil))), ?_⟩
  try dsimp only [cxOf, Cx.nox, Cx.wish, Cx.blk]

  rintro ⟨n, row, size⟩ hn
  dsimp only at hn
  show ES K [.val (nI n), .val (lsA (row.map nI)), .val (nI size), .un] _ _
  refine es_seq (es_forL (l := row.map nI) (fun i E => (∃ s, E = [.val (nI n), .val (lsA (row.map nI)), .val (nI size), s]) ∧ ∀ o ∈ row.take i, 0 ≤ o ∧ o < size ∧ o ≠ n) (ev_var rfl).evs ⟨⟨_, rfl⟩, by simp⟩ ?_ ?_)
  · rintro i r _ hi ⟨⟨s, rfl⟩, hall⟩
    obtain ⟨o, ho, rfl⟩ : ∃ o, row[i]? = some o ∧ nI o = r := by
      rw [List.getElem?_map] at hi
      cases e : row[i]? with
      | none => rw [e] at hi; cases hi
      | some o => rw [e] at hi; exact ⟨o, rfl, Option.some.inj hi⟩
    have hmem : o ∈ row := List.mem_of_getElem? ho
    have bad : ¬ (0 ≤ o ∧ o < size ∧ o ≠ n) → okRow n row size = false := fun hb => by
      unfold okRow
      have : row.all (fun o => decide (0 ≤ o) && decide (o < size) && !decide (o = n)) = false := by
        rw [List.all_eq_false]
        refine ⟨o, hmem, ?_⟩
        simp only [Bool.and_eq_true, decide_eq_true_eq, Bool.not_eq_true', decide_eq_false_iff_not]
        exact fun z => hb ⟨z.1.1, z.1.2, z.2⟩
      rw [this]; rfl
    refine ⟨_, gt_name, ?_⟩
    walk_at "nx"
    refine es_seq (es_if (et_not (et_test (by walk_at "ev"))) (fun h => ?_) (fun h => ?_))
    · refine es_raise rfl (out_bad (bad fun z => ?_))
      have z1 := z.1
      have z2 := z.2.1
      simp [z1, z2] at h
    refine es_next ?_
    walk_at "nx"
    refine es_if (by walk_at "et") (fun h2 => ?_) (fun h2 => ?_)
    · refine es_raise rfl (out_bad (bad fun z => z.2.2 (of_decide_eq_true h2)))
    refine es_next ⟨⟨_, rfl⟩, ?_⟩
    have h2' : ¬ o = n := of_decide_eq_false h2
    have h' : 0 ≤ o ∧ o < size := by simpa using h
    intro o' ho'
    rw [List.take_add_one, ho] at ho'
    rcases List.mem_append.mp ho' with z | z
    · exact hall o' z
    · have : o' = o := by simpa using z
      rw [this]; exact ⟨h'.1, h'.2, h2'⟩
  · rintro _ ⟨⟨s, rfl⟩, hall⟩
    rw [List.length_map, List.take_length] at hall
    have h3 : row.all (fun o => decide (0 ≤ o) && decide (o < size) && !decide (o = n)) = true := by
      rw [List.all_eq_true]
      intro x hx
      obtain ⟨a, b, d⟩ := hall x hx
      simp [a, b, d]
    show ES _ _ _ _
    refine es_if (et_test (ev_neI (ev_lenSetG (ns := row) (by walk_at "evl") hn) (by walk_at "ev"))) (fun h4 => ?_) (fun h4 => ?_)
    · refine es_raise rfl (out_bad ?_)
      have : ndb row = false := by
        unfold ndb
        have h5 : ¬ ((dd row : Nat) : Int) = ((row.map nI).length : Nat) := by simpa using h4
        rw [List.length_map] at h5
        exact decide_eq_false (by omega)
      unfold okRow
      rw [this]; simp
    · refine es_next (out_ok ?_)
      have : ndb row = true := by
        unfold ndb
        have h5 : ((dd row : Nat) : Int) = ((row.map nI).length : Nat) := by simpa using h4
        rw [List.length_map] at h5
        exact decide_eq_true (by omega)
      unfold okRow
      rw [h3, this]; rfl
end

section
variable {P : Program} {w : World} {K : PySem.W.Frag} {mg : Str → Option Value} {base : Heap}

abbrev s__ports_by_neighbor : Stmt := topS 8
abbrev n__ports_by_neighbor : List Str := ["row", "port", "other"]
theorem sc__ports_by_neighbor : FnScope n__ports_by_neighbor ["row"] (defScope s__ports_by_neighbor) := ⟨rfl, rfl, rfl, by decide +kernel, rfl, by decide +kernel, by decide +kernel⟩

abbrev sp__ports_by_neighbor (K : PySem.W.Frag) : Sp := spX K (X := List Int) (fun row => [.val (lsA (row.map nI))]) (fun row => row.Nodup ∧ row.length ≤ 4000) (fun row => .val (dcA (portsL row)))

theorem ok__ports_by_neighbor {c : Cs} (T : Tx K mg c) (M : Bl mg)  (d : DefAt K mg "_ports_by_neighbor" s__ports_by_neighbor ["row"]) : Cal P w K mg base 1 "_ports_by_neighbor" (sp__ports_by_neighbor K) := by
  refine calA d sc__ports_by_neighbor (fun _ => rfl) fun f cdv A outer s H E hr => ⟨_, (pss_one (ps_ret (pe_dc (own := [("port", 1), ("other", 2)]) rfl sc__ports_by_neighbor.nd (pi_enum (by rfl) M.enumerate (pa_cons (pv 0) pa_nil)) (blkOk_by (own := [("port", 1), ("other", 2)]) (N := n__ports_by_neighbor) (sc := defScope s__ports_by_neighbor) (by decide +kernel)) (fun _ _ _ _ _ => (pg_tupK K (n := 2) (by rfl) (pgs_cons (pg_name (i := 1) sc__ports_by_neighbor.nd rfl (Or.inl rfl)) (pgs_cons (pg_name (i := 2) sc__ports_by_neighbor.nd rfl (Or.inl rfl)) pgs_nil)))) (fun _ _ _ _ _ => pts_nil) (fun _ _ _ _ _ => (pv 2)) (fun _ _ _ _ _ => (pv 1))))), ?_⟩
  try dsimp only [cxOf, Cx.nox, Cx.wish, Cx.blk]

  rintro row ⟨hn, hl⟩
  show ES K [.val (lsA (row.map nI)), .un, .un] _ _
  have hg : ∀ {c : Nat} {r : AbsV}, (row.map nI)[c]? = some r → r = nI (row.getD c 0) := fun {c r} h => by
    rw [List.getElem?_map] at h
    cases e : row[c]? with
    | none => rw [e] at h; cases h
    | some o =>
      rw [e] at h
      rw [List.getD_eq_getElem?_getD, e]; exact (Option.some.inj h).symm
  have h := evd_dcE (K := K) (E := [.val (lsA (row.map nI)), .un, .un]) (i := 1) (j := 2) (by decide) (l := row.map nI) (ta := tVar 0) (tk := tVar 2) (tv := tVar 1) (ev_var rfl).evs (fun c => row.getD c 0) (fun c => nI (c : Nat)) (fun a b h1 h2 z => by
    rw [List.length_map] at h2
    have e1 : row[a]? = some (row.getD a 0) := by rw [List.getD_eq_getElem?_getD, List.getElem?_eq_getElem (by omega)]; rfl
    have e2 : row[b]? = some (row.getD b 0) := by rw [List.getD_eq_getElem?_getD, List.getElem?_eq_getElem h2]; rfl
    have z' : row.getD a 0 = row.getD b 0 := z
    rw [z'] at e1
    have := nd_ix hn e1 e2
    omega) (by rw [List.length_map]; omega) (fun c r hr => by rw [hg hr]; exact ev_var rfl) (fun c r hr => ev_var rfl)
  rw [List.length_map] at h
  exact es_ret h.ev rfl
end

section
variable {P : Program} {w : World} {K : PySem.W.Frag} {mg : Str → Option Value} {base : Heap}

abbrev s_Network_names : Stmt := inClass (topS 5) 2
abbrev n_Network_names : List Str := ["self"]
theorem sc_Network_names : FnScope n_Network_names ["self"] (defScope s_Network_names) := ⟨rfl, rfl, rfl, by decide +kernel, rfl, by decide +kernel, by decide +kernel⟩

abbrev sp_Network_names (K : PySem.W.Frag) (c : Cs) : Sp := spX K (X := List Int × List (List Int)) (fun x => [.val (inA c.Network (nF x.1 x.2))]) (fun x => x.1.length ≤ 4000) (fun x => .own (x.1.map nI))

theorem ok_Network_names {c : Cs} (T : Tx K mg c) (M : Bl mg)  (d : MetAt K c.Network "names" "Network.names" s_Network_names ["self"]) : MetA P w K mg base 1 c.Network "names" (sp_Network_names K c) := by
  refine metA d sc_Network_names (fun _ => rfl) fun f cdv A outer s H E hr => ⟨_, (pss_one (ps_ret (pe_callTy (list_ofK K) (by rfl) M.list bt_list (pa_cons (pe_fld (pv 0) rfl) pa_nil)))), ?_⟩
  try dsimp only [cxOf, Cx.nox, Cx.wish, Cx.blk]

  rintro ⟨ns, nb⟩ hn
  show ES K [.val (inA c.Network (nF ns nb))] _ _
  exact es_retF (evf_list (ev_fld (ev_var rfl) T.cl_Network T.n_Network__names rfl).evl) rfl
end

section
variable {P : Program} {w : World} {K : PySem.W.Frag} {mg : Str → Option Value} {base : Heap}

abbrev s_Network_neighbors : Stmt := inClass (topS 5) 3
abbrev n_Network_neighbors : List Str := ["self", "node"]
theorem sc_Network_neighbors : FnScope n_Network_neighbors ["self", "node"] (defScope s_Network_neighbors) := ⟨rfl, rfl, rfl, by decide +kernel, rfl, by decide +kernel, by decide +kernel⟩

abbrev sp_Network_neighbors (K : PySem.W.Frag) (c : Cs) : Sp := spX K (X := (List Int × List (List Int)) × Nat) (fun x => [.val (inA c.Network (nF x.1.1 x.1.2)), .val (nI (x.2 : Nat))]) (fun x => x.2 < x.1.2.length) (fun x => .own ((x.1.2.getD x.2 []).map nI))

theorem ok_Network_neighbors {c : Cs} (T : Tx K mg c) (M : Bl mg)  (d : MetAt K c.Network "neighbors" "Network.neighbors" s_Network_neighbors ["self", "node"]) : MetA P w K mg base 1 c.Network "neighbors" (sp_Network_neighbors K c) := by
  refine metA d sc_Network_neighbors (fun _ => rfl) fun f cdv A outer s H E hr => ⟨_, (pss_one (ps_ret (pe_callTy (list_ofK K) (by rfl) M.list bt_list (pa_cons (pe_ix (ix_listK K) (pe_fld (pv 0) rfl) (pv 1) (fun _ _ => rfl)) pa_nil)))), ?_⟩
  try dsimp only [cxOf, Cx.nox, Cx.wish, Cx.blk]

  rintro ⟨⟨ns, nb⟩, n⟩ hn
  dsimp only at hn
  show ES K [.val (inA c.Network (nF ns nb)), .val (nI (n : Nat))] _ _
  refine es_retF (evf_list (ev_ixL (i := n) (r := rowA (nb.getD n [])) (ev_fld (ev_var rfl) T.cl_Network T.n_Network__neighbors rfl).evl (ev_var rfl) rfl ?_).evl) rfl
  rw [List.getElem?_map, List.getD_eq_getElem?_getD, List.getElem?_eq_getElem hn]; rfl
end

section
variable {P : Program} {w : World} {K : PySem.W.Frag} {mg : Str → Option Value} {base : Heap}

abbrev s_Network__check_returns : Stmt := inClass (topS 5) 7
abbrev n_Network__check_returns : List Str := ["self", "node", "row", "other"]
theorem sc_Network__check_returns : FnScope n_Network__check_returns ["self"] (defScope s_Network__check_returns) := ⟨rfl, rfl, rfl, by decide +kernel, rfl, by decide +kernel, by decide +kernel⟩

abbrev sp_Network__check_returns (K : PySem.W.Frag) (c : Cs) : Sp := spE K (X := List Int × List (List Int)) (fun x => [.val (inA c.Network (nF x.1 x.2))]) (fun x => x.2.length ≤ 4000 ∧ ∀ i, i < x.2.length → (x.2.getD i []).Nodup ∧ (x.2.getD i []).length ≤ 4000 ∧ ∀ o ∈ x.2.getD i [], 0 ≤ o ∧ o < x.2.length) (fun x => if okBack x.2 = true then .inl (.val nN) else .inr c.InvalidNetwork)

theorem ok_Network__check_returns {c : Cs} (T : Tx K mg c) (M : Bl mg)  (d : MetAt K c.Network "_check_returns" "Network._check_returns" s_Network__check_returns ["self"]) : MetX P w K mg base 1 c.Network "_check_returns" (sp_Network__check_returns K c) := by
  refine metX d sc_Network__check_returns (fun _ => rfl) fun f cdv A outer s H E hr => ⟨_, (pss_one (ps_for (passes_of rfl) rfl (pi_enum (by rfl) M.enumerate (pa_cons (pe_fld (pv 0) rfl) pa_nil)) (pg_tupK K (n := 2) (by rfl) (pgs_cons (pg_name (i := 1) sc_Network__check_returns.nd rfl (Or.inl rfl)) (pgs_cons (pg_name (i := 2) sc_Network__check_returns.nd rfl (Or.inl rfl)) pgs_nil))) (pss_one (ps_for (passes_of rfl) rfl (pi_listK K (pv 2)) (pg_name (i := 3) sc_Network__check_returns.nd rfl (Or.inl rfl)) (pss_one (ps_if (pt_cmp (pc_dnotin (units1 hr) (pv 1) (pe_ix (ix_listK K) (pe_fld (pv 0) rfl) (pv 3) (fun _ _ => rfl)))) (pss_one (ps_raise rfl (takes_of rfl rfl rfl rfl) (pmk_own PySem.F.excBase_ValueError T.x_InvalidNetwork.x T.x_InvalidNetwork.g T.x_InvalidNetwork.k (raises_own T.x_InvalidNetwork.b T.x_InvalidNetwork.t) (by rfl)))) pss_nil)))))), ?_⟩
  try dsimp only [cxOf, Cx.nox, Cx.wish, Cx.blk]

  rintro ⟨ns, nb⟩ ⟨hn, hr⟩
  dsimp only at hn hr
  show ES K [.val (inA c.Network (nF ns nb)), .un, .un, .un] _ _
  refine es_forE (l := nb.map rowA) (fun i E => (∃ s s2 s3, E = [.val (inA c.Network (nF ns nb)), s, s2, s3]) ∧ ∀ j, j < i → ∀ o ∈ nb.getD j [], (j : Int) ∈ nb.getD o.toNat []) (ev_fld (ev_var rfl) T.cl_Network T.n_Network__neighbors rfl).evs ⟨⟨_, _, _, rfl⟩, fun j h => by omega⟩ ?_ ?_
  · rintro i r _ hi ⟨⟨s, s2, s3, rfl⟩, hall⟩
    obtain ⟨e1, rfl⟩ := map_row hi
    have hil : i < nb.length := (List.getElem?_eq_some_iff.mp e1).1
    obtain ⟨h1, h2, h3⟩ := hr i hil
    refine ⟨_, gt_tup (gts_cons gt_name (gts_cons gt_name gts_nil)), ?_⟩
    walk_at "nx"
    refine es_forL (l := (nb.getD i []).map nI) (fun k E => (∃ s, E = [.val (inA c.Network (nF ns nb)), .val (nI (i : Nat)), .val (rowA (nb.getD i [])), s]) ∧ ∀ o ∈ (nb.getD i []).take k, (i : Int) ∈ nb.getD o.toNat []) (ev_var rfl).evs ⟨⟨_, rfl⟩, by simp⟩ ?_ ?_
    · rintro k r _ hk ⟨⟨s, rfl⟩, hin⟩
      obtain ⟨o, ho, rfl⟩ := map_int hk
      have hmem : o ∈ nb.getD i [] := List.mem_of_getElem? ho
      obtain ⟨b1, b2⟩ := h3 o hmem
      refine ⟨_, gt_name, ?_⟩
      walk_at "nx"
      have hol : o.toNat < nb.length := by omega
      have hport : (nb.map fun r => dcA (portsL r))[o.toNat]? = some (dcA (portsL (nb.getD o.toNat []))) := by
        rw [List.getElem?_map, List.getD_eq_getElem?_getD, List.getElem?_eq_getElem hol]; rfl
      refine es_if (et_test (ev_dnotin (ev_var rfl) (ev_ixL (i := o.toNat) (ev_fld (ev_var rfl) T.cl_Network T.n_Network__ports rfl).evl (ev_var rfl) (by omega) hport).evd)) (fun h => ?_) (fun h => ?_)
      · refine es_raise rfl (out_bad ?_)
        have hno : (i : Int) ∉ nb.getD o.toNat [] := fun z => by
          obtain ⟨q, hq⟩ := List.getElem?_of_mem z
          rw [look_ports (hr _ hol).1 hq] at h
          cases h
        unfold okBack
        rw [List.all_eq_false]
        refine ⟨i, List.mem_range.mpr hil, ?_⟩
        rw [Bool.not_eq_true, List.all_eq_false]
        exact ⟨o, hmem, by simpa using hno⟩
      · refine es_next ⟨⟨_, rfl⟩, ?_⟩
        have hyes : (i : Int) ∈ nb.getD o.toNat [] := by
          by_cases z : (i : Int) ∈ nb.getD o.toNat []
          · exact z
          · rw [look_ports_none z] at h
            cases h
        intro o' ho'
        rw [List.take_add_one, ho] at ho'
        rcases List.mem_append.mp ho' with z | z
        · exact hin o' z
        · have : o' = o := by simpa using z
          rw [this]; exact hyes
    · rintro _ ⟨⟨s, rfl⟩, hin⟩
      rw [List.length_map, List.take_length] at hin
      refine ⟨⟨_, _, _, rfl⟩, fun j hj o ho => ?_⟩
      by_cases hj2 : j < i
      · exact hall j hj2 o ho
      · have e : j = i := by omega
        subst e
        exact hin o ho
  · rintro _ ⟨⟨s, s2, s3, rfl⟩, hall⟩
    rw [List.length_map] at hall
    refine out_ok ?_
    unfold okBack
    rw [List.all_eq_true]
    intro i hi
    rw [List.all_eq_true]
    intro o ho
    simpa using hall i (List.mem_range.mp hi) o ho
end

section
variable {P : Program} {w : World} {K : PySem.W.Frag} {mg : Str → Option Value} {base : Heap}

abbrev s_Network___init__ : Stmt := inClass (topS 5) 0
abbrev n_Network___init__ : List Str := ["self", "names", "neighbors", "node", "row"]
theorem sc_Network___init__ : FnScope n_Network___init__ ["self", "names", "neighbors"] (defScope s_Network___init__) := ⟨rfl, rfl, rfl, by decide +kernel, rfl, by decide +kernel, by decide +kernel⟩

abbrev sp_Network___init__ (K : PySem.W.Frag) (c : Cs) : Sp := spIE K c.Network (X := List Int × List (List Int)) (fun x => [.val (lsA (x.1.map nI)), .val (lsA (x.2.map rowA))]) (fun x => x.1.length ≤ 4000 ∧ x.2.length ≤ 4000 ∧ ∀ i, i < x.2.length → (x.2.getD i []).length ≤ 4000) (fun x => nF x.1 x.2) (fun x => if okNet x.1 x.2 = true then none else some c.InvalidNetwork)

theorem ok_Network___init__ {c : Cs} (T : Tx K mg c) (M : Bl mg) (m_Network__check_returns : MetX P w K mg base 1 c.Network "_check_returns" (sp_Network__check_returns K c)) (c_ports_by_neighbor : Cal P w K mg base 1 "_ports_by_neighbor" (sp__ports_by_neighbor K)) (c_check_row : CalX P w K mg base 1 "_check_row" (sp__check_row K c)) (c_check_names : CalX P w K mg base 1 "_check_names" (sp__check_names K c)) (d : MakAt K mg c.Network "Network" "Network.__init__" s_Network___init__ ["self", "names", "neighbors"]) : MakX P w K mg base 2 "Network" c.Network (sp_Network___init__ K c) := by
  refine makX d sc_Network___init__ (fun _ => rfl) fun f cdv A outer s H E hr => ⟨_, (pss_cons (ps_expr (pe_cx c_check_names hr (by decide) (by rfl) (passes_call (takes_of rfl rfl rfl rfl) (fun _ _ _ _ h => h)) (pa_cons (pv 1) pa_nil)))
      (pss_cons (ps_if (pt_cmpR op_ne (pe_callB (len_seqK K) (by rfl) M.len bt_len (pa_cons (pv 2) pa_nil)) (pe_callB (len_seqK K) (by rfl) M.len bt_len (pa_cons (pv 1) pa_nil)) (nomark _)) (pss_one (ps_raise rfl (takes_of rfl rfl rfl rfl) (pmk_own PySem.F.excBase_ValueError T.x_InvalidNetwork.x T.x_InvalidNetwork.g T.x_InvalidNetwork.k (raises_own T.x_InvalidNetwork.b T.x_InvalidNetwork.t) (by rfl)))) pss_nil)
      (pss_cons (ps_for (passes_of rfl) rfl (pi_enum (by rfl) M.enumerate (pa_cons (pv 2) pa_nil)) (pg_tupK K (n := 2) (by rfl) (pgs_cons (pg_name (i := 3) sc_Network___init__.nd rfl (Or.inl rfl)) (pgs_cons (pg_name (i := 4) sc_Network___init__.nd rfl (Or.inl rfl)) pgs_nil))) (pss_one (ps_expr (pe_cx c_check_row hr (by decide) (by rfl) (passes_call (takes_of rfl rfl rfl rfl) (fun _ _ _ _ h => h)) (pa_cons (pv 3) (pa_cons (pv 4) (pa_cons (pe_callB (len_seqK K) (by rfl) M.len bt_len (pa_cons (pv 1) pa_nil)) pa_nil)))))))
      (pss_cons (ps_fld (pv 0) (pe_callTy (list_ofK K) (by rfl) M.list bt_list (pa_cons (pv 1) pa_nil)) rfl)
      (pss_cons (ps_fld (pv 0) (pe_lc (own := [("row", 4)]) rfl sc_Network___init__.nd (pi_listK K (pv 2)) (blkOk_by (own := [("row", 4)]) (N := n_Network___init__) (sc := defScope s_Network___init__) (by decide +kernel)) (fun _ _ _ _ _ => (pg_name (i := 4) sc_Network___init__.nd rfl (Or.inl rfl))) (fun _ _ _ _ _ => pts_nil) (fun _ _ _ _ _ => (pe_callTy (list_ofK K) (by rfl) M.list bt_list (pa_cons (pv 4) pa_nil)))) rfl)
      (pss_cons (ps_fld (pv 0) (pe_lc (own := [("row", 4)]) rfl sc_Network___init__.nd (pi_listK K (pv 2)) (blkOk_by (own := [("row", 4)]) (N := n_Network___init__) (sc := defScope s_Network___init__) (by decide +kernel)) (fun _ _ _ _ _ => (pg_name (i := 4) sc_Network___init__.nd rfl (Or.inl rfl))) (fun _ _ _ _ _ => pts_nil) (fun _ _ _ _ _ => (pe_ca c_ports_by_neighbor hr (by decide) (by rfl) (pa_cons (pv 4) pa_nil)))) rfl)
      (pss_one (ps_expr (pe_mex0 m_Network__check_returns hr (by decide) (pv 0) (passes_call (takes_of rfl rfl rfl rfl) (fun _ _ _ _ h => h))))))))))), ?_⟩
  try dsimp only [cxOf, Cx.nox, Cx.wish, Cx.blk]

  rintro p ⟨ns, nb⟩ ⟨hn, hb, hr⟩
  dsimp only at hn hb hr
  have bad : okNet ns nb = false → (if okNet ns nb = true then none else some c.InvalidNetwork) = some c.InvalidNetwork := fun h => by rw [h]; rfl
  show ES K [.ins p c.Network [], .val (lsA (ns.map nI)), .val (lsA (nb.map rowA)), .un, .un] _ _
  refine es_seq (es_dropX (ex_call ns (by walk_at "ea") hn) rfl (fun r e => ?_) (fun C e => ?_))
  rotate_left
  · obtain ⟨e1, rfl⟩ := out_inr e
    exact bad (by unfold okNet; rw [e1]; rfl)
  have hok1 := out_inl e
  refine es_seq (es_if (by walk_at "et") (fun h => ?_) (fun h => ?_))
  · refine es_raise rfl (bad ?_)
    have h5 : ¬ ((nb.map rowA).length : Int) = ((ns.map nI).length : Nat) := by simpa using h
    rw [List.length_map, List.length_map] at h5
    unfold okNet
    rw [decide_eq_false (fun z => h5 (by omega))]; simp
  refine es_next ?_
  walk_at "nx"
  have hlen : nb.length = ns.length := by
    have h5 : ((nb.map rowA).length : Int) = ((ns.map nI).length : Nat) := by simpa using h
    rw [List.length_map, List.length_map] at h5
    omega
  refine es_seq (es_forE (l := nb.map rowA) (fun i E => (∃ s s2, E = [.ins p c.Network [], .val (lsA (ns.map nI)), .val (lsA (nb.map rowA)), s, s2]) ∧ ∀ j, j < i → okRow (j : Nat) (nb.getD j []) ns.length = true) (ev_var rfl).evs ⟨⟨_, _, rfl⟩, fun j h => by omega⟩ ?_ ?_)
  · rintro i r _ hi ⟨⟨s, s2, rfl⟩, hall⟩
    obtain ⟨e1, rfl⟩ := map_row hi
    have hil : i < nb.length := (List.getElem?_eq_some_iff.mp e1).1
    refine ⟨_, gt_tup (gts_cons gt_name (gts_cons gt_name gts_nil)), ?_⟩
    walk_at "nx"
    refine es_dropX (ex_call (((i : Nat) : Int), nb.getD i [], (((ns.map nI).length : Nat) : Int)) (ea_val (ev_var rfl) (ea_val (ev_var rfl) (ea_val (ev_len (l := ns.map nI) (evl_var rfl)) ea_nil))) (hr i hil)) rfl (fun r e => ?_) (fun C e => ?_)
    · have h1 := out_inl e
      dsimp only at h1
      rw [List.length_map] at h1
      refine ⟨⟨_, _, rfl⟩, fun j hj => ?_⟩
      by_cases hj2 : j < i
      · exact hall j hj2
      · have e : j = i := by omega
        subst e
        exact h1
    · obtain ⟨h1, rfl⟩ := out_inr e
      dsimp only at h1
      rw [List.length_map] at h1
      refine bad ?_
      have : (List.range nb.length).all (fun i => okRow (i : Nat) (nb.getD i []) ns.length) = false := by
        rw [List.all_eq_false]
        exact ⟨i, List.mem_range.mpr hil, by rw [h1]; simp⟩
      unfold okNet
      rw [this]; simp
  · rintro _ ⟨⟨s, s2, rfl⟩, hall⟩
    rw [List.length_map] at hall
    show ES _ _ _ _
    refine es_seq (es_fld rfl T.cl_Network T.n_Network__names (EVF.ev (evf_list (by walk_at "evl"))) rfl (by first | decide | (simp; done)) ?_)
    walk_at "nx"
    have hc := evf_lcL (K := K) (E := [.ins p c.Network [("_names", lsA (ns.map nI))], .val (lsA (ns.map nI)), .val (lsA (nb.map rowA)), s, s2]) (i := 4) (ta := tVar 2) (l := nb.map rowA) (tt := tYes) (te := tCB (fun xs H Q => ∃ p ys, xs = [.ref p] ∧ (SqL K H p ys ∨ SqT K H p ys) ∧ ∀ l, H l = none → Q (.ref l) (upd H l (.lst ys))) (tCons (tVar 4) tNil)) (ev_var rfl).evs (fun _ => true) (fun j => rowA (nb.getD j [])) (by rw [List.length_map]; omega) (fun _ _ _ => et_yes) (fun j r hj _ => by
      obtain ⟨_, rfl⟩ := map_row hj
      exact (evf_list (ev_var rfl).evl).ev)
    rw [List.length_map, accL_rows rowA] at hc
    refine es_seq (es_fld rfl T.cl_Network T.n_Network__neighbors hc.ev rfl (by first | decide | (simp; done)) ?_)
    walk_at "nx"
    have nd : ∀ j, j < nb.length → (nb.getD j []).Nodup ∧ ∀ o ∈ nb.getD j [], 0 ≤ o ∧ o < ns.length := fun j hj => by
      have := hall j hj
      unfold okRow at this
      rw [Bool.and_eq_true, List.all_eq_true] at this
      refine ⟨ndb_iff.mp this.2, fun o ho => ?_⟩
      have := this.1 o ho
      simp at this
      exact ⟨this.1.1, this.1.2⟩
    have hc2 := evf_lcL (K := K) (E := [.ins p c.Network [("_names", lsA (ns.map nI)), ("_neighbors", lsA (nb.map rowA))], .val (lsA (ns.map nI)), .val (lsA (nb.map rowA)), s, s2]) (i := 4) (ta := tVar 2) (l := nb.map rowA) (tt := tYes) (te := tCall (sp__ports_by_neighbor K) [] E0 (tCons (tVar 4) tNil)) (ev_var rfl).evs (fun _ => true) (fun j => dcA (portsL (nb.getD j []))) (by rw [List.length_map]; omega) (fun _ _ _ => et_yes) (fun j r hj _ => by
      obtain ⟨e1, rfl⟩ := map_row hj
      have hjl : j < nb.length := (List.getElem?_eq_some_iff.mp e1).1
      exact ev_call (nb.getD j []) (by walk_at "ea") ⟨(nd j hjl).1, hr j hjl⟩ rfl)
    rw [List.length_map, accL_rows (fun r => dcA (portsL r))] at hc2
    refine es_seq (es_fld rfl T.cl_Network T.n_Network__ports hc2.ev rfl (by first | decide | (simp; done)) ?_)
    walk_at "nx"
    refine es_freezeI (i := 0) rfl ?_
    walk_at "nx"
    refine es_dropX (ex_meth (C := c.Network) (fs := nF ns nb) (as := []) (ns, nb) (EV.ofI (ev_var rfl)) rfl ea_nil rfl ⟨hb, fun i hi => ⟨(nd i hi).1, hr i hi, fun o ho => by have := (nd i hi).2 o ho; dsimp only; omega⟩⟩) rfl (fun r e => ?_) (fun C e => ?_)
    · have h1 := out_inl e
      refine ⟨?_, rfl⟩
      have : okNet ns nb = true := by
        unfold okNet
        rw [hok1, decide_eq_true hlen, h1]
        have : (List.range nb.length).all (fun i => okRow (i : Nat) (nb.getD i []) ns.length) = true := by
          rw [List.all_eq_true]
          exact fun i hi => hall i (List.mem_range.mp hi)
        rw [this]; rfl
      show (if okNet ns nb = true then none else _) = none
      rw [this]; rfl
    · obtain ⟨h1, rfl⟩ := out_inr e
      exact bad (by unfold okNet; rw [h1]; simp)
end

section
variable {P : Program} {w : World} {K : PySem.W.Frag} {mg : Str → Option Value} {base : Heap}

abbrev s__standard : Stmt := topS 15
abbrev n__standard : List Str := ["neighbors"]
theorem sc__standard : FnScope n__standard ["neighbors"] (defScope s__standard) := ⟨rfl, rfl, rfl, by decide +kernel, rfl, by decide +kernel, by decide +kernel⟩

abbrev sp__standard (K : PySem.W.Frag) (c : Cs) : Sp := spE K (X := List (List Int)) (fun nb => [.val (lsA (nb.map rowA))]) (fun nb => nb.length ≤ 4000 ∧ ∀ r ∈ nb, r.length ≤ 4000) (fun nb => stdOut c nb)

theorem ok__standard {c : Cs} (T : Tx K mg c) (M : Bl mg) (m_Network : MakX P w K mg base 2 "Network" c.Network (sp_Network___init__ K c)) (d : DefAt K mg "_standard" s__standard ["neighbors"]) : CalX P w K mg base 4 "_standard" (sp__standard K c) := by
  refine calX d sc__standard (fun _ => rfl) fun f cdv A outer s H E hr => ⟨_, (pss_one (ps_ret (pe_mx m_Network hr (by decide) (by rfl) (passes_call (takes_of rfl rfl rfl rfl) (fun _ _ _ _ h => h)) (pa_cons (pe_listRg rfl (by rfl) M.list (prg_1 (by rfl) M.range (pe_callB (len_seqK K) (by rfl) M.len bt_len (pa_cons (pv 0) pa_nil)))) (pa_cons (pv 0) pa_nil))))), ?_⟩
  try dsimp only [cxOf, Cx.nox, Cx.wish, Cx.blk]

  rintro nb ⟨hn, hr⟩
  show ES K [.val (lsA (nb.map rowA))] _ _
  refine es_retX (ex_make (rgI 0 (nb.length : Nat), nb) (ea_val (EVF.ev (EVF.is (evf_rg1 (ev_len (l := nb.map rowA) (evl_var rfl)) (by rw [List.length_map]; omega)) (by rw [List.length_map]))) (ea_val (ev_var rfl) ea_nil)) ⟨by dsimp only; rw [rgI_len]; omega, hn, rows_of hr⟩) rfl (fun r e => e) (fun C e => e)
end

section
variable {P : Program} {w : World} {K : PySem.W.Frag} {mg : Str → Option Value} {base : Heap}

abbrev s__grid_row : Stmt := topS 13
abbrev n__grid_row : List Str := ["row", "column", "rows", "columns", "places", "down", "right"]
theorem sc__grid_row : FnScope n__grid_row ["row", "column", "rows", "columns"] (defScope s__grid_row) := ⟨rfl, rfl, rfl, by decide +kernel, rfl, by decide +kernel, by decide +kernel⟩

abbrev sp__grid_row (K : PySem.W.Frag) : Sp := spX K (X := (Nat × Nat) × (Int × Int)) (fun x => [.val (nI (x.1.1 : Nat)), .val (nI (x.1.2 : Nat)), .val (nI x.2.1), .val (nI x.2.2)]) (fun x => -4000 ≤ x.2.2 ∧ x.2.2 ≤ 4000 ∧ x.1.1 ≤ 4000 ∧ x.1.2 ≤ 4000) (fun x => .own ((gRow x.2.1 x.2.2 x.1.1 x.1.2).map nI))

theorem ok__grid_row {c : Cs} (T : Tx K mg c) (M : Bl mg)  (d : DefAt K mg "_grid_row" s__grid_row ["row", "column", "rows", "columns"]) : Cal P w K mg base 1 "_grid_row" (sp__grid_row K) := by
  refine calA d sc__grid_row (fun _ => rfl) fun f cdv A outer s H E hr => ⟨_, (pss_cons (ps_set (i := 4) sc__grid_row.nd rfl (Or.inl rfl) (pe_lst (pa_cons (pe_tup (pa_cons (pe_op op_sub (pv 0) pe_int) (pa_cons (pv 1) pa_nil))) (pa_cons (pe_tup (pa_cons (pv 0) (pa_cons (pe_op op_sub (pv 1) pe_int) pa_nil))) (pa_cons (pe_tup (pa_cons (pv 0) (pa_cons (pe_op op_add (pv 1) pe_int) pa_nil))) (pa_cons (pe_tup (pa_cons (pe_op op_add (pv 0) pe_int) (pa_cons (pv 1) pa_nil))) pa_nil))))))
      (pss_one (ps_ret (pe_lc (own := [("down", 5), ("right", 6)]) rfl sc__grid_row.nd (pi_listK K (pv 4)) (blkOk_by (own := [("down", 5), ("right", 6)]) (N := n__grid_row) (sc := defScope s__grid_row) (by decide +kernel)) (fun _ _ _ _ _ => (pg_tupK K (n := 2) (by rfl) (pgs_cons (pg_name (i := 5) sc__grid_row.nd rfl (Or.inl rfl)) (pgs_cons (pg_name (i := 6) sc__grid_row.nd rfl (Or.inl rfl)) pgs_nil)))) (fun _ _ _ _ _ => (pts_one (PW.pt (pw_and (pt_chain op_le op_lt pe_int (pv 5) (pv 2)) (pw_and1 (pt_chain op_le op_lt pe_int (pv 6) (pv 3))))))) (fun _ _ _ _ _ => (pe_op op_add (pe_op op_mul (pv 5) (pv 3)) (pv 6))))))), ?_⟩
  try dsimp only [cxOf, Cx.nox, Cx.wish, Cx.blk]

  rintro ⟨⟨a, b⟩, rows, cols⟩ ⟨h1, h2, h3, h4⟩
  dsimp only at h1 h2 h3 h4
  show ES K [.val (nI (a : Nat)), .val (nI (b : Nat)), .val (nI rows), .val (nI cols), .un, .un, .un] _ _
  refine es_seq (es_asg (r := lsA [tuA [nI ((a : Int) - 1), nI (b : Nat)], tuA [nI (a : Nat), nI ((b : Int) - 1)], tuA [nI (a : Nat), nI ((b : Int) + 1)], tuA [nI ((a : Int) + 1), nI (b : Nat)]]) (EVF.ev (evf_lst (by walk_at "eav") (by simp))) ?_)
  walk_at "nx"
  have hf := accL_filter (ps := [((a : Int) - 1, (b : Int)), ((a : Int), (b : Int) - 1), ((a : Int), (b : Int) + 1), ((a : Int) + 1, (b : Int))]) (0, 0) (fun p => (decide (0 ≤ p.1) && decide (p.1 < rows)) && (decide (0 ≤ p.2) && decide (p.2 < cols))) (fun p => nI (p.1 * cols + p.2))
  have hsmall : ∀ p ∈ [((a : Int) - 1, (b : Int)), ((a : Int), (b : Int) - 1), ((a : Int), (b : Int) + 1), ((a : Int) + 1, (b : Int))], -1 ≤ p.1 ∧ p.1 ≤ 4001 := fun p hp => by
    simp only [List.mem_cons, List.not_mem_nil, or_false] at hp
    rcases hp with e | e | e | e <;> subst e <;> constructor <;> dsimp only <;> omega
  have hmap : [tuA [nI ((a : Int) - 1), nI (b : Nat)], tuA [nI (a : Nat), nI ((b : Int) - 1)], tuA [nI (a : Nat), nI ((b : Int) + 1)], tuA [nI ((a : Int) + 1), nI (b : Nat)]] = [((a : Int) - 1, (b : Int)), ((a : Int), (b : Int) - 1), ((a : Int), (b : Int) + 1), ((a : Int) + 1, (b : Int))].map fun p => tuA [nI p.1, nI p.2] := rfl
  have hpl : ([((a : Int) - 1, (b : Int)), ((a : Int), (b : Int) - 1), ((a : Int), (b : Int) + 1), ((a : Int) + 1, (b : Int))] : List (Int × Int)).length ≤ 100000 := by simp
  have hR : (gRow rows cols a b).map nI = ([((a : Int) - 1, (b : Int)), ((a : Int), (b : Int) - 1), ((a : Int), (b : Int) + 1), ((a : Int) + 1, (b : Int))].filter fun p => (decide (0 ≤ p.1) && decide (p.1 < rows)) && (decide (0 ≤ p.2) && decide (p.2 < cols))).map fun p => nI (p.1 * cols + p.2) := by
    unfold gRow
    rw [List.map_map]; rfl
  rw [hmap]
  show ES K _ _ (AR (.own ((gRow rows cols a b).map nI)))
  rw [hR, ← hf]
  generalize [((a : Int) - 1, (b : Int)), ((a : Int), (b : Int) - 1), ((a : Int), (b : Int) + 1), ((a : Int) + 1, (b : Int))] = ps at hsmall hpl ⊢
  have hget : ∀ {c : Nat} {p : Int × Int}, ps[c]? = some p → ps.getD c (0, 0) = p := fun {c p} h => by
    rw [List.getD_eq_getElem?_getD, h]; rfl
  refine es_retF (evf_lcT (ps := ps) (by decide) (fun p => nI p.1) (fun p => nI p.2) (ev_var rfl).evs (fun j => (decide (0 ≤ (ps.getD j (0, 0)).1) && decide ((ps.getD j (0, 0)).1 < rows)) && (decide (0 ≤ (ps.getD j (0, 0)).2) && decide ((ps.getD j (0, 0)).2 < cols))) (fun j => nI ((ps.getD j (0, 0)).1 * cols + (ps.getD j (0, 0)).2)) hpl (fun c p hp => ?_) (fun c p hp _ => ?_)) rfl
  · rw [hget hp]
    walk_at "nx"
    exact et_and (et_test (by walk_at "ev")) (fun _ => et_test (by walk_at "ev"))
  · rw [hget hp]
    have hs := hsmall p (List.mem_of_getElem? hp)
    have hcm : CMul p.1 cols := .inr ⟨by omega, by omega⟩
    walk_at "nx"
    exact by walk_at "ev"
end

section
variable {P : Program} {w : World} {K : PySem.W.Frag} {mg : Str → Option Value} {base : Heap}

abbrev s_grid : Stmt := topS 12
abbrev n_grid : List Str := ["rows", "columns", "row", "column"]
theorem sc_grid : FnScope n_grid ["rows", "columns"] (defScope s_grid) := ⟨rfl, rfl, rfl, by decide +kernel, rfl, by decide +kernel, by decide +kernel⟩

abbrev sp_grid (K : PySem.W.Frag) (c : Cs) : Sp := spE K (X := Int × Int) (fun x => [.val (nI x.1), .val (nI x.2)]) (fun x => x.1 ≤ 40 ∧ x.2 ≤ 40) (fun x => if x.1 < 1 ∨ x.2 < 1 then .inr c.InvalidNetwork else stdOut c (gridNb x.1 x.2))

theorem ok_grid {c : Cs} (T : Tx K mg c) (M : Bl mg) (c_standard : CalX P w K mg base 4 "_standard" (sp__standard K c)) (c_grid_row : Cal P w K mg base 1 "_grid_row" (sp__grid_row K)) (d : DefAt K mg "grid" s_grid ["rows", "columns"]) : CalX P w K mg base 5 "grid" (sp_grid K c) := by
  refine calX d sc_grid (fun _ => rfl) fun f cdv A outer s H E hr => ⟨_, (pss_cons (ps_if (PW.pt (pw_or (pt_cmpR op_lt (pv 0) pe_int (nomark _)) (pw_or1 (pt_cmpR op_lt (pv 1) pe_int (nomark _))))) (pss_one (ps_raise rfl (takes_of rfl rfl rfl rfl) (pmk_own PySem.F.excBase_ValueError T.x_InvalidNetwork.x T.x_InvalidNetwork.g T.x_InvalidNetwork.k (raises_own T.x_InvalidNetwork.b T.x_InvalidNetwork.t) (by rfl)))) pss_nil)
      (pss_one (ps_ret (pe_cx c_standard hr (by decide) (by rfl) (passes_call (takes_of rfl rfl rfl rfl) (fun _ _ _ _ h => h)) (pa_cons (pe_lc2 (own := [("row", 2), ("column", 3)]) (vs1 := [3]) rfl sc_grid.nd (pi_range1 (by rfl) M.range (pa_cons (pv 0) pa_nil)) (blkOk_by (own := [("row", 2), ("column", 3)]) (N := n_grid) (sc := defScope s_grid) (by decide +kernel)) (by decide) (fun _ _ _ _ _ => (pg_name (i := 2) sc_grid.nd rfl (Or.inl rfl))) (fun _ _ _ _ _ => pts_nil) (fun _ _ _ _ _ => (pi_range1 (by rfl) M.range (pa_cons (pv 1) pa_nil))) (fun _ _ _ _ _ => (pg_name (i := 3) sc_grid.nd rfl (Or.inl rfl))) (fun _ _ _ _ _ => pts_nil) (fun _ _ _ _ _ => (pe_ca c_grid_row hr (by decide) (by rfl) (pa_cons (pv 2) (pa_cons (pv 3) (pa_cons (pv 0) (pa_cons (pv 1) pa_nil))))))) pa_nil))))), ?_⟩
  try dsimp only [cxOf, Cx.nox, Cx.wish, Cx.blk]

  rintro ⟨rows, cols⟩ ⟨h1, h2⟩
  dsimp only at h1 h2
  show ES K [.val (nI rows), .val (nI cols), .un, .un] _ _
  refine es_seq (es_if (by walk_at "et") (fun h => ?_) (fun h => ?_))
  · refine es_raise rfl ?_
    have h' : rows < 1 ∨ cols < 1 := by simpa using h
    show (if rows < 1 ∨ cols < 1 then (.inr c.InvalidNetwork : Out) else stdOut c (gridNb rows cols)) = .inr c.InvalidNetwork
    rw [if_pos h']
  refine es_next ?_
  walk_at "nx"
  have h' : ¬ (rows < 1 ∨ cols < 1) := by simpa using h
  have hx : (if rows < 1 ∨ cols < 1 then (.inr c.InvalidNetwork : Out) else stdOut c (gridNb rows cols)) = stdOut c (gridNb rows cols) := if_neg h'
  have hmul : rows.toNat * cols.toNat ≤ 40 * 40 := Nat.mul_le_mul (by omega) (by omega)
  have hL := evf_lcR2 (K := K) (E := [.val (nI rows), .val (nI cols), .un, .un]) (lo := 0) (lo1 := 0) (n := rows.toNat) (m := cols.toNat) (wi := iRng1 (tCons (tVar 0) tNil)) (wi1 := iRng1 (tCons (tVar 1) tNil)) (i := 2) (j := 3) (te := tCall (sp__grid_row K) [] E0 (tCons (tVar 2) (tCons (tVar 3) (tCons (tVar 0) (tCons (tVar 1) tNil))))) (by decide) (w_range1 (ev_var rfl) (by omega) (by omega)) (fun a ha => w_range1 (ev_var rfl) (by omega) (by omega)) (fun a b => rowA (gRow rows cols a b)) (by omega) (fun a b ha hb => (evf_call ((a, b), (rows, cols)) (ea_val (EV.is (ev_var rfl) (by rw [Int.zero_add])) (ea_val (EV.is (ev_var rfl) (by rw [Int.zero_add])) (ea_val (ev_var rfl) (ea_val (ev_var rfl) ea_nil)))) ⟨by dsimp only; omega, by dsimp only; omega, by dsimp only; omega, by dsimp only; omega⟩ rfl).ev)
  rw [acc2_gnb] at hL
  refine es_retX (ex_call (gridNb rows cols) (ea_val hL.ev ea_nil) ⟨by unfold gridNb; rw [gnb_len]; omega, gnb_all _ _ _ (gRow_len rows cols) _⟩) rfl (fun r e => hx.trans e) (fun C e => hx.trans e)
end

section
variable {P : Program} {w : World} {K : PySem.W.Frag} {mg : Str → Option Value} {base : Heap}

abbrev s_path : Stmt := topS 10
abbrev n_path : List Str := ["count"]
theorem sc_path : FnScope n_path ["count"] (defScope s_path) := ⟨rfl, rfl, rfl, by decide +kernel, rfl, by decide +kernel, by decide +kernel⟩

abbrev sp_path (K : PySem.W.Frag) (c : Cs) : Sp := spE K (X := Int) (fun x => [.val (nI x)]) (fun x => x ≤ 40) (fun x => if (1 : Int) < 1 ∨ x < 1 then .inr c.InvalidNetwork else stdOut c (gridNb 1 x))

theorem ok_path {c : Cs} (T : Tx K mg c) (M : Bl mg) (cgrid : CalX P w K mg base 5 "grid" (sp_grid K c)) (d : DefAt K mg "path" s_path ["count"]) : CalX P w K mg base 6 "path" (sp_path K c) := by
  refine calX d sc_path (fun _ => rfl) fun f cdv A outer s H E hr => ⟨_, (pss_one (ps_ret (pe_cx cgrid hr (by decide) (by rfl) (passes_call (takes_of rfl rfl rfl rfl) (fun _ _ _ _ h => h)) (pa_cons pe_int (pa_cons (pv 0) pa_nil))))), ?_⟩
  try dsimp only [cxOf, Cx.nox, Cx.wish, Cx.blk]

  intro n hn
  show ES K [.val (nI n)] _ _
  exact es_retX (ex_call (1, n) (by walk_at "ea") ⟨by dsimp only; omega, hn⟩) rfl (fun r e => e) (fun C e => e)
end

section
variable {P : Program} {w : World} {K : PySem.W.Frag} {mg : Str → Option Value} {base : Heap}

abbrev s_ring : Stmt := topS 11
abbrev n_ring : List Str := ["count", "node"]
theorem sc_ring : FnScope n_ring ["count"] (defScope s_ring) := ⟨rfl, rfl, rfl, by decide +kernel, rfl, by decide +kernel, by decide +kernel⟩

abbrev sp_ring (K : PySem.W.Frag) (c : Cs) : Sp := spE K (X := Int) (fun x => [.val (nI x)]) (fun x => x ≤ 40) (fun x => if x < 3 then .inr c.InvalidNetwork else stdOut c (ringNb x))

theorem ok_ring {c : Cs} (T : Tx K mg c) (M : Bl mg) (c_standard : CalX P w K mg base 4 "_standard" (sp__standard K c)) (d : DefAt K mg "ring" s_ring ["count"]) : CalX P w K mg base 5 "ring" (sp_ring K c) := by
  refine calX d sc_ring (fun _ => rfl) fun f cdv A outer s H E hr => ⟨_, (pss_cons (ps_if (pt_cmpR op_lt (pv 0) pe_int (nomark _)) (pss_one (ps_raise rfl (takes_of rfl rfl rfl rfl) (pmk_own PySem.F.excBase_ValueError T.x_InvalidNetwork.x T.x_InvalidNetwork.g T.x_InvalidNetwork.k (raises_own T.x_InvalidNetwork.b T.x_InvalidNetwork.t) (by rfl)))) pss_nil)
      (pss_one (ps_ret (pe_cx c_standard hr (by decide) (by rfl) (passes_call (takes_of rfl rfl rfl rfl) (fun _ _ _ _ h => h)) (pa_cons (pe_lc (own := [("node", 1)]) rfl sc_ring.nd (pi_range1 (by rfl) M.range (pa_cons (pv 0) pa_nil)) (blkOk_by (own := [("node", 1)]) (N := n_ring) (sc := defScope s_ring) (by decide +kernel)) (fun _ _ _ _ _ => (pg_name (i := 1) sc_ring.nd rfl (Or.inl rfl))) (fun _ _ _ _ _ => pts_nil) (fun _ _ _ _ _ => (pe_lst (pa_cons (pe_op op_mod (pe_op op_sub (pv 1) pe_int) (pv 0)) (pa_cons (pe_op op_mod (pe_op op_add (pv 1) pe_int) (pv 0)) pa_nil))))) pa_nil))))), ?_⟩
  try dsimp only [cxOf, Cx.nox, Cx.wish, Cx.blk]

  intro n hn
  show ES K [.val (nI n), .un] _ _
  refine es_seq (es_if (by walk_at "et") (fun h => ?_) (fun h => ?_))
  · refine es_raise rfl ?_
    have h' : n < 3 := of_decide_eq_true h
    show (if n < 3 then (.inr c.InvalidNetwork : Out) else stdOut c (ringNb n)) = .inr c.InvalidNetwork
    rw [if_pos h']
  refine es_next ?_
  walk_at "nx"
  have h' : ¬ n < 3 := of_decide_eq_false h
  have hx : (if n < 3 then (.inr c.InvalidNetwork : Out) else stdOut c (ringNb n)) = stdOut c (ringNb n) := if_neg h'
  have hn0 : (0 : Int) < n := by omega
  refine es_retX (ex_call (ringNb n) (ea_val (EVF.ev (EVF.is (evf_lcR (lo := 0) (n := n.toNat) (w_range1 (ev_var rfl) (by omega) (by omega)) (fun _ => true) (fun k => rowA [((k : Int) - 1) % n, ((k : Int) + 1) % n]) (by omega) (fun _ _ => et_yes) (fun k hk _ => ?_)) (by rw [accL_all]; unfold ringNb; rw [List.map_map]; rfl))) ea_nil) ⟨by unfold ringNb; rw [List.length_map, List.length_range]; omega, fun r hr => ?_⟩) rfl (fun r e => hx.trans e) (fun C e => hx.trans e)
  · rw [Int.zero_add]
    exact (evf_lst (l := [nI (((k : Int) - 1) % n), nI (((k : Int) + 1) % n)]) (eav_cons (by walk_at "ev") (eav_cons (by walk_at "ev") eav_nil)) (by simp)).ev
  · obtain ⟨k, _, rfl⟩ := List.mem_map.mp hr
    simp
end

section
variable {P : Program} {w : World} {K : PySem.W.Frag} {mg : Str → Option Value} {base : Heap}

abbrev s_star : Stmt := topS 14
abbrev n_star : List Str := ["count", "_"]
theorem sc_star : FnScope n_star ["count"] (defScope s_star) := ⟨rfl, rfl, rfl, by decide +kernel, rfl, by decide +kernel, by decide +kernel⟩

abbrev sp_star (K : PySem.W.Frag) (c : Cs) : Sp := spE K (X := Int) (fun x => [.val (nI x)]) (fun x => x ≤ 40) (fun x => if x < 1 then .inr c.InvalidNetwork else stdOut c (starNb x))

theorem ok_star {c : Cs} (T : Tx K mg c) (M : Bl mg) (c_standard : CalX P w K mg base 4 "_standard" (sp__standard K c)) (d : DefAt K mg "star" s_star ["count"]) : CalX P w K mg base 5 "star" (sp_star K c) := by
  refine calX d sc_star (fun _ => rfl) fun f cdv A outer s H E hr => ⟨_, (pss_cons (ps_if (pt_cmpR op_lt (pv 0) pe_int (nomark _)) (pss_one (ps_raise rfl (takes_of rfl rfl rfl rfl) (pmk_own PySem.F.excBase_ValueError T.x_InvalidNetwork.x T.x_InvalidNetwork.g T.x_InvalidNetwork.k (raises_own T.x_InvalidNetwork.b T.x_InvalidNetwork.t) (by rfl)))) pss_nil)
      (pss_one (ps_ret (pe_cx c_standard hr (by decide) (by rfl) (passes_call (takes_of rfl rfl rfl rfl) (fun _ _ _ _ h => h)) (pa_cons (pe_op op_cat (pe_lst (pa_cons (pe_listRg rfl (by rfl) M.list (prg_2 (by rfl) M.range pe_int (pv 0))) pa_nil)) (pe_lc (own := [("_", 1)]) rfl sc_star.nd (pi_range2 (by rfl) M.range (pa_cons pe_int (pa_cons (pv 0) pa_nil))) (blkOk_by (own := [("_", 1)]) (N := n_star) (sc := defScope s_star) (by decide +kernel)) (fun _ _ _ _ _ => (pg_name (i := 1) sc_star.nd rfl (Or.inl rfl))) (fun _ _ _ _ _ => pts_nil) (fun _ _ _ _ _ => (pe_lst (pa_cons pe_int pa_nil))))) pa_nil))))), ?_⟩
  try dsimp only [cxOf, Cx.nox, Cx.wish, Cx.blk]

  intro n hn
  show ES K [.val (nI n), .un] _ _
  refine es_seq (es_if (by walk_at "et") (fun h => ?_) (fun h => ?_))
  · refine es_raise rfl ?_
    have h' : n < 1 := of_decide_eq_true h
    show (if n < 1 then (.inr c.InvalidNetwork : Out) else stdOut c (starNb n)) = .inr c.InvalidNetwork
    rw [if_pos h']
  refine es_next ?_
  walk_at "nx"
  have h' : ¬ n < 1 := of_decide_eq_false h
  have hx : (if n < 1 then (.inr c.InvalidNetwork : Out) else stdOut c (starNb n)) = stdOut c (starNb n) := if_neg h'
  have hw : (starNb n).map rowA = [rowA (rgI 1 n)] ++ accL (fun _ => true) (fun _ => rowA [0]) (n - 1).toNat := by
    rw [accL_all]; unfold starNb; rw [List.map_cons, List.map_map]; rfl
  refine es_retX (ex_call (starNb n) (ea_val (EVF.ev (EVF.is (evf_cat (l := [rowA (rgI 1 n)]) (m := accL (fun _ => true) (fun _ => rowA [0]) (n - 1).toNat) (EVF.evl (evf_lst (eav_cons (EVF.ev (evf_rg2 ev_int (ev_var rfl) (by omega) (by omega))) eav_nil) (by simp))) (EVF.evl (evf_lcR (lo := 1) (n := (n - 1).toNat) (w_range2 ev_int (ev_var rfl) (by omega)) (fun _ => true) (fun _ => rowA [0]) (by omega) (fun _ _ => et_yes) (fun k hk _ => (evf_lst (l := [nI 0]) (eav_cons ev_int eav_nil) (by simp)).ev))) (by have := accL_len (fun _ => true) (fun _ => rowA [0]) (n - 1).toNat; rw [List.length_singleton]; omega)) hw.symm)) ea_nil) ⟨by unfold starNb; rw [List.length_cons, List.length_map, List.length_range]; omega, fun r hr => ?_⟩) rfl (fun r e => hx.trans e) (fun C e => hx.trans e)
  unfold starNb at hr
  rcases List.mem_cons.mp hr with e | e
  · rw [e, rgI_len]; omega
  · obtain ⟨k, _, rfl⟩ := List.mem_map.mp e
    simp
end

section
variable {P : Program} {w : World} {K : PySem.W.Frag} {mg : Str → Option Value} {base : Heap}

abbrev s__law_cell : Stmt := topS 17
abbrev n__law_cell : List Str := ["script", "k"]
theorem sc__law_cell : FnScope n__law_cell ["script", "k"] (defScope s__law_cell) := ⟨rfl, rfl, rfl, by decide +kernel, rfl, by decide +kernel, by decide +kernel⟩

abbrev sp__law_cell (K : PySem.W.Frag) : Sp := spX K (X := List Int × Int) (fun x => [.scr x.1, .val (nI x.2)]) (fun x => 0 ≤ x.2) (fun x => .val (nI (x.1.getD x.2.toNat 0)))

theorem ok__law_cell {c : Cs} (T : Tx K mg c) (M : Bl mg)  (d : DefAt K mg "_law_cell" s__law_cell ["script", "k"]) : Cal P w K mg base 1 "_law_cell" (sp__law_cell K) := by
  refine calA d sc__law_cell (fun _ => rfl) fun f cdv A outer s H E hr => ⟨_, (pss_cons (ps_if (pt_cmpR op_lt (pv 1) (pe_callB (len_seqK K) (by rfl) M.len bt_len (pa_cons (pv 0) pa_nil)) (nomark _)) (pss_one (ps_ret (pe_ix (ix_listK K) (pv 0) (pv 1) (fun _ _ => rfl)))) pss_nil)
      (pss_one (ps_ret pe_int))), ?_⟩
  try dsimp only [cxOf, Cx.nox, Cx.wish, Cx.blk]

  rintro ⟨ns, k⟩ hk
  dsimp only at hk
  show ES K [.scr ns, .val (nI k)] _ _
  walk_at "if" <;> intro hT
  · have hlt : k < (ns.length : Int) := of_decide_eq_true hT
    have hx : ns[k.toNat]? = some (ns.getD k.toNat 0) := by
      rw [List.getD_eq_getElem?_getD, List.getElem?_eq_getElem (by omega)]; rfl
    exact es_ret (ev_ixS rfl (ev_var rfl) (j := k.toNat) (by omega) hx) rfl
  · refine es_next ?_
    walk_at "nx"
    have hge : ¬ k < (ns.length : Int) := of_decide_eq_false hT
    refine es_ret ev_int ?_
    have : ns.getD k.toNat 0 = 0 := by
      rw [List.getD_eq_getElem?_getD, List.getElem?_eq_none (by omega)]; rfl
    rw [this]; rfl
end

section
variable {P : Program} {w : World} {K : PySem.W.Frag} {mg : Str → Option Value} {base : Heap}

abbrev s__law_draws : Stmt := topS 18
abbrev n__law_draws : List Str := ["cell", "count", "rows", "left", "first", "k", "mixed"]
theorem sc__law_draws : FnScope n__law_draws ["cell", "count"] (defScope s__law_draws) := ⟨rfl, rfl, rfl, by decide +kernel, rfl, by decide +kernel, by decide +kernel⟩

abbrev sp__law_draws (K : PySem.W.Frag) : Sp := spX K (X := Int × Nat) (fun x => [.val (nI x.1), .val (nI x.2)]) (fun x => x.2 ≤ 1000) (fun x => .own ((drawsF x.1 x.2).map nI))

theorem ok__law_draws {c : Cs} (T : Tx K mg c) (M : Bl mg)  (d : DefAt K mg "_law_draws" s__law_draws ["cell", "count"]) : Cal P w K mg base 1 "_law_draws" (sp__law_draws K) := by
  refine calA d sc__law_draws (fun _ => rfl) fun f cdv A outer s H E hr => ⟨_, (pss_cons (ps_set (i := 2) sc__law_draws.nd rfl (Or.inl rfl) (pe_lst pa_nil))
      (pss_cons (ps_set (i := 3) sc__law_draws.nd rfl (Or.inl rfl) (pe_callB call_abs (by rfl) M.abs bt_abs (pa_cons (pv 0) pa_nil)))
      (pss_cons (ps_set (i := 4) sc__law_draws.nd rfl (Or.inl rfl) (pv 3))
      (pss_cons (ps_for PassesOwn.never rfl (pi_range1 (by rfl) M.range (pa_cons (pv 1) pa_nil)) (pg_name (i := 5) sc__law_draws.nd rfl (Or.inl rfl)) (pss_one (ps_if (PW.pt (pw_and (pt_cmpR op_ge (pv 4) (pe_op op_pow pe_int pe_int) (nomark _)) (pw_and1 (pt_cmpR op_gt (pv 3) pe_int (nomark _))))) (pss_cons (ps_expr (pe_bm PySem.F.plainAttrs_list PySem.F.slot_list_append PySem.F.type_list_append mt_append (pv 2) (pa_cons (pe_op op_mod (pe_callTy call_int1 (by rfl) M.int bt_int (pa_cons (pv 3) pa_nil)) pe_int) pa_nil)))
      (pss_one (ps_set (i := 3) sc__law_draws.nd rfl (Or.inl rfl) (pe_op op_fdiv (pv 3) pe_int)))) (pss_cons (ps_set (i := 6) sc__law_draws.nd rfl (Or.inl rfl) (pe_op op_mod (pe_callTy call_int1 (by rfl) M.int bt_int (pa_cons (pe_op op_add (pe_op op_mul (pv 4) pe_int) (pe_op op_mul (pe_op op_add (pv 5) pe_int) pe_int)) pa_nil)) pe_int))
      (pss_cons (ps_set (i := 6) sc__law_draws.nd rfl (Or.inl rfl) (pe_op op_mod (pe_callTy call_int1 (by rfl) M.int bt_int (pa_cons (pe_op op_add (pe_op op_add (pe_op op_mul (pv 6) (pv 6)) (pe_op op_mul (pv 6) pe_int)) (pe_op op_mul (pv 5) pe_int)) pa_nil)) pe_int))
      (pss_cons (ps_set (i := 6) sc__law_draws.nd rfl (Or.inl rfl) (pe_op op_mod (pe_callTy call_int1 (by rfl) M.int bt_int (pa_cons (pe_op op_add (pe_op op_add (pe_op op_mul (pv 6) (pv 6)) (pv 4)) (pe_op op_mul pe_int (pv 5))) pa_nil)) pe_int))
      (pss_one (ps_expr (pe_bm PySem.F.plainAttrs_list PySem.F.slot_list_append PySem.F.type_list_append mt_append (pv 2) (pa_cons (pe_op op_mod (pe_op op_fdiv (pv 6) pe_int) pe_int) pa_nil))))))))))
      (pss_one (ps_ret (pv 2))))))), ?_⟩
  try dsimp only [cxOf, Cx.nox, Cx.wish, Cx.blk]

  rintro ⟨c, n⟩ hn
  dsimp only at hn
  show ES K [.val (nI c), .val (nI n), .un, .un, .un, .un, .un] _ _
  walk_at "set"
  walk_at "set"
  walk_at "set"
  refine es_seq (es_forR (lo := 0) (n := n) (fun i E => ∃ s5 s6, E = [.val (nI c), .val (nI n), .own ((drawsS c i).1.map nI), .val (nI (drawsS c i).2), .val (nI (absI c)), s5, s6]) (fun B G0 σ G H k R z => w_range1 (by walk_at "ev") (by omega) (by omega) B G0 σ G H k R (by rw [Int.toNat_natCast]; exact z)) ⟨_, _, rfl⟩ ?_ ?_)
  · rintro i _ hi ⟨s5, s6, rfl⟩
    refine ⟨_, gt_name, ?_⟩
    walk_at "nx"
    have hl := drawsS_len c i
    have hcp : CPow 10 18 := ⟨by decide, by decide, by decide⟩
    refine es_if (by walk_at "et") (fun hT => ?_) (fun hF => ?_)
    · refine es_seq (es_app rfl (by walk_at "ev") (by rw [List.length_map, hl]; omega) ?_)
      walk_at "nx"
      walk_at "set"
      have e : drawsS c (i + 1) = ((drawsS c i).1 ++ [(drawsS c i).2 % 4096], (drawsS c i).2 / 4096) := if_pos hT
      exact ⟨_, _, by rw [e, List.map_append]; rfl⟩
    · walk_at "set"
      walk_at "set"
      walk_at "set"
      refine es_app rfl (by walk_at "ev") (by rw [List.length_map, hl]; omega) ?_
      have e : drawsS c (i + 1) = ((drawsS c i).1 ++ [mixF (absI c) (0 + (i : Int))], (drawsS c i).2) := if_neg (by rw [hF]; exact Bool.false_ne_true)
      exact ⟨_, _, by rw [e, List.map_append]; rfl⟩
  · rintro _ ⟨s5, s6, rfl⟩
    show ES _ _ _ _
    exact es_retO rfl rfl
end

section
variable {P : Program} {w : World} {K : PySem.W.Frag} {mg : Str → Option Value} {base : Heap}

abbrev s__law_like : Stmt := topS 19
abbrev n__law_like : List Str := ["actual", "due", "k"]
theorem sc__law_like : FnScope n__law_like ["actual", "due"] (defScope s__law_like) := ⟨rfl, rfl, rfl, by decide +kernel, rfl, by decide +kernel, by decide +kernel⟩

abbrev sp_like (n : Nat) (K : PySem.W.Frag) : Sp := spX K (X := PyData) (fun d => [.val (dat d), .val (dat d)]) (fun d => Fit n d) (fun _ => .val (nB true))
abbrev sp__law_like (K : PySem.W.Frag) : Sp := sp_like 5 K
-- @mk have c_law_like := ok_like (P := l.prog) (w := w) (base := base) D__law_like M 5


theorem ok_like (d : DefAt K mg "_law_like" s__law_like ["actual", "due"]) (M : Bl mg) : ∀ n : Nat, Cal P w K mg base n "_law_like" (sp_like n K)
  | 0 => cal_never d fun x h => h
  | n + 1 => by
    have c_law_like := ok_like d M n
    refine calA d sc__law_like (fun _ => rfl) fun f cdv A outer s H E hr => ⟨_, (pss_cons (ps_if (pt_cmp (pc_isN (pv 1))) (pss_one (ps_ret (pe_cmp (pc_isN (pv 0))))) pss_nil)
      (pss_cons (ps_if (pt_val (pe_callB (isiK K) (by rfl) M.isinstance bt_isinstance (pa_cons (pv 1) (pa_cons (pe_bltn (v := .ty "bool") (by rfl) M.bool bt_bool rfl) pa_nil)))) (pss_one (ps_ret (pe_and (pe_callB (isiK K) (by rfl) M.isinstance bt_isinstance (pa_cons (pv 0) (pa_cons (pe_bltn (v := .ty "bool") (by rfl) M.bool bt_bool rfl) pa_nil))) (pe_one (pe_cmpR op_eq (pv 0) (pv 1) (nomark _)))))) pss_nil)
      (pss_cons (ps_if (pt_val (pe_callB (isiK K) (by rfl) M.isinstance bt_isinstance (pa_cons (pv 1) (pa_cons (pe_bltn (v := .ty "str") (by rfl) M.str bt_str rfl) pa_nil)))) (pss_one (ps_ret (pe_and (pe_callB (isiK K) (by rfl) M.isinstance bt_isinstance (pa_cons (pv 0) (pa_cons (pe_bltn (v := .ty "str") (by rfl) M.str bt_str rfl) pa_nil))) (pe_one (pe_cmpR op_eq (pv 0) (pv 1) (nomark _)))))) pss_nil)
      (pss_cons (ps_if (pt_val (pe_callB (isiK K) (by rfl) M.isinstance bt_isinstance (pa_cons (pv 1) (pa_cons (pe_bltn (v := .ty "int") (by rfl) M.int bt_int rfl) pa_nil)))) (pss_one (ps_ret (pe_and (pe_callB (isiK K) (by rfl) M.isinstance bt_isinstance (pa_cons (pv 0) (pa_cons (pe_bltn (v := .ty "int") (by rfl) M.int bt_int rfl) pa_nil))) (pe_and (pe_not (pe_callB (isiK K) (by rfl) M.isinstance bt_isinstance (pa_cons (pv 0) (pa_cons (pe_bltn (v := .ty "bool") (by rfl) M.bool bt_bool rfl) pa_nil)))) (pe_one (pe_cmpR op_eq (pv 0) (pv 1) (nomark _))))))) pss_nil)
      (pss_cons (ps_if (PW.pt (pw_or (pt_cmpR op_ne (pe_callB (isiK K) (by rfl) M.isinstance bt_isinstance (pa_cons (pv 1) (pa_cons (pe_bltn (v := .ty "list") (by rfl) M.list bt_list rfl) pa_nil))) (pe_callB (isiK K) (by rfl) M.isinstance bt_isinstance (pa_cons (pv 0) (pa_cons (pe_bltn (v := .ty "list") (by rfl) M.list bt_list rfl) pa_nil))) (nomark _)) (pw_or1 (pt_cmpR op_ne (pe_callB (isiK K) (by rfl) M.isinstance bt_isinstance (pa_cons (pv 1) (pa_cons (pe_bltn (v := .ty "tuple") (by rfl) M.tuple bt_tuple rfl) pa_nil))) (pe_callB (isiK K) (by rfl) M.isinstance bt_isinstance (pa_cons (pv 0) (pa_cons (pe_bltn (v := .ty "tuple") (by rfl) M.tuple bt_tuple rfl) pa_nil))) (nomark _))))) (pss_one (ps_ret pe_bl)) pss_nil)
      (pss_cons (ps_if (pt_cmpR op_ne (pe_callB (len_seqK K) (by rfl) M.len bt_len (pa_cons (pv 0) pa_nil)) (pe_callB (len_seqK K) (by rfl) M.len bt_len (pa_cons (pv 1) pa_nil)) (nomark _)) (pss_one (ps_ret pe_bl)) pss_nil)
      (pss_one (ps_ret (pe_callB (allK K rfl) (by rfl) M.all bt_all (pa_cons (pe_lc (own := [("k", 2)]) rfl sc__law_like.nd (pi_range1 (by rfl) M.range (pa_cons (pe_callB (len_seqK K) (by rfl) M.len bt_len (pa_cons (pv 1) pa_nil)) pa_nil)) (blkOk_by (own := [("k", 2)]) (N := n__law_like) (sc := defScope s__law_like) (by decide +kernel)) (fun _ _ _ _ _ => (pg_name (i := 2) sc__law_like.nd rfl (Or.inl rfl))) (fun _ _ _ _ _ => pts_nil) (fun _ _ _ _ _ => (pe_ca c_law_like hr (Nat.le_refl _) (by rfl) (pa_cons (pe_ix (ix_seqK K) (pv 0) (pv 2) (fun _ _ => rfl)) (pa_cons (pe_ix (ix_seqK K) (pv 1) (pv 2) (fun _ _ => rfl)) pa_nil))))) pa_nil)))))))))), ?_⟩
    try dsimp only [cxOf, Cx.nox, Cx.wish, Cx.blk]
    intro x hx
    show ES K [.val (dat x), .val (dat x), .un] _ _
    have no : ∀ {ts us : TS} {A : AE} {t : TT}, ET K [.val (dat x), .val (dat x), .un] t false → ES K [.val (dat x), .val (dat x), .un] us A → ES K [.val (dat x), .val (dat x), .un] (tSeq (tIfS t ts tNext) us) A := fun ht hu => es_seq (es_if ht (fun z => by cases z) fun _ => es_next hu)
    have yes : ∀ {ts us : TS} {A : AE} {t : TT}, ET K [.val (dat x), .val (dat x), .un] t true → ES K [.val (dat x), .val (dat x), .un] ts { A with nx := fun E' => ES K E' us A } → ES K [.val (dat x), .val (dat x), .un] (tSeq (tIfS t ts tNext) us) A := fun ht hu => es_seq (es_if ht (fun _ => hu) fun z => by cases z)
    have isi0 : ∀ {nm : String} {b : Bool}, kitB (tyD x) nm = some b → EV K [.val (dat x), .val (dat x), .un] (tCB (rIsi K) (tCons (tVar 0) (tCons (tC (.ty nm)) tNil))) (nB b) := fun h => ev_isi (ev_var rfl) h
    have isi1 : ∀ {nm : String} {b : Bool}, kitB (tyD x) nm = some b → EV K [.val (dat x), .val (dat x), .un] (tCB (rIsi K) (tCons (tVar 1) (tCons (tC (.ty nm)) tNil))) (nB b) := fun h => ev_isi (ev_var rfl) h
    have seqs : ∀ (ds : List PyData), (x = .list ds ∨ x = .tuple ds) → ds.length ≤ 1000 → (∀ y ∈ ds, Fit n y) → EVL K [.val (dat x), .val (dat x), .un] (tVar 1) (dats ds) ∨ EV K [.val (dat x), .val (dat x), .un] (tVar 1) (tuA (dats ds)) := fun ds h _ _ => by
      rcases h with rfl | rfl
      · exact .inl (evl_var (l := dats ds) rfl)
      · exact .inr (ev_var (r := tuA (dats ds)) rfl)
    cases x with
    | none =>
      refine yes (et_B (ev_isNd (d := .none) (ev_var rfl))) ?_
      exact es_ret (ev_isNd (d := .none) (ev_var rfl)) rfl
    | bool b =>
      refine no (et_B (ev_isNd (d := .bool b) (ev_var rfl))) ?_
      refine yes (et_B (isi1 rfl)) ?_
      refine es_ret (ev_andV (isi0 rfl) fun _ => ev_eq (ev_var rfl) (ev_var rfl) rfl) ?_
      simp [AR]
    | str z =>
      refine no (et_B (ev_isNd (d := .str z) (ev_var rfl))) ?_
      refine no (et_B (isi1 rfl)) ?_
      refine yes (et_B (isi1 rfl)) ?_
      refine es_ret (ev_andV (isi0 rfl) fun _ => ev_eq (ev_var rfl) (ev_var rfl) rfl) ?_
      simp [AR]
    | int i =>
      refine no (et_B (ev_isNd (d := .int i) (ev_var rfl))) ?_
      refine no (et_B (isi1 rfl)) ?_
      refine no (et_B (isi1 rfl)) ?_
      refine yes (et_B (isi1 rfl)) ?_
      refine es_ret (ev_andV (isi0 rfl) fun _ => ev_andV (ev_notV (isi0 (b := false) rfl)) fun _ => ev_eq (ev_var rfl) (ev_var rfl) rfl) ?_
      simp [AR]
    | dict z => rcases hx with h | ⟨ds, h | h, _⟩ <;> first | exact h.elim | cases h
    | list ds =>
      obtain ⟨hl, hf⟩ : ds.length ≤ 1000 ∧ ∀ y ∈ ds, Fit n y := by
        rcases hx with h | ⟨ds', h | h, h2⟩
        · exact h.elim
        · cases h; exact h2
        · cases h
      have l0 : EVL K [.val (dat (.list ds)), .val (dat (.list ds)), .un] (tVar 0) (dats ds) := evl_var rfl
      have l1 : EVL K [.val (dat (.list ds)), .val (dat (.list ds)), .un] (tVar 1) (dats ds) := evl_var rfl
      refine no (et_B (ev_isNd (d := .list ds) (ev_var rfl))) ?_
      refine no (et_B (isi1 rfl)) ?_
      refine no (et_B (isi1 rfl)) ?_
      refine no (et_B (isi1 rfl)) ?_
      refine no ((et_or (et_test (ev_ne (isi1 (b := true) rfl) (isi0 (b := true) rfl) rfl)) fun _ => et_test (ev_ne (isi1 (b := false) rfl) (isi0 (b := false) rfl) rfl)).is (by simp)) ?_
      refine no ((et_test (ev_neI (ev_len l0) (ev_len l1))).is (by simp)) ?_
      have hdl : (dats ds).length = ds.length := by rw [dats_map, List.length_map]
      refine es_ret (ev_all (bs := (List.range ds.length).map fun _ => true) (EVF.evl (EVF.is (evf_lcR (lo := 0) (n := ds.length) (fun B G0 σ G H k R z => w_range1 (ev_len l1) (by omega) (by omega) B G0 σ G H k R (by rw [hdl, Int.toNat_natCast]; exact z)) (fun _ => true) (fun _ => nB true) (by omega) (fun j hj => et_yes) (fun j hj _ => ?_)) (by rw [accL_all, List.map_map]; rfl)))) ?_
      · have hj2 : ds[j]? = some ds[j] := List.getElem?_eq_getElem hj
        have hat : (dats ds)[j]? = some (dat ds[j]) := by rw [dats_map, List.getElem?_map, hj2]; rfl
        refine ev_call ds[j] (ea_val (ev_ixA (i := j) (.inl (evl_var (l := dats ds) rfl)) (ev_var rfl) (by omega) hat) (ea_val (ev_ixA (i := j) (.inl (evl_var (l := dats ds) rfl)) (ev_var rfl) (by omega) hat) ea_nil)) (hf _ (List.getElem_mem hj)) rfl
      · rw [all_true]; rfl
    | tuple ds =>
      obtain ⟨hl, hf⟩ : ds.length ≤ 1000 ∧ ∀ y ∈ ds, Fit n y := by
        rcases hx with h | ⟨ds', h | h, h2⟩
        · exact h.elim
        · cases h
        · cases h; exact h2
      have l0 : EV K [.val (dat (.tuple ds)), .val (dat (.tuple ds)), .un] (tVar 0) (tuA (dats ds)) := ev_var rfl
      have l1 : EV K [.val (dat (.tuple ds)), .val (dat (.tuple ds)), .un] (tVar 1) (tuA (dats ds)) := ev_var rfl
      refine no (et_B (ev_isNd (d := .tuple ds) (ev_var rfl))) ?_
      refine no (et_B (isi1 rfl)) ?_
      refine no (et_B (isi1 rfl)) ?_
      refine no (et_B (isi1 rfl)) ?_
      refine no ((et_or (et_test (ev_ne (isi1 (b := false) rfl) (isi0 (b := false) rfl) rfl)) fun _ => et_test (ev_ne (isi1 (b := true) rfl) (isi0 (b := true) rfl) rfl)).is (by simp)) ?_
      refine no ((et_test (ev_neI (ev_lenT l0) (ev_lenT l1))).is (by simp)) ?_
      have hdl : (dats ds).length = ds.length := by rw [dats_map, List.length_map]
      refine es_ret (ev_all (bs := (List.range ds.length).map fun _ => true) (EVF.evl (EVF.is (evf_lcR (lo := 0) (n := ds.length) (fun B G0 σ G H k R z => w_range1 (ev_lenT l1) (by omega) (by omega) B G0 σ G H k R (by rw [hdl, Int.toNat_natCast]; exact z)) (fun _ => true) (fun _ => nB true) (by omega) (fun j hj => et_yes) (fun j hj _ => ?_)) (by rw [accL_all, List.map_map]; rfl)))) ?_
      · have hj2 : ds[j]? = some ds[j] := List.getElem?_eq_getElem hj
        have hat : (dats ds)[j]? = some (dat ds[j]) := by rw [dats_map, List.getElem?_map, hj2]; rfl
        refine ev_call ds[j] (ea_val (ev_ixA (i := j) (.inr (ev_var (r := tuA (dats ds)) rfl)) (ev_var rfl) (by omega) hat) (ea_val (ev_ixA (i := j) (.inr (ev_var (r := tuA (dats ds)) rfl)) (ev_var rfl) (by omega) hat) ea_nil)) (hf _ (List.getElem_mem hj)) rfl
      · rw [all_true]; rfl
end

section
variable {P : Program} {w : World} {K : PySem.W.Frag} {mg : Str → Option Value} {base : Heap}

abbrev s__law_refused : Stmt := topS 20
abbrev n__law_refused : List Str := ["sort", "first", "second"]
theorem sc__law_refused : FnScope n__law_refused ["sort", "first", "second"] (defScope s__law_refused) := ⟨rfl, rfl, rfl, by decide +kernel, rfl, by decide +kernel, by decide +kernel⟩

abbrev sp__law_refused (K : PySem.W.Frag) : Sp := spX K (X := Int × Int × Int) (fun x => [.val (nI x.1), .val (nI x.2.1), .val (nI x.2.2)]) (fun x => x.2.1 ≤ 40 ∧ x.2.2 ≤ 40 ∧ (x.1 = 0 → x.2.1 < 1) ∧ (x.1 = 1 → x.2.1 < 3) ∧ (x.1 = 2 → x.2.1 < 1) ∧ (¬ x.1 = 0 → ¬ x.1 = 1 → ¬ x.1 = 2 → x.2.1 < 1 ∨ x.2.2 < 1)) (fun _ => .val (nB true))

theorem ok__law_refused {c : Cs} (T : Tx K mg c) (M : Bl mg) (cpath : CalX P w K mg base 6 "path" (sp_path K c)) (cring : CalX P w K mg base 5 "ring" (sp_ring K c)) (cstar : CalX P w K mg base 5 "star" (sp_star K c)) (cgrid : CalX P w K mg base 5 "grid" (sp_grid K c)) (d : DefAt K mg "_law_refused" s__law_refused ["sort", "first", "second"]) : Cal P w K mg base 7 "_law_refused" (sp__law_refused K) := by
  refine calA d sc__law_refused (fun _ => rfl) fun f cdv A outer s H E hr => ⟨_, (pss_cons (ps_try_only rfl rfl ⟨rfl, by decide, .inl T.x_InvalidNetwork.g⟩ takes0 (fun W pn xe tk _ => (pss_one (ps_if (pt_cmpR op_eq (pv 0) pe_int (nomark _)) (pss_one (ps_expr (pe_cxS cpath hr (by decide) (by rfl) tk (pa_cons (pv 1) pa_nil)))) (pss_one (ps_if (pt_cmpR op_eq (pv 0) pe_int (nomark _)) (pss_one (ps_expr (pe_cxS cring hr (by decide) (by rfl) tk (pa_cons (pv 1) pa_nil)))) (pss_one (ps_if (pt_cmpR op_eq (pv 0) pe_int (nomark _)) (pss_one (ps_expr (pe_cxS cstar hr (by decide) (by rfl) tk (pa_cons (pv 1) pa_nil)))) (pss_one (ps_expr (pe_cxS cgrid hr (by decide) (by rfl) tk (pa_cons (pv 1) (pa_cons (pv 2) pa_nil)))))))))))) (fun _ _ _ _ _ _ _ => (pss_one (ps_ret pe_bl))))
      (pss_one (ps_ret pe_bl))), ?_⟩
  try dsimp only [cxOf, Cx.nox, Cx.wish, Cx.blk]

  rintro ⟨z, a, b⟩ ⟨h1, h2, h3, h4, h5, h6⟩
  dsimp only at h1 h2 h3 h4 h5 h6
  show ES K [.val (nI z), .val (nI a), .val (nI b)] _ _
  refine es_seq (es_try (tb := fun W => tIfS (tTest (tOp rEq (tVar 0) (tC (.int 0)))) (tDrop (tCallS (sp_path K c) (fun σ => WE W σ) (tCons (tVar 1) tNil))) (tIfS (tTest (tOp rEq (tVar 0) (tC (.int 1)))) (tDrop (tCallS (sp_ring K c) (fun σ => WE W σ) (tCons (tVar 1) tNil))) (tIfS (tTest (tOp rEq (tVar 0) (tC (.int 2)))) (tDrop (tCallS (sp_star K c) (fun σ => WE W σ) (tCons (tVar 1) tNil))) (tDrop (tCallS (sp_grid K c) (fun σ => WE W σ) (tCons (tVar 1) (tCons (tVar 2) tNil))))))) (tsu := fun _ _ _ => tRet (tC (.bl true))) (c := .ref c.InvalidNetwork) (Wout := fun _ _ _ _ => False) (fun _ C => C = c.InvalidNetwork) (fun W => ?_) (fun E' C hC => ?_))
  rotate_left
  · subst hC
    exact ⟨T.x_InvalidNetwork.e, fun _ => es_ret ev_bl rfl⟩
  have fin : ∀ {o : Out}, o = .inr c.InvalidNetwork → ∀ r, o = .inl r → False := fun e r h => by rw [e] at h; cases h
  have finC : ∀ {o : Out}, o = .inr c.InvalidNetwork → ∀ C, o = .inr C → C = c.InvalidNetwork := fun e r h => by rw [e] at h; cases h; rfl
  refine es_if (by walk_at "et") (fun h => ?_) (fun h => ?_)
  · have e : (if (1 : Int) < 1 ∨ a < 1 then (.inr c.InvalidNetwork : Out) else stdOut c (gridNb 1 a)) = .inr c.InvalidNetwork := if_pos (.inr (h3 (of_decide_eq_true h)))
    exact es_dropX (ex_callS a (by walk_at "ea") h1) rfl (fun r z => (fin e r z).elim) (finC e)
  refine es_if (by walk_at "et") (fun h' => ?_) (fun h' => ?_)
  · have e : (if a < 3 then (.inr c.InvalidNetwork : Out) else stdOut c (ringNb a)) = .inr c.InvalidNetwork := if_pos (h4 (of_decide_eq_true h'))
    exact es_dropX (ex_callS a (by walk_at "ea") h1) rfl (fun r z => (fin e r z).elim) (finC e)
  refine es_if (by walk_at "et") (fun h'' => ?_) (fun h'' => ?_)
  · have e : (if a < 1 then (.inr c.InvalidNetwork : Out) else stdOut c (starNb a)) = .inr c.InvalidNetwork := if_pos (h5 (of_decide_eq_true h''))
    exact es_dropX (ex_callS a (by walk_at "ea") h1) rfl (fun r z => (fin e r z).elim) (finC e)
  · have e : (if a < 1 ∨ b < 1 then (.inr c.InvalidNetwork : Out) else stdOut c (gridNb a b)) = .inr c.InvalidNetwork := if_pos (h6 (of_decide_eq_false h) (of_decide_eq_false h') (of_decide_eq_false h''))
    exact es_dropX (ex_callS (a, b) (by walk_at "ea") ⟨h1, h2⟩) rfl (fun r z => (fin e r z).elim) (finC e)
end

section
variable {P : Program} {w : World} {K : PySem.W.Frag} {mg : Str → Option Value} {base : Heap}

abbrev s__law_is : Stmt := topS 21
abbrev n__law_is : List Str := ["network", "lists", "k"]
theorem sc__law_is : FnScope n__law_is ["network", "lists"] (defScope s__law_is) := ⟨rfl, rfl, rfl, by decide +kernel, rfl, by decide +kernel, by decide +kernel⟩

abbrev sp__law_is (K : PySem.W.Frag) (c : Cs) : Sp := spX K (X := List (List Int)) (fun nb => [.val (inA c.Network (nF (rgI 0 nb.length) nb)), .val (lsA (nb.map rowA))]) (fun nb => nb.length ≤ 900 ∧ ∀ r ∈ nb, r.length ≤ 900) (fun _ => .val (nB true))

theorem ok__law_is {c : Cs} (T : Tx K mg c) (M : Bl mg) (c_law_like : Cal P w K mg base 5 "_law_like" (sp__law_like K)) (m_Network_neighbors : MetA P w K mg base 1 c.Network "neighbors" (sp_Network_neighbors K c)) (m_Network_names : MetA P w K mg base 1 c.Network "names" (sp_Network_names K c)) (d : DefAt K mg "_law_is" s__law_is ["network", "lists"]) : Cal P w K mg base 6 "_law_is" (sp__law_is K c) := by
  refine calA d sc__law_is (fun _ => rfl) fun f cdv A outer s H E hr => ⟨_, (pss_cons (ps_if (pt_not (pt_val (pe_ca c_law_like hr (by decide) (by rfl) (pa_cons (pe_ma0 m_Network_names hr (by decide) (pv 0)) (pa_cons (pe_listRg rfl (by rfl) M.list (prg_1 (by rfl) M.range (pe_callB (len_seqK K) (by rfl) M.len bt_len (pa_cons (pv 1) pa_nil)))) pa_nil))))) (pss_one (ps_ret pe_bl)) pss_nil)
      (pss_one (ps_ret (pe_callB (allK K rfl) (by rfl) M.all bt_all (pa_cons (pe_lc (own := [("k", 2)]) rfl sc__law_is.nd (pi_range1 (by rfl) M.range (pa_cons (pe_callB (len_seqK K) (by rfl) M.len bt_len (pa_cons (pv 1) pa_nil)) pa_nil)) (blkOk_by (own := [("k", 2)]) (N := n__law_is) (sc := defScope s__law_is) (by decide +kernel)) (fun _ _ _ _ _ => (pg_name (i := 2) sc__law_is.nd rfl (Or.inl rfl))) (fun _ _ _ _ _ => pts_nil) (fun _ _ _ _ _ => (pe_ca c_law_like hr (by decide) (by rfl) (pa_cons (pe_ma m_Network_neighbors hr (by decide) (pv 0) (pa_cons (pv 2) pa_nil)) (pa_cons (pe_ix (ix_listK K) (pv 1) (pv 2) (fun _ _ => rfl)) pa_nil))))) pa_nil))))), ?_⟩
  try dsimp only [cxOf, Cx.nox, Cx.wish, Cx.blk]

  rintro nb ⟨hn, hr⟩
  show ES K [.val (inA c.Network (nF (rgI 0 nb.length) nb)), .val (lsA (nb.map rowA)), .un] _ _
  have hd : dat (.list ((rgI 0 nb.length).map PyData.int)) = lsA ((rgI 0 nb.length).map nI) := by
    show lsA (dats _) = _
    rw [dats_map, List.map_map]; rfl
  have hdr : ∀ r : List Int, dat (.list (r.map PyData.int)) = rowA r := fun r => by
    show lsA (dats _) = _
    rw [dats_map, List.map_map]; rfl
  refine es_seq (es_if (et_not (et_B (ev_call (.list ((rgI 0 nb.length).map PyData.int)) (ea_val (EV.is (EVF.ev (evf_meth (C := c.Network) (fs := nF (rgI 0 nb.length) nb) (as := []) (rgI 0 nb.length, nb) (ev_var rfl) rfl ea_nil rfl (by dsimp only; rw [rgI_len]; omega) rfl)) hd.symm) (ea_val (EV.is (EVF.ev (evf_rg1 (ev_len (l := nb.map rowA) (evl_var rfl)) (by rw [List.length_map]; omega))) (by rw [List.length_map]; exact hd.symm)) ea_nil)) (fit_ints (by rw [rgI_len]; omega)) rfl))) (fun h => ?_) (fun h => ?_))
  · cases h
  refine es_next ?_
  walk_at "nx"
  have hlen : (((nb.map rowA).length : Nat) : Int) = (nb.length : Nat) := by rw [List.length_map]
  refine es_ret (ev_all (bs := (List.range nb.length).map fun _ => true) (EVF.evl (EVF.is (evf_lcR (lo := 0) (n := nb.length) (fun B G0 σ G H k R z => w_range1 (ev_len (l := nb.map rowA) (evl_var rfl)) (by omega) (by omega) B G0 σ G H k R (by rw [hlen, Int.toNat_natCast]; exact z)) (fun _ => true) (fun _ => nB true) (by omega) (fun j hj => et_yes) (fun j hj _ => ?_)) (by rw [accL_all, List.map_map]; rfl)))) ?_
  · rw [Int.zero_add]
    refine ev_call (.list ((nb.getD j []).map PyData.int)) (ea_val (EV.is (EVF.ev (evf_meth (C := c.Network) (fs := nF (rgI 0 nb.length) nb) (as := [.val (nI (j : Nat))]) ((rgI 0 nb.length, nb), j) (ev_var rfl) rfl (ea_val (ev_var rfl) ea_nil) rfl hj rfl)) (hdr _).symm) (ea_val (EV.is (ev_ixL (i := j) (r := rowA (nb.getD j [])) (l := nb.map rowA) (evl_var rfl) (ev_var rfl) rfl ?_) (hdr _).symm) ea_nil)) (fit_ints (Nat.le_trans (rows_of hr j hj) (by decide))) rfl
    rw [List.getElem?_map, List.getD_eq_getElem?_getD, List.getElem?_eq_getElem hj]; rfl
  · have : ((List.range nb.length).map fun _ => true).all id = true := by simp
    rw [this]; rfl
end

section
variable {P : Program} {w : World} {K : PySem.W.Frag} {mg : Str → Option Value} {base : Heap}

abbrev s__law_grid : Stmt := topS 22
abbrev n__law_grid : List Str := ["rows", "columns", "lists", "k", "around"]
theorem sc__law_grid : FnScope n__law_grid ["rows", "columns"] (defScope s__law_grid) := ⟨rfl, rfl, rfl, by decide +kernel, rfl, by decide +kernel, by decide +kernel⟩

abbrev sp__law_grid (K : PySem.W.Frag) : Sp := spX K (X := Int × Int) (fun x => [.val (nI x.1), .val (nI x.2)]) (fun x => 1 ≤ x.1 ∧ x.1 ≤ 6 ∧ 1 ≤ x.2 ∧ x.2 ≤ 6) (fun x => .own ((gridNb x.1 x.2).map rowA))

theorem ok__law_grid {c : Cs} (T : Tx K mg c) (M : Bl mg)  (d : DefAt K mg "_law_grid" s__law_grid ["rows", "columns"]) : Cal P w K mg base 1 "_law_grid" (sp__law_grid K) := by
  refine calA d sc__law_grid (fun _ => rfl) fun f cdv A outer s H E hr => ⟨_, (pss_cons (ps_set (i := 2) sc__law_grid.nd rfl (Or.inl rfl) (pe_lst pa_nil))
      (pss_cons (ps_for PassesOwn.never rfl (pi_range1 (by rfl) M.range (pa_cons (pe_op op_mul (pv 0) (pv 1)) pa_nil)) (pg_name (i := 3) sc__law_grid.nd rfl (Or.inl rfl)) (pss_cons (ps_set (i := 4) sc__law_grid.nd rfl (Or.inl rfl) (pe_lst pa_nil))
      (pss_cons (ps_if (pt_cmpR op_ge (pv 3) (pv 1) (nomark _)) (pss_one (ps_expr (pe_bm PySem.F.plainAttrs_list PySem.F.slot_list_append PySem.F.type_list_append mt_append (pv 4) (pa_cons (pe_op op_sub (pv 3) (pv 1)) pa_nil)))) pss_nil)
      (pss_cons (ps_if (pt_cmpR op_gt (pe_op op_mod (pv 3) (pv 1)) pe_int (nomark _)) (pss_one (ps_expr (pe_bm PySem.F.plainAttrs_list PySem.F.slot_list_append PySem.F.type_list_append mt_append (pv 4) (pa_cons (pe_op op_sub (pv 3) pe_int) pa_nil)))) pss_nil)
      (pss_cons (ps_if (pt_cmpR op_lt (pe_op op_mod (pv 3) (pv 1)) (pe_op op_sub (pv 1) pe_int) (nomark _)) (pss_one (ps_expr (pe_bm PySem.F.plainAttrs_list PySem.F.slot_list_append PySem.F.type_list_append mt_append (pv 4) (pa_cons (pe_op op_add (pv 3) pe_int) pa_nil)))) pss_nil)
      (pss_cons (ps_if (pt_cmpR op_lt (pe_op op_fdiv (pv 3) (pv 1)) (pe_op op_sub (pv 0) pe_int) (nomark _)) (pss_one (ps_expr (pe_bm PySem.F.plainAttrs_list PySem.F.slot_list_append PySem.F.type_list_append mt_append (pv 4) (pa_cons (pe_op op_add (pv 3) (pv 1)) pa_nil)))) pss_nil)
      (pss_one (ps_expr (pe_bm PySem.F.plainAttrs_list PySem.F.slot_list_append PySem.F.type_list_append mt_append (pv 2) (pa_cons (pv 4) pa_nil))))))))))
      (pss_one (ps_ret (pv 2))))), ?_⟩
  try dsimp only [cxOf, Cx.nox, Cx.wish, Cx.blk]

  rintro ⟨rows, cols⟩ ⟨h1, h2, h3, h4⟩
  dsimp only at h1 h2 h3 h4
  show ES K [.val (nI rows), .val (nI cols), .un, .un, .un] _ _
  have hnn : rows * cols ≤ 6 * 6 := Int.mul_le_mul h2 h4 (by omega) (by omega)
  have hn0 : 0 ≤ rows * cols := Int.mul_nonneg (by omega) (by omega)
  have hc0 : (0 : Int) < cols := by omega
  have hd0 : CDiv (0 : Int) cols := ⟨by omega, by omega⟩
  have hcm : CMul rows cols := .inl ⟨by omega, by omega⟩
  walk_at "set"
  refine es_seq (es_forR (lo := 0) (n := (rows * cols).toNat) (fun i E => ∃ s3 s4, E = [.val (nI rows), .val (nI cols), .own ((List.range i).map fun (k : Nat) => rowA (lawRow rows cols k)), s3, s4]) (w_range1 (by walk_at "ev") (by omega) (by omega)) ⟨_, _, rfl⟩ ?_ ?_)
  · rintro i _ hi ⟨s3, s4, rfl⟩
    refine ⟨_, gt_name, ?_⟩
    rw [Int.zero_add]
    walk_at "nx"
    have hdv : CDiv (i : Int) cols := ⟨by omega, by omega⟩
    walk_at "set"
    refine es_seq (es_appIf (i := 4) (by walk_at "et") rfl (by walk_at "ev") (by walk_at "lens") ?_)
    walk_at "nx"
    refine es_seq (es_appIf (i := 4) (by walk_at "et") rfl (by walk_at "ev") (by walk_at "lens") ?_)
    walk_at "nx"
    refine es_seq (es_appIf (i := 4) (by walk_at "et") rfl (by walk_at "ev") (by walk_at "lens") ?_)
    walk_at "nx"
    refine es_seq (es_appIf (i := 4) (by walk_at "et") rfl (by walk_at "ev") (by walk_at "lens") ?_)
    walk_at "nx"
    have eL : ((([] ++ (if decide ((i : Int) ≥ cols) = true then [nI ((i : Int) - cols)] else [])) ++ (if decide ((i : Int) % cols > 0) = true then [nI ((i : Int) - 1)] else [])) ++ (if decide ((i : Int) % cols < cols - 1) = true then [nI ((i : Int) + 1)] else [])) ++ (if decide ((i : Int) / cols < rows - 1) = true then [nI ((i : Int) + cols)] else []) = (lawRow rows cols (i : Nat)).map nI := by
      unfold lawRow
      simp only [List.map_append, ite_map, List.map_nil]
    change ES K [.val (nI rows), .val (nI cols), .own ((List.range i).map fun (k : Nat) => rowA (lawRow rows cols k)), .val (nI (i : Nat)), .own (((([] ++ (if decide ((i : Int) ≥ cols) = true then [nI ((i : Int) - cols)] else [])) ++ (if decide ((i : Int) % cols > 0) = true then [nI ((i : Int) - 1)] else [])) ++ (if decide ((i : Int) % cols < cols - 1) = true then [nI ((i : Int) + 1)] else [])) ++ (if decide ((i : Int) / cols < rows - 1) = true then [nI ((i : Int) + cols)] else []))] _ _
    rw [eL]
    refine es_freeze (i := 4) rfl ?_
    walk_at "nx"
    refine es_app rfl (ev_var rfl) (by rw [List.length_map, List.length_range]; omega) ⟨.val (nI (i : Nat)), .val (rowA (lawRow rows cols (i : Nat))), ?_⟩
    rw [List.range_succ, List.map_append]; rfl
  · rintro _ ⟨s3, s4, rfl⟩
    show ES _ _ _ _
    have e : (List.range (rows * cols).toNat).map (fun (k : Nat) => rowA (lawRow rows cols k)) = (gridNb rows cols).map rowA := by
      have := (grid_due rows.toNat (by omega) cols.toNat (by omega) (by omega) (by omega)).1
      rw [Int.toNat_of_nonneg (by omega), Int.toNat_of_nonneg (by omega)] at this
      rw [← this, List.map_map]
      have e2 : (rows * cols).toNat = rows.toNat * cols.toNat := by
        have : ((rows.toNat * cols.toNat : Nat) : Int) = rows * cols := by
          rw [Int.natCast_mul, Int.toNat_of_nonneg (by omega), Int.toNat_of_nonneg (by omega)]
        omega
      rw [e2]; rfl
    rw [e]
    exact es_retO rfl rfl
end

section
variable {P : Program} {w : World} {K : PySem.W.Frag} {mg : Str → Option Value} {base : Heap}

abbrev s_law : Stmt := topS 23
abbrev n_law : List Str := ["script", "draws", "count", "due", "rows", "columns", "few", "k", "other"]
theorem sc_law : FnScope n_law ["script"] (defScope s_law) := ⟨rfl, rfl, rfl, by decide +kernel, rfl, by decide +kernel, by decide +kernel⟩

abbrev sp_law (K : PySem.W.Frag) : Sp := spX K (X := List Int) (fun ns => [.scr ns]) (fun _ => True) (fun _ => .val (nB true))

theorem ok_law {f : Addr} {fd : FuncData} (F : Fun K "law" "law" s_law f fd) {c : Cs} (T : Tx K mg c) (M : Bl mg) (c_law_refused : Cal P w K mg base 7 "_law_refused" (sp__law_refused K)) (c_law_is : Cal P w K mg base 6 "_law_is" (sp__law_is K c)) (c_law_grid : Cal P w K mg base 1 "_law_grid" (sp__law_grid K)) (cgrid : CalX P w K mg base 5 "grid" (sp_grid K c)) (cstar : CalX P w K mg base 5 "star" (sp_star K c)) (cring : CalX P w K mg base 5 "ring" (sp_ring K c)) (cpath : CalX P w K mg base 6 "path" (sp_path K c)) (c_law_draws : Cal P w K mg base 1 "_law_draws" (sp__law_draws K)) (c_law_cell : Cal P w K mg base 1 "_law_cell" (sp__law_cell K)) : FnOk P w K mg base CX0 8 f fd ["script"] (sp_law K) := by
  refine okA F sc_law (fun _ => rfl) fun cdv A outer s H E hr => ⟨_, (pss_cons (ps_set (i := 1) sc_law.nd rfl (Or.inl rfl) (pe_ca c_law_draws hr (by decide) (by rfl) (pa_cons (pe_ca c_law_cell hr (by decide) (by rfl) (pa_cons (pv 0) (pa_cons pe_int pa_nil))) (pa_cons pe_int pa_nil))))
      (pss_cons (ps_set (i := 2) sc_law.nd rfl (Or.inr rfl) (pe_op op_add pe_int (pe_op op_mod (pe_ix (ix_listK K) (pv 1) pe_int (fun _ _ => rfl)) pe_int)))
      (pss_cons (ps_setLc (i := 3) (own := [("k", 7)]) rfl sc_law.nd rfl rfl (sw_true rfl rfl rfl (by decide +kernel)) (pi_range1 (by rfl) M.range (pa_cons (pv 2) pa_nil)) (blkOk_by (own := [("k", 7)]) (N := n_law) (sc := defScope s_law) (by decide +kernel)) (fun _ _ _ _ _ => (pg_name (i := 7) sc_law.nd rfl (Or.inl rfl))) (fun _ _ _ _ _ => pts_nil) (fun _ _ _ _ _ => (pe_lc (own := [("other", 8)]) rfl sc_law.nd (pi_listK K (pe_lst (pa_cons (pe_op op_sub (pv 7) pe_int) (pa_cons (pe_op op_add (pv 7) pe_int) pa_nil)))) (by walk_at "nest") (fun _ _ _ _ _ => (pg_name (i := 8) sc_law.nd rfl (Or.inl rfl))) (fun _ _ _ _ _ => (pts_one (pt_chain op_le op_lt pe_int (pv 8) (pv 2)))) (fun _ _ _ _ _ => (pv 8)))))
      (pss_cons (ps_if (pt_not (pt_val (pe_ca c_law_is hr (by decide) (by rfl) (pa_cons (pe_cx cpath hr (by decide) (by rfl) passL (pa_cons (pv 2) pa_nil)) (pa_cons (pv 3) pa_nil))))) (pss_one (ps_ret pe_bl)) pss_nil)
      (pss_cons (ps_if (pt_cmpR op_gt (pv 2) pe_int (nomark _)) (pss_cons (ps_setLc (i := 3) (own := [("k", 7)]) rfl sc_law.nd rfl rfl (sw_true rfl rfl rfl (by decide +kernel)) (pi_range1 (by rfl) M.range (pa_cons (pv 2) pa_nil)) (blkOk_by (own := [("k", 7)]) (N := n_law) (sc := defScope s_law) (by decide +kernel)) (fun _ _ _ _ _ => (pg_name (i := 7) sc_law.nd rfl (Or.inl rfl))) (fun _ _ _ _ _ => pts_nil) (fun _ _ _ _ _ => (pe_ix (ix_listK K) (pe_lst (pa_cons (pe_lst (pa_cons (pe_op op_sub (pv 2) pe_int) (pa_cons pe_int pa_nil))) (pa_cons (pe_lst (pa_cons (pe_op op_sub (pv 7) pe_int) (pa_cons (pe_op op_add (pv 7) pe_int) pa_nil))) (pa_cons (pe_lst (pa_cons (pe_op op_sub (pv 7) pe_int) (pa_cons pe_int pa_nil))) pa_nil)))) (pe_op op_add (pe_callTy call_int1 (by rfl) M.int bt_int (pa_cons (pe_cmpR op_gt (pv 7) pe_int (nomark _)) pa_nil)) (pe_callTy call_int1 (by rfl) M.int bt_int (pa_cons (pe_cmpR op_eq (pv 7) (pe_op op_sub (pv 2) pe_int) (nomark _)) pa_nil))) (fun _ _ => rfl))))
      (pss_one (ps_if (pt_not (pt_val (pe_ca c_law_is hr (by decide) (by rfl) (pa_cons (pe_cx cring hr (by decide) (by rfl) passL (pa_cons (pv 2) pa_nil)) (pa_cons (pv 3) pa_nil))))) (pss_one (ps_ret pe_bl)) pss_nil))) pss_nil)
      (pss_cons (ps_if (pt_not (pt_val (pe_ca c_law_is hr (by decide) (by rfl) (pa_cons (pe_cx cstar hr (by decide) (by rfl) passL (pa_cons (pv 2) pa_nil)) (pa_cons (pe_op op_cat (pe_lst (pa_cons (pe_listRg rfl (by rfl) M.list (prg_2 (by rfl) M.range pe_int (pv 2))) pa_nil)) (pe_lc (own := [("k", 7)]) rfl sc_law.nd (pi_range1 (by rfl) M.range (pa_cons (pe_op op_sub (pv 2) pe_int) pa_nil)) (blkOk_by (own := [("k", 7)]) (N := n_law) (sc := defScope s_law) (by decide +kernel)) (fun _ _ _ _ _ => (pg_name (i := 7) sc_law.nd rfl (Or.inl rfl))) (fun _ _ _ _ _ => pts_nil) (fun _ _ _ _ _ => (pe_lst (pa_cons pe_int pa_nil))))) pa_nil))))) (pss_one (ps_ret pe_bl)) pss_nil)
      (pss_cons (ps_set (i := 4) sc_law.nd rfl (Or.inl rfl) (pe_op op_add pe_int (pe_op op_mod (pe_ix (ix_listK K) (pv 1) pe_int (fun _ _ => rfl)) pe_int)))
      (pss_cons (ps_set (i := 5) sc_law.nd rfl (Or.inl rfl) (pe_op op_add pe_int (pe_op op_mod (pe_ix (ix_listK K) (pv 1) pe_int (fun _ _ => rfl)) pe_int)))
      (pss_cons (ps_if (pt_not (pt_val (pe_ca c_law_is hr (by decide) (by rfl) (pa_cons (pe_cx cgrid hr (by decide) (by rfl) passL (pa_cons (pv 4) (pa_cons (pv 5) pa_nil))) (pa_cons (pe_ca c_law_grid hr (by decide) (by rfl) (pa_cons (pv 4) (pa_cons (pv 5) pa_nil))) pa_nil))))) (pss_one (ps_ret pe_bl)) pss_nil)
      (pss_cons (ps_set (i := 6) sc_law.nd rfl (Or.inl rfl) (pe_op op_sub pe_int (pe_op op_mod (pe_ix (ix_listK K) (pv 1) pe_int (fun _ _ => rfl)) pe_int)))
      (pss_one (ps_ret (pe_and (pe_ca c_law_refused hr (by decide) (by rfl) (pa_cons pe_int (pa_cons (pv 6) (pa_cons pe_int pa_nil)))) (pe_and (pe_ca c_law_refused hr (by decide) (by rfl) (pa_cons pe_int (pa_cons (pe_op op_sub pe_int (pe_op op_mod (pe_ix (ix_listK K) (pv 1) pe_int (fun _ _ => rfl)) pe_int)) (pa_cons pe_int pa_nil)))) (pe_and (pe_ca c_law_refused hr (by decide) (by rfl) (pa_cons pe_int (pa_cons (pv 6) (pa_cons pe_int pa_nil)))) (pe_and (pe_ca c_law_refused hr (by decide) (by rfl) (pa_cons pe_int (pa_cons (pv 6) (pa_cons pe_int pa_nil)))) (pe_one (pe_ca c_law_refused hr (by decide) (by rfl) (pa_cons pe_int (pa_cons pe_int (pa_cons (pv 6) pa_nil))))))))))))))))))))), ?_⟩
  try dsimp only [cxOf, Cx.nox, Cx.wish, Cx.blk]

  intro ns _
  show ES K [.scr ns, .un, .un, .un, .un, .un, .un, .un, .un] _ _
  refine es_seq (es_asgF (evf_call (ns.getD (0 : Int).toNat 0, 5) (ea_val (ev_call (ns, 0) (by walk_at "ea") (by show (0 : Int) ≤ 0; omega) rfl) (ea_val ev_int ea_nil)) (show 5 ≤ 1000 by decide) rfl) ?_)
  walk_at "nx"
  have hD : ∀ k : Nat, k < 5 → ∃ x, ((drawsF (ns.getD (0 : Int).toNat 0) 5).map nI)[k]? = some (nI x) ∧ 0 ≤ x ∧ x < 4096 := fun k hk => by
    obtain ⟨x, h, b⟩ := drawsF_at (ns.getD (0 : Int).toNat 0) hk
    exact ⟨x, by rw [List.getElem?_map, h]; rfl, b⟩
  generalize (drawsF (ns.getD (0 : Int).toNat 0) 5).map nI = dl at hD
  obtain ⟨x0, hx0, a0, b0⟩ := hD 0 (by decide)
  obtain ⟨x1, hx1, a1, b1⟩ := hD 1 (by decide)
  obtain ⟨x2, hx2, a2, b2⟩ := hD 2 (by decide)
  obtain ⟨x3, hx3, a3, b3⟩ := hD 3 (by decide)
  refine es_seq (es_asg (ev_I0 ev_int (ev_I (ev_ixL (i := 0) (evl_own rfl) ev_int rfl hx0) ev_int (by decide))) ?_)
  walk_at "nx"
  have d1 : (1 : Int) ≤ 1 + x0 % 40 := by omega
  have d2 : 1 + x0 % 40 ≤ 40 := by omega
  generalize 1 + x0 % 40 = n at d1 d2
  have hn : ((n.toNat : Nat) : Int) = n := Int.toNat_of_nonneg (by omega)
  obtain ⟨p1, p2⟩ := path_due n.toNat (by omega) (by omega)
  rw [hn] at p1 p2
  have hdue : (pathDue n).map rowA = (List.range n.toNat).map fun (k : Nat) => lsA (([(k : Int) - 1, (k : Int) + 1].filter fun o => decide (0 ≤ o) && decide (o < n)).map nI) := by
    unfold pathDue
    rw [List.map_map]; rfl
  refine es_seq (es_asgF (l := (gridNb 1 n).map rowA) (EVF.is (evf_lcR (lo := 0) (n := n.toNat) (w_range1 (ev_var rfl) (by omega) (by omega)) (fun _ => true) (fun k => lsA (([(k : Int) - 1, (k : Int) + 1].filter fun o => decide (0 ≤ o) && decide (o < n)).map nI)) (by omega) (fun _ _ => et_yes) (fun k hk _ => ?_)) (by rw [accL_all, ← hdue, p1])) ?_)
  · rw [Int.zero_add]
    walk_at "nx"
    have hf := accL_filter (ps := [(k : Int) - 1, (k : Int) + 1]) 0 (fun o => decide (0 ≤ o) && decide (o < n)) nI
    have hg : ∀ {j : Nat} {r : AbsV}, [nI ((k : Int) - 1), nI ((k : Int) + 1)][j]? = some r → r = nI ([(k : Int) - 1, (k : Int) + 1].getD j 0) := fun {j r} h => by
      match j, h with
      | 0, h => exact (Option.some.inj h).symm
      | 1, h => exact (Option.some.inj h).symm
    refine EVF.ev (EVF.is (evf_lcL (l := [nI ((k : Int) - 1), nI ((k : Int) + 1)]) (EVF.evs (evf_lst (by walk_at "eav") (by simp))) (fun j => decide (0 ≤ [(k : Int) - 1, (k : Int) + 1].getD j 0) && decide ([(k : Int) - 1, (k : Int) + 1].getD j 0 < n)) (fun j => nI ([(k : Int) - 1, (k : Int) + 1].getD j 0)) (by simp) (fun j r hr => ?_) (fun j r hr _ => ?_)) hf)
    · rw [hg hr]
      walk_at "nx"
      exact et_test (by walk_at "ev")
    · rw [hg hr]
      walk_at "nx"
      exact ev_var rfl
  walk_at "nx"
  have isT : ∀ {nb : List (List Int)} {P : Prop}, ¬ ((!true) = true) := by simp
  have hpl : (gridNb 1 n).length ≤ 900 := by
    unfold gridNb; rw [gnb_len]
    have : (1 : Int).toNat * n.toNat = n.toNat := Nat.one_mul _
    omega
  have hgr : ∀ (a b : Int), ∀ r ∈ gridNb a b, r.length ≤ 900 := fun a b => gnb_all _ _ _ (fun x y => by
    unfold gRow
    rw [List.length_map]
    exact Nat.le_trans (List.length_filter_le _ _) (by simp)) _
  have ep : (if (1 : Int) < 1 ∨ n < 1 then (.inr c.InvalidNetwork : Out) else stdOut c (gridNb 1 n)) = .inl (.val (inA c.Network (nF (rgI 0 (gridNb 1 n).length) (gridNb 1 n)))) := by
    rw [if_neg (by omega), stdOut_ok p2]
  refine es_freeze (i := 3) rfl ?_
  walk_at "nx"
  refine es_seq (es_if (et_not (et_B (ev_call (gridNb 1 n) (ea_val (EX.ev (ex_call n (by walk_at "ea") d2) ep) (ea_val (ev_var rfl) ea_nil)) ⟨hpl, hgr _ _⟩ rfl))) (fun h => ?_) (fun h => ?_))
  · cases h
  refine es_next ?_
  walk_at "nx"
  refine es_seqJ (fun E' => ∃ s3, E' = [.scr ns, .own dl, .val (nI n), s3, .un, .un, .un, .un, .un]) (es_if (by walk_at "et") (fun h2 => ?_) (fun h2 => es_next ⟨_, rfl⟩)) ?_
  · have h3 : 2 < n := by simpa using h2
    obtain ⟨q1, q2⟩ := ring_due n.toNat (by omega) (by omega)
    rw [hn] at q1 q2
    have hring : (ringDue n).map rowA = (List.range n.toNat).map fun (k : Nat) => rowA ([[n - 1, 1], [(k : Int) - 1, (k : Int) + 1], [(k : Int) - 1, 0]].getD ((decide ((k : Int) > 0)).toNat + (decide ((k : Int) = n - 1)).toNat) []) := by
      unfold ringDue
      rw [List.map_map]; rfl
    refine es_seq (es_asgF (l := (ringNb n).map rowA) (EVF.is (evf_lcR (lo := 0) (n := n.toNat) (w_range1 (ev_var rfl) (by omega) (by omega)) (fun _ => true) (fun k => rowA ([[n - 1, 1], [(k : Int) - 1, (k : Int) + 1], [(k : Int) - 1, 0]].getD ((decide ((k : Int) > 0)).toNat + (decide ((k : Int) = n - 1)).toNat) [])) (by omega) (fun _ _ => et_yes) (fun k hk _ => ?_)) (by rw [accL_all, ← hring, q1])) ?_)
    · rw [Int.zero_add]
      walk_at "nx"
      refine ev_ixL (l := [rowA [n - 1, 1], rowA [(k : Int) - 1, (k : Int) + 1], rowA [(k : Int) - 1, 0]]) (i := (decide ((k : Int) > 0)).toNat + (decide ((k : Int) = n - 1)).toNat) (EVF.evl (evf_lst (eav_cons (EVF.ev (evf_lst (l := [nI (n - 1), nI 1]) (by walk_at "eav") (by simp))) (eav_cons (EVF.ev (evf_lst (l := [nI ((k : Int) - 1), nI ((k : Int) + 1)]) (by walk_at "eav") (by simp))) (eav_cons (EVF.ev (evf_lst (l := [nI ((k : Int) - 1), nI 0]) (by walk_at "eav") (by simp))) eav_nil))) (by simp))) (by walk_at "ev") ?_ ?_
      · show (if decide ((k : Int) > 0) = true then (1 : Int) else 0) + (if decide ((k : Int) = n - 1) = true then (1 : Int) else 0) = _
        cases decide ((k : Int) > 0) <;> cases decide ((k : Int) = n - 1) <;> rfl
      · cases decide ((k : Int) > 0) <;> cases decide ((k : Int) = n - 1) <;> rfl
    walk_at "nx"
    have er : (if n < 3 then (.inr c.InvalidNetwork : Out) else stdOut c (ringNb n)) = .inl (.val (inA c.Network (nF (rgI 0 (ringNb n).length) (ringNb n)))) := by
      rw [if_neg (by omega), stdOut_ok q2]
    refine es_freeze (i := 3) rfl ?_
    walk_at "nx"
    refine es_if (et_not (et_B (ev_call (ringNb n) (ea_val (EX.ev (ex_call n (by walk_at "ea") d2) er) (ea_val (ev_var rfl) ea_nil)) ⟨by unfold ringNb; rw [List.length_map, List.length_range]; omega, fun r hr => ?_⟩ rfl))) (fun h => ?_) (fun h => es_next ⟨_, rfl⟩)
    · unfold ringNb at hr
      obtain ⟨k, _, rfl⟩ := List.mem_map.mp hr
      simp
    · cases h
  rintro _ ⟨s3, rfl⟩
  have hstar := star_due n.toNat (by omega) (by omega)
  rw [hn] at hstar
  have es : (if n < 1 then (.inr c.InvalidNetwork : Out) else stdOut c (starNb n)) = .inl (.val (inA c.Network (nF (rgI 0 (starNb n).length) (starNb n)))) := by
    rw [if_neg (by omega), stdOut_ok hstar]
  have hw : (starNb n).map rowA = [rowA (rgI 1 n)] ++ accL (fun _ => true) (fun _ => rowA [0]) (n - 1).toNat := by
    rw [accL_all]; unfold starNb; rw [List.map_cons, List.map_map]; rfl
  refine es_seq (es_if (et_not (et_B (ev_call (starNb n) (ea_val (EX.ev (ex_call n (by walk_at "ea") d2) es) (ea_val (EVF.ev (EVF.is (evf_cat (l := [rowA (rgI 1 n)]) (m := accL (fun _ => true) (fun _ => rowA [0]) (n - 1).toNat) (EVF.evl (evf_lst (eav_cons (EVF.ev (evf_rg2 ev_int (ev_var rfl) (by omega) (by omega))) eav_nil) (by simp))) (EVF.evl (evf_lcR (lo := 0) (n := (n - 1).toNat) (w_range1 (by walk_at "ev") (by omega) (by omega)) (fun _ => true) (fun _ => rowA [0]) (by omega) (fun _ _ => et_yes) (fun k hk _ => (evf_lst (l := [nI 0]) (eav_cons ev_int eav_nil) (by simp)).ev))) (by have := accL_len (fun _ => true) (fun _ => rowA [0]) (n - 1).toNat; rw [List.length_singleton]; omega)) hw.symm)) ea_nil)) ⟨by unfold starNb; rw [List.length_cons, List.length_map, List.length_range]; omega, fun r hr => ?_⟩ rfl))) (fun h => ?_) (fun h => ?_))
  · unfold starNb at hr
    rcases List.mem_cons.mp hr with e | e
    · rw [e, rgI_len]; omega
    · obtain ⟨k, _, rfl⟩ := List.mem_map.mp e
      simp
  · cases h
  refine es_next ?_
  walk_at "nx"
  refine es_seq (es_asg (ev_I0 ev_int (ev_I (ev_ixL (i := 1) (evl_own rfl) ev_int rfl hx1) ev_int (by decide))) ?_)
  walk_at "nx"
  have e1 : (1 : Int) ≤ 1 + x1 % 6 := by omega
  have e2 : 1 + x1 % 6 ≤ 6 := by omega
  generalize 1 + x1 % 6 = rows at e1 e2
  refine es_seq (es_asg (ev_I0 ev_int (ev_I (ev_ixL (i := 2) (evl_own rfl) ev_int rfl hx2) ev_int (by decide))) ?_)
  walk_at "nx"
  have e3 : (1 : Int) ≤ 1 + x2 % 6 := by omega
  have e4 : 1 + x2 % 6 ≤ 6 := by omega
  generalize 1 + x2 % 6 = cols at e3 e4
  have hg := (grid_due rows.toNat (by omega) cols.toNat (by omega) (by omega) (by omega)).2
  rw [Int.toNat_of_nonneg (by omega), Int.toNat_of_nonneg (by omega)] at hg
  have eg : (if rows < 1 ∨ cols < 1 then (.inr c.InvalidNetwork : Out) else stdOut c (gridNb rows cols)) = .inl (.val (inA c.Network (nF (rgI 0 (gridNb rows cols).length) (gridNb rows cols)))) := by
    rw [if_neg (by omega), stdOut_ok hg]
  have hmul : rows.toNat * cols.toNat ≤ 6 * 6 := Nat.mul_le_mul (by omega) (by omega)
  refine es_seq (es_if (et_not (et_B (ev_call (gridNb rows cols) (ea_val (EX.ev (ex_call (rows, cols) (by walk_at "ea") ⟨by dsimp only; omega, by dsimp only; omega⟩) eg) (ea_val (EVF.ev (evf_call (rows, cols) (by walk_at "ea") ⟨e1, e2, e3, e4⟩ rfl)) ea_nil)) ⟨by unfold gridNb; rw [gnb_len]; omega, hgr _ _⟩ rfl))) (fun h => ?_) (fun h => ?_))
  · cases h
  refine es_next ?_
  walk_at "nx"
  refine es_seq (es_asg (ev_I0 ev_int (ev_I (ev_ixL (i := 3) (evl_own rfl) ev_int rfl hx3) ev_int (by decide))) ?_)
  walk_at "nx"
  have f1 : 0 - x3 % 4 ≤ 0 := by omega
  generalize 0 - x3 % 4 = few at f1
  have hx3' : EV K [.scr ns, .own dl, .val (nI n), s3, .val (nI rows), .val (nI cols), .val (nI few), .un, .un] (tOp (rI0 fun i j => .int (i - j)) (tC (.int 2)) (tOp (rI (fun _ j => 0 < j) fun i j => .int (i % j)) (tOp (rIxL K) (tVar 1) (tC (.int 3))) (tC (.int 5)))) (nI (2 - x3 % 5)) := ev_I0 ev_int (ev_I (ev_ixL (i := 3) (evl_own rfl) ev_int rfl hx3) ev_int (by decide))
  refine es_ret (EV.is (ev_andV (ev_call (0, few, 0) (by walk_at "ea") (by walk_at "pre") rfl) (fun _ => ev_andV (ev_call (1, 2 - x3 % 5, 0) (ea_val ev_int (ea_val hx3' (ea_val ev_int ea_nil))) (by walk_at "pre") rfl) (fun _ => ev_andV (ev_call (2, few, 0) (by walk_at "ea") (by walk_at "pre") rfl) (fun _ => ev_andV (ev_call (3, few, 3) (by walk_at "ea") (by walk_at "pre") rfl) (fun _ => ev_call (3, 2, few) (by walk_at "ea") (by walk_at "pre") rfl))))) rfl) rfl
end

theorem all_mk {l : PySem.W.OpenLaw} {w : World} {K : PySem.W.Frag} {h : Heap} {mg : Str → Option Value} {fa f0 f1 f2 f3 f4 f5 f6 f7 f8 f9 f10 f11 f12 f13 f14 f15 f16 f17 f18 f19 C_InvalidNetwork C_Network : Addr} (X : K.In h) (G : h.Ns mainGlobals mg) (hfa : mg "law" = some (.ref fa))
    {od0 an0 od1 an1 od2 an2 od3 an3 od4 an4 od5 an5 od6 an6 od7 an7 od8 an8 od9 an9 od10 an10 od11 an11 od12 an12 od13 an13 od14 an14 od15 an15 od16 an16 od17 an17 od18 an18 od19 an19 : Option Addr} {sl0 sl1 sl2 sl3 sl4 sl5 sl6 sl7 sl8 sl9 sl10 sl11 sl12 sl13 sl14 sl15 sl16 sl17 sl18 sl19 : Array (Option Value)} {oc0 kV0 dc0 pm0 cd0 ct0 oc1 kV1 dc1 pm1 cd1 ct1 oc2 kV2 dc2 pm2 cd2 ct2 oc3 kV3 dc3 pm3 cd3 ct3 oc4 kV4 dc4 pm4 cd4 ct4 oc5 kV5 dc5 pm5 cd5 ct5 oc6 kV6 dc6 pm6 cd6 ct6 oc7 kV7 dc7 pm7 cd7 ct7 oc8 kV8 dc8 pm8 cd8 ct8 oc9 kV9 dc9 pm9 cd9 ct9 oc10 kV10 dc10 pm10 cd10 ct10 oc11 kV11 dc11 pm11 cd11 ct11 oc12 kV12 dc12 pm12 cd12 ct12 oc13 kV13 dc13 pm13 cd13 ct13 oc14 kV14 dc14 pm14 cd14 ct14 oc15 kV15 dc15 pm15 cd15 ct15 oc16 kV16 dc16 pm16 cd16 ct16 oc17 kV17 dc17 pm17 cd17 ct17 oc18 kV18 dc18 pm18 cd18 ct18 oc19 kV19 dc19 pm19 cd19 ct19 : Value}
    (g_InvalidNetwork : PySem.W.nsIn K mainGlobals "InvalidNetwork" = some (some (.ref C_InvalidNetwork)))
    (g_Network : PySem.W.nsIn K mainGlobals "Network" = some (some (.ref C_Network)))
    (a0 : PySem.W.nsIn K mainGlobals "_check_names" = some (some (.ref f0)))
    (l0 : K.lookup f0 = some ⟨oc0, od0, .func (PySem.W.fnOf "_check_names" "_check_names" (defArgs s__check_names) (defBody s__check_names) (defScope s__check_names) .none kV0 dc0 pm0 an0 cd0 ct0), sl0⟩)
    (c0 : PySem.W.codeIn K cd0 "_check_names" = true)
    (k0 : PySem.W.keepIn K (.ref f0) = true)
    (a1 : PySem.W.nsIn K mainGlobals "_check_row" = some (some (.ref f1)))
    (l1 : K.lookup f1 = some ⟨oc1, od1, .func (PySem.W.fnOf "_check_row" "_check_row" (defArgs s__check_row) (defBody s__check_row) (defScope s__check_row) .none kV1 dc1 pm1 an1 cd1 ct1), sl1⟩)
    (c1 : PySem.W.codeIn K cd1 "_check_row" = true)
    (k1 : PySem.W.keepIn K (.ref f1) = true)
    (a2 : PySem.W.nsIn K mainGlobals "_ports_by_neighbor" = some (some (.ref f2)))
    (l2 : K.lookup f2 = some ⟨oc2, od2, .func (PySem.W.fnOf "_ports_by_neighbor" "_ports_by_neighbor" (defArgs s__ports_by_neighbor) (defBody s__ports_by_neighbor) (defScope s__ports_by_neighbor) .none kV2 dc2 pm2 an2 cd2 ct2), sl2⟩)
    (c2 : PySem.W.codeIn K cd2 "_ports_by_neighbor" = true)
    (k2 : PySem.W.keepIn K (.ref f2) = true)
    (a3 : PySem.W.findIn K (.ref C_Network) "names" = some (some (.ref f3)))
    (i3 : PySem.W.isFn K (.ref f3) = true)
    (l3 : K.lookup f3 = some ⟨oc3, od3, .func (PySem.W.fnOf "names" "Network.names" (defArgs s_Network_names) (defBody s_Network_names) (defScope s_Network_names) .none kV3 dc3 pm3 an3 cd3 ct3), sl3⟩)
    (c3 : PySem.W.codeIn K cd3 "Network.names" = true)
    (k3 : PySem.W.keepIn K (.ref f3) = true)
    (a4 : PySem.W.findIn K (.ref C_Network) "neighbors" = some (some (.ref f4)))
    (i4 : PySem.W.isFn K (.ref f4) = true)
    (l4 : K.lookup f4 = some ⟨oc4, od4, .func (PySem.W.fnOf "neighbors" "Network.neighbors" (defArgs s_Network_neighbors) (defBody s_Network_neighbors) (defScope s_Network_neighbors) .none kV4 dc4 pm4 an4 cd4 ct4), sl4⟩)
    (c4 : PySem.W.codeIn K cd4 "Network.neighbors" = true)
    (k4 : PySem.W.keepIn K (.ref f4) = true)
    (a5 : PySem.W.findIn K (.ref C_Network) "_check_returns" = some (some (.ref f5)))
    (i5 : PySem.W.isFn K (.ref f5) = true)
    (l5 : K.lookup f5 = some ⟨oc5, od5, .func (PySem.W.fnOf "_check_returns" "Network._check_returns" (defArgs s_Network__check_returns) (defBody s_Network__check_returns) (defScope s_Network__check_returns) .none kV5 dc5 pm5 an5 cd5 ct5), sl5⟩)
    (c5 : PySem.W.codeIn K cd5 "Network._check_returns" = true)
    (k5 : PySem.W.keepIn K (.ref f5) = true)
    (a6 : PySem.W.findIn K (.ref C_Network) "__init__" = some (some (.ref f6)))
    (i6 : PySem.W.isFn K (.ref f6) = true)
    (l6 : K.lookup f6 = some ⟨oc6, od6, .func (PySem.W.fnOf "__init__" "Network.__init__" (defArgs s_Network___init__) (defBody s_Network___init__) (defScope s_Network___init__) .none kV6 dc6 pm6 an6 cd6 ct6), sl6⟩)
    (c6 : PySem.W.codeIn K cd6 "Network.__init__" = true)
    (k6 : PySem.W.keepIn K (.ref f6) = true)
    (a7 : PySem.W.nsIn K mainGlobals "_standard" = some (some (.ref f7)))
    (l7 : K.lookup f7 = some ⟨oc7, od7, .func (PySem.W.fnOf "_standard" "_standard" (defArgs s__standard) (defBody s__standard) (defScope s__standard) .none kV7 dc7 pm7 an7 cd7 ct7), sl7⟩)
    (c7 : PySem.W.codeIn K cd7 "_standard" = true)
    (k7 : PySem.W.keepIn K (.ref f7) = true)
    (a8 : PySem.W.nsIn K mainGlobals "_grid_row" = some (some (.ref f8)))
    (l8 : K.lookup f8 = some ⟨oc8, od8, .func (PySem.W.fnOf "_grid_row" "_grid_row" (defArgs s__grid_row) (defBody s__grid_row) (defScope s__grid_row) .none kV8 dc8 pm8 an8 cd8 ct8), sl8⟩)
    (c8 : PySem.W.codeIn K cd8 "_grid_row" = true)
    (k8 : PySem.W.keepIn K (.ref f8) = true)
    (a9 : PySem.W.nsIn K mainGlobals "grid" = some (some (.ref f9)))
    (l9 : K.lookup f9 = some ⟨oc9, od9, .func (PySem.W.fnOf "grid" "grid" (defArgs s_grid) (defBody s_grid) (defScope s_grid) .none kV9 dc9 pm9 an9 cd9 ct9), sl9⟩)
    (c9 : PySem.W.codeIn K cd9 "grid" = true)
    (k9 : PySem.W.keepIn K (.ref f9) = true)
    (a10 : PySem.W.nsIn K mainGlobals "path" = some (some (.ref f10)))
    (l10 : K.lookup f10 = some ⟨oc10, od10, .func (PySem.W.fnOf "path" "path" (defArgs s_path) (defBody s_path) (defScope s_path) .none kV10 dc10 pm10 an10 cd10 ct10), sl10⟩)
    (c10 : PySem.W.codeIn K cd10 "path" = true)
    (k10 : PySem.W.keepIn K (.ref f10) = true)
    (a11 : PySem.W.nsIn K mainGlobals "ring" = some (some (.ref f11)))
    (l11 : K.lookup f11 = some ⟨oc11, od11, .func (PySem.W.fnOf "ring" "ring" (defArgs s_ring) (defBody s_ring) (defScope s_ring) .none kV11 dc11 pm11 an11 cd11 ct11), sl11⟩)
    (c11 : PySem.W.codeIn K cd11 "ring" = true)
    (k11 : PySem.W.keepIn K (.ref f11) = true)
    (a12 : PySem.W.nsIn K mainGlobals "star" = some (some (.ref f12)))
    (l12 : K.lookup f12 = some ⟨oc12, od12, .func (PySem.W.fnOf "star" "star" (defArgs s_star) (defBody s_star) (defScope s_star) .none kV12 dc12 pm12 an12 cd12 ct12), sl12⟩)
    (c12 : PySem.W.codeIn K cd12 "star" = true)
    (k12 : PySem.W.keepIn K (.ref f12) = true)
    (a13 : PySem.W.nsIn K mainGlobals "_law_cell" = some (some (.ref f13)))
    (l13 : K.lookup f13 = some ⟨oc13, od13, .func (PySem.W.fnOf "_law_cell" "_law_cell" (defArgs s__law_cell) (defBody s__law_cell) (defScope s__law_cell) .none kV13 dc13 pm13 an13 cd13 ct13), sl13⟩)
    (c13 : PySem.W.codeIn K cd13 "_law_cell" = true)
    (k13 : PySem.W.keepIn K (.ref f13) = true)
    (a14 : PySem.W.nsIn K mainGlobals "_law_draws" = some (some (.ref f14)))
    (l14 : K.lookup f14 = some ⟨oc14, od14, .func (PySem.W.fnOf "_law_draws" "_law_draws" (defArgs s__law_draws) (defBody s__law_draws) (defScope s__law_draws) .none kV14 dc14 pm14 an14 cd14 ct14), sl14⟩)
    (c14 : PySem.W.codeIn K cd14 "_law_draws" = true)
    (k14 : PySem.W.keepIn K (.ref f14) = true)
    (a15 : PySem.W.nsIn K mainGlobals "_law_like" = some (some (.ref f15)))
    (l15 : K.lookup f15 = some ⟨oc15, od15, .func (PySem.W.fnOf "_law_like" "_law_like" (defArgs s__law_like) (defBody s__law_like) (defScope s__law_like) .none kV15 dc15 pm15 an15 cd15 ct15), sl15⟩)
    (c15 : PySem.W.codeIn K cd15 "_law_like" = true)
    (k15 : PySem.W.keepIn K (.ref f15) = true)
    (a16 : PySem.W.nsIn K mainGlobals "_law_refused" = some (some (.ref f16)))
    (l16 : K.lookup f16 = some ⟨oc16, od16, .func (PySem.W.fnOf "_law_refused" "_law_refused" (defArgs s__law_refused) (defBody s__law_refused) (defScope s__law_refused) .none kV16 dc16 pm16 an16 cd16 ct16), sl16⟩)
    (c16 : PySem.W.codeIn K cd16 "_law_refused" = true)
    (k16 : PySem.W.keepIn K (.ref f16) = true)
    (a17 : PySem.W.nsIn K mainGlobals "_law_is" = some (some (.ref f17)))
    (l17 : K.lookup f17 = some ⟨oc17, od17, .func (PySem.W.fnOf "_law_is" "_law_is" (defArgs s__law_is) (defBody s__law_is) (defScope s__law_is) .none kV17 dc17 pm17 an17 cd17 ct17), sl17⟩)
    (c17 : PySem.W.codeIn K cd17 "_law_is" = true)
    (k17 : PySem.W.keepIn K (.ref f17) = true)
    (a18 : PySem.W.nsIn K mainGlobals "_law_grid" = some (some (.ref f18)))
    (l18 : K.lookup f18 = some ⟨oc18, od18, .func (PySem.W.fnOf "_law_grid" "_law_grid" (defArgs s__law_grid) (defBody s__law_grid) (defScope s__law_grid) .none kV18 dc18 pm18 an18 cd18 ct18), sl18⟩)
    (c18 : PySem.W.codeIn K cd18 "_law_grid" = true)
    (k18 : PySem.W.keepIn K (.ref f18) = true)
    (a19 : PySem.W.nsIn K mainGlobals "law" = some (some (.ref f19)))
    (l19 : K.lookup f19 = some ⟨oc19, od19, .func (PySem.W.fnOf "law" "law" (defArgs s_law) (defBody s_law) (defScope s_law) .none kV19 dc19 pm19 an19 cd19 ct19), sl19⟩)
    (c19 : PySem.W.codeIn K cd19 "law" = true)
    (k19 : PySem.W.keepIn K (.ref f19) = true)
    (pg_Network : PySem.W.plainGet K C_Network Str.empty = true)
    (hd_Network : PySem.W.hasDictIn K C_Network = true)
    (po_Network : PySem.W.plainOver K C_Network = true)
    (sa_Network : PySem.W.findIn K (.ref C_Network) "__setattr__" = some (some (.builtin "object.__setattr__")))
    (mk_Network : PySem.W.makesIn K C_Network = true)
    (kc_Network : PySem.W.keepIn K (.ref C_Network) = true)
    (nf_Network__names : PySem.W.findIn K (.ref C_Network) "_names" = some none)
    (nf_Network__neighbors : PySem.W.findIn K (.ref C_Network) "_neighbors" = some none)
    (nf_Network__ports : PySem.W.findIn K (.ref C_Network) "_ports" = some none)
    (xF_InvalidNetwork : PySem.W.excIn K C_InvalidNetwork [.type "ValueError", .type "Exception", .type "BaseException", .type "object"] "ValueError.__new__" = true)
    (kF_InvalidNetwork : PySem.W.keepIn K (.ref C_InvalidNetwork) = true)
    (bF_InvalidNetwork : PySem.W.subIn K (.ref C_InvalidNetwork) (.type "BaseException") = some true)
    (tF_InvalidNetwork : PySem.W.typeIn K (.ref C_InvalidNetwork) = some (.type "type"))
    (iF_InvalidNetwork : PySem.W.isClsIn K C_InvalidNetwork = true)
    (sF_InvalidNetwork : PySem.W.subIn K (.ref C_InvalidNetwork) (.ref C_InvalidNetwork) = some true)
    (z_abs : PySem.W.nsIn K mainGlobals "abs" = some none)
    (z_all : PySem.W.nsIn K mainGlobals "all" = some none)
    (z_bool : PySem.W.nsIn K mainGlobals "bool" = some none)
    (z_enumerate : PySem.W.nsIn K mainGlobals "enumerate" = some none)
    (z_int : PySem.W.nsIn K mainGlobals "int" = some none)
    (z_isinstance : PySem.W.nsIn K mainGlobals "isinstance" = some none)
    (z_len : PySem.W.nsIn K mainGlobals "len" = some none)
    (z_list : PySem.W.nsIn K mainGlobals "list" = some none)
    (z_min : PySem.W.nsIn K mainGlobals "min" = some none)
    (z_range : PySem.W.nsIn K mainGlobals "range" = some none)
    (z_set : PySem.W.nsIn K mainGlobals "set" = some none)
    (z_str : PySem.W.nsIn K mainGlobals "str" = some none)
    (z_tuple : PySem.W.nsIn K mainGlobals "tuple" = some none) :
    ∃ fd : FuncData, (∀ (s : Shared) (v : Value), BindsTo s fd ⟨[v], []⟩ [("script", v)]) ∧ ∀ base : Heap, K.In base → base.Ns mainGlobals mg → FnOk l.prog w K mg base CX0 8 fa fd ["script"] (sp_law K) := by
  have e := hfa.symm.trans (PySem.W.mg_of X G a19)
  cases e
  have M : Bl mg := ⟨PySem.W.mg_none_of X G z_abs, PySem.W.mg_none_of X G z_all, PySem.W.mg_none_of X G z_bool, PySem.W.mg_none_of X G z_enumerate, PySem.W.mg_none_of X G z_int, PySem.W.mg_none_of X G z_isinstance, PySem.W.mg_none_of X G z_len, PySem.W.mg_none_of X G z_list, PySem.W.mg_none_of X G z_min, PySem.W.mg_none_of X G z_range, PySem.W.mg_none_of X G z_set, PySem.W.mg_none_of X G z_str, PySem.W.mg_none_of X G z_tuple⟩
  let c : Cs := ⟨C_InvalidNetwork, C_Network⟩
  have T : Tx K mg c := ⟨⟨PySem.W.mg_of X G g_InvalidNetwork, xF_InvalidNetwork, kF_InvalidNetwork, bF_InvalidNetwork, tF_InvalidNetwork, exc_self bF_InvalidNetwork iF_InvalidNetwork tF_InvalidNetwork sF_InvalidNetwork⟩, ⟨pg_Network, hd_Network, po_Network, sa_Network⟩, nf_Network__names, nf_Network__neighbors, nf_Network__ports⟩
  have D__check_names : DefAt K mg "_check_names" s__check_names ["names"] := ⟨_, _, (fun_mk (st := s__check_names) l0 c0 k0), PySem.W.mg_of X G a0, (fun_mk (st := s__check_names) l0 c0 k0).binds (ps := ["names"]) fun _ _ _ _ _ _ us hl => match us, hl with | [_], _ => rfl⟩
  have D__check_row : DefAt K mg "_check_row" s__check_row ["node", "row", "size"] := ⟨_, _, (fun_mk (st := s__check_row) l1 c1 k1), PySem.W.mg_of X G a1, (fun_mk (st := s__check_row) l1 c1 k1).binds (ps := ["node", "row", "size"]) fun _ _ _ _ _ _ us hl => match us, hl with | [_, _, _], _ => rfl⟩
  have D__ports_by_neighbor : DefAt K mg "_ports_by_neighbor" s__ports_by_neighbor ["row"] := ⟨_, _, (fun_mk (st := s__ports_by_neighbor) l2 c2 k2), PySem.W.mg_of X G a2, (fun_mk (st := s__ports_by_neighbor) l2 c2 k2).binds (ps := ["row"]) fun _ _ _ _ _ _ us hl => match us, hl with | [_], _ => rfl⟩
  have D_Network_names : MetAt K c.Network "names" "Network.names" s_Network_names ["self"] := ⟨T.cl_Network, _, _, (fun_mk (st := s_Network_names) l3 c3 k3), ⟨a3, i3, k3⟩, (fun_mk (st := s_Network_names) l3 c3 k3).binds (ps := ["self"]) fun _ _ _ _ _ _ us hl => match us, hl with | [_], _ => rfl⟩
  have D_Network_neighbors : MetAt K c.Network "neighbors" "Network.neighbors" s_Network_neighbors ["self", "node"] := ⟨T.cl_Network, _, _, (fun_mk (st := s_Network_neighbors) l4 c4 k4), ⟨a4, i4, k4⟩, (fun_mk (st := s_Network_neighbors) l4 c4 k4).binds (ps := ["self", "node"]) fun _ _ _ _ _ _ us hl => match us, hl with | [_, _], _ => rfl⟩
  have D_Network__check_returns : MetAt K c.Network "_check_returns" "Network._check_returns" s_Network__check_returns ["self"] := ⟨T.cl_Network, _, _, (fun_mk (st := s_Network__check_returns) l5 c5 k5), ⟨a5, i5, k5⟩, (fun_mk (st := s_Network__check_returns) l5 c5 k5).binds (ps := ["self"]) fun _ _ _ _ _ _ us hl => match us, hl with | [_], _ => rfl⟩
  have D_Network___init__ : MakAt K mg c.Network "Network" "Network.__init__" s_Network___init__ ["self", "names", "neighbors"] := ⟨_, _, (fun_mk (st := s_Network___init__) l6 c6 k6), ⟨mk_Network, a6, i6, kc_Network⟩, PySem.W.mg_of X G g_Network, (fun_mk (st := s_Network___init__) l6 c6 k6).binds (ps := ["self", "names", "neighbors"]) fun _ _ _ _ _ _ us hl => match us, hl with | [_, _, _], _ => rfl⟩
  have D__standard : DefAt K mg "_standard" s__standard ["neighbors"] := ⟨_, _, (fun_mk (st := s__standard) l7 c7 k7), PySem.W.mg_of X G a7, (fun_mk (st := s__standard) l7 c7 k7).binds (ps := ["neighbors"]) fun _ _ _ _ _ _ us hl => match us, hl with | [_], _ => rfl⟩
  have D__grid_row : DefAt K mg "_grid_row" s__grid_row ["row", "column", "rows", "columns"] := ⟨_, _, (fun_mk (st := s__grid_row) l8 c8 k8), PySem.W.mg_of X G a8, (fun_mk (st := s__grid_row) l8 c8 k8).binds (ps := ["row", "column", "rows", "columns"]) fun _ _ _ _ _ _ us hl => match us, hl with | [_, _, _, _], _ => rfl⟩
  have D_grid : DefAt K mg "grid" s_grid ["rows", "columns"] := ⟨_, _, (fun_mk (st := s_grid) l9 c9 k9), PySem.W.mg_of X G a9, (fun_mk (st := s_grid) l9 c9 k9).binds (ps := ["rows", "columns"]) fun _ _ _ _ _ _ us hl => match us, hl with | [_, _], _ => rfl⟩
  have D_path : DefAt K mg "path" s_path ["count"] := ⟨_, _, (fun_mk (st := s_path) l10 c10 k10), PySem.W.mg_of X G a10, (fun_mk (st := s_path) l10 c10 k10).binds (ps := ["count"]) fun _ _ _ _ _ _ us hl => match us, hl with | [_], _ => rfl⟩
  have D_ring : DefAt K mg "ring" s_ring ["count"] := ⟨_, _, (fun_mk (st := s_ring) l11 c11 k11), PySem.W.mg_of X G a11, (fun_mk (st := s_ring) l11 c11 k11).binds (ps := ["count"]) fun _ _ _ _ _ _ us hl => match us, hl with | [_], _ => rfl⟩
  have D_star : DefAt K mg "star" s_star ["count"] := ⟨_, _, (fun_mk (st := s_star) l12 c12 k12), PySem.W.mg_of X G a12, (fun_mk (st := s_star) l12 c12 k12).binds (ps := ["count"]) fun _ _ _ _ _ _ us hl => match us, hl with | [_], _ => rfl⟩
  have D__law_cell : DefAt K mg "_law_cell" s__law_cell ["script", "k"] := ⟨_, _, (fun_mk (st := s__law_cell) l13 c13 k13), PySem.W.mg_of X G a13, (fun_mk (st := s__law_cell) l13 c13 k13).binds (ps := ["script", "k"]) fun _ _ _ _ _ _ us hl => match us, hl with | [_, _], _ => rfl⟩
  have D__law_draws : DefAt K mg "_law_draws" s__law_draws ["cell", "count"] := ⟨_, _, (fun_mk (st := s__law_draws) l14 c14 k14), PySem.W.mg_of X G a14, (fun_mk (st := s__law_draws) l14 c14 k14).binds (ps := ["cell", "count"]) fun _ _ _ _ _ _ us hl => match us, hl with | [_, _], _ => rfl⟩
  have D__law_like : DefAt K mg "_law_like" s__law_like ["actual", "due"] := ⟨_, _, (fun_mk (st := s__law_like) l15 c15 k15), PySem.W.mg_of X G a15, (fun_mk (st := s__law_like) l15 c15 k15).binds (ps := ["actual", "due"]) fun _ _ _ _ _ _ us hl => match us, hl with | [_, _], _ => rfl⟩
  have D__law_refused : DefAt K mg "_law_refused" s__law_refused ["sort", "first", "second"] := ⟨_, _, (fun_mk (st := s__law_refused) l16 c16 k16), PySem.W.mg_of X G a16, (fun_mk (st := s__law_refused) l16 c16 k16).binds (ps := ["sort", "first", "second"]) fun _ _ _ _ _ _ us hl => match us, hl with | [_, _, _], _ => rfl⟩
  have D__law_is : DefAt K mg "_law_is" s__law_is ["network", "lists"] := ⟨_, _, (fun_mk (st := s__law_is) l17 c17 k17), PySem.W.mg_of X G a17, (fun_mk (st := s__law_is) l17 c17 k17).binds (ps := ["network", "lists"]) fun _ _ _ _ _ _ us hl => match us, hl with | [_, _], _ => rfl⟩
  have D__law_grid : DefAt K mg "_law_grid" s__law_grid ["rows", "columns"] := ⟨_, _, (fun_mk (st := s__law_grid) l18 c18 k18), PySem.W.mg_of X G a18, (fun_mk (st := s__law_grid) l18 c18 k18).binds (ps := ["rows", "columns"]) fun _ _ _ _ _ _ us hl => match us, hl with | [_, _], _ => rfl⟩
  refine ⟨PySem.W.fnOf "law" "law" (defArgs s_law) (defBody s_law) (defScope s_law) .none kV19 dc19 pm19 an19 cd19 ct19, fun s v => .of_eq rfl, fun base _ _ => ?_⟩
  have c_check_names := ok__check_names (P := l.prog) (w := w) (base := base) T M  D__check_names
  have c_check_row := ok__check_row (P := l.prog) (w := w) (base := base) T M  D__check_row
  have c_ports_by_neighbor := ok__ports_by_neighbor (P := l.prog) (w := w) (base := base) T M  D__ports_by_neighbor
  have m_Network_names := ok_Network_names (P := l.prog) (w := w) (base := base) T M  D_Network_names
  have m_Network_neighbors := ok_Network_neighbors (P := l.prog) (w := w) (base := base) T M  D_Network_neighbors
  have m_Network__check_returns := ok_Network__check_returns (P := l.prog) (w := w) (base := base) T M  D_Network__check_returns
  have m_Network := ok_Network___init__ (P := l.prog) (w := w) (base := base) T M m_Network__check_returns c_ports_by_neighbor c_check_row c_check_names D_Network___init__
  have c_standard := ok__standard (P := l.prog) (w := w) (base := base) T M m_Network D__standard
  have c_grid_row := ok__grid_row (P := l.prog) (w := w) (base := base) T M  D__grid_row
  have cgrid := ok_grid (P := l.prog) (w := w) (base := base) T M c_standard c_grid_row D_grid
  have cpath := ok_path (P := l.prog) (w := w) (base := base) T M cgrid D_path
  have cring := ok_ring (P := l.prog) (w := w) (base := base) T M c_standard D_ring
  have cstar := ok_star (P := l.prog) (w := w) (base := base) T M c_standard D_star
  have c_law_cell := ok__law_cell (P := l.prog) (w := w) (base := base) T M  D__law_cell
  have c_law_draws := ok__law_draws (P := l.prog) (w := w) (base := base) T M  D__law_draws
  have c_law_like := ok_like (P := l.prog) (w := w) (base := base) D__law_like M 5
  have c_law_refused := ok__law_refused (P := l.prog) (w := w) (base := base) T M cpath cring cstar cgrid D__law_refused
  have c_law_is := ok__law_is (P := l.prog) (w := w) (base := base) T M c_law_like m_Network_neighbors m_Network_names D__law_is
  have c_law_grid := ok__law_grid (P := l.prog) (w := w) (base := base) T M  D__law_grid
  exact ok_law (fun_mk (st := s_law) l19 c19 k19) T M c_law_refused c_law_is c_law_grid cgrid cstar cring cpath c_law_draws c_law_cell

theorem walk {l : PySem.W.OpenLaw} {q : Program} {loose : List Str} {XP : (Str → Option Value) → Heap → Prop} {YP : World → Heap → Prop} {d : DefRec} {K : Params → PySem.W.Frag} (hn : l.most = some 63) (hdf : d.params.defaults = [])
    (hY : ∀ (w : World) (h : Heap), YP w h → (K w.params).In h)
    (F : ∀ (w : World) (mg : Str → Option Value) (fa : Addr) (h : Heap), (K w.params).In h → h.Ns mainGlobals mg → mg d.name = some (.ref fa) →
      ∃ fd : FuncData, (∀ (s : Shared) (u : Value), BindsTo s fd ⟨[u], []⟩ [("script", u)]) ∧ ∀ base : Heap, (K w.params).In base → base.Ns mainGlobals mg → FnOk l.prog w (K w.params) mg base CX0 8 fa fd ["script"] (sp_law (K w.params))) :
    PySem.W.WalkO q loose XP YP l.row.toRowW d [] (fun f vs => PySem.call f vs) :=
  L2.walk_ofK (n := 63) (k := 8) (x := "script") (CX := CX0) (sp := sp_law) hn (by decide) hdf ⟨rfl, by decide, by decide⟩ hY F (fun K H a ns hl _ hS => ⟨ns, H, by first | trivial | exact hl, Same.refl _, .cons ⟨a, rfl, hS⟩ .nil, fun v G' H' _ hv => hv⟩) fun _ _ _ _ z => z

end k03x

open PySem PySem.W PyProof.Rows
set_option maxRecDepth 100000 in
set_option maxHeartbeats 0 in
theorem PySem.Challenge.cw_nearby_k03_standard_networks_holds : PySem.Challenge.rw_nearby_k03_standard_networks.Holds := by
  w_on; o_law; k_head; (case hw => w_witness2)
  k_fill
  refine k03x.walk (l := PySem.Challenge.rw_nearby_k03_standard_networks) rfl rfl (fun w h Y => PySem.W.kIn_of Y) ?F
  case F =>
    intro w mg fa h KX G hmg
    refine' k03x.all_mk KX G hmg ?g_InvalidNetwork ?g_Network ?a0 ?l0 ?c0 ?k0 ?a1 ?l1 ?c1 ?k1 ?a2 ?l2 ?c2 ?k2 ?a3 ?i3 ?l3 ?c3 ?k3 ?a4 ?i4 ?l4 ?c4 ?k4 ?a5 ?i5 ?l5 ?c5 ?k5 ?a6 ?i6 ?l6 ?c6 ?k6 ?a7 ?l7 ?c7 ?k7 ?a8 ?l8 ?c8 ?k8 ?a9 ?l9 ?c9 ?k9 ?a10 ?l10 ?c10 ?k10 ?a11 ?l11 ?c11 ?k11 ?a12 ?l12 ?c12 ?k12 ?a13 ?l13 ?c13 ?k13 ?a14 ?l14 ?c14 ?k14 ?a15 ?l15 ?c15 ?k15 ?a16 ?l16 ?c16 ?k16 ?a17 ?l17 ?c17 ?k17 ?a18 ?l18 ?c18 ?k18 ?a19 ?l19 ?c19 ?k19 ?pg_Network ?hd_Network ?po_Network ?sa_Network ?mk_Network ?kc_Network ?nf_Network__names ?nf_Network__neighbors ?nf_Network__ports ?xF_InvalidNetwork ?kF_InvalidNetwork ?bF_InvalidNetwork ?tF_InvalidNetwork ?iF_InvalidNetwork ?sF_InvalidNetwork ?z_abs ?z_all ?z_bool ?z_enumerate ?z_int ?z_isinstance ?z_len ?z_list ?z_min ?z_range ?z_set ?z_str ?z_tuple
    (case g_InvalidNetwork => k_is)
    (case g_Network => k_is)
    (case a0 => k_is)
    (case l0 => k_is)
    (case c0 => k_is)
    (case k0 => k_is)
    (case a1 => k_is)
    (case l1 => k_is)
    (case c1 => k_is)
    (case k1 => k_is)
    (case a2 => k_is)
    (case l2 => k_is)
    (case c2 => k_is)
    (case k2 => k_is)
    (case a3 => k_is)
    (case i3 => k_is)
    (case l3 => k_is)
    (case c3 => k_is)
    (case k3 => k_is)
    (case a4 => k_is)
    (case i4 => k_is)
    (case l4 => k_is)
    (case c4 => k_is)
    (case k4 => k_is)
    (case a5 => k_is)
    (case i5 => k_is)
    (case l5 => k_is)
    (case c5 => k_is)
    (case k5 => k_is)
    (case a6 => k_is)
    (case i6 => k_is)
    (case l6 => k_is)
    (case c6 => k_is)
    (case k6 => k_is)
    (case a7 => k_is)
    (case l7 => k_is)
    (case c7 => k_is)
    (case k7 => k_is)
    (case a8 => k_is)
    (case l8 => k_is)
    (case c8 => k_is)
    (case k8 => k_is)
    (case a9 => k_is)
    (case l9 => k_is)
    (case c9 => k_is)
    (case k9 => k_is)
    (case a10 => k_is)
    (case l10 => k_is)
    (case c10 => k_is)
    (case k10 => k_is)
    (case a11 => k_is)
    (case l11 => k_is)
    (case c11 => k_is)
    (case k11 => k_is)
    (case a12 => k_is)
    (case l12 => k_is)
    (case c12 => k_is)
    (case k12 => k_is)
    (case a13 => k_is)
    (case l13 => k_is)
    (case c13 => k_is)
    (case k13 => k_is)
    (case a14 => k_is)
    (case l14 => k_is)
    (case c14 => k_is)
    (case k14 => k_is)
    (case a15 => k_is)
    (case l15 => k_is)
    (case c15 => k_is)
    (case k15 => k_is)
    (case a16 => k_is)
    (case l16 => k_is)
    (case c16 => k_is)
    (case k16 => k_is)
    (case a17 => k_is)
    (case l17 => k_is)
    (case c17 => k_is)
    (case k17 => k_is)
    (case a18 => k_is)
    (case l18 => k_is)
    (case c18 => k_is)
    (case k18 => k_is)
    (case a19 => k_is)
    (case l19 => k_is)
    (case c19 => k_is)
    (case k19 => k_is)
    (case pg_Network => k_is)
    (case hd_Network => k_is)
    (case po_Network => k_is)
    (case sa_Network => k_is)
    (case mk_Network => k_is)
    (case kc_Network => k_is)
    (case nf_Network__names => k_is)
    (case nf_Network__neighbors => k_is)
    (case nf_Network__ports => k_is)
    (case xF_InvalidNetwork => k_exc)
    (case kF_InvalidNetwork => k_is)
    (case bF_InvalidNetwork => k_is)
    (case tF_InvalidNetwork => k_is)
    (case iF_InvalidNetwork => k_is)
    (case sF_InvalidNetwork => first | rfl | k_is)
    (case z_abs => k_is)
    (case z_all => k_is)
    (case z_bool => k_is)
    (case z_enumerate => k_is)
    (case z_int => k_is)
    (case z_isinstance => k_is)
    (case z_len => k_is)
    (case z_list => k_is)
    (case z_min => k_is)
    (case z_range => k_is)
    (case z_set => k_is)
    (case z_str => k_is)
    (case z_tuple => k_is)
