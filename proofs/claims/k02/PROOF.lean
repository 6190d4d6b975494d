import PyProof.Rows.All
import Wide.All
import OpenK.AllK
import Wide.FinOn
import HandS.ForMost
import HandS.Wide
import HandS.IsInst
import HandS.WideBits
import HandS.Sort
import HandS.SortRule
import KE.DataMinMax
import KE.SortData
import PyProof.P3Eq
import HandS.DictComp
import HandS.Zip
import HandS.Conv
import HandS.ForExc
import HandS.WordsExc
import HandS.TryOnly
import HandS.ExcOwn
import HandS.Exc
import HandS.More
import PySem.Challenge.RW_nearby_k02_distances_and_bounds
set_option Elab.async false
set_option linter.all false
set_option maxRecDepth 100000
/-! Ab: readings over plain data. A slot of the frame holds a value of known meaning; an own list grows in place. -/
namespace Ab
open PySem PySem.Spec PyProof.Rows L2

/-! ### meanings of values -/
structure AbsV where
  rep : Hp → V → Prop
  mono : ∀ {G G' : Hp} {v : V}, Same G G' → rep G v → rep G' v
theorem AbsV.ext' {r s : AbsV} (h : ∀ G v, r.rep G v ↔ s.rep G v) : r = s := by
  cases r with
  | mk a b =>
    cases s with
    | mk c d =>
      have e : a = c := funext fun G => funext fun v => propext (h G v)
      subst e
      rfl
abbrev PR (G : Hp) : List V → List AbsV → Prop := Paired fun v (r : AbsV) => r.rep G v
theorem PR.mono {G G' : Hp} (s : Same G G') : ∀ {vs : List V} {l : List AbsV}, PR G vs l → PR G' vs l
  | _, _, .nil => .nil
  | _, _, .cons h t => .cons (AbsV.mono _ s h) (PR.mono s t)
theorem PR.get {G : Hp} : ∀ {vs : List V} {l : List AbsV} {i : Nat} {r : AbsV}, PR G vs l → l[i]? = some r → ∃ v, vs[i]? = some v ∧ r.rep G v
  | _, _, i, r, .nil, h => by simp at h
  | _, _, 0, r, .cons a t, h => ⟨_, rfl, by cases (Option.some.inj h); exact a⟩
  | _, _, i + 1, r, .cons a t, h => PR.get (i := i) t h
theorem PR.get' {G : Hp} : ∀ {vs : List V} {l : List AbsV} {i : Nat} {v : V}, PR G vs l → vs[i]? = some v → ∃ r, l[i]? = some r ∧ r.rep G v
  | _, _, i, r, .nil, h => by simp at h
  | _, _, 0, r, .cons a t, h => ⟨_, rfl, by cases (Option.some.inj h); exact a⟩
  | _, _, i + 1, r, .cons a t, h => PR.get' (i := i) t h
theorem PR.append {G : Hp} : ∀ {vs ws : List V} {l m : List AbsV}, PR G vs l → PR G ws m → PR G (vs ++ ws) (l ++ m)
  | _, _, _, _, .nil, h => h
  | _, _, _, _, .cons a t, h => .cons a (PR.append t h)
theorem PR.len {G : Hp} {vs : List V} {l : List AbsV} (h : PR G vs l) : vs.length = l.length := Paired.length h
theorem PR.set {G : Hp} {r : AbsV} {v : V} (h : r.rep G v) : ∀ {vs : List V} {l : List AbsV} (i : Nat), PR G vs l → PR G (vs.set i v) (l.set i r)
  | _, _, i, .nil => .nil
  | _, _, 0, .cons a t => .cons h t
  | _, _, i + 1, .cons a t => .cons a (PR.set h i t)
theorem PR.take {G : Hp} : ∀ {vs : List V} {l : List AbsV} (n : Nat), PR G vs l → PR G (vs.take n) (l.take n)
  | _, _, 0, _ => .nil
  | _, _, n + 1, .nil => .nil
  | _, _, n + 1, .cons a t => .cons a (PR.take n t)
theorem PR.drop {G : Hp} : ∀ {vs : List V} {l : List AbsV} (n : Nat), PR G vs l → PR G (vs.drop n) (l.drop n)
  | _, _, 0, h => h
  | _, _, n + 1, .nil => .nil
  | _, _, n + 1, .cons a t => PR.drop n t
theorem PR.eraseIdx {G : Hp} : ∀ {vs : List V} {l : List AbsV} (n : Nat), PR G vs l → PR G (vs.eraseIdx n) (l.eraseIdx n)
  | _, _, _, .nil => .nil
  | _, _, 0, .cons a t => t
  | _, _, n + 1, .cons a t => .cons a (PR.eraseIdx n t)
theorem PR.reverse {G : Hp} : ∀ {vs : List V} {l : List AbsV}, PR G vs l → PR G vs.reverse l.reverse
  | _, _, .nil => .nil
  | _, _, .cons a t => by
    rw [List.reverse_cons, List.reverse_cons]
    exact (PR.reverse t).append (.cons a .nil)

def lsA (l : List AbsV) : AbsV := ⟨fun G v => ∃ p vs, v = .ref p ∧ G p = some (.lst vs) ∧ PR G vs l, fun s ⟨p, vs, e, h, r⟩ => ⟨p, vs, e, s _ _ h, r.mono s⟩⟩
def tuA (l : List AbsV) : AbsV := ⟨fun G v => ∃ p vs, v = .ref p ∧ G p = some (.tup vs) ∧ PR G vs l, fun s ⟨p, vs, e, h, r⟩ => ⟨p, vs, e, s _ _ h, r.mono s⟩⟩
/-- a flat value -/
def flA (x : V) : AbsV := ⟨fun _ v => v = x, fun _ h => h⟩
abbrev nI (n : Int) : AbsV := flA (.int n)
abbrev nB (b : Bool) : AbsV := flA (.bl b)
abbrev nS (z : Str) : AbsV := flA (.str z)
abbrev nN : AbsV := flA .non
mutual
def dat : PyData → AbsV
  | .none => nN
  | .bool b => nB b
  | .int i => nI i
  | .str z => nS z
  | .list ds => lsA (dats ds)
  | .tuple ds => tuA (dats ds)
  | .dict _ => ⟨fun _ _ => False, fun _ h => h⟩
def dats : List PyData → List AbsV
  | [] => []
  | d :: ds => dat d :: dats ds
end
theorem dats_map : ∀ ds : List PyData, dats ds = ds.map dat
  | [] => rfl
  | d :: ds => by
    show dat d :: dats ds = dat d :: ds.map dat
    rw [dats_map ds]
mutual
theorem dat_dp {K : PySem.W.Frag} {G : Hp} : ∀ (d : PyData) {v : V}, (dat d).rep G v → Dp K G v d
  | .none, _, h => by cases h; exact .non
  | .bool b, _, h => by cases h; exact .bl b
  | .int i, _, h => by cases h; exact .int i
  | .str z, _, h => by cases h; exact .str z
  | .list ds, _, h => by
    obtain ⟨p, vs, e, g, r⟩ := h
    subst e
    exact .lst (SqL.of g) (dats_dp ds r)
  | .tuple ds, _, h => by
    obtain ⟨p, vs, e, g, r⟩ := h
    subst e
    exact .tup (SqT.of g) (dats_dp ds r)
  | .dict _, _, h => h.elim
theorem dats_dp {K : PySem.W.Frag} {G : Hp} : ∀ (ds : List PyData) {vs : List V}, PR G vs (dats ds) → DpAll K G vs ds
  | [], _, h => by cases h; exact .nil
  | d :: ds, _, h => by
    cases h with
    | cons a t => exact .cons (dat_dp d a) (dats_dp ds t)
end

/-! ### slots -/
inductive Slot where
  | un
  | val (r : AbsV)
  | own (l : List AbsV)
  | red (l : List AbsV)
  | scr (ns : List Int)
  | dic (kvs : List (Key × AbsV))
  | ins (p C : Addr) (fs : List (Str × AbsV))
  | nst (p : Addr) (qs : List Addr) (L : List (List AbsV))
/-- a thing of the frame's own, that may still change -/
def Slot.mut : Slot → Bool
  | .own _ | .dic _ | .ins _ _ _ | .nst _ _ _ => true
  | _ => false
/-- the lists within -/
def Slot.inn : Slot → List Addr
  | .nst _ qs _ => qs
  | _ => []
theorem Slot.inn_of {s : Slot} (h : s.mut = false) : s.inn = [] := by
  cases s <;> first | rfl | cases h
abbrev PK {κ : Type} (G : Hp) : List (κ × V) → List (κ × AbsV) → Prop := Paired fun a b => a.1 = b.1 ∧ b.2.rep G a.2
theorem PK.mono {κ : Type} {G G' : Hp} (s : Same G G') : ∀ {ws : List (κ × V)} {kvs : List (κ × AbsV)}, PK G ws kvs → PK G' ws kvs
  | _, _, .nil => .nil
  | _, _, .cons h t => .cons ⟨h.1, AbsV.mono _ s h.2⟩ (PK.mono s t)
def dcA (kvs : List (Key × AbsV)) : AbsV := ⟨fun G v => ∃ p ws, v = .ref p ∧ G p = some (.dK ws) ∧ PK G ws kvs, fun s ⟨p, vs, e, h, r⟩ => ⟨p, vs, e, s _ _ h, r.mono s⟩⟩
def inA (C : Addr) (fs : List (Str × AbsV)) : AbsV := ⟨fun G v => ∃ p dx ws, v = .ref p ∧ G p = some (.ins C dx ws) ∧ PK G ws fs, fun s ⟨p, dx, vs, e, h, r⟩ => ⟨p, dx, vs, e, s _ _ h, r.mono s⟩⟩
/-- the object at p itself -/
def iaA (p C : Addr) (fs : List (Str × AbsV)) : AbsV := ⟨fun G v => v = .ref p ∧ ∃ dx ws, G p = some (.ins C dx ws) ∧ PK G ws fs, fun s ⟨e, dx, vs, h, r⟩ => ⟨e, dx, vs, s _ _ h, r.mono s⟩⟩
def SlotOk (K : PySem.W.Frag) (B G H : Hp) : Slot → Option V → Prop
  | .un, _ => True
  | .val r, o => ∃ v, o = some v ∧ r.rep G v
  | .own l, o => ∃ p vs, o = some (.ref p) ∧ B p = none ∧ G p = none ∧ H p = some (.lst vs) ∧ PR G vs l
  | .red l, o => ∃ p vs, o = some (.ref p) ∧ B p = some (.lst vs) ∧ PR G vs l
  | .scr ns, o => ∃ p, o = some (.ref p) ∧ SqL K B p (ns.map V.int)
  | .dic kvs, o => ∃ p ws, o = some (.ref p) ∧ B p = none ∧ G p = none ∧ H p = some (.dK ws) ∧ PK G ws kvs
  | .ins p C fs, o => ∃ dx ws, o = some (.ref p) ∧ B p = none ∧ G p = none ∧ H p = some (.ins C dx ws) ∧ PK G ws fs
  | .nst p qs L, o => o = some (.ref p) ∧ B p = none ∧ G p = none ∧ H p = some (.lst (qs.map V.ref)) ∧ Paired (fun q l => B q = none ∧ G q = none ∧ ∃ vs, H q = some (.lst vs) ∧ PR G vs l) qs L ∧ (p :: qs).Nodup
theorem SlotOk.addr {K : PySem.W.Frag} {B G H : Hp} : ∀ {s : Slot} {o : Option V}, s.mut = true → SlotOk K B G H s o → ∃ p u, o = some (.ref p) ∧ B p = none ∧ G p = none ∧ H p = some u
  | .own _, _, _, ⟨p, vs, e, b, g, h, _⟩ => ⟨p, _, e, b, g, h⟩
  | .dic _, _, _, ⟨p, vs, e, b, g, h, _⟩ => ⟨p, _, e, b, g, h⟩
  | .ins p _ _, _, _, ⟨_, vs, e, b, g, h, _⟩ => ⟨p, _, e, b, g, h⟩
  | .nst p _ _, _, _, ⟨e, b, g, h, _⟩ => ⟨p, _, e, b, g, h⟩
  | .un, _, h, _ => by cases h
  | .val _, _, h, _ => by cases h
  | .red _, _, h, _ => by cases h
  | .scr _, _, h, _ => by cases h
structure Ext (G H G' H' : Hp) : Prop where
  g : Same G G'
  h : Same H H'
  gh : Same G' H'
  n : ∀ p, H p ≠ none → G p = none → G' p = none
theorem Ext.refl {G H : Hp} (gh : Same G H) : Ext G H G H := ⟨Same.refl _, Same.refl _, gh, fun _ _ h => h⟩
theorem some_of_same {H H' : Hp} {p : Addr} (s : Same H H') (h : H p ≠ none) : H' p ≠ none := by
  cases e : H p with
  | none => exact absurd e h
  | some o => rw [s p o e]; exact fun z => by cases z
theorem Ext.trans {G H G1 H1 G2 H2 : Hp} (a : Ext G H G1 H1) (b : Ext G1 H1 G2 H2) : Ext G H G2 H2 :=
  ⟨a.g.trans b.g, a.h.trans b.h, b.gh, fun p h e => b.n p (some_of_same a.h h) (a.n p h e)⟩
/-- a new thing, at once known for good -/
theorem Ext.new {G H : Hp} {p : Addr} {o : HO} (gh : Same G H) (h : H p = none) : Ext G H (upd G p o) (upd H p o) := by
  have g : G p = none := gh.free h
  refine ⟨fun b u e => ?_, fun b u e => ?_, fun b u e => ?_, fun q hq e => ?_⟩
  · rw [upd_ne (ne_of_none e g)]; exact e
  · rw [upd_ne (ne_of_none e h)]; exact e
  · by_cases z : b = p
    · subst z; rw [upd_same] at e ⊢; exact e
    · rw [upd_ne z] at e ⊢; exact gh b u e
  · have z : q ≠ p := fun z => hq (by rw [z]; exact h)
    rw [upd_ne z]; exact e
/-- a new thing that may still change -/
theorem Ext.newO {G H : Hp} {p : Addr} {o : HO} (gh : Same G H) (h : H p = none) : Ext G H G (upd H p o) :=
  ⟨Same.refl _, fun b u e => by rw [upd_ne (ne_of_none e h)]; exact e, fun b u e => by rw [upd_ne (ne_of_none (gh b u e) h)]; exact gh b u e, fun _ _ e => e⟩
/-- what was new and may change is from now on known for good -/
theorem Ext.freeze {G H G' H' : Hp} {p : Addr} {u : HO} (x : Ext G H G' H') (h : H p = none) (g' : G' p = none) (h' : H' p = some u) : Ext G H (upd G' p u) H' := by
  refine ⟨fun b u e => ?_, x.h, fun b u e => ?_, fun q hq e => ?_⟩
  · have e' := x.g b u e
    rw [upd_ne (ne_of_none e' g')]; exact e'
  · by_cases z : b = p
    · subst z; rw [upd_same] at e; rw [h']; exact e
    · rw [upd_ne z] at e; exact x.gh b u e
  · have z : q ≠ p := fun z => hq (by rw [z]; exact h)
    rw [upd_ne z]; exact x.n q hq e
structure OkB (B G0 G H : Hp) : Prop where
  bh : Same B H
  gh : Same G H
  g0 : Same G0 G
  nb : ∀ p, B p ≠ none → G0 p = none → G p = none
theorem OkB.ext {B G0 G H G' H' : Hp} (k : OkB B G0 G H) (x : Ext G H G' H') : OkB B G0 G' H' :=
  ⟨k.bh.trans x.h, x.gh, k.g0.trans x.g, fun p h e => x.n p (some_of_same k.bh h) (k.nb p h e)⟩
structure Ok (K : PySem.W.Frag) (B G0 : Hp) (E : List Slot) (σ : L2.St) (G H : Hp) : Prop extends OkB B G0 G H where
  sl : Paired (SlotOk K B G H) E σ
  ds : ∀ (i j : Nat) (p : Addr) (s s' : Slot), E[i]? = some s → E[j]? = some s' → s.mut = true → s'.mut = true → σ[i]? = some (some (.ref p)) → σ[j]? = some (some (.ref p)) → i = j
  dn : ∀ (i j : Nat) (q : Addr) (s s' : Slot), E[i]? = some s → E[j]? = some s' → s'.mut = true → q ∈ s.inn → σ[j]? ≠ some (some (.ref q)) ∧ (q ∈ s'.inn → i = j)
theorem P_get {α β : Type} {F : α → β → Prop} : ∀ {as : List α} {bs : List β} {i : Nat} {a : α}, Paired F as bs → as[i]? = some a → ∃ b, bs[i]? = some b ∧ F a b
  | _, _, i, r, .nil, h => by simp at h
  | _, _, 0, r, .cons a t, h => ⟨_, rfl, by cases (Option.some.inj h); exact a⟩
  | _, _, i + 1, r, .cons a t, h => P_get (i := i) t h
theorem P_set {α β : Type} {F : α → β → Prop} {a : α} {b : β} (h : F a b) : ∀ {as : List α} {bs : List β} (i : Nat), Paired F as bs → Paired F (as.set i a) (bs.set i b)
  | _, _, i, .nil => .nil
  | _, _, 0, .cons _ t => .cons h t
  | _, _, i + 1, .cons c t => .cons c (P_set h i t)
theorem P_mono {α β : Type} {F F' : α → β → Prop} (hm : ∀ a b, F a b → F' a b) : ∀ {as : List α} {bs : List β}, Paired F as bs → Paired F' as bs
  | _, _, .nil => .nil
  | _, _, .cons c t => .cons (hm _ _ c) (P_mono hm t)
theorem SlotOk.ext {K : PySem.W.Frag} {B G H G' H' : Hp} (bh : Same B H) (gh : Same G H) (x : Ext G H G' H') : ∀ (s : Slot) (o : Option V), SlotOk K B G H s o → SlotOk K B G' H' s o
  | .un, _, _ => trivial
  | .val r, _, ⟨v, e, h⟩ => ⟨v, e, r.mono x.g h⟩
  | .own l, _, ⟨p, vs, e, b, g, h, q⟩ => ⟨p, vs, e, b, x.n p (by rw [h]; exact fun z => by cases z) g, x.h _ _ h, q.mono x.g⟩
  | .red l, _, ⟨p, vs, e, b, q⟩ => ⟨p, vs, e, b, q.mono x.g⟩
  | .scr ns, _, h => h
  | .dic l, _, ⟨p, vs, e, b, g, h, q⟩ => ⟨p, vs, e, b, x.n p (by rw [h]; exact fun z => by cases z) g, x.h _ _ h, q.mono x.g⟩
  | .ins p C l, _, ⟨dx, vs, e, b, g, h, q⟩ => ⟨dx, vs, e, b, x.n p (by rw [h]; exact fun z => by cases z) g, x.h _ _ h, q.mono x.g⟩
  | .nst p qs L, _, ⟨e, b, g, h, q, nd⟩ => ⟨e, b, x.n p (by rw [h]; exact fun z => by cases z) g, x.h _ _ h, P_mono (fun q l ⟨b1, g1, vs, h1, r1⟩ => ⟨b1, x.n q (by rw [h1]; exact fun z => by cases z) g1, vs, x.h _ _ h1, r1.mono x.g⟩) q, nd⟩
theorem Ok.ext {K : PySem.W.Frag} {B G0 G H G' H' : Hp} {E : List Slot} {σ : L2.St} (k : Ok K B G0 E σ G H) (x : Ext G H G' H') : Ok K B G0 E σ G' H' :=
  ⟨k.toOkB.ext x, P_mono (SlotOk.ext k.bh k.gh x) k.sl, k.ds, k.dn⟩
theorem P_len {α β : Type} {F : α → β → Prop} : ∀ {as : List α} {bs : List β}, Paired F as bs → as.length = bs.length
  | _, _, .nil => rfl
  | _, _, .cons _ t => congrArg (· + 1) (P_len t)
theorem P_of {α β : Type} {F : α → β → Prop} : ∀ {as : List α} {bs : List β}, as.length = bs.length → (∀ (i : Nat) (a : α) (b : β), as[i]? = some a → bs[i]? = some b → F a b) → Paired F as bs
  | [], [], _, _ => .nil
  | [], _ :: _, h, _ => by cases h
  | _ :: _, [], h, _ => by cases h
  | a :: as, b :: bs, h, q => .cons (q 0 a b rfl rfl) (P_of (Nat.succ.inj h) fun i x y hx hy => q (i + 1) x y hx hy)
theorem get_set {α : Type} {E : List α} {i a : Nat} {s n : α} (h : (E.set i s)[a]? = some n) : (a = i ∧ n = s) ∨ (i ≠ a ∧ E[a]? = some n) := by
  by_cases z : i = a
  · subst z
    by_cases hl : i < E.length
    · rw [List.getElem?_set_self hl] at h; cases h; exact .inl ⟨rfl, rfl⟩
    · rw [List.getElem?_eq_none (by simpa using hl)] at h; cases h
  · rw [List.getElem?_set_ne z] at h
    exact .inr ⟨z, h⟩
/-- a slot gets a value of a known meaning, or is forgotten -/
theorem Ok.set {K : PySem.W.Frag} {B G0 G H : Hp} {E : List Slot} {σ : L2.St} {s : Slot} {o : Option V} (k : Ok K B G0 E σ G H) (i : Nat) (h : SlotOk K B G H s o) (hn : s.mut = false) : Ok K B G0 (E.set i s) (σ.set i o) G H := by
  refine ⟨k.toOkB, P_set h i k.sl, fun a b p l l' ea eb ma mb sa sb => ?_, fun a b q l l' ea eb mb hq => ?_⟩
  · rcases get_set ea with ⟨_, rfl⟩ | ⟨na, ea⟩
    · rw [hn] at ma; cases ma
    · rcases get_set eb with ⟨_, rfl⟩ | ⟨nb, eb⟩
      · rw [hn] at mb; cases mb
      · rw [List.getElem?_set_ne na] at sa
        rw [List.getElem?_set_ne nb] at sb
        exact k.ds a b p l l' ea eb ma mb sa sb
  · rcases get_set ea with ⟨_, rfl⟩ | ⟨na, ea⟩
    · rw [Slot.inn_of hn] at hq; cases hq
    · rcases get_set eb with ⟨_, rfl⟩ | ⟨nb, eb⟩
      · rw [hn] at mb; cases mb
      · rw [List.getElem?_set_ne nb]
        exact k.dn a b q l l' ea eb mb hq
/-- a slot gets a thing that may still change -/
theorem Ok.setM {K : PySem.W.Frag} {B G0 G H : Hp} {E : List Slot} {σ : L2.St} {p : Addr} {s : Slot} (k : Ok K B G0 E σ G H) (i : Nat) (h : SlotOk K B G H s (some (.ref p)))
    (hn : ∀ (j : Nat) (s' : Slot), j ≠ i → E[j]? = some s' → s'.mut = true → σ[j]? ≠ some (some (.ref p)) ∧ p ∉ s'.inn) (hi : s.inn = [] := by rfl) : Ok K B G0 (E.set i s) (σ.set i (some (.ref p))) G H := by
  have hl : E.length = σ.length := P_len k.sl
  have mutOf : ∀ {l : Slot} {q : Addr}, q ∈ l.inn → l.mut = true := fun {l q} hq => by
    cases l <;> first | rfl | cases hq
  refine ⟨k.toOkB, P_set h i k.sl, fun a c r m m' ea ec ma mc sa sc => ?_, fun a c q m m' ea ec mc hq => ?_⟩
  · rcases get_set ea with ⟨rfl, rfl⟩ | ⟨na, ea1⟩
    · have hla : a < σ.length := by
        have := (List.getElem?_eq_some_iff.mp sa).1
        simpa using this
      rw [List.getElem?_set_self hla] at sa
      cases sa
      rcases get_set ec with ⟨rfl, rfl⟩ | ⟨nc, ec1⟩
      · rfl
      · rw [List.getElem?_set_ne nc] at sc
        exact absurd sc (hn c m' (fun z => nc z.symm) ec1 mc).1
    · rw [List.getElem?_set_ne na] at sa
      rcases get_set ec with ⟨rfl, rfl⟩ | ⟨nc, ec1⟩
      · have hlc : c < σ.length := by
          have := (List.getElem?_eq_some_iff.mp sc).1
          simpa using this
        rw [List.getElem?_set_self hlc] at sc
        cases sc
        exact absurd sa (hn a m (fun z => na z.symm) ea1 ma).1
      · rw [List.getElem?_set_ne nc] at sc
        exact k.ds a c r m m' ea1 ec1 ma mc sa sc
  · rcases get_set ea with ⟨rfl, rfl⟩ | ⟨na, ea1⟩
    · rw [hi] at hq; cases hq
    · rcases get_set ec with ⟨rfl, rfl⟩ | ⟨nc, ec1⟩
      · refine ⟨fun z => ?_, fun z => by rw [hi] at z; cases z⟩
        have hlc : c < σ.length := by
          have := (List.getElem?_eq_some_iff.mp z).1
          simpa using this
        rw [List.getElem?_set_self hlc] at z
        cases z
        exact (hn a m (fun z => na z.symm) ea1 (mutOf hq)).2 hq
      · rw [List.getElem?_set_ne nc]
        exact k.dn a c q m m' ea1 ec1 mc hq
theorem P_mem {α β : Type} {F : α → β → Prop} {a : α} : ∀ {as : List α} {bs : List β}, Paired F as bs → a ∈ as → ∃ b, F a b
  | _, _, .nil, h => by cases h
  | _, _, .cons x t, h => by
    rcases List.mem_cons.mp h with e | e
    · rw [e]; exact ⟨_, x⟩
    · exact P_mem t e
/-- a new thing's address is no own one's -/
theorem Ok.fresh {K : PySem.W.Frag} {B G0 G H : Hp} {E : List Slot} {σ : L2.St} {p : Addr} {j : Nat} {s : Slot} (k : Ok K B G0 E σ G H) (hp : H p = none) (e : E[j]? = some s) (m : s.mut = true) : σ[j]? ≠ some (some (.ref p)) ∧ p ∉ s.inn := by
  obtain ⟨o, e1, so⟩ := P_get k.sl e
  refine ⟨fun z => ?_, fun z => ?_⟩
  · obtain ⟨p', u, e2, _, _, h'⟩ := so.addr m
    rw [e1, e2] at z
    cases z
    rw [hp] at h'; cases h'
  · cases s with
    | nst p' qs L =>
      obtain ⟨_, _, _, _, q, _⟩ := so
      obtain ⟨l, _, _, vs, h1, _⟩ := P_mem q z
      rw [hp] at h1; cases h1
    | _ => cases z
/-- a thing of the frame's own changes -/
theorem Ok.updM {K : PySem.W.Frag} {B G0 G H : Hp} {E : List Slot} {σ : L2.St} {i : Nat} {p : Addr} {s s' : Slot} {u : HO} (k : Ok K B G0 E σ G H) (h : E[i]? = some s) (hm : s.mut = true) (e : σ[i]? = some (some (.ref p))) (hs : SlotOk K B G (upd H p u) s' (some (.ref p))) (hi : s'.inn = s.inn := by rfl) : Ok K B G0 (E.set i s') σ G (upd H p u) := by
  obtain ⟨o, eO, so⟩ := P_get k.sl h
  obtain ⟨pO, u0, e2, b, g, hh⟩ := so.addr hm
  rw [e] at eO
  have e3 := Option.some.inj eO
  rw [e2] at e3
  clear eO
  cases e3
  have hl : i < E.length := (List.getElem?_eq_some_iff.mp h).1
  refine ⟨⟨fun b' u z => ?_, fun b' u z => ?_, k.g0, k.nb⟩, ?_, fun a c r n n' ea ec ma mc sa sc => ?_, fun a c q n n' ea ec mc hq => ?_⟩
  · rw [upd_ne (ne_of_none z b)]; exact k.bh b' u z
  · rw [upd_ne (ne_of_none z g)]; exact k.gh b' u z
  · refine P_of (by rw [List.length_set]; exact P_len k.sl) fun j t o hs' ho => ?_
    by_cases hj : i = j
    · subst hj
      rw [List.getElem?_set_self hl] at hs'
      rw [e] at ho
      cases hs'; cases ho
      exact hs
    · rw [List.getElem?_set_ne hj] at hs'
      obtain ⟨o', eo, so'⟩ := P_get k.sl hs'
      have hoo : o' = o := by rw [eo] at ho; exact Option.some.inj ho
      rw [hoo] at so'
      have np : ∀ p' : Addr, t.mut = true → o = some (V.ref p') → p' ≠ p := fun p' mt e' z => by
        rw [z] at e'
        exact hj (k.ds i j p s t h hs' hm mt e (by rw [ho, e']))
      cases t with
      | un => trivial
      | val r' => exact so'
      | own l' =>
        obtain ⟨p', vs', e', b', g', h', pr'⟩ := so'
        exact ⟨p', vs', e', b', g', by rw [upd_ne (np p' rfl e')]; exact h', pr'⟩
      | dic l' =>
        obtain ⟨p', vs', e', b', g', h', pr'⟩ := so'
        exact ⟨p', vs', e', b', g', by rw [upd_ne (np p' rfl e')]; exact h', pr'⟩
      | ins p' C l' =>
        obtain ⟨dx', vs', e', b', g', h', pr'⟩ := so'
        exact ⟨dx', vs', e', b', g', by rw [upd_ne (np p' rfl e')]; exact h', pr'⟩
      | nst p' qs L =>
        obtain ⟨e', b', g', h', q', nd'⟩ := so'
        have nq : ∀ q ∈ qs, q ≠ p := fun q hq z => by
          subst z
          exact (k.dn j i q _ s hs' h hm hq).1 e
        have all : ∀ {as : List Addr} {L : List (List AbsV)}, (∀ q ∈ as, q ≠ p) → Paired (fun q l => B q = none ∧ G q = none ∧ ∃ vs, H q = some (.lst vs) ∧ PR G vs l) as L → Paired (fun q l => B q = none ∧ G q = none ∧ ∃ vs, (upd H p u) q = some (.lst vs) ∧ PR G vs l) as L := fun {as L} ha hp => by
          induction hp with
          | nil => exact .nil
          | cons x t ih =>
            obtain ⟨b1, g1, vs, h1, r1⟩ := x
            have n1 := ha _ (List.mem_cons_self ..)
            exact .cons ⟨b1, g1, vs, by rw [upd_ne n1]; exact h1, r1⟩ (ih fun q hq => ha q (List.mem_cons_of_mem _ hq))
        exact ⟨e', b', g', by rw [upd_ne (np p' rfl e')]; exact h', all nq q', nd'⟩
      | red l' => exact so'
      | scr ns => exact so'
  · have own : ∀ (a : Nat) (n : Slot), (E.set i s')[a]? = some n → n.mut = true → ∃ n', E[a]? = some n' ∧ n'.mut = true := fun a n ea ma => by
      by_cases z : i = a
      · subst z; exact ⟨s, h, hm⟩
      · rw [List.getElem?_set_ne z] at ea; exact ⟨n, ea, ma⟩
    obtain ⟨n1, ea', m1⟩ := own a n ea ma
    obtain ⟨n2, ec', m2⟩ := own c n' ec mc
    exact k.ds a c r n1 n2 ea' ec' m1 m2 sa sc
  · have own : ∀ (a : Nat) (n : Slot), (E.set i s')[a]? = some n → ∃ n', E[a]? = some n' ∧ n'.inn = n.inn ∧ (n.mut = true → n'.mut = true) := fun a n ea => by
      rcases get_set ea with ⟨rfl, rfl⟩ | ⟨_, ea⟩
      · exact ⟨s, h, hi.symm, fun _ => hm⟩
      · exact ⟨n, ea, rfl, fun z => z⟩
    obtain ⟨n1, ea', i1, _⟩ := own a n ea
    obtain ⟨n2, ec', i2, m2⟩ := own c n' ec
    rw [← i1] at hq
    rw [← i2]
    exact k.dn a c q n1 n2 ea' ec' (m2 mc) hq
/-- a thing of the frame's own is known for good from now on -/
theorem Ok.freezeM {K : PySem.W.Frag} {B G0 G H : Hp} {E : List Slot} {σ : L2.St} {i : Nat} {p : Addr} {s : Slot} {u : HO} {r : AbsV} (k : Ok K B G0 E σ G H) (h : E[i]? = some s) (hm : s.mut = true) (e : σ[i]? = some (some (.ref p))) (hu : H p = some u) (hr : r.rep (upd G p u) (.ref p)) (hi : s.inn = [] := by rfl) : Ok K B G0 (E.set i (.val r)) σ (upd G p u) H := by
  obtain ⟨o, eO, so⟩ := P_get k.sl h
  obtain ⟨pO, u0, e2, b, g, hh⟩ := so.addr hm
  rw [e] at eO
  have e3 := Option.some.inj eO
  rw [e2] at e3
  clear eO
  cases e3
  have hl : i < E.length := (List.getElem?_eq_some_iff.mp h).1
  have sg : Same G (upd G p u) := fun b u' e => by rw [upd_ne (ne_of_none e g)]; exact e
  have bb : OkB B G0 (upd G p u) H := ⟨k.bh, fun b u' e => by
      by_cases z : b = p
      · subst z; rw [upd_same] at e; rw [hu]; exact e
      · rw [upd_ne z] at e; exact k.gh b u' e, k.g0.trans sg, fun q' hq e => by
      have z : q' ≠ p := fun z => hq (by rw [z]; exact b)
      rw [upd_ne z]; exact k.nb q' hq e⟩
  refine ⟨bb, P_of (by rw [List.length_set]; exact P_len k.sl) fun j t o hs' ho => ?_, fun a c ra m m' ea ec ma mc sa sc => ?_, fun a c q m m' ea ec mc hq => ?_⟩
  · by_cases hj : i = j
    · subst hj
      rw [List.getElem?_set_self hl] at hs'
      rw [e] at ho
      cases hs'; cases ho
      exact ⟨_, rfl, hr⟩
    · rw [List.getElem?_set_ne hj] at hs'
      obtain ⟨o', eo, so'⟩ := P_get k.sl hs'
      have hoo : o' = o := by rw [eo] at ho; exact Option.some.inj ho
      rw [hoo] at so'
      have np : ∀ p' : Addr, t.mut = true → o = some (V.ref p') → p' ≠ p := fun p' mt e' z => by
        rw [z] at e'
        exact hj (k.ds i j p s t h hs' hm mt e (by rw [ho, e']))
      cases t with
      | un => trivial
      | val r' => obtain ⟨v, e, rv⟩ := so'; exact ⟨v, e, r'.mono sg rv⟩
      | own l' =>
        obtain ⟨p', vs', e', b', g', h', pr'⟩ := so'
        exact ⟨p', vs', e', b', by rw [upd_ne (np p' rfl e')]; exact g', h', pr'.mono sg⟩
      | dic l' =>
        obtain ⟨p', vs', e', b', g', h', pr'⟩ := so'
        exact ⟨p', vs', e', b', by rw [upd_ne (np p' rfl e')]; exact g', h', pr'.mono sg⟩
      | ins p' C l' =>
        obtain ⟨dx', vs', e', b', g', h', pr'⟩ := so'
        exact ⟨dx', vs', e', b', by rw [upd_ne (np p' rfl e')]; exact g', h', pr'.mono sg⟩
      | nst p' qs L =>
        obtain ⟨e', b', g', h', q', nd'⟩ := so'
        have nq : ∀ q ∈ qs, q ≠ p := fun q hq z => by
          subst z
          exact (k.dn j i q _ s hs' h hm hq).1 e
        have all : ∀ {as : List Addr} {L : List (List AbsV)}, (∀ q ∈ as, q ≠ p) → Paired (fun q l => B q = none ∧ G q = none ∧ ∃ vs, H q = some (.lst vs) ∧ PR G vs l) as L → Paired (fun q l => B q = none ∧ (upd G p u) q = none ∧ ∃ vs, H q = some (.lst vs) ∧ PR (upd G p u) vs l) as L := fun {as L} ha hp => by
          induction hp with
          | nil => exact .nil
          | cons x t ih =>
            obtain ⟨b1, g1, vs, h1, r1⟩ := x
            have n1 := ha _ (List.mem_cons_self ..)
            exact .cons ⟨b1, by rw [upd_ne n1]; exact g1, vs, h1, r1.mono sg⟩ (ih fun q hq => ha q (List.mem_cons_of_mem _ hq))
        exact ⟨e', b', by rw [upd_ne (np p' rfl e')]; exact g', h', all nq q', nd'⟩
      | red l' => obtain ⟨p', vs', e', b', pr'⟩ := so'; exact ⟨p', vs', e', b', pr'.mono sg⟩
      | scr ns => exact so'
  · have na : i ≠ a := fun z => by subst z; rw [List.getElem?_set_self hl] at ea; cases ea; cases ma
    have nc : i ≠ c := fun z => by subst z; rw [List.getElem?_set_self hl] at ec; cases ec; cases mc
    rw [List.getElem?_set_ne na] at ea
    rw [List.getElem?_set_ne nc] at ec
    exact k.ds a c _ m m' ea ec ma mc sa sc
  · rcases get_set ea with ⟨rfl, rfl⟩ | ⟨na, ea⟩
    · cases hq
    · rcases get_set ec with ⟨rfl, rfl⟩ | ⟨nc, ec⟩
      · cases mc
      · exact k.dn a c q m m' ea ec mc hq
end Ab

namespace Ab
open PySem PySem.Spec PyProof.Rows L2

/-! ### judgements -/
def EV (K : PySem.W.Frag) (E : List Slot) (te : TE) (r : AbsV) : Prop := ∀ (B G0 : Hp) (σ : L2.St) (G H : Hp), Ok K B G0 E σ G H → ∀ Q : VK, (∀ v G' H', Ext G H G' H' → r.rep G' v → Q v H') → te σ H Q
/-- a list that can be read now -/
def EVL (K : PySem.W.Frag) (E : List Slot) (te : TE) (l : List AbsV) : Prop := ∀ (B G0 : Hp) (σ : L2.St) (G H : Hp), Ok K B G0 E σ G H → ∀ Q : VK, (∀ p vs G' H', Ext G H G' H' → H' p = some (.lst vs) → PR G' vs l → Q (.ref p) H') → te σ H Q
/-- a new list -/
def EVF (K : PySem.W.Frag) (E : List Slot) (te : TE) (l : List AbsV) : Prop := ∀ (B G0 : Hp) (σ : L2.St) (G H : Hp), Ok K B G0 E σ G H → ∀ Q : VK, (∀ p vs G' H', Ext G H G' H' → H p = none → G' p = none → H' p = some (.lst vs) → PR G' vs l → Q (.ref p) H') → te σ H Q
def ET (K : PySem.W.Frag) (E : List Slot) (tt : TT) (b : Bool) : Prop := ∀ (B G0 : Hp) (σ : L2.St) (G H : Hp), Ok K B G0 E σ G H → ∀ Q : Bool → Hp → Prop, (∀ G' H', Ext G H G' H' → Q b H') → tt σ H Q
def ArgOk (K : PySem.W.Frag) (G H : Hp) : Slot → V → Prop
  | .un, _ => True
  | .val r, v => r.rep G v
  | .own _, _ => False
  | .red l, v => ∃ p vs, v = .ref p ∧ H p = some (.lst vs) ∧ PR G vs l
  | .scr ns, v => ∃ p, v = .ref p ∧ SqL K H p (ns.map V.int)
  | .dic _, _ => False
  | .ins _ _ _, _ => False
  | .nst _ _ _, _ => False
theorem ArgOk.ext {K : PySem.W.Frag} {G H G' H' : Hp} (x : Ext G H G' H') : ∀ {s : Slot} {v : V}, ArgOk K G H s v → ArgOk K G' H' s v
  | .un, _, h => h
  | .val r, _, h => r.mono x.g h
  | .own _, _, h => h
  | .red l, _, ⟨p, vs, e, h, q⟩ => ⟨p, vs, e, x.h _ _ h, q.mono x.g⟩
  | .scr ns, _, ⟨p, e, h⟩ => ⟨p, e, x.h.seq h⟩
  | .dic _, _, h => h
  | .ins _ _ _, _, h => h
  | .nst _ _ _, _, h => h
def EA (K : PySem.W.Frag) (E : List Slot) (ta : TA) (as : List Slot) : Prop := ∀ (B G0 : Hp) (σ : L2.St) (G H : Hp), Ok K B G0 E σ G H → ∀ Q : List V → Hp → Prop, (∀ vs G' H', Ext G H G' H' → Paired (ArgOk K G' H') as vs → Q vs H') → ta σ H Q
structure AE where
  nx : List Slot → Prop
  bk : List Slot → Prop
  ct : List Slot → Prop
  rt : Slot → Prop
  ex : List Slot → Addr → Prop := fun _ _ => False
  ew : Value → Option Addr → L2.St → Hp → Prop := fun _ _ _ _ => True
structure Sat (K : PySem.W.Frag) (B G0 : Hp) (A : AE) (D : Ends) : Prop where
  nx : ∀ E σ G H, A.nx E → Ok K B G0 E σ G H → D.nx σ H
  bk : ∀ E σ G H, A.bk E → Ok K B G0 E σ G H → D.bk σ H
  ct : ∀ E σ G H, A.ct E → Ok K B G0 E σ G H → D.ct σ H
  rtV : ∀ r v G H, A.rt (.val r) → OkB B G0 G H → r.rep G v → D.rt v H
  rtO : ∀ l p vs G H, A.rt (.own l) → OkB B G0 G H → B p = none → G p = none → H p = some (.lst vs) → PR G vs l → D.rt (.ref p) H
  ex : ∀ E σ G H C, A.ex E C → Ok K B G0 E σ G H → A.ew (.ref C) none σ H
def ES (K : PySem.W.Frag) (E : List Slot) (ts : TS) (A : AE) : Prop := ∀ (B G0 : Hp) (σ : L2.St) (G H : Hp) (D : Ends), Ok K B G0 E σ G H → Sat K B G0 A D → ts D σ H

section
variable {K : PySem.W.Frag} {E : List Slot} {ta tb tc te : TE} {t u : TT} {r s : AbsV} {l m : List AbsV}
theorem EVF.ev (h : EVF K E te l) : EV K E te (lsA l) := fun B G0 σ G H k Q q => h B G0 σ G H k Q fun p vs G' H' x hn g' h' pr =>
  q (.ref p) (upd G' p (.lst vs)) H' (x.freeze hn g' h') ⟨p, vs, rfl, upd_same, pr.mono (fun b u e => by rw [upd_ne (ne_of_none e g')]; exact e)⟩
theorem EVF.evl (h : EVF K E te l) : EVL K E te l := fun B G0 σ G H k Q q => h B G0 σ G H k Q fun p vs G' H' x _ _ h' pr => q p vs G' H' x h' pr
theorem EV.evl (h : EV K E te (lsA l)) : EVL K E te l := fun B G0 σ G H k Q q => h B G0 σ G H k Q fun v G' H' x ⟨p, vs, e, g, pr⟩ => by
  subst e
  exact q p vs G' H' x (x.gh _ _ g) pr
theorem EV.is (h : EV K E te r) (e : r = s) : EV K E te s := by
  rw [← e]; exact h
theorem ET.is {a b : Bool} (h : ET K E t a) (e : a = b) : ET K E t b := by
  rw [← e]; exact h
theorem EVL.is (h : EVL K E te l) (e : l = m) : EVL K E te m := by
  rw [← e]; exact h
theorem EVF.is (h : EVF K E te l) (e : l = m) : EVF K E te m := by
  rw [← e]; exact h

/-! names and constants -/
theorem ev_var {i : Nat} (h : E[i]? = some (.val r)) : EV K E (tVar i) r := fun B G0 σ G H k Q q => by
  obtain ⟨o, e, v, e2, rv⟩ := P_get k.sl h
  subst e2
  exact ⟨v, e, q v G H (Ext.refl k.gh) rv⟩
theorem evl_own {i : Nat} (h : E[i]? = some (.own l)) : EVL K E (tVar i) l := fun B G0 σ G H k Q q => by
  obtain ⟨o, e, p, vs, e2, b, g, hh, pr⟩ := P_get k.sl h
  subst e2
  exact ⟨.ref p, e, q p vs G H (Ext.refl k.gh) hh pr⟩
theorem evl_red {i : Nat} (h : E[i]? = some (.red l)) : EVL K E (tVar i) l := fun B G0 σ G H k Q q => by
  obtain ⟨o, e, p, vs, e2, b, pr⟩ := P_get k.sl h
  subst e2
  exact ⟨.ref p, e, q p vs G H (Ext.refl k.gh) (k.bh _ _ b) pr⟩
theorem evl_var {i : Nat} (h : E[i]? = some (.val (lsA l))) : EVL K E (tVar i) l := (ev_var h).evl
theorem ev_int {n : Int} : EV K E (tC (.int n)) (nI n) := fun B G0 σ G H k Q q => q _ G H (Ext.refl k.gh) rfl
theorem ev_bl {n : Bool} : EV K E (tC (.bl n)) (nB n) := fun B G0 σ G H k Q q => q _ G H (Ext.refl k.gh) rfl
theorem ev_str {n : Str} : EV K E (tC (.str n)) (nS n) := fun B G0 σ G H k Q q => q _ G H (Ext.refl k.gh) rfl
theorem ev_non : EV K E (tC .non) nN := fun B G0 σ G H k Q q => q _ G H (Ext.refl k.gh) rfl

/-! operators -/
/-- two operands, then what is asked of the values -/
theorem ev_two {R : R2} {z : AbsV} (ha : EV K E ta r) (hb : EV K E tb s) (hr : ∀ x y G H (Q : VK), Same G H → r.rep G x → s.rep G y → (∀ v, z.rep G v → Q v H) → R x y H Q) : EV K E (tOp R ta tb) z := fun B G0 σ G H k Q q =>
  ha B G0 σ G H k _ fun x G1 H1 x1 r1 => hb B G0 σ G1 H1 (k.ext x1) _ fun y G2 H2 x2 r2 => hr x y G2 H2 Q x2.gh (r.mono x2.g r1) r2 fun v rv => q v G2 H2 (x1.trans x2) rv
theorem ev_I0 {g : Int → Int → V} {a b : Int} (ha : EV K E ta (nI a)) (hb : EV K E tb (nI b)) : EV K E (tOp (rI0 g) ta tb) (flA (g a b)) :=
  ev_two ha hb fun x y G H Q _ hx hy q => ⟨a, b, hx, hy, q _ rfl⟩
theorem ev_I {C : Int → Int → Prop} {g : Int → Int → V} {a b : Int} (ha : EV K E ta (nI a)) (hb : EV K E tb (nI b)) (hc : C a b) : EV K E (tOp (rI C g) ta tb) (flA (g a b)) :=
  ev_two ha hb fun x y G H Q _ hx hy q => ⟨a, b, hx, hy, hc, q _ rfl⟩
theorem ev_U {g : Int → V} {a : Int} (ha : EV K E ta (nI a)) : EV K E (tUn (rU g) ta) (flA (g a)) := fun B G0 σ G H k Q q =>
  ha B G0 σ G H k _ fun x G1 H1 x1 r1 => ⟨a, r1, q _ G1 H1 x1 rfl⟩
/-- == and != of flat values -/
theorem ev_eq {a b : V} (ha : EV K E ta (flA a)) (hb : EV K E tb (flA b)) (hs : scal a b = true) : EV K E (tOp rEq ta tb) (nB (decide (a = b))) :=
  ev_two ha hb fun x y G H Q _ hx hy q => by
    cases hx; cases hy
    exact ⟨hs, q _ rfl⟩
theorem ev_ne {a b : V} (ha : EV K E ta (flA a)) (hb : EV K E tb (flA b)) (hs : scal a b = true) : EV K E (tOp rNe ta tb) (nB (!decide (a = b))) :=
  ev_two ha hb fun x y G H Q _ hx hy q => by
    cases hx; cases hy
    exact ⟨hs, q _ rfl⟩
theorem dec_int (a b : Int) : decide (V.int a = V.int b) = decide (a = b) := by
  by_cases h : a = b
  · rw [h]; simp
  · rw [decide_eq_false h, decide_eq_false (fun z => h (by cases z; rfl))]
theorem ev_eqI {a b : Int} (ha : EV K E ta (nI a)) (hb : EV K E tb (nI b)) : EV K E (tOp rEq ta tb) (nB (decide (a = b))) := by
  have h := ev_eq ha hb rfl
  rw [dec_int] at h; exact h
theorem ev_neI {a b : Int} (ha : EV K E ta (nI a)) (hb : EV K E tb (nI b)) : EV K E (tOp rNe ta tb) (nB (!decide (a = b))) := by
  have h := ev_ne ha hb rfl
  rw [dec_int] at h; exact h

/-! tests -/
theorem et_test {b : Bool} (h : EV K E te (nB b)) : ET K E (tTest te) b := fun B G0 σ G H k Q q => h B G0 σ G H k _ fun v G' H' x rv => ⟨b, rv, q G' H' x⟩
theorem et_B {b : Bool} (h : EV K E te (nB b)) : ET K E (tB te) b := fun B G0 σ G H k Q q => h B G0 σ G H k _ fun v G' H' x rv => ⟨b, rv, q G' H' x⟩
theorem et_and {a b : Bool} (h1 : ET K E t a) (h2 : a = true → ET K E u b) : ET K E (tAnd t u) (a && b) := fun B G0 σ G H k Q q => h1 B G0 σ G H k _ fun G1 H1 x1 => by
  cases a with
  | true =>
    show u σ H1 Q
    exact h2 rfl B G0 σ G1 H1 (k.ext x1) Q fun G2 H2 x2 => q G2 H2 (x1.trans x2)
  | false => exact q G1 H1 x1
theorem et_or {a b : Bool} (h1 : ET K E t a) (h2 : a = false → ET K E u b) : ET K E (tOr t u) (a || b) := fun B G0 σ G H k Q q => h1 B G0 σ G H k _ fun G1 H1 x1 => by
  cases a with
  | true => exact q G1 H1 x1
  | false =>
    show u σ H1 Q
    exact h2 rfl B G0 σ G1 H1 (k.ext x1) Q fun G2 H2 x2 => q G2 H2 (x1.trans x2)
theorem et_not {a : Bool} (h1 : ET K E t a) : ET K E (tNot t) (!a) := fun B G0 σ G H k Q q => h1 B G0 σ G H k _ q
theorem ev_andV {a b : Bool} (h1 : EV K E ta (nB a)) (h2 : a = true → EV K E tb (nB b)) : EV K E (tAndV ta tb) (nB (a && b)) := fun B G0 σ G H k Q q => h1 B G0 σ G H k _ fun v G1 H1 x1 r1 => ⟨a, r1, by
  cases a with
  | true =>
    show tb σ H1 Q
    exact h2 rfl B G0 σ G1 H1 (k.ext x1) Q fun v G2 H2 x2 r2 => q v G2 H2 (x1.trans x2) r2
  | false => exact q _ G1 H1 x1 rfl⟩
theorem ev_orV {a b : Bool} (h1 : EV K E ta (nB a)) (h2 : a = false → EV K E tb (nB b)) : EV K E (tOrV ta tb) (nB (a || b)) := fun B G0 σ G H k Q q => h1 B G0 σ G H k _ fun v G1 H1 x1 r1 => ⟨a, r1, by
  cases a with
  | true => exact q _ G1 H1 x1 rfl
  | false =>
    show tb σ H1 Q
    exact h2 rfl B G0 σ G1 H1 (k.ext x1) Q fun v G2 H2 x2 r2 => q v G2 H2 (x1.trans x2) r2⟩
theorem ev_notV {a : Bool} (h1 : EV K E ta (nB a)) : EV K E (tNotV ta) (nB (!a)) := fun B G0 σ G H k Q q => h1 B G0 σ G H k _ fun v G1 H1 x1 r1 => ⟨a, r1, q _ G1 H1 x1 rfl⟩
theorem ev_if {b : Bool} (h : ET K E t b) (h1 : b = true → EV K E ta r) (h2 : b = false → EV K E tb r) : EV K E (tIf t ta tb) r := fun B G0 σ G H k Q q => h B G0 σ G H k _ fun G1 H1 x1 => by
  cases b with
  | true =>
    show ta σ H1 Q
    exact h1 rfl B G0 σ G1 H1 (k.ext x1) Q fun v G2 H2 x2 r2 => q v G2 H2 (x1.trans x2) r2
  | false =>
    show tb σ H1 Q
    exact h2 rfl B G0 σ G1 H1 (k.ext x1) Q fun v G2 H2 x2 r2 => q v G2 H2 (x1.trans x2) r2
theorem ev_chain {p : Bool} {R R' : R2} {a b c : AbsV} {z : Bool} (ha : EV K E ta a) (hb : EV K E tb b) (hr : ∀ x y G H (Q : VK), Same G H → a.rep G x → b.rep G y → (Q (.bl p) H) → R x y H Q)
    (hc : p = true → EV K E tc c) (hr' : p = true → ∀ x y G H (Q : VK), Same G H → b.rep G x → c.rep G y → Q (.bl z) H → R' x y H Q) : EV K E (tChain R R' ta tb tc) (nB (p && z)) := fun B G0 σ G H k Q q =>
  ha B G0 σ G H k _ fun x G1 H1 x1 r1 => hb B G0 σ G1 H1 (k.ext x1) _ fun y G2 H2 x2 r2 => hr x y G2 H2 _ x2.gh (a.mono x2.g r1) r2 ⟨p, rfl, by
    cases p with
    | true => exact hc rfl B G0 σ G2 H2 ((k.ext x1).ext x2) _ fun w G3 H3 x3 r3 => hr' rfl y w G3 H3 Q x3.gh (b.mono x3.g r2) r3 (q _ G3 H3 ((x1.trans x2).trans x3) rfl)
    | false => exact q _ G2 H2 (x1.trans x2) rfl⟩
theorem ev_chI {g g' : Int → Int → Bool} {a b c : Int} (ha : EV K E ta (nI a)) (hb : EV K E tb (nI b)) (hc : EV K E tc (nI c)) :
    EV K E (tChain (rI0 fun i j => .bl (g i j)) (rI0 fun i j => .bl (g' i j)) ta tb tc) (nB (g a b && g' b c)) :=
  ev_chain (p := g a b) ha hb (fun x y G H Q _ hx hy q => ⟨a, b, hx, hy, q⟩) (fun _ => hc) fun _ x y G H Q _ hx hy q => ⟨b, c, hx, hy, q⟩

/-! arguments -/
theorem ea_nil : EA K E tNil [] := fun B G0 σ G H k Q q => q [] G H (Ext.refl k.gh) .nil
theorem ea_val {tr : TA} {as : List Slot} (h : EV K E te r) (hr : EA K E tr as) : EA K E (tCons te tr) (.val r :: as) := fun B G0 σ G H k Q q =>
  h B G0 σ G H k _ fun v G1 H1 x1 r1 => hr B G0 σ G1 H1 (k.ext x1) _ fun vs G2 H2 x2 p2 => q (v :: vs) G2 H2 (x1.trans x2) (.cons (r.mono x2.g r1) p2)
theorem ea_red {tr : TA} {as : List Slot} (h : EVL K E te l) (hr : EA K E tr as) : EA K E (tCons te tr) (.red l :: as) := fun B G0 σ G H k Q q =>
  h B G0 σ G H k _ fun p vs G1 H1 x1 h1 r1 => hr B G0 σ G1 H1 (k.ext x1) _ fun ws G2 H2 x2 p2 => q (.ref p :: ws) G2 H2 (x1.trans x2) (.cons ⟨p, vs, rfl, x2.h _ _ h1, r1.mono x2.g⟩ p2)
theorem ea_scr {tr : TA} {as : List Slot} {i : Nat} {ns : List Int} (h : E[i]? = some (.scr ns)) (hr : EA K E tr as) : EA K E (tCons (tVar i) tr) (.scr ns :: as) := fun B G0 σ G H k Q q => by
  obtain ⟨o, e, p, e2, hs⟩ := P_get k.sl h
  subst e2
  exact ⟨.ref p, e, hr B G0 σ G H k _ fun ws G2 H2 x2 p2 => q (.ref p :: ws) G2 H2 x2 (.cons ⟨p, rfl, x2.h.seq (k.bh.seq hs)⟩ p2)⟩
theorem args_pr {G H : Hp} : ∀ {l : List AbsV} {vs : List V}, Paired (ArgOk K G H) (l.map Slot.val) vs → PR G vs l
  | [], _, h => by cases h; exact .nil
  | a :: l, _, h => by
    cases h with
    | cons h t => exact .cons h (args_pr t)

/-! displays -/
theorem small {n : Nat} (h : n ≤ 100000) : n ≤ sizeLine := Nat.le_trans h (by decide)
theorem smallT {n : Nat} (h : n < 100000) : n < sizeLine := Nat.lt_of_lt_of_le h (by decide)
def EAV (K : PySem.W.Frag) (E : List Slot) (ta : TA) (l : List AbsV) : Prop := EA K E ta (l.map Slot.val)
theorem eav_nil : EAV K E tNil [] := ea_nil
theorem eav_cons {tr : TA} (h : EV K E te r) (hr : EAV K E tr l) : EAV K E (tCons te tr) (r :: l) := ea_val h hr
theorem evf_lst {ta : TA} (h : EAV K E ta l) (hl : l.length ≤ 100000) : EVF K E (tLst ta) l := fun B G0 σ G H k Q q =>
  h B G0 σ G H k _ fun vs G1 H1 x1 a => by
    have pr := args_pr a
    exact ⟨by rw [pr.len]; exact small hl, fun p hp => q p vs G1 _ (x1.trans (Ext.newO x1.gh hp)) (x1.h.free hp) (x1.gh.free hp) upd_same pr⟩
theorem ev_tup {ta : TA} (h : EAV K E ta l) (hl : l.length ≤ 100000) : EV K E (tTup ta) (tuA l) := fun B G0 σ G H k Q q =>
  h B G0 σ G H k _ fun vs G1 H1 x1 a => by
    have pr := args_pr a
    exact ⟨by rw [pr.len]; exact small hl, fun p hp => q (.ref p) _ _ (x1.trans (Ext.new x1.gh hp)) ⟨p, vs, rfl, upd_same, pr.mono (Ext.new x1.gh hp).g⟩⟩

/-! calls of built-ins -/
theorem ev_cb1 {R : List V → Hp → VK → Prop} {z : AbsV} (h : EV K E te r) (hr : ∀ v G H (Q : VK), Same G H → r.rep G v → (∀ w, z.rep G w → Q w H) → R [v] H Q) : EV K E (tCB R (tCons te tNil)) z := fun B G0 σ G H k Q q =>
  h B G0 σ G H k _ fun v G1 H1 x1 r1 => hr v G1 H1 Q x1.gh r1 fun w rw' => q w G1 H1 x1 rw'
theorem ev_cb2 {R : List V → Hp → VK → Prop} {z : AbsV} (ha : EV K E ta r) (hb : EV K E tb s) (hr : ∀ v w G H (Q : VK), Same G H → r.rep G v → s.rep G w → (∀ y, z.rep G y → Q y H) → R [v, w] H Q) : EV K E (tCB R (tCons ta (tCons tb tNil))) z := fun B G0 σ G H k Q q =>
  ha B G0 σ G H k _ fun v G1 H1 x1 r1 => hb B G0 σ G1 H1 (k.ext x1) _ fun w G2 H2 x2 r2 => hr v w G2 H2 Q x2.gh (r.mono x2.g r1) r2 fun y ry => q y G2 H2 (x1.trans x2) ry
theorem ev_cbL {R : List V → Hp → VK → Prop} {z : AbsV} (h : EVL K E te l) (hr : ∀ p vs G H (Q : VK), Same G H → H p = some (.lst vs) → PR G vs l → (∀ w, z.rep G w → Q w H) → R [.ref p] H Q) : EV K E (tCB R (tCons te tNil)) z := fun B G0 σ G H k Q q =>
  h B G0 σ G H k _ fun p vs G1 H1 x1 h1 r1 => hr p vs G1 H1 Q x1.gh h1 r1 fun w rw' => q w G1 H1 x1 rw'
theorem ev_abs {a : Int} (h : EV K E te (nI a)) : EV K E (tCB (fun xs H Q => ∃ i, xs = [.int i] ∧ Q (.int (if i < 0 then -i else i)) H) (tCons te tNil)) (nI (if a < 0 then -a else a)) :=
  ev_cb1 h fun v G H Q _ e q => ⟨a, by rw [e], q _ rfl⟩
theorem ev_max2 {a b : Int} (ha : EV K E ta (nI a)) (hb : EV K E tb (nI b)) : EV K E (tCB (fun xs H Q => ∃ i j, xs = [.int i, .int j] ∧ Q (.int (if j > i then j else i)) H) (tCons ta (tCons tb tNil))) (nI (if b > a then b else a)) :=
  ev_cb2 ha hb fun v w G H Q _ e e2 q => ⟨a, b, by rw [e, e2], q _ rfl⟩
theorem ev_min2 {a b : Int} (ha : EV K E ta (nI a)) (hb : EV K E tb (nI b)) : EV K E (tCB (fun xs H Q => ∃ i j, xs = [.int i, .int j] ∧ Q (.int (if j < i then j else i)) H) (tCons ta (tCons tb tNil))) (nI (if b < a then b else a)) :=
  ev_cb2 ha hb fun v w G H Q _ e e2 q => ⟨a, b, by rw [e, e2], q _ rfl⟩
theorem ev_int1 {a : Int} (h : EV K E te (nI a)) : EV K E (tCB (fun xs H Q => (∃ i, xs = [.int i] ∧ Q (.int i) H) ∨ ∃ k, xs = [.bl k] ∧ Q (.int (if k then 1 else 0)) H) (tCons te tNil)) (nI a) :=
  ev_cb1 h fun v G H Q _ e q => .inl ⟨a, by rw [e], q _ rfl⟩
theorem ev_intB {b : Bool} (h : EV K E te (nB b)) : EV K E (tCB (fun xs H Q => (∃ i, xs = [.int i] ∧ Q (.int i) H) ∨ ∃ k, xs = [.bl k] ∧ Q (.int (if k then 1 else 0)) H) (tCons te tNil)) (nI (if b then 1 else 0)) :=
  ev_cb1 h fun v G H Q _ e q => .inr ⟨b, by rw [e], q _ rfl⟩
theorem ev_len (h : EVL K E te l) : EV K E (tCB (fun xs H Q => ∃ p ys, xs = [.ref p] ∧ (SqL K H p ys ∨ SqT K H p ys) ∧ Q (.int ys.length) H) (tCons te tNil)) (nI l.length) :=
  ev_cbL h fun p vs G H Q _ e pr q => ⟨p, vs, rfl, .inl (SqL.of e), q _ (by rw [pr.len]; rfl)⟩
theorem ev_lenT (h : EV K E te (tuA l)) : EV K E (tCB (fun xs H Q => ∃ p ys, xs = [.ref p] ∧ (SqL K H p ys ∨ SqT K H p ys) ∧ Q (.int ys.length) H) (tCons te tNil)) (nI l.length) :=
  ev_cb1 h fun v G H Q s ⟨p, vs, e, g, pr⟩ q => ⟨p, vs, by rw [e], .inr (SqT.of (s _ _ g)), q _ (by rw [pr.len]; rfl)⟩
theorem ev_lenS {i : Nat} {ns : List Int} (h : E[i]? = some (.scr ns)) : EV K E (tCB (fun xs H Q => ∃ p ys, xs = [.ref p] ∧ (SqL K H p ys ∨ SqT K H p ys) ∧ Q (.int ys.length) H) (tCons (tVar i) tNil)) (nI ns.length) := fun B G0 σ G H k Q q => by
  obtain ⟨o, e, p, e2, hs⟩ := P_get k.sl h
  subst e2
  exact ⟨.ref p, e, p, _, rfl, .inl (k.bh.seq hs), q _ G H (Ext.refl k.gh) (by rw [List.length_map]; rfl)⟩
theorem evf_list (h : EVL K E te l) : EVF K E (tCB (fun xs H Q => ∃ p ys, xs = [.ref p] ∧ (SqL K H p ys ∨ SqT K H p ys) ∧ ∀ l, H l = none → Q (.ref l) (upd H l (.lst ys))) (tCons te tNil)) l := fun B G0 σ G H k Q q =>
  h B G0 σ G H k _ fun p vs G1 H1 x1 h1 r1 => ⟨p, vs, rfl, .inl (SqL.of h1), fun z hz => q z vs G1 _ (x1.trans (Ext.newO x1.gh hz)) (x1.h.free hz) (x1.gh.free hz) upd_same r1⟩

/-! items -/
theorem ev_ixL {i : Nat} {n : Int} (ha : EVL K E ta l) (hb : EV K E tb (nI n)) (hn : n = (i : Int)) (hi : l[i]? = some r) : EV K E (tOp (rIxL K) ta tb) r := fun B G0 σ G H k Q q =>
  ha B G0 σ G H k _ fun p vs G1 H1 x1 h1 r1 => hb B G0 σ G1 H1 (k.ext x1) _ fun y G2 H2 x2 r2 => by
    obtain ⟨v, hv, rv⟩ := (r1.mono x2.g).get hi
    exact ⟨p, vs, n, v, rfl, r2, SqL.of (x2.h _ _ h1), at_of hn hv, q v G2 H2 (x1.trans x2) rv⟩
theorem atI_last {α : Type} {xs : List α} {v : α} (h : xs.getLast? = some v) : atI xs (-1) = some v := by
  rw [List.getLast?_eq_getElem?] at h
  have hl : xs.length - 1 < xs.length := by
    have := List.getElem?_eq_some_iff.mp h
    exact this.1
  unfold atI ixN
  rw [if_neg (by decide), if_pos (by omega)]
  have e : ((-1 : Int) + (xs.length : Int)).toNat = xs.length - 1 := by omega
  show xs[((-1 : Int) + (xs.length : Int)).toNat]? = some v
  rw [e]; exact h
theorem ev_ixLast {i : Nat} (ha : EVL K E ta l) (hb : EV K E tb (nI (-1))) (hi : l.getLast? = some r) : EV K E (tOp (rIxL K) ta tb) r := fun B G0 σ G H k Q q =>
  ha B G0 σ G H k _ fun p vs G1 H1 x1 h1 r1 => hb B G0 σ G1 H1 (k.ext x1) _ fun y G2 H2 x2 r2 => by
    rw [List.getLast?_eq_getElem?, ← r1.len] at hi
    obtain ⟨v, hv, rv⟩ := (r1.mono x2.g).get hi
    exact ⟨p, vs, -1, v, rfl, r2, SqL.of (x2.h _ _ h1), atI_last (by rw [List.getLast?_eq_getElem?]; exact hv), q v G2 H2 (x1.trans x2) rv⟩
theorem ev_ixT {i : Nat} {n : Int} (ha : EV K E ta (tuA l)) (hb : EV K E tb (nI n)) (hn : n = (i : Int)) (hi : l[i]? = some r) : EV K E (tOp (rIxT K) ta tb) r := fun B G0 σ G H k Q q =>
  ha B G0 σ G H k _ fun x G1 H1 x1 ⟨p, vs, e, g1, r1⟩ => hb B G0 σ G1 H1 (k.ext x1) _ fun y G2 H2 x2 r2 => by
    obtain ⟨v, hv, rv⟩ := (r1.mono x2.g).get hi
    subst e
    exact ⟨p, vs, n, v, rfl, r2, SqT.of (x2.gh _ _ (x2.g _ _ g1)), at_of hn hv, q v G2 H2 (x1.trans x2) rv⟩
end
end Ab

namespace Ab
open PySem PySem.Spec PyProof.Rows L2
section
variable {K : PySem.W.Frag} {E : List Slot} {ta tb tc te : TE} {t u : TT} {ts us : TS} {r s : AbsV} {l m : List AbsV} {A : AE}
theorem Ok.g0' {B G0 G1 G H : Hp} {σ : L2.St} (k1 : OkB B G0 G1 H) : True := trivial
theorem OkB.via {B G0 G1 H1 G H : Hp} (a : OkB B G0 G1 H1) (b : OkB B G1 G H) : OkB B G0 G H :=
  ⟨b.bh, b.gh, a.g0.trans b.g0, fun p h e => b.nb p h (a.nb p h e)⟩
theorem OkB.here {B G0 G H : Hp} (a : OkB B G0 G H) : OkB B G G H := ⟨a.bh, a.gh, Same.refl _, fun _ _ e => e⟩
theorem Ok.via {B G0 G1 H1 G H : Hp} {σ : L2.St} (a : OkB B G0 G1 H1) (b : Ok K B G1 E σ G H) : Ok K B G0 E σ G H := ⟨a.via b.toOkB, b.sl, b.ds, b.dn⟩
theorem Ok.here {B G0 G H : Hp} {σ : L2.St} (a : Ok K B G0 E σ G H) : Ok K B G E σ G H := ⟨a.toOkB.here, a.sl, a.ds, a.dn⟩
/-- from a later start the same ends are met -/
theorem Sat.later {B G0 G1 H1 : Hp} {D : Ends} (S : Sat K B G0 A D) (a : OkB B G0 G1 H1) : Sat K B G1 A D :=
  ⟨fun E σ G H h k => S.nx E σ G H h (k.via a), fun E σ G H h k => S.bk E σ G H h (k.via a), fun E σ G H h k => S.ct E σ G H h (k.via a),
    fun r v G H h k q => S.rtV r v G H h (a.via k) q, fun l p vs G H h k b g e pr => S.rtO l p vs G H h (a.via k) b g e pr, fun E σ G H C h k => S.ex E σ G H C h (k.via a)⟩
/-- from now on -/
theorem ES.imp {A' : AE} (h : ES K E ts A) (hn : ∀ E, A.nx E → A'.nx E) (hb : ∀ E, A.bk E → A'.bk E) (hc : ∀ E, A.ct E → A'.ct E) (hr : ∀ s, A.rt s → A'.rt s) (hx : ∀ E C, A.ex E C → A'.ex E C := by exact fun _ _ h => h) (he : A.ew = A'.ew := by rfl) : ES K E ts A' := fun B G0 σ G H D k S =>
  h B G0 σ G H D k ⟨fun E σ G H z => S.nx E σ G H (hn E z), fun E σ G H z => S.bk E σ G H (hb E z), fun E σ G H z => S.ct E σ G H (hc E z), fun r v G H z => S.rtV r v G H (hr _ z), fun l p vs G H z => S.rtO l p vs G H (hr _ z), fun E σ G H C z k => by rw [he]; exact S.ex E σ G H C (hx E C z) k⟩

theorem es_next (h : A.nx E) : ES K E tNext A := fun B G0 σ G H D k S => S.nx E σ G H h k
theorem es_break (h : A.bk E) : ES K E tBreak A := fun B G0 σ G H D k S => S.bk E σ G H h k
theorem es_cont (h : A.ct E) : ES K E tCont A := fun B G0 σ G H D k S => S.ct E σ G H h k
theorem es_seq (h : ES K E ts { A with nx := fun E' => ES K E' us A }) : ES K E (tSeq ts us) A := fun B G0 σ G H D k S =>
  h B G0 σ G H { D with nx := us D } k ⟨fun E' σ' G' H' h' k' => h' B G0 σ' G' H' D k' S, S.bk, S.ct, S.rtV, S.rtO, S.ex⟩
theorem es_asg {i : Nat} (h : EV K E te r) (q : A.nx (E.set i (.val r))) : ES K E (tAsg te (gName i)) A := fun B G0 σ G H D k S =>
  h B G0 σ G H k _ fun v G1 H1 x1 r1 => S.nx _ _ G1 H1 q ((k.ext x1).set i ⟨v, rfl, r1⟩ rfl)
theorem es_asgF {i : Nat} (h : EVF K E te l) (q : A.nx (E.set i (.own l))) : ES K E (tAsg te (gName i)) A := fun B G0 σ G H D k S =>
  h B G0 σ G H k _ fun p vs G1 H1 x1 hn g1 h1 r1 => S.nx _ _ G1 H1 q ((k.ext x1).setM i (s := .own l) ⟨p, vs, rfl, k.bh.free hn, g1, h1, r1⟩ fun j s' hj e m => k.fresh hn e m)
theorem es_drop (h : EV K E te r) (q : A.nx E) : ES K E (tDrop te) A := fun B G0 σ G H D k S =>
  h B G0 σ G H k _ fun v G1 H1 x1 r1 => S.nx _ _ G1 H1 q (k.ext x1)
theorem es_ret (h : EV K E te r) (q : A.rt (.val r)) : ES K E (tRet te) A := fun B G0 σ G H D k S =>
  h B G0 σ G H k _ fun v G1 H1 x1 r1 => S.rtV r v G1 H1 q (k.toOkB.ext x1) r1
theorem es_retN (q : A.rt (.val nN)) : ES K E tRetN A := fun B G0 σ G H D k S => S.rtV _ _ G H q k.toOkB rfl
theorem es_retF (h : EVF K E te l) (q : A.rt (.own l)) : ES K E (tRet te) A := fun B G0 σ G H D k S =>
  h B G0 σ G H k _ fun p vs G1 H1 x1 hn g1 h1 r1 => S.rtO l p vs G1 H1 q (k.toOkB.ext x1) (k.bh.free hn) g1 h1 r1
theorem es_retO {i : Nat} (h : E[i]? = some (.own l)) (q : A.rt (.own l)) : ES K E (tRet (tVar i)) A := fun B G0 σ G H D k S => by
  obtain ⟨o, e, p, vs, e2, b, g, hh, pr⟩ := P_get k.sl h
  subst e2
  exact ⟨.ref p, e, S.rtO l p vs G H q k.toOkB b g hh pr⟩
theorem es_if {b : Bool} (h : ET K E t b) (h1 : b = true → ES K E ts A) (h2 : b = false → ES K E us A) : ES K E (tIfS t ts us) A := fun B G0 σ G H D k S =>
  h B G0 σ G H k _ fun G1 H1 x1 => by
    cases b with
    | true => exact h1 rfl B G0 σ G1 H1 D (k.ext x1) S
    | false => exact h2 rfl B G0 σ G1 H1 D (k.ext x1) S
theorem es_aug {i : Nat} {f : Int → Int → Int} {a b : Int} (hx : E[i]? = some (.val (nI a))) (h : EV K E te (nI b)) (q : A.nx (E.set i (.val (nI (f a b))))) : ES K E (tAug i te (ipI f)) A := fun B G0 σ G H D k S => by
  obtain ⟨o, e, v, e2, rv⟩ := P_get k.sl hx
  subst e2
  cases rv
  exact ⟨.int a, e, h B G0 σ G H k _ fun v G1 H1 x1 r1 => ⟨a, b, rfl, r1, S.nx _ _ G1 H1 q ((k.ext x1).set i ⟨_, rfl, rfl⟩ rfl)⟩⟩
/-- an own list is known for good from now on -/
theorem es_freeze {i : Nat} (h : E[i]? = some (.own l)) (q : ES K (E.set i (.val (lsA l))) ts A) : ES K E ts A := fun B G0 σ G H D k S => by
  obtain ⟨o, e, p, vs, e2, b, g, hh, pr⟩ := P_get k.sl h
  subst e2
  have sg : Same G (upd G p (.lst vs)) := fun b u e => by rw [upd_ne (ne_of_none e g)]; exact e
  exact q B G0 σ _ H D (k.freezeM h rfl e hh ⟨p, vs, rfl, upd_same, pr.mono sg⟩) S
theorem es_freezeD {i : Nat} {kvs : List (Key × AbsV)} (h : E[i]? = some (.dic kvs)) (q : ES K (E.set i (.val (dcA kvs))) ts A) : ES K E ts A := fun B G0 σ G H D k S => by
  obtain ⟨o, e, p, vs, e2, b, g, hh, pr⟩ := P_get k.sl h
  subst e2
  have sg : Same G (upd G p (.dK vs)) := fun b u e => by rw [upd_ne (ne_of_none e g)]; exact e
  exact q B G0 σ _ H D (k.freezeM h rfl e hh ⟨p, vs, rfl, upd_same, pr.mono sg⟩) S
theorem es_freezeI {i : Nat} {p C : Addr} {fs : List (Str × AbsV)} (h : E[i]? = some (.ins p C fs)) (q : ES K (E.set i (.val (iaA p C fs))) ts A) : ES K E ts A := fun B G0 σ G H D k S => by
  obtain ⟨o, e, dx, vs, e2, b, g, hh, pr⟩ := P_get k.sl h
  subst e2
  have sg : Same G (upd G p (.ins C dx vs)) := fun b u e => by rw [upd_ne (ne_of_none e g)]; exact e
  exact q B G0 σ _ H D (k.freezeM h rfl e hh ⟨rfl, dx, vs, upd_same, pr.mono sg⟩) S
/-- an own list changes -/
theorem Ok.upd {B G0 G H : Hp} {σ : L2.St} {i : Nat} {p : Addr} {vs : List V} (k : Ok K B G0 E σ G H) (h : E[i]? = some (.own l)) (e : σ[i]? = some (some (.ref p))) (pr : PR G vs m) : Ok K B G0 (E.set i (.own m)) σ G (upd H p (.lst vs)) := by
  obtain ⟨o, eO, pO, ws, e2, b, g, hh, _⟩ := P_get k.sl h
  have e3 : some (V.ref p) = some (V.ref pO) := by rw [e] at eO; rw [← e2]; exact Option.some.inj eO
  cases e3
  exact k.updM h rfl e ⟨p, vs, rfl, b, g, upd_same, pr⟩
theorem es_app {i : Nat} (hx : E[i]? = some (.own l)) (h : EV K E te r) (hl : l.length < 100000) (q : A.nx (E.set i (.own (l ++ [r])))) : ES K E (tDrop (tBM K "list" rAppend (tVar i) (tCons te tNil))) A := fun B G0 σ G H D k S => by
  obtain ⟨o, e, p, vs, e2, b, g, hh, pr⟩ := P_get k.sl hx
  subst e2
  refine ⟨.ref p, e, .inl ⟨rfl, _, SqL.of hh⟩, h B G0 σ G H k _ fun v G1 H1 x1 r1 => ?_⟩
  have k1 := k.ext x1
  exact ⟨p, vs, v, rfl, rfl, x1.h _ _ hh, by rw [pr.len]; exact smallT hl, S.nx _ _ _ _ q (k1.upd hx e ((pr.mono x1.g).append (.cons r1 .nil)))⟩
end
end Ab

namespace Ab
open PySem PySem.Spec PyProof.Rows L2
section
variable {K : PySem.W.Frag} {E : List Slot} {ta tb tc te : TE} {t u : TT} {ts us : TS} {r s : AbsV} {l m : List AbsV} {A : AE}
/-! loops -/
/-- the ends of a loop's turn -/
abbrev AE.turn (A : AE) (P : List Slot → Prop) : AE := { nx := P, ct := P, bk := A.nx, rt := A.rt, ex := A.ex, ew := A.ew }
theorem sat_turn {B G0 G1 H1 : Hp} {D : Ends} {P : List Slot → Prop} {N : L2.St → Hp → Prop} (S : Sat K B G0 A D) (o : OkB B G0 G1 H1) (h : ∀ E σ G H, P E → Ok K B G1 E σ G H → N σ H) : Sat K B G1 (A.turn P) { D with nx := N, ct := N, bk := D.nx } :=
  ⟨h, (S.later o).nx, h, (S.later o).rtV, (S.later o).rtO, (S.later o).ex⟩
/-- a target is stored to: what the slots are then -/
def GT (K : PySem.W.Frag) (g : TG) (r : AbsV) (E E' : List Slot) : Prop := ∀ (B G0 : Hp) (σ : L2.St) (G H : Hp) (v : V), Ok K B G0 E σ G H → r.rep G v → ∀ Q : L2.St → Hp → Prop, (∀ σ', Ok K B G0 E' σ' G H → Q σ' H) → g v σ H Q
theorem gt_name {i : Nat} : GT K (gName i) r E (E.set i (.val r)) := fun B G0 σ G H v k rv Q q => q _ (k.set i ⟨v, rfl, rv⟩ rfl)
def GTs (K : PySem.W.Frag) (g : TGs) (l : List AbsV) (E E' : List Slot) : Prop := ∀ (B G0 : Hp) (σ : L2.St) (G H : Hp) (vs : List V), Ok K B G0 E σ G H → PR G vs l → ∀ Q : L2.St → Hp → Prop, (∀ σ', Ok K B G0 E' σ' G H → Q σ' H) → g vs σ H Q
theorem gts_nil : GTs K gNil [] E E := fun B G0 σ G H vs k pr Q q => by
  cases pr
  exact ⟨rfl, q σ k⟩
theorem gts_cons {g : TG} {gs : TGs} {E1 E2 : List Slot} (h : GT K g r E E1) (hs : GTs K gs l E1 E2) : GTs K (gCons g gs) (r :: l) E E2 := fun B G0 σ G H vs k pr Q q => by
  cases pr with
  | cons a t => exact ⟨_, _, rfl, h B G0 σ G H _ k a _ fun σ' k' => hs B G0 σ' G H _ k' t Q q⟩
theorem gt_tup {n : Nat} {gs : TGs} {E' : List Slot} (h : GTs K gs l E E') (hn : l.length = n := by rfl) : GT K (gTup K n gs) (tuA l) E E' := fun B G0 σ G H v k ⟨p, vs, e, g, pr⟩ Q q =>
  ⟨p, vs, e, SqT.of (k.gh _ _ g), by rw [pr.len]; exact hn, h B G0 σ G H vs k pr Q q⟩
/-- target = e -/
theorem es_asgG {g : TG} {E' : List Slot} (h : EV K E te r) (hg : GT K g r E E') (q : A.nx E') : ES K E (tAsg te g) A := fun B G0 σ G H D k S =>
  h B G0 σ G H k _ fun v G1 H1 x1 r1 => hg B G0 σ G1 H1 v (k.ext x1) r1 _ fun σ' k' => S.nx _ _ G1 H1 q k'
/-- over a range -/
theorem es_forR {lo : Int} {n : Nat} {wi : TI} {g : TG} (P : Nat → List Slot → Prop) (hw : ∀ (B G0 : Hp) (σ : L2.St) (G H : Hp), Ok K B G0 E σ G H → ∀ R : It → Hp → Prop, (∀ G' H', Ext G H G' H' → R (Itr lo n) H') → wi σ H R)
    (h0 : P 0 E) (hs : ∀ i E', i < n → P i E' → ∃ E2, GT K g (nI (lo + i)) E' E2 ∧ ES K E2 ts (A.turn (P (i + 1)))) (hd : ∀ E', P n E' → A.nx E') : ES K E (tFor wi g ts) A := fun B G0 σ G H D k S =>
  hw B G0 σ G H k _ fun G1 H1 x1 => by
    have k1 := k.ext x1
    refine for_range (fun i σ' H' => ∃ E' G', P i E' ∧ Ok K B G1 E' σ' G' H') ⟨E, G1, h0, k1.here⟩ ?_ ?_
    · rintro i σ' H' hi ⟨E', G', hp, k'⟩
      obtain ⟨E2, hg, hb⟩ := hs i E' hi hp
      refine hg B G1 σ' G' H' _ k' rfl _ fun σ2 k2 => ?_
      refine hb B G1 σ2 G' H' _ k2 (sat_turn S k1.toOkB fun E3 σ3 G3 H3 h3 k3 => ⟨E3, G3, h3, k3⟩)
    · rintro σ' H' ⟨E', G', hp, k'⟩
      exact S.nx E' σ' G' H' (hd E' hp) (k'.via k1.toOkB)
theorem w_range1 {a : Int} (h : EV K E te (nI a)) (h1 : -(2 ^ 62) ≤ a) (h2 : a < 2 ^ 62) : ∀ (B G0 : Hp) (σ : L2.St) (G H : Hp), Ok K B G0 E σ G H → ∀ R : It → Hp → Prop, (∀ G' H', Ext G H G' H' → R (Itr 0 a.toNat) H') → iRng1 (tCons te tNil) σ H R := fun B G0 σ G H k R q =>
  h B G0 σ G H k _ fun v G1 H1 x1 r1 => ⟨a, by rw [r1], h1, h2, q G1 H1 x1⟩
theorem w_range2 {a b : Int} (ha : EV K E ta (nI a)) (hb : EV K E tb (nI b)) (h1 : -(2 ^ 62) ≤ a ∧ a < 2 ^ 62 ∧ -(2 ^ 62) ≤ b ∧ b < 2 ^ 62) : ∀ (B G0 : Hp) (σ : L2.St) (G H : Hp), Ok K B G0 E σ G H → ∀ R : It → Hp → Prop, (∀ G' H', Ext G H G' H' → R (Itr a (b - a).toNat) H') → iRng2 (tCons ta (tCons tb tNil)) σ H R := fun B G0 σ G H k R q =>
  ha B G0 σ G H k _ fun v G1 H1 x1 r1 => hb B G0 σ G1 H1 (k.ext x1) _ fun w G2 H2 x2 r2 => ⟨a, b, by rw [r1, r2], h1, q G2 H2 (x1.trans x2)⟩
/-- a list that stays as it is: known for good, or from ahead of the frame -/
def EVS (K : PySem.W.Frag) (E : List Slot) (te : TE) (l : List AbsV) : Prop := ∀ (B G0 : Hp) (σ : L2.St) (G H : Hp), Ok K B G0 E σ G H → ∀ Q : VK, (∀ p vs G' H', Ext G H G' H' → (G' p = some (.lst vs) ∨ B p = some (.lst vs)) → PR G' vs l → Q (.ref p) H') → te σ H Q
theorem EV.evs (h : EV K E te (lsA l)) : EVS K E te l := fun B G0 σ G H k Q q => h B G0 σ G H k Q fun v G' H' x ⟨p, vs, e, g, pr⟩ => by
  subst e
  exact q p vs G' H' x (.inl g) pr
theorem EVF.evs (h : EVF K E te l) : EVS K E te l := h.ev.evs
theorem evs_red {i : Nat} (h : E[i]? = some (.red l)) : EVS K E (tVar i) l := fun B G0 σ G H k Q q => by
  obtain ⟨o, e, p, vs, e2, b, pr⟩ := P_get k.sl h
  subst e2
  exact ⟨.ref p, e, q p vs G H (Ext.refl k.gh) (.inr b) pr⟩
theorem EVS.is (h : EVS K E te l) (e : l = m) : EVS K E te m := by
  rw [← e]; exact h
/-- over a list that stays -/
theorem es_forL {g : TG} (P : Nat → List Slot → Prop) (hw : EVS K E te l)
    (h0 : P 0 E) (hs : ∀ i r E', l[i]? = some r → P i E' → ∃ E2, GT K g r E' E2 ∧ ES K E2 ts (A.turn (P (i + 1)))) (hd : ∀ E', P l.length E' → A.nx E') : ES K E (tFor (iList K te) g ts) A := fun B G0 σ G H D k S =>
  hw B G0 σ G H k _ fun p vs G1 H1 x1 st pr => by
    have k1 := k.ext x1
    have stay : ∀ {G' H' : Hp}, OkB B G1 G' H' → H' p = some (.lst vs) := fun {G' H'} o => by
      rcases st with st | st
      · exact o.gh _ _ (o.g0 _ _ st)
      · exact o.bh _ _ st
    refine ⟨p, rfl, ⟨vs, SqL.of (stay k1.toOkB.here)⟩, ?_⟩
    refine for_list (K := K) (a := p) (xs := vs) (fun i σ' H' => ∃ E' G', P i E' ∧ Ok K B G1 E' σ' G' H') ⟨E, G1, h0, k1.here⟩ ?_ ?_ ?_
    · rintro i σ' H' _ ⟨E', G', hp, k'⟩
      exact SqL.of (stay k'.toOkB)
    · rintro i x σ' H' hi ⟨E', G', hp, k'⟩
      obtain ⟨r, hr, rv⟩ := PR.get' (pr.mono k'.g0) hi
      obtain ⟨E2, hg, hb⟩ := hs i r E' hr hp
      refine hg B G1 σ' G' H' _ k' rv _ fun σ2 k2 => ?_
      refine hb B G1 σ2 G' H' _ k2 (sat_turn S k1.toOkB fun E3 σ3 G3 H3 h3 k3 => ⟨E3, G3, h3, k3⟩)
    · rintro σ' H' ⟨E', G', hp, k'⟩
      rw [pr.len] at hp
      exact S.nx E' σ' G' H' (hd E' hp) (k'.via k1.toOkB)
/-- while -/
theorem es_while (W : Nat → List Slot → Prop) (m0 : Nat) (h0 : W m0 E) (hs : ∀ m E', W m E' → ∃ b, ET K E' t b ∧ (b = true → ES K E' ts (A.turn fun E2 => ∃ m', m' < m ∧ W m' E2)) ∧ (b = false → A.nx E')) : ES K E (tWhile t ts) A := fun B G0 σ G H D k S => by
  refine ⟨fun m σ' H' => ∃ E' G', W m E' ∧ Ok K B G E' σ' G' H', ⟨m0, E, G, h0, k.here⟩, ?_⟩
  rintro m σ' H' ⟨E', G', w, k'⟩
  obtain ⟨b, ht, h1, h2⟩ := hs m E' w
  refine ht B G σ' G' H' k' _ fun G2 H2 x2 => ?_
  have k2 := k'.ext x2
  cases b with
  | true =>
    rw [if_pos rfl]
    refine ⟨fun σ3 H3 => ∃ m', m' < m ∧ ∃ E3 G3, W m' E3 ∧ Ok K B G E3 σ3 G3 H3, fun σ3 H3 ⟨m', lt, E3, G3, w3, k3⟩ => ⟨m', lt, E3, G3, w3, k3⟩, ?_⟩
    exact h1 rfl B G σ' G2 H2 _ k2 (sat_turn S k.toOkB fun E3 σ3 G3 H3 ⟨m', lt, w3⟩ k3 => ⟨m', lt, E3, G3, w3, k3⟩)
  | false =>
    rw [if_neg Bool.false_ne_true]
    exact S.nx E' σ' G2 H2 (h2 rfl) (k2.via k.toOkB)
/-! comprehensions -/
def wipeE (E : List Slot) : List Nat → List Slot
  | [] => E
  | v :: vs => (wipeE E vs).set v .un
theorem Ok.wipe {B G0 G H : Hp} {σ : L2.St} (k : Ok K B G0 E σ G H) : ∀ vs : List Nat, Ok K B G0 (wipeE E vs) (wipe σ vs) G H
  | [] => k
  | v :: vs => (Ok.wipe k vs).set v trivial rfl
theorem wipe_set {σ : L2.St} {i : Nat} {v : V} : wipe ((wipe σ [i]).set i (some v)) [i] = wipe σ [i] := by
  show (((σ.set i none).set i (some v)).set i none) = σ.set i none
  rw [List.set_set, List.set_set]
/-- a thing that nobody ahead knew changes -/
theorem Ext.mut {G H G' H' : Hp} {D : Addr} {o : HO} (x : Ext G H G' H') (h : H D = none) (g : G' D = none) : Ext G H G' (upd H' D o) :=
  ⟨x.g, fun b u e => by rw [upd_ne (ne_of_none e h)]; exact x.h b u e, fun b u e => by rw [upd_ne (ne_of_none e g)]; exact x.gh b u e, x.n⟩
/-- the items of the new list after j turns -/
def accL (bs : Nat → Bool) (els : Nat → AbsV) (j : Nat) : List AbsV := ((List.range j).filter bs).map els
theorem accL_succ (bs : Nat → Bool) (els : Nat → AbsV) (j : Nat) : accL bs els (j + 1) = accL bs els j ++ (if bs j = true then [els j] else []) := by
  unfold accL
  rw [List.range_succ, List.filter_append, List.map_append]
  cases e : bs j <;> simp [e]
theorem accL_len (bs : Nat → Bool) (els : Nat → AbsV) (j : Nat) : (accL bs els j).length ≤ j := by
  unfold accL
  rw [List.length_map]
  exact Nat.le_trans (List.length_filter_le _ _) (by rw [List.length_range]; exact Nat.le_refl _)
def LcP (G1 H1 : Hp) (D : Addr) (bs : Nat → Bool) (els : Nat → AbsV) (j : Nat) (H : Hp) : Prop := ∃ G vs, Ext G1 H1 G H ∧ G D = none ∧ H D = some (.lst vs) ∧ PR G vs (accL bs els j)
theorem lc_turn {B G0 G1 H1 H : Hp} {σ : L2.St} {D : Addr} {v : V} {g : TG} {tt : TT} {E' : List Slot} {ix : List Nat} {item : AbsV} {bs : Nat → Bool} {els : Nat → AbsV} {j : Nat} (k : Ok K B G0 E σ G1 H1) (hD : H1 D = none)
    (hj : j < 100000) (hg : ∀ (G H : Hp), Ok K B G0 (wipeE E ix) (wipe σ ix) G H → item.rep G v → ∀ Q : L2.St → Hp → Prop, (∀ σ', wipe σ' ix = wipe σ ix → Ok K B G0 E' σ' G H → Q σ' H) → g v (wipe σ ix) H Q)
    (ht : ET K E' tt (bs j)) (he : bs j = true → EV K E' te (els j)) (hv : ∀ G, Same G1 G → item.rep G v) (hp : LcP G1 H1 D bs els j H) :
    g v (wipe σ ix) H fun σ2 H2 => wipe σ2 ix = wipe σ ix ∧ tt σ2 H2 fun b H3 => if b = true then te σ2 H3 fun y H4 => ∃ a, H4 D = some (.lst a) ∧ a.length < sizeLine ∧ LcP G1 H1 D bs els (j + 1) (upd H4 D (.lst (a ++ [y]))) else LcP G1 H1 D bs els (j + 1) H3 := by
  obtain ⟨G, vs, x, gD, hD', pr⟩ := hp
  have nz : H D ≠ none := by rw [hD']; exact fun z => by cases z
  refine hg G H (Ok.wipe (k.ext x) ix) (hv G x.g) _ fun σ' hs k' => ⟨hs, ht B G0 _ G H k' _ fun G2 H2 x2 => ?_⟩
  cases e : bs j with
  | true =>
    rw [if_pos rfl]
    refine he e B G0 _ G2 H2 (k'.ext x2) _ fun y G3 H3 x3 ry => ?_
    have x23 := x2.trans x3
    have g3 : G3 D = none := x23.n D nz gD
    refine ⟨vs, x23.h _ _ hD', ?_, G3, vs ++ [y], (x.trans x23).mut hD g3, g3, upd_same, ?_⟩
    · rw [pr.len]
      exact smallT (Nat.lt_of_le_of_lt (accL_len _ _ _) hj)
    · rw [accL_succ, if_pos e]
      exact (pr.mono x23.g).append (.cons ry .nil)
  | false =>
    rw [if_neg Bool.false_ne_true]
    refine ⟨G2, vs, x.trans x2, x2.n D nz gD, x2.h _ _ hD', ?_⟩
    rw [accL_succ, e, if_neg Bool.false_ne_true, List.append_nil]
    exact pr.mono x2.g
theorem lc_zero {B G0 G1 H1 : Hp} {σ : L2.St} {D : Addr} {bs : Nat → Bool} {els : Nat → AbsV} (k : Ok K B G0 E σ G1 H1) (hD : H1 D = none) : LcP G1 H1 D bs els 0 (upd H1 D (.lst [])) :=
  ⟨G1, [], Ext.newO k.gh hD, k.gh.free hD, upd_same, .nil⟩
theorem lc_name {B G0 : Hp} {σ : L2.St} {i : Nat} {v : V} (G H : Hp) (k : Ok K B G0 (wipeE E [i]) (wipe σ [i]) G H) (h : r.rep G v) (Q : L2.St → Hp → Prop) (q : ∀ σ', wipe σ' [i] = wipe σ [i] → Ok K B G0 ((wipeE E [i]).set i (.val r)) σ' G H → Q σ' H) : gName i v (wipe σ [i]) H Q :=
  q _ wipe_set (k.set i ⟨v, rfl, h⟩ rfl)
/-- [e for x in range(..) if ..] -/
theorem evf_lcR {lo : Int} {n : Nat} {wi : TI} {i : Nat} {tt : TT} (hw : ∀ (B G0 : Hp) (σ : L2.St) (G H : Hp), Ok K B G0 E σ G H → ∀ R : It → Hp → Prop, (∀ G' H', Ext G H G' H' → R (Itr lo n) H') → wi σ H R) (bs : Nat → Bool) (els : Nat → AbsV) (hn : n ≤ 100000)
    (ht : ∀ j, j < n → ET K ((wipeE E [i]).set i (.val (nI (lo + j)))) tt (bs j)) (he : ∀ j, j < n → bs j = true → EV K ((wipeE E [i]).set i (.val (nI (lo + j)))) te (els j)) :
    EVF K E (tLc wi (gName i) tt te [i]) (accL bs els n) := fun B G0 σ G H k Q q =>
  hw B G0 σ G H k _ fun G1 H1 x1 D hD => by
    have k1 := k.ext x1
    refine lc_range (LcP G1 H1 D bs els) (lc_zero k1 hD) (fun j H' hj hp => lc_turn (item := nI (lo + j)) k1 hD (Nat.lt_of_lt_of_le hj hn) (fun G H kk hh Q q => lc_name G H kk hh Q q) (ht j hj) (he j hj) (fun _ _ => rfl) hp) fun H' hp => ?_
    obtain ⟨G', vs, x, gD, hD', pr⟩ := hp
    exact q D vs G' H' (x1.trans x) (x1.h.free hD) gD hD' pr
/-- [e for x in xs if ..], xs a list that stays -/
theorem evf_lcL {i : Nat} {tt : TT} (hw : EVS K E ta l) (bs : Nat → Bool) (els : Nat → AbsV) (hn : l.length ≤ 100000)
    (ht : ∀ j r, l[j]? = some r → ET K ((wipeE E [i]).set i (.val r)) tt (bs j)) (he : ∀ j r, l[j]? = some r → bs j = true → EV K ((wipeE E [i]).set i (.val r)) te (els j)) :
    EVF K E (tLc (iList K ta) (gName i) tt te [i]) (accL bs els l.length) := fun B G0 σ G H k Q q =>
  hw B G0 σ G H k _ fun p vs G1 H1 x1 st pr => by
    have k1 := k.ext x1
    have sH : H1 p = some (.lst vs) := by
      rcases st with st | st
      · exact x1.gh _ _ st
      · exact k1.bh _ _ st
    refine ⟨p, rfl, ⟨vs, SqL.of sH⟩, fun D hD => ?_⟩
    refine lc_list (K := K) (a := p) (xs := vs) (LcP G1 H1 D bs els) (lc_zero k1 hD) (fun j H' _ hp => ?_) (fun j x H' hj hp => ?_) fun H' hp => ?_
    · obtain ⟨G', ws, x, _⟩ := hp
      exact SqL.of (x.h _ _ sH)
    · obtain ⟨r, hr, rv⟩ := PR.get' pr hj
      exact lc_turn (item := r) k1 hD (Nat.lt_of_lt_of_le (List.getElem?_eq_some_iff.mp hr).1 hn) (fun G H kk hh Q q => lc_name G H kk hh Q q) (ht j r hr) (he j r hr) (fun G s => r.mono s rv) hp
    · obtain ⟨G', ws, x, gD, hD', pr'⟩ := hp
      rw [pr.len] at pr'
      exact q D ws G' H' (x1.trans x) (x1.h.free hD) gD hD' pr'
theorem et_yes : ET K E tYes true := fun B G0 σ G H k Q q => q G H (Ext.refl k.gh)
end

/-! calls of defs -/
def ResOk (G H G' H' : Hp) : Slot → V → Prop
  | .val r, v => r.rep G' v
  | .own l, v => ∃ p vs, v = .ref p ∧ H p = none ∧ G' p = none ∧ H' p = some (.lst vs) ∧ PR G' vs l
  | _, _ => False
/-- a promise: for such arguments this result; all that stood stands -/
def spX (K : PySem.W.Frag) {X : Type} (args : X → List Slot) (pre : X → Prop) (res : X → Slot) : Sp := fun vs H Q _ => ∃ (x : X) (G : Hp), pre x ∧ Same G H ∧ Paired (ArgOk K G H) (args x) vs ∧ ∀ v G' H', Ext G H G' H' → ResOk G H G' H' (res x) v → Q v H'
section
variable {K : PySem.W.Frag} {E : List Slot} {te : TE} {ta : TA} {r : AbsV} {l : List AbsV} {X : Type} {args : X → List Slot} {pre : X → Prop} {res : X → Slot} {Ex0 : XK}
theorem ev_call (x : X) (h : EA K E ta (args x)) (hp : pre x) (hr : res x = .val r) : EV K E (tCall (spX K args pre res) [] Ex0 ta) r := fun B G0 σ G H k Q q =>
  h B G0 σ G H k _ fun vs G1 H1 x1 a => ⟨x, G1, hp, x1.gh, by rw [List.append_nil]; exact a, fun v G2 H2 x2 rv => q v G2 H2 (x1.trans x2) (by rw [hr] at rv; exact rv)⟩
theorem evf_call (x : X) (h : EA K E ta (args x)) (hp : pre x) (hr : res x = .own l) : EVF K E (tCall (spX K args pre res) [] Ex0 ta) l := fun B G0 σ G H k Q q =>
  h B G0 σ G H k _ fun vs G1 H1 x1 a => ⟨x, G1, hp, x1.gh, by rw [List.append_nil]; exact a, fun v G2 H2 x2 rv => by
    rw [hr] at rv
    obtain ⟨p, ws, e, h1, g2, h2, pr⟩ := rv
    subst e
    exact q p ws G2 H2 (x1.trans x2) (x1.h.free h1) g2 h2 pr⟩
end
/-- the ends of a def that hands back s -/
def AR (s : Slot) : AE := { nx := fun _ => s = .val nN, bk := fun _ => False, ct := fun _ => False, rt := fun s' => s' = s }
section
variable {P : Program} {w : World} {K : PySem.W.Frag} {mg : Str → Option Value} {base : Heap}
theorem P_app {α β : Type} {F : α → β → Prop} : ∀ {as as' : List α} {bs bs' : List β}, Paired F as bs → Paired F as' bs' → Paired F (as ++ as') (bs ++ bs')
  | _, _, _, _, .nil, h => h
  | _, _, _, _, .cons a t, h => .cons a (P_app t h)
theorem slots_start {K : PySem.W.Frag} {G H : Hp} : ∀ {as : List Slot} {vs : List V}, Paired (ArgOk K G H) as vs → Paired (SlotOk K H G H) as (vs.map some)
  | _, _, .nil => .nil
  | s :: as, v :: vs, .cons a t => .cons (by
      cases s with
      | un => trivial
      | val r => exact ⟨v, rfl, a⟩
      | own l => exact a.elim
      | red l => obtain ⟨p, ws, e, h, pr⟩ := a; exact ⟨p, ws, by rw [e], h, pr⟩
      | scr ns => obtain ⟨p, e, h⟩ := a; exact ⟨p, by rw [e], h⟩
      | dic _ => exact a.elim
      | ins _ _ _ => exact a.elim
      | nst _ _ _ => exact a.elim) (slots_start t)
theorem slots_un {K : PySem.W.Frag} {B G H : Hp} : ∀ n : Nat, Paired (SlotOk K B G H) (List.replicate n Slot.un) (List.replicate n (none : Option V))
  | 0 => .nil
  | n + 1 => .cons trivial (slots_un n)
theorem no_mut {K : PySem.W.Frag} {G H : Hp} : ∀ {as : List Slot} {vs : List V} {i : Nat} {s : Slot}, Paired (ArgOk K G H) as vs → as[i]? = some s → s.mut = false
  | _, _, i, s, .nil, h => by simp at h
  | s' :: as, v :: vs, 0, s, .cons a t, h => by
    have e : s' = s := Option.some.inj h
    subst e
    cases s' with
    | own _ => exact a.elim
    | dic _ => exact a.elim
    | ins _ _ _ => exact a.elim
    | nst _ _ _ => exact a.elim
    | _ => rfl
  | s' :: as, v :: vs, i + 1, s, .cons a t, h => no_mut t (i := i) h
theorem start_mut {G H : Hp} {as : List Slot} {vs : List V} (a : Paired (ArgOk K G H) as vs) {n i : Nat} {s : Slot} (ea : (as ++ List.replicate n Slot.un)[i]? = some s) : s.mut = false := by
  by_cases hi : i < as.length
  · rw [List.getElem?_append_left hi] at ea; exact no_mut a ea
  · rw [List.getElem?_append_right (by omega)] at ea
    have := List.mem_of_getElem? ea
    have := (List.mem_replicate.mp this).2
    rw [this]; rfl
theorem start_ok {G H : Hp} {as : List Slot} {vs : List V} (gh : Same G H) (a : Paired (ArgOk K G H) as vs) (n : Nat) : Ok K H G (as ++ List.replicate n .un) (vs.map some ++ List.replicate n none) G H :=
  ⟨⟨Same.refl _, gh, Same.refl _, fun _ _ e => e⟩, P_app (slots_start a) (slots_un n), (fun i j p s s' ea _ ms => by
    have hf := start_mut a ea
    rw [hf] at ms; cases ms), (fun i j q s s' ea _ _ hq => by
    rw [Slot.inn_of (start_mut a ea)] at hq; cases hq)⟩
/-- THE RULE for a def of the text -/
theorem okA {X : Type} {args : X → List Slot} {pre : X → Prop} {res : X → Slot} {x qual : Str} {st : Stmt} {f : Addr} {fd : FuncData} {N ps : List Str} {k : Nat} (F : Fun K x qual st f fd) (S : FnScope N ps (defScope st)) (la : ∀ x, (args x).length = ps.length)
    (hb : ∀ (cdv : Value) (A : Around) (outer : List Env) (s : Shared) (H : Hp) (E : XK), Room k (A.deeper (envOfC qual (defScope st) s.heap.objs.size f cdv)) →
      ∃ t, PSs (cxOf CX0 P w K mg base N qual (defScope st) f cdv A outer s H E).nox (defBody st) t ∧ ∀ x, pre x → ES K (args x ++ List.replicate (N.length - ps.length) .un) t (AR (res x))) : FnOk P w K mg base CX0 (k + 1) f fd ps (spX K args pre res) := by
  refine F.ok S (fun vs H Q E h => ?_) fun cdv A outer s H vs Q E hr h => ?_
  · obtain ⟨x, G, _, _, a, _⟩ := h
    rw [← P_len a, la]
  · obtain ⟨t, ht, he⟩ := hb cdv A outer s H E hr
    obtain ⟨x, G, hp, gh, a, q⟩ := h
    refine ⟨t, ht, ?_⟩
    have lv : vs.length = ps.length := by rw [← P_len a, la]
    unfold L2.start
    rw [lv]
    refine he x hp H G _ G H _ (start_ok gh a _) ⟨fun E σ G' H' h' k' => ?_, fun _ _ _ _ h' _ => h'.elim, fun _ _ _ _ h' _ => h'.elim, fun r v G' H' h' k' rv => ?_, fun l p ws G' H' h' k' b g e pr => ?_, fun _ _ _ _ _ h' _ => h'.elim⟩
    · refine q _ G' H' ⟨k'.g0, k'.bh, k'.gh, k'.nb⟩ ?_
      rw [h']; exact rfl
    · refine q _ G' H' ⟨k'.g0, k'.bh, k'.gh, k'.nb⟩ ?_
      have h2 : Slot.val r = res x := h'
      rw [← h2]; exact rv
    · refine q _ G' H' ⟨k'.g0, k'.bh, k'.gh, k'.nb⟩ ?_
      have h2 : Slot.own l = res x := h'
      rw [← h2]; exact ⟨p, ws, rfl, b, g, e, pr⟩
end
end Ab

namespace Ab
open PySem PySem.Spec PyProof.Rows L2
/-- a def that may be called by its name -/
structure Cal (P : Program) (w : World) (K : PySem.W.Frag) (mg : Str → Option Value) (base : Heap) (k : Nat) (x : Str) (sp : Sp) : Prop where
  ex : ∃ (f : Addr) (fd : FuncData) (ps : List Str), FnOk P w K mg base CX0 k f fd ps sp ∧ mg x = some (.ref f) ∧ PySem.W.keepIn K (.ref f) = true ∧ Binds K fd ps []
/-- a def of the text as it stands behind the top -/
structure DefAt (K : PySem.W.Frag) (mg : Str → Option Value) (x : Str) (st : Stmt) (ps : List Str) : Prop where
  ex : ∃ (f : Addr) (fd : FuncData), Fun K x x st f fd ∧ mg x = some (.ref f) ∧ Binds K fd ps []
section
variable {X : Cx} {e : Expr} {es : List Expr} {t : TA} {p pos : Pos} {sp : Sp} {x : Str} {j k : Nat}
theorem pe_ca (c : Cal X.prog X.w X.K X.mg X.base k x sp) (hr : Room j X.A) (hk : k ≤ j) (hg : Gl X x) (ha : PA X (e :: es) t)
    (hdb : (x == ("__debug__" : Str)) = false := by decide) (he : starEach (e :: es) X.env = (false, eval e X.env) :: starEach es X.env := by rfl) (hpl : (backTo pos (starEach es X.env)).any (·.1) = false := by rfl) :
    PE X (.Call (.Name x p) (e :: es) [] pos) (tCall sp [] E0 t) := by
  obtain ⟨f, fd, ps, F, hm, kp, b⟩ := c.ex
  exact pe_call F (hr.mono hk) hg hm kp b .nil pass0 ha hdb he hpl
end
section
variable {P : Program} {w : World} {K : PySem.W.Frag} {mg : Str → Option Value} {base : Heap}
theorem calA {X : Type} {args : X → List Slot} {pre : X → Prop} {res : X → Slot} {x : Str} {st : Stmt} {N ps : List Str} {k : Nat} (d : DefAt K mg x st ps) (S : FnScope N ps (defScope st)) (la : ∀ x, (args x).length = ps.length)
    (hb : ∀ (f : Addr) (cdv : Value) (A : Around) (outer : List Env) (s : Shared) (H : Hp) (E : XK), Room k (A.deeper (envOfC x (defScope st) s.heap.objs.size f cdv)) →
      ∃ t, PSs (cxOf CX0 P w K mg base N x (defScope st) f cdv A outer s H E).nox (defBody st) t ∧ ∀ x, pre x → ES K (args x ++ List.replicate (N.length - ps.length) .un) t (AR (res x))) : Cal P w K mg base (k + 1) x (spX K args pre res) := by
  obtain ⟨f, fd, F, hm, b⟩ := d.ex
  exact ⟨f, fd, ps, okA F S la (fun cdv A outer s H E hr => hb f cdv A outer s H E hr), hm, F.kp, b⟩
theorem Cal.mono {x : Str} {sp : Sp} {j k : Nat} (c : Cal P w K mg base j x sp) (h : j ≤ k) : Cal P w K mg base k x sp := by
  obtain ⟨f, fd, ps, F, r⟩ := c.ex
  exact ⟨f, fd, ps, F.mono h, r⟩
end
/-! rules whose reading names the written part itself -/
section
variable {X : Cx} (K : PySem.W.Frag)
theorem ix_listK (h : X.K = K := by rfl) : IxR X (rIxL K) := by subst h; exact ix_list
theorem ix_tupK (h : X.K = K := by rfl) : IxR X (rIxT K) := by subst h; exact ix_tup
theorem ix_seqK (h : X.K = K := by rfl) : IxR X (rIx K) := by subst h; exact ix_seq
theorem sl_listK (h : X.K = K := by rfl) : SlR X (rSlL K) := by subst h; exact sl_list
theorem sl_tupK (h : X.K = K := by rfl) : SlR X (rSlT K) := by subst h; exact sl_tup
theorem len_seqK (h : X.K = K := by rfl) : CallR X (.builtin "len") (fun xs H Q => ∃ p ys, xs = [.ref p] ∧ (SqL K H p ys ∨ SqT K H p ys) ∧ Q (.int ys.length) H) := by subst h; exact call_len_seq
theorem list_ofK (h : X.K = K := by rfl) : CallR X (.type "list") (fun xs H Q => ∃ p ys, xs = [.ref p] ∧ (SqL K H p ys ∨ SqT K H p ys) ∧ ∀ l, H l = none → Q (.ref l) (upd H l (.lst ys))) := by subst h; exact call_list_of
theorem isiK (h : X.K = K := by rfl) : CallR X (.builtin "isinstance") (rIsi K) := by subst h; exact call_isi
theorem in_seqK (h : X.K = K := by rfl) : OpR X (compareOp .In) (rIn K false) := by subst h; exact op_in_seq
theorem notIn_seqK (h : X.K = K := by rfl) : OpR X (compareOp .NotIn) (rIn K true) := by subst h; exact op_notIn_seq
end
section
variable {X : Cx} (K : PySem.W.Frag)
theorem allK (hc : X.calm = true) (h : X.K = K := by rfl) : CallR X (.builtin "all") (rAll K) := by subst h; exact cr_all hc
theorem anyK (hc : X.calm = true) (h : X.K = K := by rfl) : CallR X (.builtin "any") (rAny K) := by subst h; exact cr_any hc
theorem maxK (hc : X.calm = true) (h : X.K = K := by rfl) : CallR X (.builtin "max") (rMax K) := by subst h; exact cr_max hc
theorem minK (hc : X.calm = true) (h : X.K = K := by rfl) : CallR X (.builtin "min") (rMin K) := by subst h; exact cr_min hc
theorem sumK (hc : X.calm = true) (h : X.K = K := by rfl) : CallR X (.builtin "sum") (rSum K) := by subst h; exact cr_sum hc
theorem sortedK (h : X.K = K := by rfl) : CallR X (.builtin "sorted") (rSorted K) := by subst h; exact cr_sorted
theorem eqDK (hu : X.A.units + 64 < cLine) (h : X.K = K := by rfl) : OpR X (compareOp .Eq) (rEqD K) := by subst h; exact op_eqD hu
theorem neDK (hu : X.A.units + 64 < cLine) (h : X.K = K := by rfl) : OpR X (compareOp .NotEq) (rNeD K) := by subst h; exact op_neD hu
theorem pi_listK {tg l : Expr} {tl : TE} (hl : PE X l tl) (h : X.K = K := by rfl) : PI X tg l (iList K tl) := by subst h; exact pi_list hl
theorem pi_tupK {tg l : Expr} {tl : TE} (hl : PE X l tl) (h : X.K = K := by rfl) : PI X tg l (iTup K tl) := by subst h; exact pi_tup hl
theorem pg_tupK {es : List Expr} {k : Nat} {t : TGs} {n : Nat} {pos : Pos} (hc : X.calm = true) (h : PGs X es t) (hk : X.K = K := by rfl)
    (hn : (assignEach es X.env).length = n := by rfl) (hst : (assignEach es X.env).findIdx? (·.1) = none := by rfl) : PG X (.Tuple es k pos) (gTup K n t) := by subst hk; exact pg_tup hc h hn hst
end
/-! bootstrap names -/
theorem bt_len : bootBuiltins "len" = some (.builtin "len") := by decide +kernel
theorem bt_abs : bootBuiltins "abs" = some (.builtin "abs") := by decide +kernel
theorem bt_max : bootBuiltins "max" = some (.builtin "max") := by decide +kernel
theorem bt_min : bootBuiltins "min" = some (.builtin "min") := by decide +kernel
theorem bt_all : bootBuiltins "all" = some (.builtin "all") := by decide +kernel
theorem bt_any : bootBuiltins "any" = some (.builtin "any") := by decide +kernel
theorem bt_sorted : bootBuiltins "sorted" = some (.builtin "sorted") := by decide +kernel
theorem bt_isinstance : bootBuiltins "isinstance" = some (.builtin "isinstance") := by decide +kernel
theorem bt_int : bootBuiltins "int" = some (.type "int") := by decide +kernel
theorem bt_bool : bootBuiltins "bool" = some (.type "bool") := by decide +kernel
theorem bt_str : bootBuiltins "str" = some (.type "str") := by decide +kernel
theorem bt_list : bootBuiltins "list" = some (.type "list") := by decide +kernel
theorem bt_tuple : bootBuiltins "tuple" = some (.type "tuple") := by decide +kernel
section
variable {K : PySem.W.Frag} {E : List Slot} {ta tb tc te : TE} {t u : TT} {ts us : TS} {r s : AbsV} {l m : List AbsV} {A : AE}
/-! more expressions -/
theorem ev_bits {a : Int} (h : EV K E te (nI a)) : EV K E (tBits te) (nI ((Builtin.Int.intBits a : Nat) : Int)) := fun B G0 σ G H k Q q =>
  h B G0 σ G H k _ fun v G1 H1 x1 r1 => ⟨a, r1, q _ G1 H1 x1 rfl⟩
theorem ev_isN {b : Bool} (h : EV K E te r) (hb : ∀ G v, r.rep G v → decide (v = .non) = b) : EV K E (tIsN te) (nB b) := fun B G0 σ G H k Q q =>
  h B G0 σ G H k _ fun v G1 H1 x1 r1 => q _ G1 H1 x1 (by rw [hb G1 v r1]; exact rfl)
theorem all_bl {G : Hp} : ∀ {bs : List Bool} {vs : List V}, PR G vs (bs.map nB) → vs = bs.map V.bl
  | [], _, h => by cases h; rfl
  | b :: bs, _, h => by
    cases h with
    | cons a t => rw [all_bl t, show _ = V.bl b from a]; rfl
theorem all_int {G : Hp} : ∀ {bs : List Int} {vs : List V}, PR G vs (bs.map nI) → vs = bs.map V.int
  | [], _, h => by cases h; rfl
  | b :: bs, _, h => by
    cases h with
    | cons a t => rw [all_int t, show _ = V.int b from a]; rfl
theorem ev_all {bs : List Bool} (h : EVL K E te (bs.map nB)) : EV K E (tCB (rAll K) (tCons te tNil)) (nB (bs.all id)) :=
  ev_cbL h fun p vs G H Q _ e pr q => ⟨p, bs, rfl, SqL.of (by rw [← all_bl pr]; exact e), q _ rfl⟩
theorem ev_any {bs : List Bool} (h : EVL K E te (bs.map nB)) : EV K E (tCB (rAny K) (tCons te tNil)) (nB (bs.any id)) :=
  ev_cbL h fun p vs G H Q _ e pr q => ⟨p, bs, rfl, SqL.of (by rw [← all_bl pr]; exact e), q _ rfl⟩
end
end Ab

set_option maxHeartbeats 2000000
namespace Ab
open PySem PySem.Spec PyProof.Rows L2
/-! ### pairs of ints: the least one, the first of the sorted ones -/
abbrev prA (p : Int × Int) : AbsV := tuA [nI p.1, nI p.2]
def lexle (p q : Int × Int) : Prop := p.1 < q.1 ∨ (p.1 = q.1 ∧ p.2 ≤ q.2)
theorem lexle_anti {p q : Int × Int} (h : lexle p q) (h' : lexle q p) : p = q := by
  obtain ⟨a, b⟩ := p
  obtain ⟨c, d⟩ := q
  unfold lexle at h h'
  dsimp only at h h'
  have e1 : a = c := by omega
  have e2 : b = d := by omega
  rw [e1, e2]
abbrev tpD (p : Int × Int) : PyData := .tuple [.int p.1, .int p.2]
def ltb (q p : Int × Int) : Bool := decide (q.1 < p.1 ∨ (q.1 = p.1 ∧ q.2 < p.2))
def minP (p : Int × Int) (ps : List (Int × Int)) : Int × Int := ps.foldl (fun a y => if ltb y a = true then y else a) p
theorem minD_pairs : ∀ (ps : List (Int × Int)) (p : Int × Int), PySem.W.minD (tpD p) (ps.map tpD) = tpD (minP p ps)
  | [], p => rfl
  | q :: ps, p => by
    show (ps.map tpD).foldl _ (if PySem.W.dataLt (tpD q) (tpD p) = true then tpD q else tpD p) = tpD (ps.foldl _ (if ltb q p = true then q else p))
    have e : PySem.W.dataLt (tpD q) (tpD p) = ltb q p := PySem.W.dataLt_ii _ _ _ _
    rw [e]
    cases h : ltb q p with
    | true => rw [if_pos rfl, if_pos rfl]; exact minD_pairs ps q
    | false => rw [if_neg Bool.false_ne_true, if_neg Bool.false_ne_true]; exact minD_pairs ps p
theorem minP_spec : ∀ (ps : List (Int × Int)) (p : Int × Int), minP p ps ∈ p :: ps ∧ ∀ q ∈ p :: ps, lexle (minP p ps) q
  | [], p => ⟨List.mem_cons_self, fun q hq => by
    rw [List.mem_singleton.mp hq]; exact .inr ⟨rfl, Int.le_refl _⟩⟩
  | x :: ps, p => by
    show (ps.foldl _ (if ltb x p = true then x else p)) ∈ p :: x :: ps ∧ ∀ q ∈ p :: x :: ps, lexle (ps.foldl _ (if ltb x p = true then x else p)) q
    cases h : ltb x p with
    | true =>
      rw [if_pos rfl]
      obtain ⟨h1, h2⟩ := minP_spec ps x
      refine ⟨List.mem_cons_of_mem _ h1, fun q hq => ?_⟩
      rcases List.mem_cons.mp hq with e | hq
      · have hx := h2 x List.mem_cons_self
        have hl : x.1 < p.1 ∨ (x.1 = p.1 ∧ x.2 < p.2) := of_decide_eq_true h
        rw [e]
        unfold lexle minP at *
        omega
      · exact h2 q hq
    | false =>
      rw [if_neg Bool.false_ne_true]
      obtain ⟨h1, h2⟩ := minP_spec ps p
      refine ⟨?_, fun q hq => ?_⟩
      · rcases List.mem_cons.mp h1 with e | h1
        · exact List.mem_cons.mpr (.inl e)
        · exact List.mem_cons_of_mem _ (List.mem_cons_of_mem _ h1)
      · rcases List.mem_cons.mp hq with e | hq
        · exact h2 q (by rw [e]; exact List.mem_cons_self)
        · rcases List.mem_cons.mp hq with e | hq
          · have hx := h2 p List.mem_cons_self
            have hl : ¬ (x.1 < p.1 ∨ (x.1 = p.1 ∧ x.2 < p.2)) := of_decide_eq_false h
            rw [e]
            unfold lexle minP at *
            omega
          · exact h2 q (List.mem_cons_of_mem _ hq)
/-- min(xs), xs a list of pairs of ints -/
def rMinP (K : PySem.W.Frag) : List V → Hp → VK → Prop := fun vs H Q => ∃ (a : Addr) (xs : List V) (p : Int × Int) (ps : List (Int × Int)), vs = [V.ref a] ∧ SqL K H a xs ∧ DpAll K H xs ((p :: ps).map tpD) ∧
  ∀ (i : Nat) (v : V), xs[i]? = some v → (p :: ps)[i]? = some (minP p ps) → Q v H
theorem canLay_pairs : ∀ ps : List (Int × Int), PyData.canLayAll0 (ps.map tpD) = true
  | [] => by simp [PyData.canLayAll0]
  | p :: ps => by
    have ih := canLay_pairs ps
    rw [List.map_cons]
    simp only [PyData.canLayAll0, PyData.canLay0, ih, Bool.and_self, Bool.and_true]
theorem depth_pairs : ∀ ps : List (Int × Int), PyData.depthAll (ps.map tpD) ≤ 3
  | [] => by simp [PyData.depthAll]
  | p :: ps => by
    have ih := depth_pairs ps
    rw [List.map_cons]
    simp only [PyData.depthAll, PyData.depth]
    omega
section
variable {X : Cx}
theorem cr_minP (hu : X.A.units + 64 < cLine) (hc : X.calm = true) : CallR X (.builtin "min") (rMinP X.K) := by
  intro pins s σ H vs us Q I r h
  obtain ⟨a, xs, p, ps, rfl, hs, hd, q⟩ := h
  obtain ⟨its, rv, hl, _⟩ := I.list hs
  rw [Vals.ref1 r]
  obtain ⟨as, hr⟩ := Dp.readsAll I _ _ _ hd rv
  have hal : PySem.W.AlikeAll ((p :: ps).map tpD) := by
    refine ⟨fun x hx y hy => ?_, fun x hx => ?_⟩
    · obtain ⟨u, _, rfl⟩ := List.mem_map.mp hx
      obtain ⟨v, _, rfl⟩ := List.mem_map.mp hy
      simp [PySem.W.alike, PySem.W.alikeAll]
    · obtain ⟨u, _, rfl⟩ := List.mem_map.mp hx
      exact fun z => by cases z
  have hdep := depth_pairs (p :: ps)
  refine PySem.W.min_list_data (vs := its.toArray) (x := tpD p) (xs := ps.map tpD) (I.ok.hd hc) hl.isList (by simpa using hr) hal (by
    have : PyData.depthAll (tpD p :: ps.map tpD) ≤ 3 := hdep
    omega) fun i v h' tk bs hv hrd hk => ?_
  rw [minD_pairs] at hrd
  have hv' : its[i]? = some v := by simpa using hv
  obtain ⟨cs, hr2, hi, _, _⟩ := PySem.W.readsAll_atA (vs := its.toArray) (by simpa using hr) i v hv
  have hr3 := PySem.W.reads_keeps hk hr2
  have e := PySem.SeqAt.Reads.unique _ _ _ _ _ (by simp [PyData.canLay0, PyData.canLayAll0]) hrd hr3
  rw [List.getD_eq_getElem?_getD] at e
  have hi2 : i < (p :: ps).length := by simpa using hi
  have e2 : ((p :: ps).map tpD)[i]? = some (tpD (p :: ps)[i]) := by rw [List.getElem?_map, List.getElem?_eq_getElem hi2]; rfl
  rw [show (tpD p :: ps.map tpD) = (p :: ps).map tpD from rfl, e2] at e
  have e3 : minP p ps = (p :: ps)[i] := by
    have z : tpD (minP p ps) = tpD (p :: ps)[i] := e
    simp only [tpD, PyData.tuple.injEq, List.cons.injEq, PyData.int.injEq, and_true] at z
    exact Prod.ext z.1 z.2
  have hxl : xs.length = its.length := Vals.length rv
  have hi3 : i < xs.length := by rw [hxl]; exact (List.getElem?_eq_some_iff.mp hv').1
  have hx : xs[i]? = some xs[i] := List.getElem?_eq_getElem hi3
  obtain ⟨u, hu2, ru⟩ := rv.get hx
  rw [hu2] at hv'
  cases hv'
  exact ⟨xs[i], H, I.kept hk, ru, q i xs[i] hx (by rw [List.getElem?_eq_getElem hi2, e3])⟩
end
section
variable {X : Cx} (K : PySem.W.Frag)
theorem minPK (hu : X.A.units + 64 < cLine) (hc : X.calm = true) (h : X.K = K := by rfl) : CallR X (.builtin "min") (rMinP K) := by subst h; exact cr_minP hu hc
theorem sortedPOK (h : X.K = K := by rfl) : CallR X (.builtin "sorted") (rSortedPO K) := by subst h; exact cr_sortedPO
end
section
variable {K : PySem.W.Frag} {E : List Slot} {te : TE} {r : AbsV}
theorem pr_dp {G : Hp} : ∀ {ps : List (Int × Int)} {vs : List V}, PR G vs (ps.map prA) → DpAll K G vs (ps.map tpD)
  | [], _, h => by cases h; exact .nil
  | p :: ps, _, h => by
    cases h with
    | cons a t =>
      obtain ⟨q, ws, e, g, pr⟩ := a
      subst e
      cases pr with
      | cons a1 t1 =>
        cases t1 with
        | cons a2 t2 =>
          cases t2
          cases a1; cases a2
          exact .cons (.tup (SqT.of g) (.cons (.int _) (.cons (.int _) .nil))) (pr_dp t)
theorem dp_mono {K : PySem.W.Frag} {G H : Hp} (s : Same G H) : ∀ {ps : List (Int × Int)} {vs : List V}, PR G vs (ps.map prA) → PR H vs (ps.map prA) := fun h => h.mono s
theorem ev_minP {p m : Int × Int} {ps : List (Int × Int)} (h : EVL K E te ((p :: ps).map prA)) (hm : m ∈ p :: ps) (hl : ∀ q ∈ p :: ps, lexle m q) : EV K E (tCB (rMinP K) (tCons te tNil)) (prA m) := fun B G0 σ G H k Q q =>
  h B G0 σ G H k _ fun a vs G1 H1 x1 h1 pr => ⟨a, vs, p, ps, rfl, SqL.of h1, pr_dp (pr.mono x1.gh), fun i v hv hi => by
    have e : m = minP p ps := lexle_anti (hl _ (minP_spec ps p).1) ((minP_spec ps p).2 _ hm)
    rw [← e] at hi
    obtain ⟨w, hw, rw'⟩ := pr.get (i := i) (r := prA m) (by rw [List.getElem?_map, hi]; rfl)
    rw [hv] at hw
    cases hw
    exact q v G1 H1 x1 rw'⟩
/-- sorted(xs)[0], xs a list of pairs of ints -/
theorem ev_sorted0 {m : Int × Int} {ps : List (Int × Int)} (h : EVL K E te (ps.map prA)) (hm : m ∈ ps) (hl : ∀ q ∈ ps, lexle m q) : EV K E (tOp (rIxL K) (tCB (rSortedPO K) (tCons te tNil)) (tC (.int 0))) (prA m) := fun B G0 σ G H k Q q =>
  h B G0 σ G H k _ fun a vs G1 H1 x1 h1 pr => by
    -- which pair a value stands for
    have key : ∀ x ∈ vs, ∃ (t : Addr) (p : Int × Int), x = V.ref t ∧ p ∈ ps ∧ H1 t = some (.tup [.int p.1, .int p.2]) ∧ (prA p).rep G1 x := fun x hx => by
      obtain ⟨i, hi⟩ := List.getElem?_of_mem hx
      obtain ⟨r, hr, rr⟩ := pr.get' hi
      rw [List.getElem?_map] at hr
      cases e : ps[i]? with
      | none => rw [e] at hr; cases hr
      | some p =>
        rw [e] at hr
        cases hr
        obtain ⟨t, ws, ex, g, pr2⟩ := id rr
        cases pr2 with
        | cons a1 t1 =>
          cases t1 with
          | cons a2 t2 =>
            cases t2; cases a1; cases a2
            exact ⟨t, p, ex, List.mem_of_getElem? e, x1.gh _ _ g, rr⟩
    let f : V → Int × Int := fun x => match x with
      | .ref t => match H1 t with
        | some (.tup [.int i, .int j]) => (i, j)
        | _ => (0, 0)
      | _ => (0, 0)
    have hf : ∀ x ∈ vs, ∃ t p, x = V.ref t ∧ f x = p ∧ p ∈ ps ∧ H1 t = some (.tup [.int p.1, .int p.2]) ∧ (prA p).rep G1 x := fun x hx => by
      obtain ⟨t, p, e, hp, ht, rr⟩ := key x hx
      refine ⟨t, p, e, ?_, hp, ht, rr⟩
      subst e
      show (match H1 t with | some (.tup [.int i, .int j]) => (i, j) | _ => (0, 0)) = p
      rw [ht]
    refine ⟨a, vs, f, rfl, SqL.of h1, fun x hx => ?_, fun ys p srt stb np => ?_⟩
    · obtain ⟨t, p, e, ef, hp, ht, _⟩ := hf x hx
      exact ⟨t, e, by rw [ef]; exact ht⟩
    · -- m stands in the list
      obtain ⟨i, hi⟩ := List.getElem?_of_mem hm
      obtain ⟨vm, hvm, rm⟩ := pr.get (i := i) (r := prA m) (by rw [List.getElem?_map, hi]; rfl)
      have hvm2 : vm ∈ vs := List.mem_of_getElem? hvm
      have hym : vm ∈ ys := stb.perm.mem_iff.mpr hvm2
      cases ys with
      | nil => cases hym
      | cons y yr =>
        have hyv : y ∈ vs := stb.perm.mem_iff.mp List.mem_cons_self
        obtain ⟨t, py, ey, efy, hpy, hty, ry⟩ := hf y hyv
        -- nothing is less than the first
        have first : ∀ z ∈ y :: yr, ltP f z y = false := fun z hz => by
          rcases List.mem_cons.mp hz with e | hz
          · rw [e]; exact (ltP_swo f).refl y
          · exact SrtO.srtd_head srt z hz
        have fm : f vm = m := by
          obtain ⟨t2, p2, e2, ef2, _, ht2, _⟩ := hf vm hvm2
          obtain ⟨t3, ws, e3, g3, pr3⟩ := id rm
          cases pr3 with
          | cons a1 t1 =>
            cases t1 with
            | cons a2 t2' =>
              cases t2'; cases a1; cases a2
              rw [e2] at e3
              cases e3
              have hh := x1.gh _ _ g3
              rw [ht2] at hh
              rw [ef2]
              have := Option.some.inj hh
              simp only [HO.tup.injEq, List.cons.injEq, V.int.injEq, and_true] at this
              exact Prod.ext this.1 this.2
        have le1 : lexle py m := by
          have := SrtO.lexB_no.mp (first vm hym)
          rw [fm, efy] at this
          unfold lexle
          omega
        have e : py = m := lexle_anti le1 (hl py hpy)
        refine ⟨p, y :: yr, 0, y, rfl, rfl, SqL.of upd_same, at_of (j := 0) rfl rfl, ?_⟩
        refine q y G1 _ (x1.trans (Ext.newO x1.gh np)) ?_
        rw [← e]; exact ry
end

/-! ### isinstance of data -/
def tyD : PyData → String
  | .none => "NoneType"
  | .bool _ => "bool"
  | .int _ => "int"
  | .str _ => "str"
  | .list _ => "list"
  | .tuple _ => "tuple"
  | .dict _ => "dict"
section
variable {K : PySem.W.Frag} {E : List Slot} {te ta tb : TE} {r : AbsV}
theorem dat_ty {G : Hp} : ∀ (d : PyData) {v : V}, (dat d).rep G v → TyX K G v (.type (tyD d))
  | .none, _, h => by cases h; exact .base .non
  | .bool b, _, h => by cases h; exact .base (.bl b)
  | .int i, _, h => by cases h; exact .base (.int i)
  | .str z, _, h => by cases h; exact .base (.str z)
  | .list ds, _, h => by
    obtain ⟨p, vs, e, g, _⟩ := h
    subst e
    exact .base (.lst g)
  | .tuple ds, _, h => by
    obtain ⟨p, vs, e, g, _⟩ := h
    subst e
    exact .base (.tup g)
  | .dict _, _, h => h.elim
theorem ev_isi {b : Bool} {n : String} {d : PyData} (h : EV K E te (dat d)) (hk : kitB (tyD d) n = some b) : EV K E (tCB (rIsi K) (tCons te (tCons (tC (.ty n)) tNil))) (nB b) := fun B G0 σ G H k Q q =>
  h B G0 σ G H k _ fun v G1 H1 x1 r1 => ⟨v, .ty n, .type (tyD d), .type n, b, rfl, .ty n, dat_ty d ((dat d).mono x1.gh r1), kit_ty hk, q _ G1 H1 x1 rfl⟩
theorem ev_isNd {d : PyData} (h : EV K E te (dat d)) : EV K E (tIsN te) (nB (decide (tyD d = "NoneType"))) := ev_isN h fun G v hv => by
  cases d with
  | none => cases hv; rfl
  | bool b => cases hv; rfl
  | int i => cases hv; rfl
  | str z => cases hv; rfl
  | list ds => obtain ⟨p, vs, e, _⟩ := hv; subst e; rfl
  | tuple ds => obtain ⟨p, vs, e, _⟩ := hv; subst e; rfl
  | dict _ => exact hv.elim
end
section
variable {K : PySem.W.Frag} {E : List Slot} {ta tb : TE} {r : AbsV} {l : List AbsV}
/-- an item of a list or a tuple, where the text may meet either -/
theorem ev_ixA {i : Nat} {n : Int} (ha : EVL K E ta l ∨ EV K E ta (tuA l)) (hb : EV K E tb (nI n)) (hn : n = (i : Int)) (hi : l[i]? = some r) : EV K E (tOp (rIx K) ta tb) r := fun B G0 σ G H k Q q => by
  rcases ha with ha | ha
  · exact ha B G0 σ G H k _ fun p vs G1 H1 x1 h1 r1 => hb B G0 σ G1 H1 (k.ext x1) _ fun y G2 H2 x2 r2 => by
      obtain ⟨v, hv, rv⟩ := (r1.mono x2.g).get hi
      exact .inl ⟨p, vs, n, v, rfl, r2, SqL.of (x2.h _ _ h1), at_of hn hv, q v G2 H2 (x1.trans x2) rv⟩
  · exact ha B G0 σ G H k _ fun x G1 H1 x1 ⟨p, vs, e, g1, r1⟩ => hb B G0 σ G1 H1 (k.ext x1) _ fun y G2 H2 x2 r2 => by
      obtain ⟨v, hv, rv⟩ := (r1.mono x2.g).get hi
      subst e
      exact .inr (.inl ⟨p, vs, n, v, rfl, r2, SqT.of (x2.gh _ _ (x2.g _ _ g1)), at_of hn hv, q v G2 H2 (x1.trans x2) rv⟩)
end
/-- a def that is never called: no arguments fit -/
theorem cal_never {P : Program} {w : World} {K : PySem.W.Frag} {mg : Str → Option Value} {base : Heap} {X : Type} {args : X → List Slot} {res : X → Slot} {x : Str} {st : Stmt} {ps : List Str} {pre : X → Prop} (d : DefAt K mg x st ps) (hp : ∀ x, ¬ pre x) : Cal P w K mg base 0 x (spX K args pre res) := by
  obtain ⟨f, fd, F, hm, b⟩ := d.ex
  exact ⟨f, fd, ps, ⟨fun vs H Q E h => (hp _ h.choose_spec.choose_spec.1).elim, fun A outer s H as us vs Q E _ _ _ _ h => (hp _ h.choose_spec.choose_spec.1).elim⟩, hm, F.kp, b⟩
end Ab

set_option maxHeartbeats 2000000
namespace Ab
open PySem PySem.Spec PyProof.Rows L2
theorem ev_ixS {K : PySem.W.Frag} {E : List Slot} {tb : TE} {i j : Nat} {ns : List Int} {n x : Int} (h : E[i]? = some (.scr ns)) (hb : EV K E tb (nI n)) (hn : n = (j : Int)) (hx : ns[j]? = some x) : EV K E (tOp (rIxL K) (tVar i) tb) (nI x) := fun B G0 σ G H k Q q => by
  obtain ⟨o, e, p, e2, hs⟩ := P_get k.sl h
  subst e2
  exact ⟨.ref p, e, hb B G0 σ G H k _ fun v G1 H1 x1 r1 => ⟨p, ns.map V.int, n, .int x, rfl, r1, x1.h.seq (k.bh.seq hs), at_of hn (by rw [List.getElem?_map, hx]; rfl), q _ G1 H1 x1 rfl⟩⟩
def absI (c : Int) : Int := if c < 0 then -c else c
def mixF (f k : Int) : Int :=
  let m1 := (f * 48271 + (k + 1) * 69621) % 2147483647
  let m2 := (m1 * m1 + m1 * 16807 + k * 7919) % 2147483629
  let m3 := (m2 * m2 + f + 13 * k) % 2147483587
  m3 / 7 % 4096
def drawsS (c : Int) : Nat → List Int × Int
  | 0 => ([], absI c)
  | i + 1 => if (decide (10 ^ (18 : Int).toNat ≤ absI c) && decide (0 < (drawsS c i).2)) = true then ((drawsS c i).1 ++ [(drawsS c i).2 % 4096], (drawsS c i).2 / 4096) else ((drawsS c i).1 ++ [mixF (absI c) (0 + (i : Int))], (drawsS c i).2)
def drawsF (c : Int) (n : Nat) : List Int := (drawsS c n).1
theorem drawsS_len (c : Int) : ∀ n : Nat, (drawsS c n).1.length = n
  | 0 => rfl
  | n + 1 => by
    have ih := drawsS_len c n
    unfold drawsS
    split <;> (rw [List.length_append, ih]; rfl)
theorem drawsS_mem (c : Int) : ∀ (n : Nat) (x : Int), x ∈ (drawsS c n).1 → 0 ≤ x ∧ x < 4096
  | 0, x, h => by cases h
  | n + 1, x, h => by
    have ih := drawsS_mem c n x
    unfold drawsS at h
    split at h
    · rcases List.mem_append.mp h with h | h
      · exact ih h
      · rw [List.mem_singleton.mp h]; omega
    · rcases List.mem_append.mp h with h | h
      · exact ih h
      · rw [List.mem_singleton.mp h]; unfold mixF; dsimp only; omega
theorem drawsF_at (c : Int) {n k : Nat} (h : k < n) : ∃ x, (drawsF c n)[k]? = some x ∧ 0 ≤ x ∧ x < 4096 := by
  have hl := drawsS_len c n
  have hk : k < (drawsF c n).length := by unfold drawsF; rw [hl]; exact h
  exact ⟨_, List.getElem?_eq_getElem hk, drawsS_mem c n _ (List.getElem_mem hk)⟩
def Flat : PyData → Prop
  | .none | .bool _ | .int _ | .str _ => True
  | _ => False
def Fit : Nat → PyData → Prop
  | 0, _ => False
  | n + 1, d => Flat d ∨ ∃ ds : List PyData, (d = .list ds ∨ d = .tuple ds) ∧ ds.length ≤ 1000 ∧ ∀ x ∈ ds, Fit n x
theorem all_true (n : Nat) : ((List.range n).map (fun _ : Nat => true)).all id = true := by
  rw [List.all_eq_true]
  intro x hx
  obtain ⟨_, _, e⟩ := List.mem_map.mp hx
  rw [← e]; rfl
theorem accL_all (els : Nat → AbsV) (n : Nat) : accL (fun _ => true) els n = (List.range n).map els := by
  unfold accL
  rw [List.filter_eq_self.mpr (fun _ _ => rfl)]
theorem eqV_int (a b : Int) : eqV (.int a) (.int b) = decide (a = b) := by
  unfold eqV
  rfl
theorem ev_inI {K : PySem.W.Frag} {E : List Slot} {ta tb : TE} {n : Int} {ns : List Int} (ha : EV K E ta (nI n)) (hb : EVL K E tb (ns.map nI)) : EV K E (tOp (rIn K false) ta tb) (nB (decide (n ∈ ns))) := fun B G0 σ G H k Q q =>
  ha B G0 σ G H k _ fun x G1 H1 x1 r1 => hb B G0 σ G1 H1 (k.ext x1) _ fun p vs G2 H2 x2 h2 pr => by
    have e := all_int pr
    subst e
    cases r1
    refine ⟨p, _, rfl, .inl (SqL.of h2), rfl, ?_, q _ G2 H2 (x1.trans x2) ?_⟩
    · rw [List.all_eq_true]
      intro v hv
      obtain ⟨z, _, rfl⟩ := List.mem_map.mp hv
      rfl
    · show V.bl _ = V.bl _
      congr 1
      rw [if_neg Bool.false_ne_true]
      unfold inV
      rw [List.any_map, Bool.eq_iff_iff, List.any_eq_true, decide_eq_true_eq]
      constructor
      · rintro ⟨z, hz, e⟩
        have : z = n := of_decide_eq_true ((eqV_int z n).symm.trans e)
        rw [← this]; exact hz
      · intro hz
        exact ⟨n, hz, (eqV_int n n).trans (decide_eq_true rfl)⟩
theorem acc_first {bs : Nat → Bool} {els : Nat → AbsV} {n j0 : Nat} (h : bs j0 = true) (hl : ∀ j, j < j0 → bs j = false) (hn : j0 < n) : (accL bs els n)[0]? = some (els j0) := by
  have e0 : ∀ j, j ≤ j0 → accL bs els j = [] := fun j => by
    induction j with
    | zero => intro _; rfl
    | succ j ih =>
      intro hj
      rw [accL_succ, ih (by omega), hl j (by omega)]
      rfl
  have e1 : ∀ d, (accL bs els (j0 + 1 + d))[0]? = some (els j0) := fun d => by
    induction d with
    | zero =>
      rw [Nat.add_zero, accL_succ, e0 j0 (Nat.le_refl _), h]
      rfl
    | succ d ih =>
      rw [show j0 + 1 + (d + 1) = (j0 + 1 + d) + 1 by omega, accL_succ]
      have hlen : 0 < (accL bs els (j0 + 1 + d)).length := by
        rcases Nat.eq_zero_or_pos (accL bs els (j0 + 1 + d)).length with z | z
        · rw [List.getElem?_eq_none (by omega)] at ih; cases ih
        · exact z
      rw [List.getElem?_append_left hlen]
      exact ih
  have := e1 (n - (j0 + 1))
  rw [show j0 + 1 + (n - (j0 + 1)) = n by omega] at this
  exact this
theorem dats_int : ∀ ns : List Int, dats (ns.map PyData.int) = ns.map nI
  | [] => rfl
  | n :: ns => by
    show nI n :: dats (ns.map PyData.int) = nI n :: ns.map nI
    rw [dats_int ns]
theorem fit_flat {d : PyData} {n : Nat} (h : Flat d) : Fit (n + 1) d := .inl h
theorem fit_ints {ns : List Int} (h : ns.length ≤ 1000) {n : Nat} : Fit (n + 2) (.list (ns.map PyData.int)) := .inr ⟨_, .inl rfl, by rw [List.length_map]; exact h, fun x hx => by
  obtain ⟨z, _, rfl⟩ := List.mem_map.mp hx
  exact .inl trivial⟩

theorem accL_map {α : Type} (f : α → AbsV) : ∀ (l : List α) (d : α), accL (fun _ => true) (fun j => f (l.getD j d)) l.length = l.map f := fun l d => by
  rw [accL_all]
  apply List.ext_getElem
  · simp
  · intro i h1 h2
    simp only [List.length_map, List.length_range] at h1
    simp [h1]
theorem range_getD {α : Type} (l : List α) (d : α) : (List.range l.length).map (fun j => l.getD j d) = l := by
  apply List.ext_getElem
  · simp
  · intro i h1 h2
    simp [h2]
theorem accL_filter {α : Type} (f : α → AbsV) (p : α → Bool) (l : List α) (d : α) : accL (fun j => p (l.getD j d)) (fun j => f (l.getD j d)) l.length = (l.filter p).map f := by
  have h : l.filter p = ((List.range l.length).map (fun j => l.getD j d)).filter p := by rw [range_getD]
  rw [h, List.filter_map, List.map_map]
  rfl
section
variable {K : PySem.W.Frag} {E : List Slot} {ta tb te th : TE} {r : AbsV} {l m : List AbsV}
theorem ev_ninI {n : Int} {ns : List Int} (ha : EV K E ta (nI n)) (hb : EVL K E tb (ns.map nI)) : EV K E (tOp (rIn K true) ta tb) (nB (!decide (n ∈ ns))) := fun B G0 σ G H k Q q =>
  ha B G0 σ G H k _ fun x G1 H1 x1 r1 => hb B G0 σ G1 H1 (k.ext x1) _ fun p vs G2 H2 x2 h2 pr => by
    have e := all_int pr
    subst e
    cases r1
    refine ⟨p, _, rfl, .inl (SqL.of h2), rfl, ?_, q _ G2 H2 (x1.trans x2) ?_⟩
    · rw [List.all_eq_true]
      intro v hv
      obtain ⟨z, _, rfl⟩ := List.mem_map.mp hv
      rfl
    · show V.bl _ = V.bl _
      congr 1
      rw [if_pos rfl]
      congr 1
      unfold inV
      rw [List.any_map, Bool.eq_iff_iff, List.any_eq_true, decide_eq_true_eq]
      constructor
      · rintro ⟨z, hz, e⟩
        have : z = n := of_decide_eq_true ((eqV_int z n).symm.trans e)
        rw [← this]; exact hz
      · intro hz
        exact ⟨n, hz, (eqV_int n n).trans (decide_eq_true rfl)⟩
/-- xs + ys -/
theorem evf_cat (ha : EVL K E ta l) (hb : EVL K E tb m) (hl : l.length + m.length ≤ 100000) : EVF K E (tOp rCat ta tb) (l ++ m) := fun B G0 σ G H k Q q =>
  ha B G0 σ G H k _ fun p vs G1 H1 x1 h1 r1 => hb B G0 σ G1 H1 (k.ext x1) _ fun p2 ws G2 H2 x2 h2 r2 =>
    ⟨p, p2, vs, ws, rfl, rfl, x2.h _ _ h1, h2, by rw [r1.len, r2.len]; exact small hl, fun z hz => q z (vs ++ ws) G2 _ ((x1.trans x2).trans (Ext.newO x2.gh hz)) ((x1.trans x2).h.free hz) (x2.gh.free hz) upd_same ((r1.mono x2.g).append r2)⟩
/-- xs[:n] -/
theorem evf_to {n : Int} (ha : EVL K E te l) (hb : EV K E th (nI n)) (h0 : 0 ≤ n) : EVF K E (tSl (rSlL K) te tNoPart (tPart th)) (l.take n.toNat) := fun B G0 σ G H k Q q =>
  ha B G0 σ G H k _ fun p vs G1 H1 x1 h1 r1 => hb B G0 σ G1 H1 (k.ext x1) _ fun v G2 H2 x2 r2 => ⟨n, r2, p, vs, rfl, SqL.of (x2.h _ _ h1), fun z hz => by
    have e : cutV vs none (some n) = vs.take n.toNat := by
      have en : (some n : Option Int) = some ((n.toNat : Nat) : Int) := by rw [Int.toNat_of_nonneg h0]
      unfold cutV
      rw [en, HT.sIx_nat, HT.sIx_none, Nat.sub_zero, List.drop_zero]
      rcases Nat.le_total n.toNat vs.length with h | h
      · rw [Nat.min_eq_left h]
      · rw [Nat.min_eq_right h, List.take_length, List.take_of_length_le h]
    rw [e]
    exact q z _ G2 _ ((x1.trans x2).trans (Ext.newO x2.gh hz)) ((x1.trans x2).h.free hz) (x2.gh.free hz) upd_same ((r1.mono x2.g).take n.toNat)⟩
/-- xs[n:] -/
theorem evf_from {n : Int} (ha : EVL K E te l) (hb : EV K E th (nI n)) (h0 : 0 ≤ n) : EVF K E (tSl (rSlL K) te (tPart th) tNoPart) (l.drop n.toNat) := fun B G0 σ G H k Q q =>
  ha B G0 σ G H k _ fun p vs G1 H1 x1 h1 r1 => hb B G0 σ G1 H1 (k.ext x1) _ fun v G2 H2 x2 r2 => ⟨n, r2, p, vs, rfl, SqL.of (x2.h _ _ h1), fun z hz => by
    have e : cutV vs (some n) none = vs.drop n.toNat := by
      have en : (some n : Option Int) = some ((n.toNat : Nat) : Int) := by rw [Int.toNat_of_nonneg h0]
      unfold cutV
      rw [en, HT.sIx_nat, HT.sIx_none]
      rcases Nat.le_total n.toNat vs.length with h | h
      · rw [Nat.min_eq_left h]
        exact List.take_of_length_le (by rw [List.length_drop]; omega)
      · rw [Nat.min_eq_right h, List.drop_of_length_le h, List.drop_of_length_le (Nat.le_refl _)]; exact List.take_nil
    rw [e]
    exact q z _ G2 _ ((x1.trans x2).trans (Ext.newO x2.gh hz)) ((x1.trans x2).h.free hz) (x2.gh.free hz) upd_same ((r1.mono x2.g).drop n.toNat)⟩
end
end Ab

set_option maxHeartbeats 2000000
namespace Ab
open PySem PySem.Spec PyProof.Rows L2
section
variable {K : PySem.W.Frag} {E : List Slot} {ta tb tc te ti : TE} {t u : TT} {ts us : TS} {r s : AbsV} {l m : List AbsV} {A : AE}
/-! ### greatest, least -/
theorem ev_maxL {n : Int} {ns : List Int} (h : EVL K E te (ns.map nI)) (hm : n ∈ ns) (hl : ∀ x ∈ ns, x ≤ n) : EV K E (tCB (rMax K) (tCons te tNil)) (nI n) :=
  ev_cbL h fun p vs G H Q _ e pr q => ⟨p, ns, rfl, SqL.of (by rw [← all_int pr]; exact e), List.length_pos_of_mem hm, fun m h1 h2 => q _ (by
    have : m = n := by have a := h2 n hm; have b := hl m h1; omega
    rw [this]; rfl)⟩
theorem ev_minL {n : Int} {ns : List Int} (h : EVL K E te (ns.map nI)) (hm : n ∈ ns) (hl : ∀ x ∈ ns, n ≤ x) : EV K E (tCB (rMin K) (tCons te tNil)) (nI n) :=
  ev_cbL h fun p vs G H Q _ e pr q => ⟨p, ns, rfl, SqL.of (by rw [← all_int pr]; exact e), List.length_pos_of_mem hm, fun m h1 h2 => q _ (by
    have : m = n := by have a := h2 n hm; have b := hl m h1; omega
    rw [this]; rfl)⟩
/-! ### xs[i] = e -/
theorem PR_len {G : Hp} {vs : List V} {l : List AbsV} (h : PR G vs l) : vs.length = l.length := h.len
theorem es_setI {i j : Nat} {n : Int} (hx : E[i]? = some (.own l)) (h : EV K E te r) (hi : EV K E ti (nI n)) (hn : n = (j : Int)) (hj : j < l.length) (q : A.nx (E.set i (.own (l.set j r)))) : ES K E (tAsg te (gSub (tVar i) ti rSetL)) A := fun B G0 σ G H D k S =>
  h B G0 σ G H k _ fun v G1 H1 x1 r1 => by
    have k1 := k.ext x1
    obtain ⟨o, e, p, vs, e2, b, g, hh, pr⟩ := P_get k1.sl hx
    subst e2
    refine ⟨.ref p, e, hi B G0 σ G1 H1 k1 _ fun w G2 H2 x2 r2 => ?_⟩
    have k2 := k1.ext x2
    have hl : j < vs.length := by rw [pr.len]; exact hj
    refine ⟨p, vs, n, j, rfl, r2, x2.h _ _ hh, ?_, S.nx _ _ _ _ q (k2.upd hx e (PR.set (r.mono x2.g r1) j (pr.mono x2.g)))⟩
    unfold ixN
    rw [if_pos (by omega), if_pos (by omega), hn]; rfl
/-! ### the truth of a list -/
theorem et_truthL (h : EVL K E te l) (tt : TT) (ht : ∀ σ H Q, (te σ H fun x H1 => ∃ k, TruV K x H1 k ∧ Q k H1) → tt σ H Q) : ET K E tt (!l.isEmpty) := fun B G0 σ G H k Q q =>
  ht σ H Q (h B G0 σ G H k _ fun p vs G1 H1 x1 h1 pr => ⟨!l.isEmpty, .inl ⟨vs, SqL.of h1, by
    have := pr.len
    cases vs <;> cases l <;> first | rfl | simp at this⟩, q G1 H1 x1⟩)
/-! ### [x] * n -/
theorem evf_rep {n : Int} (ha : EVL K E ta l) (hb : EV K E tb (nI n)) (h0 : 0 ≤ n) (h1 : l.length * n.toNat ≤ 100000) (h2 : n ≤ 100000) : EVF K E (tOp rRep ta tb) (List.flatten (List.replicate n.toNat l)) := fun B G0 σ G H k Q q =>
  ha B G0 σ G H k _ fun p vs G1 H1 x1 e1 r1 => hb B G0 σ G1 H1 (k.ext x1) _ fun w G2 H2 x2 r2 =>
    ⟨p, n, vs, rfl, r2, x2.h _ _ e1, by omega, by omega, by rw [r1.len]; exact small h1, fun z hz => by
      refine q z _ G2 _ ((x1.trans x2).trans (Ext.newO x2.gh hz)) ((x1.trans x2).h.free hz) (x2.gh.free hz) upd_same ?_
      have hr := r1.mono x2.g
      clear h1 h2 h0 r2 hz
      generalize n.toNat = c
      induction c with
      | zero => exact .nil
      | succ c ih => rw [List.replicate_succ, List.replicate_succ, List.flatten_cons, List.flatten_cons]; exact hr.append ih⟩
/-! ### for i, x in enumerate(xs) -/
theorem es_forE {g : TG} (P : Nat → List Slot → Prop) (hw : EVS K E te l)
    (h0 : P 0 E) (hs : ∀ i r E', l[i]? = some r → P i E' → ∃ E2, GT K g (tuA [nI (i : Nat), r]) E' E2 ∧ ES K E2 ts (A.turn (P (i + 1)))) (hd : ∀ E', P l.length E' → A.nx E') : ES K E (tFor (iEnum K (tCons te tNil)) g ts) A := fun B G0 σ G H D k S =>
  hw B G0 σ G H k _ fun p vs G1 H1 x1 st pr => by
    have k1 := k.ext x1
    have stay : ∀ {G' H' : Hp}, OkB B G1 G' H' → H' p = some (.lst vs) := fun {G' H'} o => by
      rcases st with st | st
      · exact o.gh _ _ (o.g0 _ _ st)
      · exact o.bh _ _ st
    refine ⟨p, vs, rfl, SqL.of (stay k1.toOkB.here), fun i m σ' H' => m = vs.length - i ∧ i ≤ vs.length ∧ ∃ E' G', P i E' ∧ Ok K B G1 E' σ' G' H', ⟨vs.length, by simp, Nat.zero_le _, E, G1, h0, k1.here⟩, ?_⟩
    rintro i m σ' H' ⟨rfl, hi, E', G', hp, k'⟩
    have hH := stay k'.toOkB
    by_cases hlt : i < vs.length
    · obtain ⟨r, hr, rv⟩ := PR.get' (pr.mono k'.g0) (List.getElem?_eq_getElem hlt)
      obtain ⟨E2, hg, hb⟩ := hs i r E' hr hp
      refine .inr ⟨⟨vs, vs[i], SqL.of hH, List.getElem?_eq_getElem hlt⟩, fun σ3 H3 => ∃ E3 G3, P (i + 1) E3 ∧ Ok K B G1 E3 σ3 G3 H3, fun σ3 H3 ⟨E3, G3, h3, k3⟩ => ⟨vs.length - (i + 1), by omega, rfl, hlt, E3, G3, h3, k3⟩, fun x H2 hy => ?_⟩
      obtain ⟨T, y, rfl, hT, rfl, fy⟩ := hy
      have ey : y = vs[i] := Option.some.inj ((fy vs (SqL.of hH)).symm.trans (List.getElem?_eq_getElem hlt))
      have xT := Ext.new (o := .tup [.int (i : Nat), y]) k'.gh hT
      have k2 := k'.ext xT
      refine hg B G1 σ' _ _ _ k2 ⟨T, _, rfl, upd_same, .cons rfl (.cons (r.mono xT.g (by rw [ey]; exact rv)) .nil)⟩ _ fun σ2 k3 => ?_
      exact hb B G1 σ2 _ _ _ k3 (sat_turn S k1.toOkB fun E3 σ3 G3 H3 h3 k3 => ⟨E3, G3, h3, k3⟩)
    · have e : i = vs.length := by omega
      subst e
      rw [pr.len] at hp
      exact .inl ⟨⟨vs, SqL.of hH, Nat.le_refl _⟩, S.nx E' σ' H' |> fun f => f |> fun _ => S.nx E' σ' G' H' (hd E' hp) (k'.via k1.toOkB)⟩
/-! ### dicts -/
def lookA {κ : Type} [DecidableEq κ] (kvs : List (κ × AbsV)) (k : κ) : Option AbsV := (kvs.find? fun kv => decide (kv.1 = k)).map (·.2)
theorem PK.look {κ : Type} [DecidableEq κ] {G : Hp} (k : κ) : ∀ {ws : List (κ × V)} {kvs : List (κ × AbsV)}, PK G ws kvs → match lookA kvs k with | some r => ∃ v, (ws.find? fun kv => decide (kv.1 = k)).map (·.2) = some v ∧ r.rep G v | none => (ws.find? fun kv => decide (kv.1 = k)).map (·.2) = none
  | _, _, .nil => rfl
  | (a, v) :: ws, (b, r) :: kvs, .cons h t => by
    obtain ⟨e, hv⟩ := h
    dsimp only at e hv
    subst e
    unfold lookA
    rw [List.find?_cons, List.find?_cons]
    dsimp only
    by_cases z : a = k
    · rw [decide_eq_true z]; exact ⟨v, rfl, hv⟩
    · rw [decide_eq_false z]; exact PK.look k t
/-- a dict that can be read now -/
def EVD (K : PySem.W.Frag) (E : List Slot) (te : TE) (kvs : List (Key × AbsV)) : Prop := ∀ (B G0 : Hp) (σ : L2.St) (G H : Hp), Ok K B G0 E σ G H → ∀ Q : VK, (∀ p ws G' H', Ext G H G' H' → H' p = some (.dK ws) → PK G' ws kvs → Q (.ref p) H') → te σ H Q
theorem EV.evd {kvs : List (Key × AbsV)} (h : EV K E te (dcA kvs)) : EVD K E te kvs := fun B G0 σ G H k Q q => h B G0 σ G H k Q fun v G' H' x ⟨p, ws, e, g, pr⟩ => by
  subst e
  exact q p ws G' H' x (x.gh _ _ g) pr
theorem evd_own {i : Nat} {kvs : List (Key × AbsV)} (h : E[i]? = some (.dic kvs)) : EVD K E (tVar i) kvs := fun B G0 σ G H k Q q => by
  obtain ⟨o, e, p, ws, e2, b, g, hh, pr⟩ := P_get k.sl h
  subst e2
  exact ⟨.ref p, e, q p ws G H (Ext.refl k.gh) hh pr⟩
theorem ev_din {n : Int} {kvs : List (Key × AbsV)} (hk : EV K E ta (nI n)) (hd : EVD K E tb kvs) : EV K E (tDIn ta tb) (nB (lookA kvs (Sum.inl n)).isSome) := fun B G0 σ G H k Q q =>
  hk B G0 σ G H k _ fun x G1 H1 x1 r1 => hd B G0 σ G1 H1 (k.ext x1) _ fun p ws G2 H2 x2 h2 pr => by
    cases r1
    refine ⟨p, valV ws (Sum.inl n), rfl, DGet.k (k := Sum.inl n) h2, q _ G2 H2 (x1.trans x2) ?_⟩
    have hl := PK.look (Sum.inl n : Key) pr
    show V.bl (valV ws (Sum.inl n)).isSome = V.bl _
    unfold valV
    cases e : lookA kvs (Sum.inl n) with
    | none => rw [e] at hl; rw [hl]; rfl
    | some r => rw [e] at hl; obtain ⟨v, e2, _⟩ := hl; rw [e2]; rfl
theorem ev_dnotin {n : Int} {kvs : List (Key × AbsV)} (hk : EV K E ta (nI n)) (hd : EVD K E tb kvs) : EV K E (tDNotIn ta tb) (nB (!(lookA kvs (Sum.inl n)).isSome)) := fun B G0 σ G H k Q q =>
  hk B G0 σ G H k _ fun x G1 H1 x1 r1 => hd B G0 σ G1 H1 (k.ext x1) _ fun p ws G2 H2 x2 h2 pr => by
    cases r1
    refine ⟨p, valV ws (Sum.inl n), rfl, DGet.k (k := Sum.inl n) h2, q _ G2 H2 (x1.trans x2) ?_⟩
    have hl := PK.look (Sum.inl n : Key) pr
    show V.bl (!(valV ws (Sum.inl n)).isSome) = V.bl _
    unfold valV
    cases e : lookA kvs (Sum.inl n) with
    | none => rw [e] at hl; rw [hl]; rfl
    | some r => rw [e] at hl; obtain ⟨v, e2, _⟩ := hl; rw [e2]; rfl
theorem ev_dget {n : Int} {kvs : List (Key × AbsV)} (hd : EVD K E ta kvs) (hk : EV K E tb (nI n)) (hl : lookA kvs (Sum.inl n) = some r) : EV K E (tDGet ta tb) r := fun B G0 σ G H k Q q =>
  hd B G0 σ G H k _ fun p ws G1 H1 x1 h1 pr => hk B G0 σ G1 H1 (k.ext x1) _ fun x G2 H2 x2 r2 => by
    cases r2
    have hl2 := PK.look (Sum.inl n : Key) (pr.mono x2.g)
    rw [hl] at hl2
    obtain ⟨v, e2, rv⟩ := hl2
    exact ⟨p, v, rfl, (by have := DGet.k (k := Sum.inl n) (x2.h _ _ h1); unfold valV at this; rw [e2] at this; exact this), q v G2 H2 (x1.trans x2) rv⟩
theorem ev_dget2 {n : Int} {kvs : List (Key × AbsV)} (hd : EVD K E ta kvs) (hk : EV K E tb (nI n)) (hx : EV K E tc s) : EV K E (tDGet2 ta tb tc) ((lookA kvs (Sum.inl n)).getD s) := fun B G0 σ G H k Q q =>
  hd B G0 σ G H k _ fun p ws G1 H1 x1 h1 pr => ⟨p, rfl, .inl ⟨ws, .inl h1⟩, hk B G0 σ G1 H1 (k.ext x1) _ fun x G2 H2 x2 r2 => hx B G0 σ G2 H2 ((k.ext x1).ext x2) _ fun z G3 H3 x3 r3 => by
    cases r2
    have hl2 := PK.look (Sum.inl n : Key) (pr.mono (x2.trans x3).g)
    refine ⟨valV ws (Sum.inl n), DGet.k (k := Sum.inl n) ((x2.trans x3).h _ _ h1), q _ G3 H3 ((x1.trans x2).trans x3) ?_⟩
    unfold valV
    cases e : lookA kvs (Sum.inl n) with
    | none => rw [e] at hl2; rw [hl2]; exact r3
    | some r => rw [e] at hl2; obtain ⟨v, e2, rv⟩ := hl2; rw [e2]; exact rv⟩
def putA {κ : Type} [DecidableEq κ] (kvs : List (κ × AbsV)) (k : κ) (r : AbsV) : List (κ × AbsV) := if (kvs.any fun kv => decide (kv.1 = k)) = true then kvs.map fun kv => if kv.1 = k then (kv.1, r) else kv else kvs ++ [(k, r)]
theorem PK.any {κ : Type} [DecidableEq κ] {G : Hp} (k : κ) : ∀ {ws : List (κ × V)} {kvs : List (κ × AbsV)}, PK G ws kvs → (ws.any fun kv => decide (kv.1 = k)) = (kvs.any fun kv => decide (kv.1 = k))
  | _, _, .nil => rfl
  | (a, v) :: ws, (b, r) :: kvs, .cons h t => by
    obtain ⟨e, _⟩ := h
    dsimp only at e
    subst e
    rw [List.any_cons, List.any_cons, PK.any k t]
theorem PK.append {κ : Type} {G : Hp} : ∀ {ws ws' : List (κ × V)} {kvs kvs' : List (κ × AbsV)}, PK G ws kvs → PK G ws' kvs' → PK G (ws ++ ws') (kvs ++ kvs')
  | _, _, _, _, .nil, h => h
  | _, _, _, _, .cons a t, h => .cons a (PK.append t h)
theorem PK.mapput {κ : Type} [DecidableEq κ] {G : Hp} (k : κ) {v : V} {r : AbsV} (hv : r.rep G v) : ∀ {ws : List (κ × V)} {kvs : List (κ × AbsV)}, PK G ws kvs → PK G (ws.map fun kv => if kv.1 = k then (kv.1, v) else kv) (kvs.map fun kv => if kv.1 = k then (kv.1, r) else kv)
  | _, _, .nil => .nil
  | (a, u) :: ws, (b, r') :: kvs, .cons h t => by
    obtain ⟨e, hb⟩ := h
    dsimp only at e hb
    subst e
    rw [List.map_cons, List.map_cons]
    refine .cons ?_ (PK.mapput k hv t)
    dsimp only
    split
    · exact ⟨rfl, hv⟩
    · exact ⟨rfl, hb⟩
theorem PK.put {κ : Type} [DecidableEq κ] {G : Hp} (k : κ) {v : V} {r : AbsV} (hv : r.rep G v) {ws : List (κ × V)} {kvs : List (κ × AbsV)} (h : PK G ws kvs) : PK G (putK ws k v) (putA kvs k r) := by
  unfold putK putA
  rw [PK.any k h]
  split
  · exact PK.mapput k hv h
  · exact PK.append h (.cons ⟨rfl, hv⟩ .nil)
theorem PK.len {κ : Type} {G : Hp} {ws : List (κ × V)} {kvs : List (κ × AbsV)} (h : PK G ws kvs) : ws.length = kvs.length := Paired.length h
theorem es_dput {i : Nat} {n : Int} {kvs : List (Key × AbsV)} (hx : E[i]? = some (.dic kvs)) (hk : EV K E ti (nI n)) (h : EV K E te r) (hl : kvs.length < 100000) (q : A.nx (E.set i (.dic (putA kvs (Sum.inl n) r)))) : ES K E (sDPut (tVar i) ti te) A := fun B G0 σ G H D k S =>
  h B G0 σ G H k _ fun v G1 H1 x1 r1 => by
    have k1 := k.ext x1
    obtain ⟨o, e, p, ws, e2, b, g, hh, pr⟩ := P_get k1.sl hx
    subst e2
    refine ⟨.ref p, e, hk B G0 σ G1 H1 k1 _ fun w G2 H2 x2 r2 => ?_⟩
    cases r2
    have k2 := k1.ext x2
    refine ⟨p, _, rfl, DPut.k (k := Sum.inl n) (x2.h _ _ hh) (by rw [pr.len]; exact smallT hl), S.nx _ _ _ _ q (k2.updM hx rfl e ⟨p, _, rfl, b, x2.n p (by rw [hh]; exact fun z => by cases z) g, upd_same, PK.put _ (r.mono x2.g r1) (pr.mono x2.g)⟩)⟩
/-- {k: v} -/
theorem es_asgD1 {i : Nat} {n : Int} {tk tv : TE} (hk : EV K E tk (nI n)) (hv : EV K E tv r) (q : A.nx (E.set i (.dic [(Sum.inl n, r)]))) : ES K E (tAsg (tDisp [(tk, tv)]) (gName i)) A := fun B G0 σ G H D k S => fun p hp =>
  hk B G0 σ G _ (k.ext (Ext.newO k.gh hp)) _ fun x G1 H1 x1 r1 => hv B G0 σ G1 H1 ((k.ext (Ext.newO k.gh hp)).ext x1) _ fun v G2 H2 x2 r2 => by
    cases r1
    have x0 := (Ext.newO (o := .dK []) k.gh hp).trans (x1.trans x2)
    have hH : H2 p = some (.dK []) := (x1.trans x2).h _ _ upd_same
    have hG : G2 p = none := (x1.trans x2).n p (by rw [upd_same]; exact fun z => by cases z) (k.gh.free hp)
    refine ⟨hH, [(Sum.inl n, v)], rfl, (by show 1 ≤ 15; decide), S.nx _ _ G2 _ q ?_⟩
    have k2 := k.ext x0
    have xm : Ok K B G0 (E.set i (.dic [(Sum.inl n, r)])) (σ.set i (some (.ref p))) G2 (upd H2 p (.dK [(Sum.inl n, v)])) := by
      have bn : B p = none := k.bh.free hp
      have kk : Ok K B G0 E σ G2 (upd H2 p (.dK [(Sum.inl n, v)])) := by
        refine k.ext ⟨x0.g, fun b u e => ?_, fun b u e => ?_, x0.n⟩
        · rw [upd_ne (ne_of_none e hp)]; exact x0.h b u e
        · rw [upd_ne (ne_of_none e hG)]; exact x0.gh b u e
      exact kk.setM i ⟨p, _, rfl, bn, hG, upd_same, .cons ⟨rfl, r2⟩ .nil⟩ fun j s' _ e m => k.fresh hp e m
    exact xm
/-! ### objects -/
theorem lookup_find {κ : Type} [DecidableEq κ] [BEq κ] [LawfulBEq κ] (k : κ) {β : Type} : ∀ ws : List (κ × β), ws.lookup k = (ws.find? fun kv => decide (kv.1 = k)).map (·.2)
  | [] => rfl
  | (a, v) :: ws => by
    rw [List.lookup_cons, List.find?_cons]
    dsimp only
    by_cases z : k = a
    · subst z
      rw [beq_self_eq_true, decide_eq_true rfl]; rfl
    · rw [decide_eq_false (fun e => z e.symm), beq_false_of_ne z]
      exact lookup_find k ws
/-- x.f -/
theorem ev_fld {C : Addr} {fs : List (Str × AbsV)} {f : Str} (h : EV K E te (inA C fs)) (hc : Cls K C) (hn : NoAttr K C f) (hl : lookA fs f = some r) : EV K E (tFld K te f) r := fun B G0 σ G H k Q q =>
  h B G0 σ G H k _ fun x G1 H1 x1 ⟨p, dx, ws, e, g, pr⟩ => by
    subst e
    have hl2 := PK.look f pr
    rw [hl] at hl2
    obtain ⟨v, e2, rv⟩ := hl2
    exact ⟨p, C, dx, ws, v, rfl, x1.gh _ _ g, hc, hn, by rw [lookup_find]; exact e2, q v G1 H1 x1 rv⟩
theorem putF_new {f : Str} {v : V} : ∀ {ws : List (Str × V)}, (ws.find? fun kv => decide (kv.1 = f)) = none → putF f v ws = ws ++ [(f, v)]
  | [], _ => rfl
  | (a, u) :: ws, h => by
    rw [List.find?_cons] at h
    dsimp only at h
    by_cases z : a = f
    · rw [decide_eq_true z] at h; cases h
    · rw [decide_eq_false z] at h
      show (if a = f then _ else (a, u) :: putF f v ws) = _
      rw [if_neg z, putF_new h]; rfl
/-- self.f = e, f new -/
theorem es_fld {i : Nat} {p C : Addr} {fs : List (Str × AbsV)} {f : Str} (hx : E[i]? = some (.ins p C fs)) (hc : Cls K C) (hn : NoAttr K C f) (h : EV K E te r) (hl : lookA fs f = none) (hs : fs.length < 900) (q : A.nx (E.set i (.ins p C (fs ++ [(f, r)])))) : ES K E (sFld K (tVar i) te f) A := fun B G0 σ G H D k S =>
  h B G0 σ G H k _ fun v G1 H1 x1 r1 => by
    have k1 := k.ext x1
    obtain ⟨o, e, dx, ws, e2, b, g, hh, pr⟩ := P_get k1.sl hx
    subst e2
    have hl2 := PK.look f pr
    rw [hl] at hl2
    have hl3 : (ws.find? fun kv => decide (kv.1 = f)) = none := by
      cases z : ws.find? fun kv => decide (kv.1 = f) with
      | none => rfl
      | some w => rw [z] at hl2; cases hl2
    refine ⟨.ref p, e, p, C, dx, ws, rfl, hh, hc, hn, by rw [pr.len]; omega, S.nx _ σ G1 _ q ?_⟩
    have hp2 : PK G1 (putF f v ws) (fs ++ [(f, r)]) := by
      rw [putF_new hl3]
      exact PK.append pr (.cons ⟨rfl, r1⟩ .nil)
    exact k1.updM hx rfl e ⟨dx, putF f v ws, rfl, b, g, upd_same, hp2⟩
theorem EV.ofI {p C : Addr} {fs : List (Str × AbsV)} (h : EV K E te (iaA p C fs)) : EV K E te (inA C fs) := fun B G0 σ G H k Q q => h B G0 σ G H k Q fun v G' H' x ⟨e, dx, ws, g, pk⟩ => q v G' H' x ⟨p, dx, ws, e, g, pk⟩
/-- o.m(..), o known for good -/
theorem ev_meth {X : Type} {args : X → List Slot} {pre : X → Prop} {res : X → Slot} {Ex0 : XK} {C : Addr} {fs : List (Str × AbsV)} {f : Str} {tr : TA} {as : List Slot} (x : X) (h : EV K E te (inA C fs)) (hl : lookA fs f = none) (ha : EA K E tr as) (hx : args x = .val (inA C fs) :: as) (hp : pre x) (hr : res x = .val r) : EV K E (tMeth C f (spX K args pre res) [] Ex0 te tr) r := fun B G0 σ G H k Q q =>
  h B G0 σ G H k _ fun o G1 H1 x1 r1 => by
    obtain ⟨p, dx, ws, e, g, pr⟩ := id r1
    subst e
    have hl2 := PK.look f pr
    rw [hl] at hl2
    refine ⟨p, dx, ws, rfl, x1.gh _ _ g, by rw [lookup_find]; exact hl2, ha B G0 σ G1 H1 (k.ext x1) _ fun vs G2 H2 x2 a => ⟨x, G2, hp, x2.gh, ?_, fun v G3 H3 x3 rv => q v G3 H3 ((x1.trans x2).trans x3) (by rw [hr] at rv; exact rv)⟩⟩
    rw [hx, List.append_nil]
    exact .cons ((inA C fs).mono x2.g r1) a
theorem evf_meth {X : Type} {args : X → List Slot} {pre : X → Prop} {res : X → Slot} {Ex0 : XK} {C : Addr} {fs : List (Str × AbsV)} {f : Str} {tr : TA} {as : List Slot} (x : X) (h : EV K E te (inA C fs)) (hl : lookA fs f = none) (ha : EA K E tr as) (hx : args x = .val (inA C fs) :: as) (hp : pre x) (hr : res x = .own l) : EVF K E (tMeth C f (spX K args pre res) [] Ex0 te tr) l := fun B G0 σ G H k Q q =>
  h B G0 σ G H k _ fun o G1 H1 x1 r1 => by
    obtain ⟨p, dx, ws, e, g, pr⟩ := id r1
    subst e
    have hl2 := PK.look f pr
    rw [hl] at hl2
    refine ⟨p, dx, ws, rfl, x1.gh _ _ g, by rw [lookup_find]; exact hl2, ha B G0 σ G1 H1 (k.ext x1) _ fun vs G2 H2 x2 a => ⟨x, G2, hp, x2.gh, ?_, fun v G3 H3 x3 rv => ?_⟩⟩
    · rw [hx, List.append_nil]
      exact .cons ((inA C fs).mono x2.g r1) a
    · rw [hr] at rv
      obtain ⟨p2, ws2, e, h1, g2, h2, pr2⟩ := rv
      subst e
      exact q p2 ws2 G3 H3 ((x1.trans x2).trans x3) ((x1.trans x2).h.free h1) g2 h2 pr2
/-- the promise of an __init__: a new object with these fields -/
def spI (K : PySem.W.Frag) (C : Addr) {X : Type} (args : X → List Slot) (pre : X → Prop) (fs : X → List (Str × AbsV)) : Sp := fun vs H Q _ => ∃ (x : X) (p dx : Addr) (Hb G : Hp) (us : List V), vs = .ref p :: us ∧ Hb p = none ∧ Hb dx = none ∧ dx ≠ p ∧ H = upd (upd Hb dx (.own p)) p (.ins C dx []) ∧ pre x ∧ Same G Hb ∧ Paired (ArgOk K G Hb) (args x) us ∧
  ∀ G' H', Ext G Hb G' H' → (inA C (fs x)).rep G' (.ref p) → Q .non H'
theorem ev_make {X : Type} {args : X → List Slot} {pre : X → Prop} {fs : X → List (Str × AbsV)} {Ex0 : XK} {C : Addr} {tr : TA} (x : X) (ha : EA K E tr (args x)) (hp : pre x) : EV K E (tMake C (spI K C args pre fs) [] Ex0 tr) (inA C (fs x)) := fun B G0 σ G H k Q q =>
  ha B G0 σ G H k _ fun vs G1 H1 x1 a => fun p dx np nd ne => ⟨x, p, dx, H1, G1, vs, by rw [List.append_nil], np, nd, ne, rfl, hp, x1.gh, a, fun G2 H2 x2 rv => ⟨rfl, q _ G2 H2 (x1.trans x2) rv⟩⟩
end
section
variable {P : Program} {w : World} {K : PySem.W.Frag} {mg : Str → Option Value} {base : Heap}
/-- THE RULE for an __init__ -/
theorem okI {C : Addr} {X : Type} {args : X → List Slot} {pre : X → Prop} {fs : X → List (Str × AbsV)} {qual : Str} {st : Stmt} {f : Addr} {fd : FuncData} {N ps : List Str} {k : Nat} (F : Fun K "__init__" qual st f fd) (S : FnScope N ps (defScope st)) (la : ∀ x, (args x).length + 1 = ps.length)
    (hb : ∀ (cdv : Value) (A : Around) (outer : List Env) (s : Shared) (H : Hp) (E : XK), Room k (A.deeper (envOfC qual (defScope st) s.heap.objs.size f cdv)) →
      ∃ t, PSs (cxOf CX0 P w K mg base N qual (defScope st) f cdv A outer s H E).nox (defBody st) t ∧ ∀ p x, pre x → ES K (.ins p C [] :: args x ++ List.replicate (N.length - ps.length) .un) t { nx := fun E' => E'[0]? = some (.val (iaA p C (fs x))), bk := fun _ => False, ct := fun _ => False, rt := fun _ => False }) : FnOk P w K mg base CX0 (k + 1) f fd ps (spI K C args pre fs) := by
  refine F.ok S (fun vs H Q E h => ?_) fun cdv A outer s H vs Q E hr h => ?_
  · obtain ⟨x, p, dx, Hb, G, us, e, _, _, _, _, _, _, a, _⟩ := h
    rw [e, List.length_cons, ← P_len a, la]
  · obtain ⟨t, ht, he⟩ := hb cdv A outer s H E hr
    obtain ⟨x, p, dx, Hb, G, us, e, np, nd, ne, eH, hp, gh, a, q⟩ := h
    subst e
    refine ⟨t, ht, ?_⟩
    have lv : (V.ref p :: us).length = ps.length := by rw [List.length_cons, ← P_len a, la]
    have e0 : L2.start N (V.ref p :: us) = (some (V.ref p) :: us.map some) ++ List.replicate (N.length - ps.length) none := by
      unfold L2.start
      rw [lv]; rfl
    rw [e0]
    have s1 : Same Hb H := fun b o e => by
      rw [eH, upd_ne (ne_of_none e np), upd_ne (ne_of_none e nd)]; exact e
    have hH : H p = some (.ins C dx []) := by rw [eH, upd_same]
    have k0 : Ok K Hb G (.ins p C [] :: args x ++ List.replicate (N.length - ps.length) .un) ((some (V.ref p) :: us.map some) ++ List.replicate (N.length - ps.length) none) G H := by
      have k1 := start_ok (K := K) (G := G) (H := Hb) gh a (N.length - ps.length)
      have x1 : Ext G Hb G H := ⟨Same.refl _, s1, gh.trans s1, fun _ _ e => e⟩
      have k2 := k1.ext x1
      refine ⟨k2.toOkB, .cons ⟨dx, [], rfl, np, gh.free np, hH, .nil⟩ k2.sl, fun i j r s s' ei ej mi mj si sj => ?_, fun i j q s s' ei ej mj hq => ?_⟩
      rotate_left
      · have : s.inn = [] := by
          cases i with
          | zero => have ei' : Slot.ins p C [] = s := Option.some.inj ei; rw [← ei']; rfl
          | succ i => exact Slot.inn_of (start_mut a (i := i) ei)
        rw [this] at hq; cases hq
      have only : ∀ (i : Nat) (s : Slot), (Slot.ins p C [] :: (args x ++ List.replicate (N.length - ps.length) Slot.un))[i]? = some s → s.mut = true → i = 0 := fun i s ei mi => by
        cases i with
        | zero => rfl
        | succ i =>
          have ei' : (args x ++ List.replicate (N.length - ps.length) Slot.un)[i]? = some s := ei
          have hf : s.mut = false := by
            by_cases hi : i < (args x).length
            · rw [List.getElem?_append_left hi] at ei'; exact no_mut a ei'
            · rw [List.getElem?_append_right (by omega)] at ei'
              have := List.mem_of_getElem? ei'
              have := (List.mem_replicate.mp this).2
              rw [this]; rfl
          rw [hf] at mi; cases mi
      rw [only i s ei mi, only j s' ej mj]
    refine he p x hp Hb G _ G H _ k0 ⟨fun E σ G' H' h' k' => ?_, fun _ _ _ _ h' _ => h'.elim, fun _ _ _ _ h' _ => h'.elim, fun r v G' H' h' _ _ => h'.elim, fun l p ws G' H' h' _ _ _ _ _ => h'.elim, fun _ _ _ _ _ h' _ => h'.elim⟩
    obtain ⟨o, e, v, e2, e3, rv⟩ := P_get k'.sl (show E[0]? = some (.val (iaA p C (fs x))) from h')
    obtain ⟨dx', ws', g', pk⟩ := rv
    exact q G' H' ⟨k'.g0, k'.bh, k'.gh, k'.nb⟩ ⟨p, dx', ws', rfl, g', pk⟩
end
end Ab

set_option maxHeartbeats 2000000
namespace Ab
open PySem PySem.Spec PyProof.Rows L2
section
variable {K : PySem.W.Frag} {E : List Slot} {ta tb tc te ti tk tv : TE} {t u : TT} {ts us : TS} {r s : AbsV} {l m : List AbsV} {A : AE}
theorem lenSetK {X : Cx} (K : PySem.W.Frag) {a : Expr} {ta : TE} {p p2 q pos : Pos} (hg : Gl X "len") (hm : X.mg "len" = none) (hg2 : Gl X "set") (hm2 : X.mg "set" = none) (ha : PE X a ta) (h : X.K = K := by rfl) (hc : X.calm = true := by rfl)
    (na : starEach [a] X.env = (false, eval a X.env) :: starEach [] X.env := by rfl) : PE X (.Call (.Name "len" p) [.Call (.Name "set" p2) [a] [] q] [] pos) (RZ.tLenSetI K ta) := by
  subst h; exact RZ.pe_lenSetI hg hm hg2 hm2 ha hc na
theorem ev_lenSet {ns : List Int} (h : EVL K E te (ns.map nI)) (hn : ns.Nodup) (hl : ns.length ≤ 4000) : EV K E (RZ.tLenSetI K te) (nI ns.length) := fun B G0 σ G H k Q q =>
  h B G0 σ G H k _ fun p vs G1 H1 x1 h1 pr => ⟨p, ns, rfl, SqL.of (by rw [← all_int pr]; exact h1), hn, hl, q _ G1 H1 x1 rfl⟩
/-- len(set(xs)), xs ints, whether or not some stand twice -/
def dd (ns : List Int) : Nat := (PyProof.Rows.firstMet (fun i => ns.getD i 0) ns.length).length
def tLenSetG (K : PySem.W.Frag) (ta : TE) : TE := fun σ H Q => ta σ H fun x H1 => ∃ (l : Addr) (ns : List Int), x = .ref l ∧ SqL K H1 l (ns.map V.int) ∧ ns.length ≤ 4000 ∧ Q (.int (dd ns : Nat)) H1
theorem pe_lenSetG {X : Cx} {a : Expr} {ta : TE} {p p2 q pos : Pos} (hg : Gl X "len") (hm : X.mg "len" = none) (hg2 : Gl X "set") (hm2 : X.mg "set" = none) (ha : PE X a ta) (hc : X.calm = true := by rfl)
    (na : starEach [a] X.env = (false, eval a X.env) :: starEach [] X.env := by rfl) : PE X (.Call (.Name "len" p) [.Call (.Name "set" p2) [a] [] q] [] pos) (tLenSetG X.K ta) := by
  refine ⟨fun pins s σ H Q I h => ?_⟩
  refine Call_ (ld_blt I hg hm boot_len ?_)
  refine PyProof.Rows.callWith_builtin1 (PyProof.Rows.args_cons ?_ rfl) rfl rfl
  refine Call_ (ld_blt I hg2 hm2 boot_set ?_)
  refine PyProof.Rows.callWith_type1 (PyProof.Rows.args_cons (thn (ha.run pins s σ H _ I h) fun v s1 ⟨x, H1, I1, r1, q1⟩ => PyProof.Rows.args_nil ?_) na) na rfl
  obtain ⟨l, ns, ex, hs, hle, q1⟩ := q1
  subst ex
  cases r1
  obtain ⟨its, r, pl, hz⟩ := I1.list hs
  have hlen : its.toArray.size = ns.length := by rw [List.size_toArray, ← r.length, List.length_map]
  have hfl := PyProof.Rows.firstMet_length_le (fun i => ns.getD i 0) ns.length
  refine call_set_list (I1.ok.hd hc) pl.isList (by simpa using RZ.intsAre_vals r) (by rw [hlen]; unfold scanBound; omega) fun h' tk hS hk => ?_
  refine PyProof.Rows.args_nil ?_
  rw [hlen] at hS
  obtain ⟨o, es, ep, t, ho, hex, hd, _, _, _, hf, hn⟩ := hS
  have I2 : Inv X pins σ H1 { s1 with heap := h', toks := tk } := I1.kept fun b o e => hk b o (Heap.lt_size e) e
  exact call_len_set ho hex hd hf (by rw [hn] <;> omega) ⟨.int (dd ns : Nat), H1, I2.tok _, ⟨_, by rw [hn]; rfl⟩, q1⟩
theorem lenSetGK {X : Cx} (K : PySem.W.Frag) {a : Expr} {ta : TE} {p p2 q pos : Pos} (hg : Gl X "len") (hm : X.mg "len" = none) (hg2 : Gl X "set") (hm2 : X.mg "set" = none) (ha : PE X a ta) (h : X.K = K := by rfl) (hc : X.calm = true := by rfl)
    (na : starEach [a] X.env = (false, eval a X.env) :: starEach [] X.env := by rfl) : PE X (.Call (.Name "len" p) [.Call (.Name "set" p2) [a] [] q] [] pos) (tLenSetG K ta) := by
  subst h; exact pe_lenSetG hg hm hg2 hm2 ha hc na
theorem ev_lenSetG {ns : List Int} (h : EVL K E te (ns.map nI)) (hl : ns.length ≤ 4000) : EV K E (tLenSetG K te) (nI (dd ns : Nat)) := fun B G0 σ G H k Q q =>
  h B G0 σ G H k _ fun p vs G1 H1 x1 h1 pr => ⟨p, ns, rfl, SqL.of (by rw [← all_int pr]; exact h1), hl, q _ G1 H1 x1 rfl⟩
/-- a new dict -/
def EVDF (K : PySem.W.Frag) (E : List Slot) (te : TE) (kvs : List (Key × AbsV)) : Prop := ∀ (B G0 : Hp) (σ : L2.St) (G H : Hp), Ok K B G0 E σ G H → ∀ Q : VK, (∀ p ws G' H', Ext G H G' H' → H p = none → G' p = none → H' p = some (.dK ws) → PK G' ws kvs → Q (.ref p) H') → te σ H Q
theorem EVDF.ev {kvs : List (Key × AbsV)} (h : EVDF K E te kvs) : EV K E te (dcA kvs) := fun B G0 σ G H k Q q => h B G0 σ G H k Q fun p ws G' H' x hn g' h' pr =>
  q (.ref p) (upd G' p (.dK ws)) H' (x.freeze hn g' h') ⟨p, ws, rfl, upd_same, pr.mono (fun b u e => by rw [upd_ne (ne_of_none e g')]; exact e)⟩
def dcL (kf : Nat → Int) (vf : Nat → AbsV) (n : Nat) : List (Key × AbsV) := (List.range n).map fun c => (Sum.inl (kf c), vf c)
theorem dcL_succ (kf : Nat → Int) (vf : Nat → AbsV) (n : Nat) : dcL kf vf (n + 1) = dcL kf vf n ++ [(Sum.inl (kf n), vf n)] := by
  unfold dcL
  rw [List.range_succ, List.map_append]; rfl
theorem dcL_len (kf : Nat → Int) (vf : Nat → AbsV) (n : Nat) : (dcL kf vf n).length = n := by
  unfold dcL
  rw [List.length_map, List.length_range]
theorem dcL_new {kf : Nat → Int} {vf : Nat → AbsV} {n : Nat} {k : Int} (h : ∀ c, c < n → kf c ≠ k) {r : AbsV} : putA (dcL kf vf n) (Sum.inl k) r = dcL kf vf n ++ [(Sum.inl k, r)] := by
  unfold putA
  rw [if_neg]
  intro z
  rw [List.any_eq_true] at z
  obtain ⟨kv, hm, e⟩ := z
  unfold dcL at hm
  obtain ⟨c, hc, e2⟩ := List.mem_map.mp hm
  rw [← e2] at e
  have e3 : (Sum.inl (kf c) : Key) = Sum.inl k := of_decide_eq_true e
  cases e3
  exact h c (List.mem_range.mp hc) rfl
theorem wipe2 {σ : L2.St} {i j : Nat} {v w : V} (hij : i ≠ j) : wipe (((wipe σ [i, j]).set i (some v)).set j (some w)) [i, j] = wipe σ [i, j] := by
  show (((((σ.set j none).set i none).set i (some v)).set j (some w)).set j none).set i none = (σ.set j none).set i none
  rw [List.set_set, List.set_set, List.set_comm _ _ hij, List.set_set, List.set_set]
theorem evd_dcE {i j : Nat} (hij : i ≠ j) (hw : EVS K E ta l) (kf : Nat → Int) (vf : Nat → AbsV) (inj : ∀ a b, a < b → b < l.length → kf a ≠ kf b) (hn : l.length ≤ 100000)
    (hk : ∀ c r, l[c]? = some r → EV K (((wipeE E [i, j]).set i (.val (nI (c : Nat)))).set j (.val r)) tk (nI (kf c))) (hv : ∀ c r, l[c]? = some r → EV K (((wipeE E [i, j]).set i (.val (nI (c : Nat)))).set j (.val r)) tv (vf c)) :
    EVDF K E (tDc (iEnum K (tCons ta tNil)) (gTup K 2 (gCons (gName i) (gCons (gName j) gNil))) tYes tk tv [i, j]) (dcL kf vf l.length) := fun B G0 σ G H k Q q =>
  hw B G0 σ G H k _ fun p vs G1 H1 x1 st pr => by
    have k1 := k.ext x1
    have sH : H1 p = some (.lst vs) := by
      rcases st with st | st
      · exact x1.gh _ _ st
      · exact k1.bh _ _ st
    refine ⟨p, vs, rfl, SqL.of sH, fun D hD => ?_⟩
    let Pv := fun (c : Nat) (H : Hp) => ∃ G ws, Ext G1 H1 G H ∧ G D = none ∧ H D = some (.dK ws) ∧ PK G ws (dcL kf vf c)
    refine ⟨fun c m H => m = vs.length - c ∧ c ≤ vs.length ∧ Pv c H, ⟨vs.length, by simp, Nat.zero_le _, G1, [], Ext.newO k1.gh hD, k1.gh.free hD, upd_same, .nil⟩, ?_⟩
    rintro c m H' ⟨rfl, hc, G', ws, x, gD, hD', pk⟩
    have hH := x.h _ _ sH
    by_cases hlt : c < vs.length
    · obtain ⟨r, hr, rv⟩ := PR.get' (pr.mono x.g) (List.getElem?_eq_getElem hlt)
      refine .inr ⟨⟨vs, vs[c], SqL.of hH, List.getElem?_eq_getElem hlt⟩, Pv (c + 1), fun H3 h3 => ⟨vs.length - (c + 1), by omega, rfl, hlt, h3⟩, fun y H2 hy => ?_⟩
      obtain ⟨T, z, rfl, hT, rfl, fy⟩ := hy
      have ez : z = vs[c] := Option.some.inj ((fy vs (SqL.of hH)).symm.trans (List.getElem?_eq_getElem hlt))
      have xT := Ext.new (o := .tup [.int (c : Nat), z]) x.gh hT
      have kT := Ok.wipe ((k1.ext x).ext xT) [i, j]
      refine ⟨T, [.int (c : Nat), z], rfl, SqT.of upd_same, rfl, .int (c : Nat), [z], rfl, z, [], rfl, rfl, wipe2 hij, ?_⟩
      have k2 := (kT.set i (s := .val (nI (c : Nat))) (o := some (.int (c : Nat))) ⟨_, rfl, rfl⟩ rfl).set j (s := .val r) (o := some z) ⟨_, rfl, r.mono xT.g (by rw [ez]; exact rv)⟩ rfl
      change tk _ _ _
      refine hk c r hr B G0 _ _ _ k2 _ fun yk G3 H3 x3 r3 => hv c r hr B G0 _ _ _ (k2.ext x3) _ fun yv G4 H4 x4 r4 => ?_
      cases r3
      have xx := xT.trans (x3.trans x4)
      have nz : H' D ≠ none := by rw [hD']; exact fun z => by cases z
      have g4 : G4 D = none := xx.n D nz gD
      have h4 := xx.h _ _ hD'
      have pk4 := pk.mono xx.g
      have hcl : c < l.length := by rw [← pr.len]; exact hlt
      refine ⟨ws, Sum.inl (kf c), rfl, h4, by rw [PK.len pk, dcL_len]; exact smallT (by omega), G4, _, (x.trans xx).mut hD g4, g4, upd_same, ?_⟩
      have h5 := PK.put (Sum.inl (kf c) : Key) r4 pk4
      rw [dcL_new fun a ha => inj a c ha hcl, ← dcL_succ] at h5
      exact h5
    · have e : c = vs.length := by omega
      subst e
      rw [pr.len] at pk
      exact .inl ⟨⟨vs, SqL.of hH, Nat.le_refl _⟩, q D ws G' H' (x1.trans x) (x1.h.free hD) gD hD' pk⟩
/-- the dict of a row: who stands at which port -/
def portsL (row : List Int) : List (Key × AbsV) := dcL (fun c => row.getD c 0) (fun c => nI (c : Nat)) row.length
theorem look_ports {row : List Int} {c : Nat} {o : Int} (hn : row.Nodup) (h : row[c]? = some o) : lookA (portsL row) (Sum.inl o) = some (nI (c : Nat)) := by
  have hc : c < row.length := (List.getElem?_eq_some_iff.mp h).1
  have key : ∀ n, c < n → n ≤ row.length → (dcL (fun c => row.getD c 0) (fun c => nI (c : Nat)) n).find? (fun kv => decide (kv.1 = (Sum.inl o : Key))) = some (Sum.inl o, nI (c : Nat)) := fun n => by
    induction n with
    | zero => intro h; omega
    | succ n ih =>
      intro h1 h2
      rw [dcL_succ, List.find?_append]
      by_cases hcn : c < n
      · rw [ih hcn (by omega)]; rfl
      · have e : c = n := by omega
        subst e
        have hnone : (dcL (fun c => row.getD c 0) (fun c => nI (c : Nat)) c).find? (fun kv => decide (kv.1 = (Sum.inl o : Key))) = none := by
          rw [List.find?_eq_none]
          intro kv hm hd
          unfold dcL at hm
          obtain ⟨a, ha, e2⟩ := List.mem_map.mp hm
          have ha := List.mem_range.mp ha
          have e3 : kv.1 = (Sum.inl o : Key) := of_decide_eq_true hd
          rw [← e2] at e3
          cases e3
          have ha2 : row[a]? = some (row.getD a 0) := by
            rw [List.getD_eq_getElem?_getD, List.getElem?_eq_getElem (by omega)]; rfl
          have := nd_ix hn ha2 h
          omega
        have ho : row.getD c 0 = o := by rw [List.getD_eq_getElem?_getD, h]; rfl
        rw [hnone, ho, List.find?_cons]
        dsimp only
        rw [decide_eq_true rfl]; rfl
  unfold lookA portsL
  rw [key row.length hc (Nat.le_refl _)]; rfl
theorem look_ports_none {row : List Int} {o : Int} (h : o ∉ row) : lookA (portsL row) (Sum.inl o) = none := by
  unfold lookA portsL
  have : (dcL (fun c => row.getD c 0) (fun c => nI (c : Nat)) row.length).find? (fun kv => decide (kv.1 = (Sum.inl o : Key))) = none := by
    rw [List.find?_eq_none]
    intro kv hm hd
    unfold dcL at hm
    obtain ⟨a, ha, e2⟩ := List.mem_map.mp hm
    have ha := List.mem_range.mp ha
    have e3 : kv.1 = (Sum.inl o : Key) := of_decide_eq_true hd
    rw [← e2] at e3
    cases e3
    refine h ?_
    show row.getD a 0 ∈ row
    rw [List.getD_eq_getElem?_getD, List.getElem?_eq_getElem ha]
    exact List.getElem_mem ha
  rw [this]; rfl
end
end Ab

set_option maxHeartbeats 2000000
namespace Ab
open PySem PySem.Spec PyProof.Rows L2
/-! ### exceptions of the text's own classes: what comes out of a call is a result or a class that is raised -/
abbrev Out := Slot ⊕ Addr
/-- a call that may raise -/
def EX (K : PySem.W.Frag) (E : List Slot) (te : TE) (ew : WX) (o : Out) : Prop := ∀ (B G0 : Hp) (σ : L2.St) (G H : Hp), Ok K B G0 E σ G H → ∀ Q : VK, (∀ r v G' H', o = .inl r → Ext G H G' H' → ResOk G H G' H' r v → Q v H') → (∀ C G' H', o = .inr C → Ext G H G' H' → ew (.ref C) none σ H') → te σ H Q
section
variable {K : PySem.W.Frag} {E : List Slot} {ta tb te : TE} {r : AbsV} {l : List AbsV} {A : AE} {ew : WX} {o : Out}
theorem EX.is {o' : Out} (h : EX K E te ew o) (e : o = o') : EX K E te ew o' := by
  rw [← e]; exact h
theorem EX.ev (h : EX K E te ew o) (e : o = .inl (.val r)) : EV K E te r := fun B G0 σ G H k Q q => h B G0 σ G H k Q (fun s v G' H' z x rv => by
  rw [e] at z
  cases z
  exact q v G' H' x rv) fun C G' H' z => by rw [e] at z; cases z
theorem EX.evf (h : EX K E te ew o) (e : o = .inl (.own l)) : EVF K E te l := fun B G0 σ G H k Q q => h B G0 σ G H k Q (fun s v G' H' z x rv => by
  rw [e] at z
  cases z
  obtain ⟨p, ws, e, h1, g2, h2, pr⟩ := rv
  subst e
  exact q p ws G' H' x h1 g2 h2 pr) fun C G' H' z => by rw [e] at z; cases z
theorem es_dropX (h : EX K E te ew o) (he : A.ew = ew) (hok : ∀ r, o = .inl r → A.nx E) (hex : ∀ C, o = .inr C → A.ex E C) : ES K E (tDrop te) A := fun B G0 σ G H D k S =>
  h B G0 σ G H k _ (fun s v G' H' z x rv => S.nx _ _ G' H' (hok s z) (k.ext x)) fun C G' H' z x => by
    rw [← he]; exact S.ex _ _ G' H' C (hex C z) (k.ext x)
theorem es_retX (h : EX K E te ew o) (he : A.ew = ew) (hok : ∀ r, o = .inl r → A.rt r) (hex : ∀ C, o = .inr C → A.ex E C) : ES K E (tRet te) A := fun B G0 σ G H D k S =>
  h B G0 σ G H k _ (fun s v G' H' z x rv => by
    have hs := hok s z
    cases s with
    | val r => exact S.rtV r v G' H' hs (k.toOkB.ext x) rv
    | own l =>
      obtain ⟨p, ws, e, h1, g2, h2, pr⟩ := rv
      subst e
      exact S.rtO l p ws G' H' hs (k.toOkB.ext x) (k.bh.free h1) g2 h2 pr
    | un => exact rv.elim
    | red _ => exact rv.elim
    | scr _ => exact rv.elim
    | dic _ => exact rv.elim
    | ins _ _ _ => exact rv.elim
    | nst _ _ _ => exact rv.elim) fun C G' H' z x => by
    rw [← he]; exact S.ex _ _ G' H' C (hex C z) (k.ext x)
theorem es_asgX {i : Nat} (h : EX K E te ew o) (he : A.ew = ew) (hok : ∀ r, o = .inl r → A.nx (E.set i r)) (hex : ∀ C, o = .inr C → A.ex E C) : ES K E (tAsg te (gName i)) A := fun B G0 σ G H D k S =>
  h B G0 σ G H k _ (fun s v G' H' z x rv => by
    have hs := hok s z
    cases s with
    | val r => exact S.nx _ _ G' H' hs ((k.ext x).set i ⟨v, rfl, rv⟩ rfl)
    | own l =>
      obtain ⟨p, ws, e, h1, g2, h2, pr⟩ := rv
      subst e
      exact S.nx _ _ G' H' hs ((k.ext x).setM i (s := .own l) ⟨p, ws, rfl, k.bh.free h1, g2, h2, pr⟩ fun j s' hj e m => k.fresh h1 e m)
    | un => exact rv.elim
    | red _ => exact rv.elim
    | scr _ => exact rv.elim
    | dic _ => exact rv.elim
    | ins _ _ _ => exact rv.elim
    | nst _ _ _ => exact rv.elim) fun C G' H' z x => by
    rw [← he]; exact S.ex _ _ G' H' C (hex C z) (k.ext x)
/-- raise C(..) -/
theorem es_raise {C : Addr} {Ex : XK} (he : A.ew = fun cls d _ H => Ex cls d H) (h : A.ex E C) : ES K E (fun _ _ H => Ex (.ref C) none H) A := fun B G0 σ G H D k S => by
  have := S.ex E σ G H C h k
  rw [he] at this
  exact this
theorem es_never (h : False) {ts : TS} : ES K E ts A := h.elim
/-- try: body except X: suite -/
theorem es_try {tb : WX → TS} {tsu : Addr → Value → Option Addr → TS} {c : Value} {Wout : WX} (px : List Slot → Addr → Prop)
    (hb : ∀ W : WX, ES K E (tb W) { A with ex := px, ew := W }) (hs : ∀ E' C, px E' C → PySem.W.exmOne K (.ref C) c = some true ∧ ∀ a, ES K E' (tsu a (.ref C) none) A) : ES K E (fun D σ H => tb (wOnly K c tsu Wout D) D σ H) A := fun B G0 σ G H D k S =>
  hb _ B G0 σ G H D k ⟨S.nx, S.bk, S.ct, S.rtV, S.rtO, fun E' σ' G' H' C h' k' => ⟨true, (hs E' C h').1, fun _ a _ => (hs E' C h').2 a B G0 σ' G' H' D k' S, fun z => nomatch z⟩⟩
end
/-- a promise of a def that may raise -/
def spE (K : PySem.W.Frag) {X : Type} (args : X → List Slot) (pre : X → Prop) (out : X → Out) : Sp := fun vs H Q E => ∃ (x : X) (G : Hp), pre x ∧ Same G H ∧ Paired (ArgOk K G H) (args x) vs ∧ (∀ r, out x = .inl r → ∀ v G' H', Ext G H G' H' → ResOk G H G' H' r v → Q v H') ∧ (∀ C, out x = .inr C → ∀ G' H', Ext G H G' H' → E (.ref C) none H')
/-- the promise of an __init__ that may raise -/
def spIE (K : PySem.W.Frag) (C : Addr) {X : Type} (args : X → List Slot) (pre : X → Prop) (fs : X → List (Str × AbsV)) (bad : X → Option Addr) : Sp := fun vs H Q E => ∃ (x : X) (p dx : Addr) (Hb G : Hp) (us : List V), vs = .ref p :: us ∧ Hb p = none ∧ Hb dx = none ∧ dx ≠ p ∧ H = upd (upd Hb dx (.own p)) p (.ins C dx []) ∧ pre x ∧ Same G Hb ∧ Paired (ArgOk K G Hb) (args x) us ∧
  (bad x = none → ∀ G' H', Ext G Hb G' H' → (inA C (fs x)).rep G' (.ref p) → Q .non H') ∧ (∀ D, bad x = some D → ∀ G' H', Ext G Hb G' H' → E (.ref D) none H')
def outI (C : Addr) (fs : List (Str × AbsV)) : Option Addr → Out
  | none => .inl (.val (inA C fs))
  | some D => .inr D
theorem ResOk.later {G H G1 H1 G' H' : Hp} {s : Slot} {v : V} (x : Ext G H G1 H1) (h : ResOk G1 H1 G' H' s v) : ResOk G H G' H' s v := by
  cases s with
  | val r => exact h
  | own l =>
    obtain ⟨p, ws, e, h1, g2, h2, pr⟩ := h
    exact ⟨p, ws, e, x.h.free h1, g2, h2, pr⟩
  | un => exact h
  | red _ => exact h
  | scr _ => exact h
  | dic _ => exact h
  | ins _ _ _ => exact h
  | nst _ _ _ => exact h
section
variable {K : PySem.W.Frag} {E : List Slot} {te : TE} {ta : TA} {r : AbsV} {l : List AbsV} {X : Type} {args : X → List Slot} {pre : X → Prop} {out : X → Out} {Ex : XK} {W : WX} {C : Addr} {fs : List (Str × AbsV)}
theorem ex_call (x : X) (h : EA K E ta (args x)) (hp : pre x) : EX K E (tCall (spE K args pre out) [] Ex ta) (fun cls d _ H => Ex cls d H) (out x) := fun B G0 σ G H k Q q qx =>
  h B G0 σ G H k _ fun vs G1 H1 x1 a => ⟨x, G1, hp, x1.gh, by rw [List.append_nil]; exact a, fun r e v G2 H2 x2 rv => q r v G2 H2 e (x1.trans x2) (rv.later x1), fun C e G2 H2 x2 => qx C G2 H2 e (x1.trans x2)⟩
theorem ex_callS (x : X) (h : EA K E ta (args x)) (hp : pre x) : EX K E (tCallS (spE K args pre out) (fun σ => WE W σ) ta) W (out x) := fun B G0 σ G H k Q q qx =>
  h B G0 σ G H k _ fun vs G1 H1 x1 a => ⟨x, G1, hp, x1.gh, a, fun r e v G2 H2 x2 rv => q r v G2 H2 e (x1.trans x2) (rv.later x1), fun C e G2 H2 x2 => qx C G2 H2 e (x1.trans x2)⟩
theorem ex_meth {f : Str} {as : List Slot} (x : X) (h : EV K E te (inA C fs)) (hl : lookA fs f = none) (ha : EA K E ta as) (hx : args x = .val (inA C fs) :: as) (hp : pre x) : EX K E (tMeth C f (spE K args pre out) [] Ex te ta) (fun cls d _ H => Ex cls d H) (out x) := fun B G0 σ G H k Q q qx =>
  h B G0 σ G H k _ fun o G1 H1 x1 r1 => by
    obtain ⟨p, dx, ws, e, g, pr⟩ := id r1
    subst e
    have hl2 := PK.look f pr
    rw [hl] at hl2
    refine ⟨p, dx, ws, rfl, x1.gh _ _ g, by rw [lookup_find]; exact hl2, ha B G0 σ G1 H1 (k.ext x1) _ fun vs G2 H2 x2 a => ⟨x, G2, hp, x2.gh, ?_, fun r e v G3 H3 x3 rv => q r v G3 H3 e ((x1.trans x2).trans x3) (rv.later (x1.trans x2)), fun C e G3 H3 x3 => qx C G3 H3 e ((x1.trans x2).trans x3)⟩⟩
    rw [hx, List.append_nil]
    exact .cons ((inA C fs).mono x2.g r1) a
theorem ex_make {fs : X → List (Str × AbsV)} {bad : X → Option Addr} (x : X) (ha : EA K E ta (args x)) (hp : pre x) : EX K E (tMake C (spIE K C args pre fs bad) [] Ex ta) (fun cls d _ H => Ex cls d H) (outI C (fs x) (bad x)) := fun B G0 σ G H k Q q qx =>
  ha B G0 σ G H k _ fun vs G1 H1 x1 a => fun p dx np nd ne => ⟨x, p, dx, H1, G1, vs, by rw [List.append_nil], np, nd, ne, rfl, hp, x1.gh, a, fun e G2 H2 x2 rv => ⟨rfl, q (.val (inA C (fs x))) _ G2 H2 (by rw [e]; rfl) (x1.trans x2) rv⟩, fun D e G2 H2 x2 => qx D G2 H2 (by rw [e]; rfl) (x1.trans x2)⟩
end
/-- the ends of a def that may raise -/
def AX (o : Out) (Ex : XK) : AE := { nx := fun _ => o = .inl (.val nN), bk := fun _ => False, ct := fun _ => False, rt := fun s' => o = .inl s', ex := fun _ C => o = .inr C, ew := fun cls d _ H => Ex cls d H }
section
variable {P : Program} {w : World} {K : PySem.W.Frag} {mg : Str → Option Value} {base : Heap}
/-- THE RULE for a def that may raise -/
theorem okE {X : Type} {args : X → List Slot} {pre : X → Prop} {out : X → Out} {x qual : Str} {st : Stmt} {f : Addr} {fd : FuncData} {N ps : List Str} {k : Nat} (F : Fun K x qual st f fd) (S : FnScope N ps (defScope st)) (la : ∀ x, (args x).length = ps.length)
    (hb : ∀ (cdv : Value) (A : Around) (outer : List Env) (s : Shared) (H : Hp) (E : XK), Room k (A.deeper (envOfC qual (defScope st) s.heap.objs.size f cdv)) →
      ∃ t, PSs (cxOf (CX P w) P w K mg base N qual (defScope st) f cdv A outer s H E) (defBody st) t ∧ ∀ x, pre x → ES K (args x ++ List.replicate (N.length - ps.length) .un) t (AX (out x) E)) : FnOk P w K mg base (CX P w) (k + 1) f fd ps (spE K args pre out) := by
  refine F.okX S (fun vs H Q E h => ?_) fun cdv A outer s H vs Q E hr h => ?_
  · obtain ⟨x, G, _, _, a, _⟩ := h
    rw [← P_len a, la]
  · obtain ⟨t, ht, he⟩ := hb cdv A outer s H E hr
    obtain ⟨x, G, hp, gh, a, q, qx⟩ := h
    refine ⟨t, ht, ?_⟩
    have lv : vs.length = ps.length := by rw [← P_len a, la]
    unfold L2.start
    rw [lv]
    refine he x hp H G _ G H _ (start_ok gh a _) ⟨fun E σ G' H' h' k' => ?_, fun _ _ _ _ h' _ => h'.elim, fun _ _ _ _ h' _ => h'.elim, fun r v G' H' h' k' rv => ?_, fun l p ws G' H' h' k' b g e pr => ?_, fun E' σ' G' H' C h' k' => ?_⟩
    · exact q _ h' _ G' H' ⟨k'.g0, k'.bh, k'.gh, k'.nb⟩ rfl
    · exact q _ h' _ G' H' ⟨k'.g0, k'.bh, k'.gh, k'.nb⟩ rv
    · exact q _ h' _ G' H' ⟨k'.g0, k'.bh, k'.gh, k'.nb⟩ ⟨p, ws, rfl, b, g, e, pr⟩
    · exact qx C h' G' H' ⟨k'.g0, k'.bh, k'.gh, k'.nb⟩
/-- THE RULE for an __init__ that may raise -/
theorem okIE {C : Addr} {X : Type} {args : X → List Slot} {pre : X → Prop} {fs : X → List (Str × AbsV)} {bad : X → Option Addr} {qual : Str} {st : Stmt} {f : Addr} {fd : FuncData} {N ps : List Str} {k : Nat} (F : Fun K "__init__" qual st f fd) (S : FnScope N ps (defScope st)) (la : ∀ x, (args x).length + 1 = ps.length)
    (hb : ∀ (cdv : Value) (A : Around) (outer : List Env) (s : Shared) (H : Hp) (E : XK), Room k (A.deeper (envOfC qual (defScope st) s.heap.objs.size f cdv)) →
      ∃ t, PSs (cxOf (CX P w) P w K mg base N qual (defScope st) f cdv A outer s H E) (defBody st) t ∧ ∀ p x, pre x → ES K (.ins p C [] :: args x ++ List.replicate (N.length - ps.length) .un) t { nx := fun E' => bad x = none ∧ E'[0]? = some (.val (iaA p C (fs x))), bk := fun _ => False, ct := fun _ => False, rt := fun _ => False, ex := fun _ D => bad x = some D, ew := fun cls d _ H => E cls d H }) : FnOk P w K mg base (CX P w) (k + 1) f fd ps (spIE K C args pre fs bad) := by
  refine F.okX S (fun vs H Q E h => ?_) fun cdv A outer s H vs Q E hr h => ?_
  · obtain ⟨x, p, dx, Hb, G, us, e, _, _, _, _, _, _, a, _⟩ := h
    rw [e, List.length_cons, ← P_len a, la]
  · obtain ⟨t, ht, he⟩ := hb cdv A outer s H E hr
    obtain ⟨x, p, dx, Hb, G, us, e, np, nd, ne, eH, hp, gh, a, q, qx⟩ := h
    subst e
    refine ⟨t, ht, ?_⟩
    have lv : (V.ref p :: us).length = ps.length := by rw [List.length_cons, ← P_len a, la]
    have e0 : L2.start N (V.ref p :: us) = (some (V.ref p) :: us.map some) ++ List.replicate (N.length - ps.length) none := by
      unfold L2.start
      rw [lv]; rfl
    rw [e0]
    have s1 : Same Hb H := fun b o e => by
      rw [eH, upd_ne (ne_of_none e np), upd_ne (ne_of_none e nd)]; exact e
    have hH : H p = some (.ins C dx []) := by rw [eH, upd_same]
    have k0 : Ok K Hb G (.ins p C [] :: args x ++ List.replicate (N.length - ps.length) .un) ((some (V.ref p) :: us.map some) ++ List.replicate (N.length - ps.length) none) G H := by
      have k1 := start_ok (K := K) (G := G) (H := Hb) gh a (N.length - ps.length)
      have x1 : Ext G Hb G H := ⟨Same.refl _, s1, gh.trans s1, fun _ _ e => e⟩
      have k2 := k1.ext x1
      refine ⟨k2.toOkB, .cons ⟨dx, [], rfl, np, gh.free np, hH, .nil⟩ k2.sl, fun i j r s s' ei ej mi mj si sj => ?_, fun i j q s s' ei ej mj hq => ?_⟩
      rotate_left
      · have : s.inn = [] := by
          cases i with
          | zero => have ei' : Slot.ins p C [] = s := Option.some.inj ei; rw [← ei']; rfl
          | succ i => exact Slot.inn_of (start_mut a (i := i) ei)
        rw [this] at hq; cases hq
      have only : ∀ (i : Nat) (s : Slot), (Slot.ins p C [] :: (args x ++ List.replicate (N.length - ps.length) Slot.un))[i]? = some s → s.mut = true → i = 0 := fun i s ei mi => by
        cases i with
        | zero => rfl
        | succ i =>
          have ei' : (args x ++ List.replicate (N.length - ps.length) Slot.un)[i]? = some s := ei
          have hf : s.mut = false := by
            by_cases hi : i < (args x).length
            · rw [List.getElem?_append_left hi] at ei'; exact no_mut a ei'
            · rw [List.getElem?_append_right (by omega)] at ei'
              have := List.mem_of_getElem? ei'
              have := (List.mem_replicate.mp this).2
              rw [this]; rfl
          rw [hf] at mi; cases mi
      rw [only i s ei mi, only j s' ej mj]
    refine he p x hp Hb G _ G H _ k0 ⟨fun E σ G' H' h' k' => ?_, fun _ _ _ _ h' _ => h'.elim, fun _ _ _ _ h' _ => h'.elim, fun r v G' H' h' _ _ => h'.elim, fun l p ws G' H' h' _ _ _ _ _ => h'.elim, fun E' σ' G' H' D h' k' => qx D h' G' H' ⟨k'.g0, k'.bh, k'.gh, k'.nb⟩⟩
    obtain ⟨o, e, v, e2, e3, rv⟩ := P_get k'.sl (show E[0]? = some (.val (iaA p C (fs x))) from h'.2)
    obtain ⟨dx', ws', g', pk⟩ := rv
    exact q h'.1 G' H' ⟨k'.g0, k'.bh, k'.gh, k'.nb⟩ ⟨p, dx', ws', rfl, g', pk⟩
end
/-! ### what may be called -/
structure CalX (P : Program) (w : World) (K : PySem.W.Frag) (mg : Str → Option Value) (base : Heap) (k : Nat) (x : Str) (sp : Sp) : Prop where
  ex : ∃ (f : Addr) (fd : FuncData) (ps : List Str), FnOk P w K mg base (CX P w) k f fd ps sp ∧ mg x = some (.ref f) ∧ PySem.W.keepIn K (.ref f) = true ∧ Binds K fd ps []
/-- a method of the class at C, that raises nothing -/
structure MetA (P : Program) (w : World) (K : PySem.W.Frag) (mg : Str → Option Value) (base : Heap) (k : Nat) (C : Addr) (m : Str) (sp : Sp) : Prop where
  ex : Cls K C ∧ ∃ (f : Addr) (fd : FuncData) (ps : List Str), FnOk P w K mg base CX0 k f fd ps sp ∧ Meth K C m f ∧ Binds K fd ps []
structure MetX (P : Program) (w : World) (K : PySem.W.Frag) (mg : Str → Option Value) (base : Heap) (k : Nat) (C : Addr) (m : Str) (sp : Sp) : Prop where
  ex : Cls K C ∧ ∃ (f : Addr) (fd : FuncData) (ps : List Str), FnOk P w K mg base (CX P w) k f fd ps sp ∧ Meth K C m f ∧ Binds K fd ps []
structure MakX (P : Program) (w : World) (K : PySem.W.Frag) (mg : Str → Option Value) (base : Heap) (k : Nat) (x : Str) (C : Addr) (sp : Sp) : Prop where
  ex : ∃ (f : Addr) (fd : FuncData) (ps : List Str), Mk K C f ∧ FnOk P w K mg base (CX P w) k f fd ps sp ∧ mg x = some (.ref C) ∧ Binds K fd ps []
/-- an exception class of the text over ValueError, without __init__ -/
structure ExcC (K : PySem.W.Frag) (mg : Str → Option Value) (x : Str) (C : Addr) : Prop where
  g : mg x = some (.ref C)
  x : PySem.W.excIn K C [.type "ValueError", .type "Exception", .type "BaseException", .type "object"] "ValueError.__new__" = true
  k : PySem.W.keepIn K (.ref C) = true
  b : PySem.W.subIn K (.ref C) (.type "BaseException") = some true
  t : PySem.W.typeIn K (.ref C) = some (.type "type")
  e : PySem.W.exmOne K (.ref C) (.ref C) = some true
/-- a method's def as it stands behind the top -/
structure MetAt (K : PySem.W.Frag) (C : Addr) (m qual : Str) (st : Stmt) (ps : List Str) : Prop where
  ex : Cls K C ∧ ∃ (f : Addr) (fd : FuncData), Fun K m qual st f fd ∧ Meth K C m f ∧ Binds K fd ps []
structure MakAt (K : PySem.W.Frag) (mg : Str → Option Value) (C : Addr) (x qual : Str) (st : Stmt) (ps : List Str) : Prop where
  ex : ∃ (f : Addr) (fd : FuncData), Fun K "__init__" qual st f fd ∧ Mk K C f ∧ mg x = some (.ref C) ∧ Binds K fd ps []
theorem exc_self {K : PySem.W.Frag} {S : Addr} (h1 : PySem.W.subIn K (.ref S) (.type "BaseException") = some true) (h2 : PySem.W.isClsIn K S = true) (h3 : PySem.W.typeIn K (.ref S) = some (.type "type")) (h4 : PySem.W.subIn K (.ref S) (.ref S) = some true) : PySem.W.exmOne K (.ref S) (.ref S) = some true := by
  have a : (PySem.W.clsIn K S).isSome = true := h2
  unfold PySem.W.exmOne PySem.W.kitCls
  simp [h1, h3, h4, a]
section
variable {X : Cx} {e o : Expr} {es : List Expr} {t : TA} {ta : TE} {p pos : Pos} {sp : Sp} {x m : Str} {j k : Nat} {Ex : XK} {C : Addr}
theorem pe_cx (c : CalX X.prog X.w X.K X.mg X.base k x sp) (hr : Room j X.A) (hk : k ≤ j) (hg : Gl X x) (hx : Passes (CX X.prog X.w) X Ex) (ha : PA X (e :: es) t)
    (hdb : (x == ("__debug__" : Str)) = false := by decide) (he : starEach (e :: es) X.env = (false, eval e X.env) :: starEach es X.env := by rfl) (hpl : (backTo pos (starEach es X.env)).any (·.1) = false := by rfl) :
    PE X (.Call (.Name x p) (e :: es) [] pos) (tCall sp [] Ex t) := by
  obtain ⟨f, fd, ps, F, hm, kp, b⟩ := c.ex
  exact pe_call F (hr.mono hk) hg hm kp b .nil hx ha hdb he hpl
theorem pe_cxS {W : WX} (c : CalX X.prog X.w X.K X.mg X.base k x sp) (hr : Room j X.A) (hk : k ≤ j) (hg : Gl X x) (tk : Takes X W) (ha : PA X (e :: es) t)
    (hdb : (x == ("__debug__" : Str)) = false := by decide) (he : starEach (e :: es) X.env = (false, eval e X.env) :: starEach es X.env := by rfl) (hpl : (backTo pos (starEach es X.env)).any (·.1) = false := by rfl) :
    PE X (.Call (.Name x p) (e :: es) [] pos) (tCallS sp (fun σ => WE W σ) t) := by
  obtain ⟨f, fd, ps, F, hm, kp, b⟩ := c.ex
  exact pe_callS F (hr.mono hk) hg hm kp b (fun σ => passAt tk σ) ha hdb he hpl
theorem pe_mx (c : MakX X.prog X.w X.K X.mg X.base k x C sp) (hr : Room j X.A) (hk : k + 1 ≤ j) (hg : Gl X x) (hx : Passes (CX X.prog X.w) X Ex) (ha : PA X (e :: es) t)
    (hdb : (x == ("__debug__" : Str)) = false := by decide) (he : starEach (e :: es) X.env = (false, eval e X.env) :: starEach es X.env := by rfl) (hpl : (backTo pos (starEach es X.env)).any (·.1) = false := by rfl) :
    PE X (.Call (.Name x p) (e :: es) [] pos) (tMake C sp [] Ex t) := by
  obtain ⟨f, fd, ps, M, F, hm, b⟩ := c.ex
  exact pe_make M F (hr.mono hk) hg hm b .nil hx ha hdb he hpl
end
end Ab

set_option maxHeartbeats 2000000
namespace Ab
open PySem PySem.Spec PyProof.Rows L2
section
variable {X : Cx} {e o : Expr} {es : List Expr} {t : TA} {ta : TE} {p pos apos : Pos} {sp : Sp} {x m : Str} {j k : Nat} {Ex : XK} {C : Addr} {pl : Sem Bool}
theorem pe_ma (c : MetA X.prog X.w X.K X.mg X.base k C m sp) (hr : Room j X.A) (hk : k ≤ j) (he : PE X o ta) (ha : PA X (e :: es) t)
    (hst : starEach (e :: es) X.env = (false, eval e X.env) :: starEach es X.env := by rfl) (hpl : (backTo pos (starEach es X.env)).any (·.1) = false := by rfl)
    (ht : eval (.Call (.Attribute o m apos) (e :: es) [] pos) X.env = (do
      let ov ← eval o X.env
      standAt apos.atName
      let (f, first) ← holding [ov] (getMethod ov m pl)
      callWith pos f first (backTo pos (starEach (e :: es) X.env)) (backToKw pos (keywordEach [] X.env))) := by rfl) :
    PE X (.Call (.Attribute o m apos) (e :: es) [] pos) (tMeth C m sp [] E0 ta t) := by
  obtain ⟨cl, f, fd, ps, F, hm, b⟩ := c.ex
  exact pe_meth he cl hm F (hr.mono hk) b .nil pass0 ha hst hpl ht
theorem pe_ma0 (c : MetA X.prog X.w X.K X.mg X.base k C m sp) (hr : Room j X.A) (hk : k ≤ j) (he : PE X o ta)
    (ht : eval (.Call (.Attribute o m apos) [] [] pos) X.env = (do
      let ov ← eval o X.env
      standAt apos.atName
      let (f, first) ← holding [ov] (getMethod ov m pl)
      callWith pos f first (backTo pos (starEach [] X.env)) (backToKw pos (keywordEach [] X.env))) := by rfl) :
    PE X (.Call (.Attribute o m apos) [] [] pos) (tMeth C m sp [] E0 ta tNil) := by
  obtain ⟨cl, f, fd, ps, F, hm, b⟩ := c.ex
  exact pe_meth0 he cl hm F (hr.mono hk) b .nil pass0 ht
theorem pe_mex0 (c : MetX X.prog X.w X.K X.mg X.base k C m sp) (hr : Room j X.A) (hk : k ≤ j) (he : PE X o ta) (hx : Passes (CX X.prog X.w) X Ex)
    (ht : eval (.Call (.Attribute o m apos) [] [] pos) X.env = (do
      let ov ← eval o X.env
      standAt apos.atName
      let (f, first) ← holding [ov] (getMethod ov m pl)
      callWith pos f first (backTo pos (starEach [] X.env)) (backToKw pos (keywordEach [] X.env))) := by rfl) :
    PE X (.Call (.Attribute o m apos) [] [] pos) (tMeth C m sp [] Ex ta tNil) := by
  obtain ⟨cl, f, fd, ps, F, hm, b⟩ := c.ex
  exact pe_meth0 he cl hm F (hr.mono hk) b .nil hx ht
end
section
variable {P : Program} {w : World} {K : PySem.W.Frag} {mg : Str → Option Value} {base : Heap}
theorem calX {X : Type} {args : X → List Slot} {pre : X → Prop} {out : X → Out} {x : Str} {st : Stmt} {N ps : List Str} {k : Nat} (d : DefAt K mg x st ps) (S : FnScope N ps (defScope st)) (la : ∀ x, (args x).length = ps.length)
    (hb : ∀ (f : Addr) (cdv : Value) (A : Around) (outer : List Env) (s : Shared) (H : Hp) (E : XK), Room k (A.deeper (envOfC x (defScope st) s.heap.objs.size f cdv)) →
      ∃ t, PSs (cxOf (CX P w) P w K mg base N x (defScope st) f cdv A outer s H E) (defBody st) t ∧ ∀ x, pre x → ES K (args x ++ List.replicate (N.length - ps.length) .un) t (AX (out x) E)) : CalX P w K mg base (k + 1) x (spE K args pre out) := by
  obtain ⟨f, fd, F, hm, b⟩ := d.ex
  exact ⟨f, fd, ps, okE F S la (fun cdv A outer s H E hr => hb f cdv A outer s H E hr), hm, F.kp, b⟩
theorem metA {X : Type} {args : X → List Slot} {pre : X → Prop} {res : X → Slot} {C : Addr} {m qual : Str} {st : Stmt} {N ps : List Str} {k : Nat} (d : MetAt K C m qual st ps) (S : FnScope N ps (defScope st)) (la : ∀ x, (args x).length = ps.length)
    (hb : ∀ (f : Addr) (cdv : Value) (A : Around) (outer : List Env) (s : Shared) (H : Hp) (E : XK), Room k (A.deeper (envOfC qual (defScope st) s.heap.objs.size f cdv)) →
      ∃ t, PSs (cxOf CX0 P w K mg base N qual (defScope st) f cdv A outer s H E).nox (defBody st) t ∧ ∀ x, pre x → ES K (args x ++ List.replicate (N.length - ps.length) .un) t (AR (res x))) : MetA P w K mg base (k + 1) C m (spX K args pre res) := by
  obtain ⟨cl, f, fd, F, hm, b⟩ := d.ex
  exact ⟨cl, f, fd, ps, okA F S la (fun cdv A outer s H E hr => hb f cdv A outer s H E hr), hm, b⟩
theorem metX {X : Type} {args : X → List Slot} {pre : X → Prop} {out : X → Out} {C : Addr} {m qual : Str} {st : Stmt} {N ps : List Str} {k : Nat} (d : MetAt K C m qual st ps) (S : FnScope N ps (defScope st)) (la : ∀ x, (args x).length = ps.length)
    (hb : ∀ (f : Addr) (cdv : Value) (A : Around) (outer : List Env) (s : Shared) (H : Hp) (E : XK), Room k (A.deeper (envOfC qual (defScope st) s.heap.objs.size f cdv)) →
      ∃ t, PSs (cxOf (CX P w) P w K mg base N qual (defScope st) f cdv A outer s H E) (defBody st) t ∧ ∀ x, pre x → ES K (args x ++ List.replicate (N.length - ps.length) .un) t (AX (out x) E)) : MetX P w K mg base (k + 1) C m (spE K args pre out) := by
  obtain ⟨cl, f, fd, F, hm, b⟩ := d.ex
  exact ⟨cl, f, fd, ps, okE F S la (fun cdv A outer s H E hr => hb f cdv A outer s H E hr), hm, b⟩
theorem makX {C : Addr} {X : Type} {args : X → List Slot} {pre : X → Prop} {fs : X → List (Str × AbsV)} {bad : X → Option Addr} {x qual : Str} {st : Stmt} {N ps : List Str} {k : Nat} (d : MakAt K mg C x qual st ps) (S : FnScope N ps (defScope st)) (la : ∀ x, (args x).length + 1 = ps.length)
    (hb : ∀ (f : Addr) (cdv : Value) (A : Around) (outer : List Env) (s : Shared) (H : Hp) (E : XK), Room k (A.deeper (envOfC qual (defScope st) s.heap.objs.size f cdv)) →
      ∃ t, PSs (cxOf (CX P w) P w K mg base N qual (defScope st) f cdv A outer s H E) (defBody st) t ∧ ∀ p x, pre x → ES K (.ins p C [] :: args x ++ List.replicate (N.length - ps.length) .un) t { nx := fun E' => bad x = none ∧ E'[0]? = some (.val (iaA p C (fs x))), bk := fun _ => False, ct := fun _ => False, rt := fun _ => False, ex := fun _ D => bad x = some D, ew := fun cls d _ H => E cls d H }) : MakX P w K mg base (k + 1) x C (spIE K C args pre fs bad) := by
  obtain ⟨f, fd, F, M, hm, b⟩ := d.ex
  exact ⟨f, fd, ps, M, okIE F S la (fun cdv A outer s H E hr => hb f cdv A outer s H E hr), hm, b⟩
end
section
variable {K : PySem.W.Frag} {E : List Slot} {ta tb te : TE} {r : AbsV} {l : List AbsV} {A : AE}
theorem units1 {k : Nat} {A : Around} (h : Room k A) : A.units + 1 < cLine := by have := h.units; omega
/-! list(range(..)) -/
def rgI (a b : Int) : List Int := (List.range (b - a).toNat).map fun i => a + (i : Nat)
theorem rgI_len (a b : Int) : (rgI a b).length = (b - a).toNat := by unfold rgI; rw [List.length_map, List.length_range]
theorem rgV_pr (G : Hp) (a b : Int) : PR G (rgV a b) ((rgI a b).map nI) := by
  unfold rgV rgI
  rw [List.map_map]
  generalize List.range (b - a).toNat = xs
  induction xs with
  | nil => exact .nil
  | cons x xs ih => exact .cons rfl ih
theorem evf_rg1 {b : Int} (hb : EV K E te (nI b)) (h : b ≤ 100000 ∧ -100000 ≤ b) : EVF K E (tLstRg (tRg1 te)) ((rgI 0 b).map nI) := fun B G0 σ G H k Q q =>
  hb B G0 σ G H k _ fun v G1 H1 x1 r1 => ⟨b, r1, ⟨by decide, by decide, by omega, by omega, by omega⟩, fun z hz => q z _ G1 _ (x1.trans (Ext.newO x1.gh hz)) (x1.h.free hz) (x1.gh.free hz) upd_same (rgV_pr _ _ _)⟩
theorem evf_rg2 {a b : Int} (ha : EV K E ta (nI a)) (hb : EV K E te (nI b)) (h : b ≤ 100000 ∧ -100000 ≤ b) (h' : a ≤ 100000 ∧ -100000 ≤ a) : EVF K E (tLstRg (tRg2 ta te)) ((rgI a b).map nI) := fun B G0 σ G H k Q q =>
  ha B G0 σ G H k _ fun v0 G0' H0 x0 r0 => hb B G0 σ G0' H0 (k.ext x0) _ fun v G1 H1 x1 r1 => ⟨a, b, r0, r1, ⟨by omega, by omega, by omega, by omega, by omega⟩, fun z hz => q z _ G1 _ ((x0.trans x1).trans (Ext.newO x1.gh hz)) ((x0.trans x1).h.free hz) (x1.gh.free hz) upd_same (rgV_pr _ _ _)⟩
/-! [e for a in range(..) for b in range(..)] -/
def acc2 (els : Nat → Nat → AbsV) (m : Nat) : Nat → List AbsV
  | 0 => []
  | a + 1 => acc2 els m a ++ (List.range m).map (els a)
theorem acc2_len (els : Nat → Nat → AbsV) (m : Nat) : ∀ a, (acc2 els m a).length = a * m
  | 0 => by rw [Nat.zero_mul]; rfl
  | a + 1 => by
    show (acc2 els m a ++ (List.range m).map (els a)).length = _
    rw [List.length_append, acc2_len els m a, List.length_map, List.length_range, Nat.succ_mul]
def LcQ (G1 H1 : Hp) (D : Addr) (L : List AbsV) (H : Hp) : Prop := ∃ G vs, Ext G1 H1 G H ∧ G D = none ∧ H D = some (.lst vs) ∧ PR G vs L
theorem evf_lcR2 {lo lo1 : Int} {n m : Nat} {wi wi1 : TI} {i j : Nat} (hij : i ≠ j) (hw : ∀ (B G0 : Hp) (σ : L2.St) (G H : Hp), Ok K B G0 E σ G H → ∀ R : It → Hp → Prop, (∀ G' H', Ext G H G' H' → R (Itr lo n) H') → wi σ H R)
    (hw1 : ∀ a, a < n → ∀ (B G0 : Hp) (σ : L2.St) (G H : Hp), Ok K B G0 ((wipeE E [i, j]).set i (.val (nI (lo + a)))) σ G H → ∀ R : It → Hp → Prop, (∀ G' H', Ext G H G' H' → R (Itr lo1 m) H') → wi1 σ H R) (els : Nat → Nat → AbsV) (hn : n * m ≤ 100000)
    (he : ∀ a b, a < n → b < m → EV K ((((wipeE E [i, j]).set i (.val (nI (lo + a)))).set j .un).set j (.val (nI (lo1 + b)))) te (els a b)) :
    EVF K E (tLc2 wi (gName i) tYes wi1 (gName j) tYes te [i, j] [j]) (acc2 els m n) := fun B G0 σ G H k Q q =>
  hw B G0 σ G H k _ fun G1 H1 x1 D hD => by
    have k1 := k.ext x1
    refine ⟨fun a mm H => mm = n - a ∧ a ≤ n ∧ LcQ G1 H1 D (acc2 els m a) H, ⟨n, by omega, Nat.zero_le _, G1, [], Ext.newO k1.gh hD, k1.gh.free hD, upd_same, .nil⟩, ?_⟩
    rintro a mm H' ⟨rfl, ha, G', vs, x, gD, hD', pr⟩
    by_cases hlt : a < n
    · refine .inr ⟨hlt, LcQ G1 H1 D (acc2 els m (a + 1)), fun H3 h3 => ⟨n - (a + 1), by omega, rfl, hlt, h3⟩, fun y H2 hy => ?_⟩
      obtain ⟨e, rfl⟩ := hy
      subst e
      have k2 := (Ok.wipe (k1.ext x) [i, j]).set i (s := .val (nI (lo + a))) (o := some (.int (lo + a))) ⟨_, rfl, rfl⟩ rfl
      refine ⟨?_, ?_⟩
      · show ((((σ.set j none).set i none).set i _).set j none).set i none = (σ.set j none).set i none
        rw [List.set_set, List.set_comm _ _ hij, List.set_set, List.set_set]
      · dsimp only [tYes]
        rw [if_pos rfl]
        refine hw1 a hlt B G0 _ _ _ k2 _ fun G3 H3 x3 => ?_
        have nz : H2 D ≠ none := by rw [hD']; exact fun z => by cases z
        refine ⟨fun b kk H => kk = m - b ∧ b ≤ m ∧ LcQ G1 H1 D (acc2 els m a ++ (List.range b).map (els a)) H, ⟨m, by omega, Nat.zero_le _, G3, vs, x.trans x3, x3.n D nz gD, x3.h _ _ hD', ?_⟩, ?_⟩
        · rw [List.range_zero, List.map_nil, List.append_nil]
          exact pr.mono x3.g
        rintro b kk H4 ⟨rfl, hb, G4, ws, x4, gD4, hD4, pr4⟩
        by_cases hbt : b < m
        · refine .inr ⟨hbt, LcQ G1 H1 D (acc2 els m a ++ (List.range (b + 1)).map (els a)), fun H5 h5 => ⟨m - (b + 1), by omega, rfl, hbt, h5⟩, fun y H5 hy => ?_⟩
          obtain ⟨e, rfl⟩ := hy
          subst e
          have k4 := (Ok.wipe ((Ok.wipe (k1.ext x4) [i, j]).set i (s := .val (nI (lo + a))) (o := some (.int (lo + a))) ⟨_, rfl, rfl⟩ rfl) [j]).set j (s := .val (nI (lo1 + b))) (o := some (.int (lo1 + b))) ⟨_, rfl, rfl⟩ rfl
          refine ⟨wipe_set, ?_⟩
          rw [if_pos rfl]
          refine he a b hlt hbt B G0 _ _ _ k4 _ fun y G6 H6 x6 r6 => ?_
          have nz4 : H5 D ≠ none := by rw [hD4]; exact fun z => by cases z
          have g6 := x6.n D nz4 gD4
          refine ⟨ws, x6.h _ _ hD4, ?_, G6, ws ++ [y], (x4.trans x6).mut hD g6, g6, upd_same, ?_⟩
          · rw [pr4.len, List.length_append, acc2_len, List.length_map, List.length_range]
            refine smallT ?_
            have : a * m + m ≤ n * m := by
              rw [← Nat.succ_mul]
              exact Nat.mul_le_mul_right m hlt
            omega
          · rw [List.range_succ, List.map_append, ← List.append_assoc]
            exact (pr4.mono x6.g).append (.cons r6 .nil)
        · have e : b = m := by omega
          subst e
          exact .inl ⟨Nat.le_refl _, G4, ws, x4, gD4, hD4, pr4⟩
    · have e : a = n := by omega
      subst e
      exact .inl ⟨Nat.le_refl _, q D vs G' H' (x1.trans x) (x1.h.free hD) gD hD' pr⟩
/-- [e for a, b in xs if ..], xs a list of pairs that stays -/
theorem evf_lcT {i j : Nat} {tt : TT} {α : Type} {ps : List α} (hij : i ≠ j) (fa fb : α → AbsV) (hw : EVS K E ta (ps.map fun p => tuA [fa p, fb p])) (bs : Nat → Bool) (els : Nat → AbsV) (hn : ps.length ≤ 100000)
    (ht : ∀ c p, ps[c]? = some p → ET K (((wipeE E [i, j]).set i (.val (fa p))).set j (.val (fb p))) tt (bs c)) (he : ∀ c p, ps[c]? = some p → bs c = true → EV K (((wipeE E [i, j]).set i (.val (fa p))).set j (.val (fb p))) te (els c)) :
    EVF K E (tLc (iList K ta) (gTup K 2 (gCons (gName i) (gCons (gName j) gNil))) tt te [i, j]) (accL bs els ps.length) := fun B G0 σ G H k Q q =>
  hw B G0 σ G H k _ fun p vs G1 H1 x1 st pr => by
    have k1 := k.ext x1
    have sH : H1 p = some (.lst vs) := by
      rcases st with st | st
      · exact x1.gh _ _ st
      · exact k1.bh _ _ st
    refine ⟨p, rfl, ⟨vs, SqL.of sH⟩, fun D hD => ?_⟩
    refine lc_list (K := K) (a := p) (xs := vs) (LcP G1 H1 D bs els) (lc_zero k1 hD) (fun j H' _ hp => ?_) (fun c x H' hj hp => ?_) fun H' hp => ?_
    · obtain ⟨G', ws, x, _⟩ := hp
      exact SqL.of (x.h _ _ sH)
    · obtain ⟨r, hr, rv⟩ := PR.get' pr hj
      rw [List.getElem?_map] at hr
      cases hc : ps[c]? with
      | none => rw [hc] at hr; cases hr
      | some pp =>
        rw [hc] at hr
        have er : tuA [fa pp, fb pp] = r := Option.some.inj hr
        subst er
        refine lc_turn (item := tuA [fa pp, fb pp]) k1 hD (Nat.lt_of_lt_of_le (List.getElem?_eq_some_iff.mp hc).1 hn) (fun G H kk hh Q q => ?_) (ht c pp hc) (he c pp hc) (fun G s => AbsV.mono _ s rv) hp
        obtain ⟨T, us, e, g, pu⟩ := hh
        cases pu with
        | cons h1 t1 =>
          cases t1 with
          | cons h2 t2 =>
            cases t2
            refine ⟨T, _, e, SqT.of (kk.gh _ _ g), rfl, _, _, rfl, _, _, rfl, rfl, q _ (wipe2 hij) ?_⟩
            exact (kk.set i (s := .val (fa pp)) (o := some _) ⟨_, rfl, h1⟩ rfl).set j (s := .val (fb pp)) (o := some _) ⟨_, rfl, h2⟩ rfl
    · obtain ⟨G', ws, x, gD, hD', pr'⟩ := hp
      rw [pr.len, List.length_map] at pr'
      exact q D ws G' H' (x1.trans x) (x1.h.free hD) gD hD' pr'
end
end Ab

set_option maxHeartbeats 2000000
namespace Ab
open PySem PySem.Spec PyProof.Rows L2
/-! ### a list of own lists, that may all still change -/
section
variable {K : PySem.W.Frag} {E : List Slot} {ta tb tc te ti : TE} {t u : TT} {ts us : TS} {r s : AbsV} {l m : List AbsV} {A : AE}
abbrev InnOk (B G H : Hp) (q : Addr) (l : List AbsV) : Prop := B q = none ∧ G q = none ∧ ∃ vs, H q = some (.lst vs) ∧ PR G vs l
theorem inn_set {B G H : Hp} {q : Addr} {vs : List V} {l' : List AbsV} (pr : PR G vs l') (hb : B q = none) (hg : G q = none) : ∀ {qs : List Addr} {L : List (List AbsV)} {c : Nat}, Paired (InnOk B G H) qs L → qs.Nodup → qs[c]? = some q → Paired (InnOk B G (upd H q (.lst vs))) qs (L.set c l')
  | _, _, c, .nil, _, h => by simp at h
  | q0 :: qs, l0 :: L, 0, .cons a t, nd, h => by
    have e : q0 = q := Option.some.inj h
    subst e
    have nd2 := (List.nodup_cons.mp nd).1
    refine .cons ⟨hb, hg, vs, upd_same, pr⟩ ?_
    clear nd h a
    induction t with
    | nil => exact .nil
    | cons x t ih =>
      obtain ⟨b1, g1, ws, h1, r1⟩ := x
      exact .cons ⟨b1, g1, ws, by rw [upd_ne (fun z => nd2 (by rw [z]; exact List.mem_cons_self ..))]; exact h1, r1⟩ (ih fun z => nd2 (List.mem_cons_of_mem _ z))
  | q0 :: qs, l0 :: L, c + 1, .cons a t, nd, h => by
    have hm : q ∈ qs := List.mem_of_getElem? (i := c) h
    have ne : q0 ≠ q := fun z => (List.nodup_cons.mp nd).1 (by rw [z]; exact hm)
    obtain ⟨b1, g1, ws, h1, r1⟩ := a
    exact .cons ⟨b1, g1, ws, by rw [upd_ne ne]; exact h1, r1⟩ (inn_set pr hb hg t (List.nodup_cons.mp nd).2 (c := c) h)
theorem inn_ne {B G H : Hp} {q : Addr} {o : HO} : ∀ {qs : List Addr} {L : List (List AbsV)}, Paired (InnOk B G H) qs L → q ∉ qs → Paired (InnOk B G (upd H q o)) qs L
  | _, _, .nil, _ => .nil
  | q0 :: qs, l0 :: L, .cons a t, h => by
    obtain ⟨b1, g1, ws, h1, r1⟩ := a
    exact .cons ⟨b1, g1, ws, by rw [upd_ne (fun z => h (by rw [z]; exact List.mem_cons_self ..))]; exact h1, r1⟩ (inn_ne t fun z => h (List.mem_cons_of_mem _ z))
/-- one of the lists within changes -/
theorem okUpdN {B G0 G H : Hp} {σ : L2.St} {i c : Nat} {p q : Addr} {qs : List Addr} {L : List (List AbsV)} {l' : List AbsV} {vs : List V} (k : Ok K B G0 E σ G H) (h : E[i]? = some (.nst p qs L)) (hq : qs[c]? = some q) (pr : PR G vs l') : Ok K B G0 (E.set i (.nst p qs (L.set c l'))) σ G (upd H q (.lst vs)) := by
  obtain ⟨o, eO, so⟩ := P_get k.sl h
  obtain ⟨e0, bp, gp, hp, pq, nd⟩ := id so
  have hm : q ∈ qs := List.mem_of_getElem? hq
  obtain ⟨lq, hL, bq, gq, ws, hqw, _⟩ : ∃ lq, L[c]? = some lq ∧ InnOk B G H q lq := P_get pq hq
  have hl : i < E.length := (List.getElem?_eq_some_iff.mp h).1
  have own : ∀ (a : Nat) (n : Slot), (E.set i (.nst p qs (L.set c l')))[a]? = some n → ∃ n', E[a]? = some n' ∧ n'.inn = n.inn ∧ (n.mut = true → n'.mut = true) := fun a n ea => by
    rcases get_set ea with ⟨rfl, rfl⟩ | ⟨_, ea⟩
    · exact ⟨_, h, rfl, fun _ => rfl⟩
    · exact ⟨n, ea, rfl, fun z => z⟩
  refine ⟨⟨fun b u z => ?_, fun b u z => ?_, k.g0, k.nb⟩, ?_, fun a d r n n' ea ed ma md sa sd => ?_, fun a d q' n n' ea ed md hq' => ?_⟩
  · rw [upd_ne (ne_of_none z bq)]; exact k.bh b u z
  · rw [upd_ne (ne_of_none z gq)]; exact k.gh b u z
  · refine P_of (by rw [List.length_set]; exact P_len k.sl) fun j t o' hs' ho => ?_
    by_cases hj : i = j
    · subst hj
      rw [List.getElem?_set_self hl] at hs'
      rw [eO] at ho
      cases hs'; cases ho
      refine ⟨e0, bp, gp, ?_, inn_set pr bq gq pq (List.nodup_cons.mp nd).2 hq, nd⟩
      rw [upd_ne (fun z => (List.nodup_cons.mp nd).1 (by rw [z]; exact hm))]
      exact hp
    · rw [List.getElem?_set_ne hj] at hs'
      obtain ⟨o2, eo, so'⟩ := P_get k.sl hs'
      have hoo : o2 = o' := by rw [eo] at ho; exact Option.some.inj ho
      rw [hoo] at so'
      have np : ∀ p' : Addr, t.mut = true → o' = some (V.ref p') → p' ≠ q := fun p' mt e' z => by
        rw [z] at e'
        exact (k.dn i j q _ t h hs' mt hm).1 (by rw [ho, e'])
      cases t with
      | un => trivial
      | val r' => exact so'
      | own l' =>
        obtain ⟨p', vs', e', b', g', h', pr'⟩ := so'
        exact ⟨p', vs', e', b', g', by rw [upd_ne (np p' rfl e')]; exact h', pr'⟩
      | dic l' =>
        obtain ⟨p', vs', e', b', g', h', pr'⟩ := so'
        exact ⟨p', vs', e', b', g', by rw [upd_ne (np p' rfl e')]; exact h', pr'⟩
      | ins p' C l' =>
        obtain ⟨dx', vs', e', b', g', h', pr'⟩ := so'
        exact ⟨dx', vs', e', b', g', by rw [upd_ne (np p' rfl e')]; exact h', pr'⟩
      | nst p' qs' L' =>
        obtain ⟨e', b', g', h', q', nd'⟩ := so'
        refine ⟨e', b', g', by rw [upd_ne (np p' rfl e')]; exact h', inn_ne q' fun z => hj ((k.dn i j q _ _ h hs' rfl hm).2 z), nd'⟩
      | red l' => exact so'
      | scr ns => exact so'
  · obtain ⟨n1, ea', _, m1⟩ := own a n ea
    obtain ⟨n2, ed', _, m2⟩ := own d n' ed
    exact k.ds a d r n1 n2 ea' ed' (m1 ma) (m2 md) sa sd
  · obtain ⟨n1, ea', i1, _⟩ := own a n ea
    obtain ⟨n2, ed', i2, m2⟩ := own d n' ed
    rw [← i1] at hq'
    rw [← i2]
    exact k.dn a d q' n1 n2 ea' ed' (m2 md) hq'
theorem nst_get {B G H : Hp} {qs : List Addr} {L : List (List AbsV)} {c : Nat} {l : List AbsV} (h : Paired (InnOk B G H) qs L) (hl : L[c]? = some l) : ∃ q, qs[c]? = some q ∧ InnOk B G H q l := by
  have hlen := P_len h
  have hc : c < qs.length := by have := (List.getElem?_eq_some_iff.mp hl).1; omega
  obtain ⟨l2, e, r⟩ := P_get h (List.getElem?_eq_getElem hc)
  rw [hl] at e
  cases e
  exact ⟨_, List.getElem?_eq_getElem hc, r⟩
/-- xs[i], a list within -/
theorem evl_ixN {i c : Nat} {n : Int} {p : Addr} {qs : List Addr} {L : List (List AbsV)} (hx : E[i]? = some (.nst p qs L)) (hb : EV K E tb (nI n)) (hn : n = (c : Int)) (hc : L[c]? = some l) : EVL K E (tOp (rIxL K) (tVar i) tb) l := fun B G0 σ G H k Q q => by
  obtain ⟨o, eO, e0, bp, gp, hp, pq, nd⟩ := P_get k.sl hx
  obtain ⟨a, ha, b1, g1, ws, h1, r1⟩ := nst_get pq hc
  refine ⟨.ref p, by rw [eO, e0], hb B G0 σ G H k _ fun y G2 H2 x2 r2 => ⟨p, qs.map V.ref, n, .ref a, rfl, r2, SqL.of (x2.h _ _ hp), at_of hn (by rw [List.getElem?_map, ha]; rfl), q a ws G2 H2 x2 (x2.h _ _ h1) (r1.mono x2.g)⟩⟩
abbrev rIns : V → List V → Hp → VK → Prop := fun x vs H Q => ∃ (l : Addr) (xs : List V) (i : Int) (y : V), x = .ref l ∧ vs = [.int i, y] ∧ H l = some (.lst xs) ∧ xs.length < sizeLine ∧ 0 ≤ i ∧ i < 2 ^ 63 ∧ Q .non (upd H l (.lst (xs.take i.toNat ++ [y] ++ xs.drop i.toNat)))
/-- xs[i].insert(n, v), a list within -/
theorem es_insN {i c : Nat} {n a : Int} {p : Addr} {qs : List Addr} {L : List (List AbsV)} (hx : E[i]? = some (.nst p qs L)) (hb : EV K E tb (nI n)) (hn : n = (c : Int)) (hc : L[c]? = some l) (ha : EV K E ta (nI a)) (h0 : 0 ≤ a ∧ a < 2 ^ 62) (h : EV K E te r) (hl : l.length < 100000) (q : A.nx (E.set i (.nst p qs (L.set c (l.take a.toNat ++ [r] ++ l.drop a.toNat))))) :
    ES K E (tDrop (tBM K "list" rIns (tOp (rIxL K) (tVar i) tb) (tCons ta (tCons te tNil)))) A := fun B G0 σ G H D k S => by
  obtain ⟨o, eO, e0, bp, gp, hp, pq, nd⟩ := P_get k.sl hx
  obtain ⟨ad, had, b1, g1, ws, h1, r1⟩ := nst_get pq hc
  refine ⟨.ref p, by rw [eO, e0], hb B G0 σ G H k _ fun y G2 H2 x2 r2 => ⟨p, qs.map V.ref, n, .ref ad, rfl, r2, SqL.of (x2.h _ _ hp), at_of hn (by rw [List.getElem?_map, had]; rfl), .inl ⟨rfl, _, SqL.of (x2.h _ _ h1)⟩, ?_⟩⟩
  refine ha B G0 σ G2 H2 (k.ext x2) _ fun v G3 H3 x3 r3 => h B G0 σ G3 H3 ((k.ext x2).ext x3) _ fun w G4 H4 x4 r4 => ?_
  cases r3
  have x24 := x2.trans (x3.trans x4)
  have k4 := k.ext x24
  have pr := r1.mono x24.g
  refine ⟨ad, ws, a, w, rfl, rfl, x24.h _ _ h1, by rw [r1.len]; exact smallT hl, h0.1, by omega, S.nx _ _ _ _ q (okUpdN k4 hx had ?_)⟩
  exact ((pr.take a.toNat).append (.cons r4 .nil)).append (pr.drop a.toNat)
/-- a slot gets a new list of new lists -/
theorem okSetN {B G0 G H : Hp} {σ : L2.St} {p : Addr} {qs : List Addr} {L : List (List AbsV)} (k : Ok K B G0 E σ G H) (i : Nat) (h : SlotOk K B G H (.nst p qs L) (some (.ref p)))
    (hn : ∀ (j : Nat) (s' : Slot), j ≠ i → E[j]? = some s' → s'.mut = true → ∀ q ∈ p :: qs, σ[j]? ≠ some (some (.ref q)) ∧ q ∉ s'.inn) : Ok K B G0 (E.set i (.nst p qs L)) (σ.set i (some (.ref p))) G H := by
  have hl : E.length = σ.length := P_len k.sl
  have nd : (p :: qs).Nodup := h.2.2.2.2.2
  have mutOf : ∀ {l : Slot} {q : Addr}, q ∈ l.inn → l.mut = true := fun {l q} hq => by
    cases l <;> first | rfl | cases hq
  have at_i : ∀ {q : Addr}, (σ.set i (some (.ref p)))[i]? = some (some (V.ref q)) → q = p := fun {q} z => by
    have hli : i < σ.length := by
      have := (List.getElem?_eq_some_iff.mp z).1
      simpa using this
    rw [List.getElem?_set_self hli] at z
    cases z; rfl
  refine ⟨k.toOkB, P_set h i k.sl, fun a c r m m' ea ec ma mc sa sc => ?_, fun a c q m m' ea ec mc hq => ?_⟩
  · rcases get_set ea with ⟨ha, rfl⟩ | ⟨na, ea1⟩
    · rcases get_set ec with ⟨hc, rfl⟩ | ⟨nc, ec1⟩
      · rw [ha, hc]
      · rw [ha] at sa
        have e := at_i sa
        subst e
        rw [List.getElem?_set_ne nc] at sc
        exact absurd sc (hn c m' (fun z => nc z.symm) ec1 mc _ (List.mem_cons_self ..)).1
    · rw [List.getElem?_set_ne na] at sa
      rcases get_set ec with ⟨hc, rfl⟩ | ⟨nc, ec1⟩
      · rw [hc] at sc
        have e := at_i sc
        subst e
        exact absurd sa (hn a m (fun z => na z.symm) ea1 ma _ (List.mem_cons_self ..)).1
      · rw [List.getElem?_set_ne nc] at sc
        exact k.ds a c r m m' ea1 ec1 ma mc sa sc
  · rcases get_set ea with ⟨ha, rfl⟩ | ⟨na, ea1⟩
    · rcases get_set ec with ⟨hc, rfl⟩ | ⟨nc, ec1⟩
      · refine ⟨fun z => ?_, fun _ => by rw [ha, hc]⟩
        rw [hc] at z
        have e := at_i z
        subst e
        exact (List.nodup_cons.mp nd).1 hq
      · rw [List.getElem?_set_ne nc]
        have := hn c m' (fun z => nc z.symm) ec1 mc q (List.mem_cons_of_mem _ hq)
        exact ⟨this.1, fun z => absurd z this.2⟩
    · have ha := hn a m (fun z => na z.symm) ea1 (mutOf hq)
      rcases get_set ec with ⟨hc, rfl⟩ | ⟨nc, ec1⟩
      · refine ⟨fun z => ?_, fun z => absurd hq (ha q (List.mem_cons_of_mem _ z)).2⟩
        rw [hc] at z
        have e := at_i z
        subst e
        exact (ha _ (List.mem_cons_self ..)).2 hq
      · rw [List.getElem?_set_ne nc]
        exact k.dn a c q m m' ea1 ec1 mc hq
/-- what [[] for k in ..] has made so far -/
def NewN (G1 H1 : Hp) (D : Addr) (c : Nat) (H : Hp) : Prop := ∃ qs : List Addr, Ext G1 H1 G1 H ∧ H D = some (.lst (qs.map V.ref)) ∧ (∀ q ∈ qs, H1 q = none ∧ H q = some (.lst [])) ∧ (D :: qs).Nodup ∧ qs.length = c
theorem inn_new {B G H : Hp} : ∀ {qs : List Addr}, (∀ q ∈ qs, B q = none ∧ G q = none ∧ H q = some (.lst [])) → Paired (InnOk B G H) qs (List.replicate qs.length [])
  | [], _ => .nil
  | q :: qs, h => by
    obtain ⟨a, b, d⟩ := h q (List.mem_cons_self ..)
    exact .cons ⟨a, b, [], d, .nil⟩ (inn_new fun q hq => h q (List.mem_cons_of_mem _ hq))
/-- xs = [[] for k in range(..)] -/
theorem es_asgN {lo : Int} {n : Nat} {wi : TI} {i j : Nat} (hw : ∀ (B G0 : Hp) (σ : L2.St) (G H : Hp), Ok K B G0 E σ G H → ∀ R : It → Hp → Prop, (∀ G' H', Ext G H G' H' → R (Itr lo n) H') → wi σ H R) (hn : n ≤ 100000)
    (q : ∀ p qs, A.nx (E.set i (.nst p qs (List.replicate n [])))) : ES K E (tAsg (tLc wi (gName j) tYes (tLst tNil) [j]) (gName i)) A := fun B G0 σ G H D k S =>
  hw B G0 σ G H k _ fun G1 H1 x1 d hd => by
    have k1 := k.ext x1
    refine lc_range (NewN G1 H1 d) ⟨[], Ext.newO k1.gh hd, upd_same, (fun _ h => nomatch h), List.nodup_cons.mpr ⟨List.not_mem_nil, List.nodup_nil⟩, rfl⟩ (fun c H' hc hp => ?_) fun H' hp => ?_
    · obtain ⟨qs, x, hD, hq, nd, hlen⟩ := hp
      refine ⟨wipe_set, ?_⟩
      dsimp only [tYes]
      rw [if_pos rfl]
      refine ⟨small (by decide), fun a ha => ?_⟩
      have nad : d ≠ a := fun z => by rw [z, ha] at hD; cases hD
      have h1a : H1 a = none := by
        cases e : H1 a with
        | none => rfl
        | some u => rw [x.h _ _ e] at ha; cases ha
      refine ⟨qs.map V.ref, by rw [upd_ne nad]; exact hD, by rw [List.length_map, hlen]; exact smallT (by omega), qs ++ [a], ?_, ?_, fun q hq2 => ?_, ?_, by rw [List.length_append, hlen]; rfl⟩
      · refine ⟨x.g, fun b u e => ?_, fun b u e => ?_, fun _ _ e => e⟩
        · rw [upd_ne (ne_of_none e hd), upd_ne (ne_of_none e h1a)]; exact x.h b u e
        · have eb := k1.gh b u e
          rw [upd_ne (ne_of_none eb hd), upd_ne (ne_of_none eb h1a)]; exact x.gh b u e
      · rw [upd_same, List.map_append]; rfl
      · rcases List.mem_append.mp hq2 with z | z
        · obtain ⟨z1, z2⟩ := hq q z
          have n1 : q ≠ d := fun e => (List.nodup_cons.mp nd).1 (by rw [← e]; exact z)
          have n2 : q ≠ a := fun e => by rw [e, ha] at z2; cases z2
          exact ⟨z1, by rw [upd_ne n1, upd_ne n2]; exact z2⟩
        · have e : q = a := by simpa using z
          subst e
          exact ⟨h1a, by rw [upd_ne (fun e => nad e.symm)]; exact upd_same⟩
      · have nq : a ∉ qs := fun z => by
          have := (hq a z).2
          rw [ha] at this; cases this
        rw [List.nodup_cons, List.nodup_append]
        refine ⟨fun z => ?_, (List.nodup_cons.mp nd).2, by simp, fun b hb c hc e => ?_⟩
        · rcases List.mem_append.mp z with z | z
          · exact (List.nodup_cons.mp nd).1 z
          · exact nad (by simpa using z)
        · have : c = a := by simpa using hc
          rw [e, this] at hb
          exact nq hb
    · obtain ⟨qs, x, hD, hq, nd, hlen⟩ := hp
      subst hlen
      refine S.nx _ _ G1 H' (q d qs) (okSetN (k1.ext x) i ⟨rfl, k1.bh.free hd, k1.gh.free hd, hD, inn_new fun q hq2 => ⟨k1.bh.free (hq q hq2).1, k1.gh.free (hq q hq2).1, (hq q hq2).2⟩, nd⟩ fun j s' _ e m q hq2 => ?_)
      rcases List.mem_cons.mp hq2 with z | z
      · rw [z]; exact k1.fresh hd e m
      · exact k1.fresh (hq q z).1 e m
open Classical in
/-- the list and its lists are known for good from now on -/
theorem es_freezeN {i : Nat} {p : Addr} {qs : List Addr} {L : List (List AbsV)} (h : E[i]? = some (.nst p qs L)) (q : ES K (E.set i (.val (lsA (L.map lsA)))) ts A) : ES K E ts A := fun B G0 σ G H D k S => by
  obtain ⟨o, eO, so⟩ := P_get k.sl h
  obtain ⟨e0, bp, gp, hp, pq, nd⟩ := id so
  subst e0
  have hl : i < E.length := (List.getElem?_eq_some_iff.mp h).1
  let G' : Hp := fun a => if a ∈ p :: qs then H a else G a
  have inG : ∀ {a}, a ∈ p :: qs → G' a = H a := fun {a} ha => if_pos ha
  have outG : ∀ {a}, a ∉ p :: qs → G' a = G a := fun {a} ha => if_neg ha
  have gn : ∀ a ∈ p :: qs, G a = none ∧ B a = none := fun a ha => by
    rcases List.mem_cons.mp ha with z | z
    · rw [z]; exact ⟨gp, bp⟩
    · obtain ⟨l, b1, g1, _⟩ := P_mem pq z
      exact ⟨g1, b1⟩
  have sg : Same G G' := fun b u e => by
    rw [outG fun z => by rw [(gn b z).1] at e; cases e]; exact e
  have kb : OkB B G0 G' H := ⟨k.bh, fun b u e => by
      by_cases z : b ∈ p :: qs
      · rw [inG z] at e; exact e
      · rw [outG z] at e; exact k.gh b u e, k.g0.trans sg, fun b hb e => by
      rw [outG fun z => hb (gn b z).2]; exact k.nb b hb e⟩
  have rep : (lsA (L.map lsA)).rep G' (.ref p) := by
    refine ⟨p, qs.map V.ref, rfl, by rw [inG (List.mem_cons_self ..)]; exact hp, ?_⟩
    have : ∀ {as : List Addr} {L : List (List AbsV)}, (∀ a ∈ as, a ∈ p :: qs) → Paired (InnOk B G H) as L → PR G' (as.map V.ref) (L.map lsA) := fun {as L} ha hp => by
      induction hp with
      | nil => exact .nil
      | cons x t ih =>
        obtain ⟨b1, g1, vs, h1, r1⟩ := x
        exact .cons ⟨_, vs, rfl, by rw [inG (ha _ (List.mem_cons_self ..))]; exact h1, r1.mono sg⟩ (ih fun a hm => ha a (List.mem_cons_of_mem _ hm))
    exact this (fun a ha => List.mem_cons_of_mem _ ha) pq
  refine q B G0 σ G' H D ⟨kb, P_of (by rw [List.length_set]; exact P_len k.sl) fun j t o hs' ho => ?_, fun a c ra m m' ea ec ma mc sa sc => ?_, fun a c q m m' ea ec mc hq => ?_⟩ S
  · by_cases hj : i = j
    · subst hj
      rw [List.getElem?_set_self hl] at hs'
      rw [eO] at ho
      cases hs'; cases ho
      exact ⟨_, rfl, rep⟩
    · rw [List.getElem?_set_ne hj] at hs'
      obtain ⟨o', eo, so'⟩ := P_get k.sl hs'
      have hoo : o' = o := by rw [eo] at ho; exact Option.some.inj ho
      rw [hoo] at so'
      have np : ∀ p' : Addr, t.mut = true → o = some (V.ref p') → p' ∉ p :: qs := fun p' mt e' z => by
        rcases List.mem_cons.mp z with z | z
        · subst z
          exact hj (k.ds i j _ _ t h hs' rfl mt eO (by rw [ho, e']))
        · exact (k.dn i j p' _ t h hs' mt z).1 (by rw [ho, e'])
      cases t with
      | un => trivial
      | val r' => obtain ⟨v, e, rv⟩ := so'; exact ⟨v, e, r'.mono sg rv⟩
      | own l' =>
        obtain ⟨p', vs', e', b', g', h', pr'⟩ := so'
        exact ⟨p', vs', e', b', by rw [outG (np p' rfl e')]; exact g', h', pr'.mono sg⟩
      | dic l' =>
        obtain ⟨p', vs', e', b', g', h', pr'⟩ := so'
        exact ⟨p', vs', e', b', by rw [outG (np p' rfl e')]; exact g', h', pr'.mono sg⟩
      | ins p' C l' =>
        obtain ⟨dx', vs', e', b', g', h', pr'⟩ := so'
        exact ⟨dx', vs', e', b', by rw [outG (np p' rfl e')]; exact g', h', pr'.mono sg⟩
      | nst p' qs' L' =>
        obtain ⟨e', b', g', h', q', nd'⟩ := so'
        have nq : ∀ a ∈ qs', a ∉ p :: qs := fun a ha z => by
          rcases List.mem_cons.mp z with z | z
          · subst z
            exact (k.dn j i a _ _ hs' h rfl ha).1 eO
          · exact hj ((k.dn i j a _ _ h hs' rfl z).2 ha)
        have all : ∀ {as : List Addr} {L : List (List AbsV)}, (∀ a ∈ as, a ∉ p :: qs) → Paired (InnOk B G H) as L → Paired (InnOk B G' H) as L := fun {as L} ha hp => by
          induction hp with
          | nil => exact .nil
          | cons x t ih =>
            obtain ⟨b1, g1, vs, h1, r1⟩ := x
            exact .cons ⟨b1, by rw [outG (ha _ (List.mem_cons_self ..))]; exact g1, vs, h1, r1.mono sg⟩ (ih fun a hm => ha a (List.mem_cons_of_mem _ hm))
        exact ⟨e', b', by rw [outG (np p' rfl e')]; exact g', h', all nq q', nd'⟩
      | red l' => obtain ⟨p', vs', e', b', pr'⟩ := so'; exact ⟨p', vs', e', b', pr'.mono sg⟩
      | scr ns => exact so'
  · rcases get_set ea with ⟨_, rfl⟩ | ⟨na, ea1⟩
    · cases ma
    · rcases get_set ec with ⟨_, rfl⟩ | ⟨nc, ec1⟩
      · cases mc
      · exact k.ds a c ra m m' ea1 ec1 ma mc sa sc
  · rcases get_set ea with ⟨_, rfl⟩ | ⟨na, ea1⟩
    · cases hq
    · rcases get_set ec with ⟨_, rfl⟩ | ⟨nc, ec1⟩
      · cases mc
      · exact k.dn a c q m m' ea1 ec1 mc hq
/-- [e for x in xs if ..], xs a tuple -/
theorem evf_lcU {i : Nat} {tt : TT} (hw : EV K E ta (tuA l)) (bs : Nat → Bool) (els : Nat → AbsV) (hn : l.length ≤ 100000)
    (ht : ∀ j r, l[j]? = some r → ET K ((wipeE E [i]).set i (.val r)) tt (bs j)) (he : ∀ j r, l[j]? = some r → bs j = true → EV K ((wipeE E [i]).set i (.val r)) te (els j)) :
    EVF K E (tLc (iTup K ta) (gName i) tt te [i]) (accL bs els l.length) := fun B G0 σ G H k Q q =>
  hw B G0 σ G H k _ fun v G1 H1 x1 ⟨p, vs, e, g1, pr⟩ => by
    subst e
    have k1 := k.ext x1
    have sH : H1 p = some (.tup vs) := x1.gh _ _ g1
    refine ⟨p, rfl, ⟨vs, SqT.of sH⟩, fun D hD => ?_⟩
    refine lc_tup (K := K) (a := p) (xs := vs) (LcP G1 H1 D bs els) (lc_zero k1 hD) (fun j H' _ hp => ?_) (fun j x H' hj hp => ?_) fun H' hp => ?_
    · obtain ⟨G', ws, x, _⟩ := hp
      exact SqT.of (x.h _ _ sH)
    · obtain ⟨r, hr, rv⟩ := PR.get' pr hj
      exact lc_turn (item := r) k1 hD (Nat.lt_of_lt_of_le (List.getElem?_eq_some_iff.mp hr).1 hn) (fun G H kk hh Q q => lc_name G H kk hh Q q) (ht j r hr) (he j r hr) (fun G s => r.mono s rv) hp
    · obtain ⟨G', ws, x, gD, hD', pr'⟩ := hp
      rw [pr.len] at pr'
      exact q D ws G' H' (x1.trans x) (x1.h.free hD) gD hD' pr'
/-- if t: x = a new list, over an own list -/
theorem es_setIf {i : Nat} {b : Bool} (ht : ET K E t b) (hx : E[i]? = some (.own l)) (he : b = true → EVF K E te m) (q : A.nx (E.set i (.own (if b = true then m else l)))) : ES K E (tIfS t (tAsg te (gName i)) tNext) A := by
  refine es_if ht (fun h => es_asgF (he h) ?_) (fun h => es_next ?_)
  · rw [if_pos h] at q; exact q
  · rw [h, if_neg Bool.false_ne_true] at q
    have : E.set i (.own l) = E := by
      obtain ⟨h1, h2⟩ := List.getElem?_eq_some_iff.mp hx
      rw [← h2]; exact List.set_getElem_self h1
    rw [this] at q; exact q
theorem accL_filt {α : Type} {ps : List α} (d : α) (t : α → Bool) (g : α → AbsV) : accL (fun j => t (ps.getD j d)) (fun j => g (ps.getD j d)) ps.length = (ps.filter t).map g := by
  unfold accL
  have e : (List.range ps.length).map (fun j => ps.getD j d) = ps := by
    apply List.ext_getElem
    · simp
    · intro i h1 h2
      simp at h1
      simp [List.getD_eq_getElem?_getD, List.getElem?_eq_getElem h1]
  conv => rhs; rw [← e, List.filter_map, List.map_map]
  rfl
end
/-- [x for x in (ints) if ..] and [x for x in [ints] if ..] -/
theorem evf_filtU {K : PySem.W.Frag} {E : List Slot} {ta : TE} {i : Nat} {tt : TT} {ps : List Int} (t : Int → Bool) (hw : EV K E ta (tuA (ps.map nI))) (hn : ps.length ≤ 100000)
    (ht : ∀ o, o ∈ ps → ET K ((wipeE E [i]).set i (.val (nI o))) tt (t o)) (hi : i < E.length) : EVF K E (tLc (iTup K ta) (gName i) tt (tVar i) [i]) ((ps.filter t).map nI) := by
  have hg : ∀ {j : Nat} {r : AbsV}, (ps.map nI)[j]? = some r → r = nI (ps.getD j 0) ∧ ps.getD j 0 ∈ ps := fun {j r} h => by
    rw [List.getElem?_map] at h
    cases e : ps[j]? with
    | none => rw [e] at h; cases h
    | some o =>
      rw [e] at h
      have e2 : ps.getD j 0 = o := by rw [List.getD_eq_getElem?_getD, e]; rfl
      rw [e2]
      exact ⟨(Option.some.inj h).symm, List.mem_of_getElem? e⟩
  refine EVF.is (evf_lcU hw (fun j => t (ps.getD j 0)) (fun j => nI (ps.getD j 0)) (by rw [List.length_map]; exact hn) (fun j r hr => ?_) (fun j r hr _ => ?_)) (by rw [List.length_map]; exact accL_filt 0 t nI)
  · obtain ⟨rfl, hm⟩ := hg hr
    exact ht _ hm
  · obtain ⟨rfl, hm⟩ := hg hr
    exact ev_var (List.getElem?_set_self (by unfold wipeE; rw [List.length_set]; exact hi))
theorem evf_filtL {K : PySem.W.Frag} {E : List Slot} {ta : TE} {i : Nat} {tt : TT} {ps : List Int} (t : Int → Bool) (hw : EVS K E ta (ps.map nI)) (hn : ps.length ≤ 100000)
    (ht : ∀ o, o ∈ ps → ET K ((wipeE E [i]).set i (.val (nI o))) tt (t o)) (hi : i < E.length) : EVF K E (tLc (iList K ta) (gName i) tt (tVar i) [i]) ((ps.filter t).map nI) := by
  have hg : ∀ {j : Nat} {r : AbsV}, (ps.map nI)[j]? = some r → r = nI (ps.getD j 0) ∧ ps.getD j 0 ∈ ps := fun {j r} h => by
    rw [List.getElem?_map] at h
    cases e : ps[j]? with
    | none => rw [e] at h; cases h
    | some o =>
      rw [e] at h
      have e2 : ps.getD j 0 = o := by rw [List.getD_eq_getElem?_getD, e]; rfl
      rw [e2]
      exact ⟨(Option.some.inj h).symm, List.mem_of_getElem? e⟩
  refine EVF.is (evf_lcL hw (fun j => t (ps.getD j 0)) (fun j => nI (ps.getD j 0)) (by rw [List.length_map]; exact hn) (fun j r hr => ?_) (fun j r hr _ => ?_)) (by rw [List.length_map]; exact accL_filt 0 t nI)
  · obtain ⟨rfl, hm⟩ := hg hr
    exact ht _ hm
  · obtain ⟨rfl, hm⟩ := hg hr
    exact ev_var (List.getElem?_set_self (by unfold wipeE; rw [List.length_set]; exact hi))
end Ab

set_option maxHeartbeats 2000000
namespace Ab
open PySem PySem.Spec PyProof.Rows L2
/-! ### networks: what makes one; the networks that the laws draw -/
def ndb (ns : List Int) : Bool := decide (dd ns = ns.length)
/-- names that are names -/
def okNames (ns : List Int) : Bool := !ns.isEmpty && (ns.all (fun x => decide (0 ≤ x)) && ndb ns)
def okRow (n : Int) (row : List Int) (size : Int) : Bool := row.all (fun o => decide (0 ≤ o) && decide (o < size) && !decide (o = n)) && ndb row
theorem out_bad {b : Bool} {x : Slot} {y : Addr} (h : b = false) : (if b = true then (.inl x : Out) else .inr y) = .inr y := by rw [h]; rfl
theorem out_ok {b : Bool} {x : Slot} {y : Addr} (h : b = true) : (if b = true then (.inl x : Out) else .inr y) = .inl x := by rw [h]; rfl
theorem exists_min : ∀ {ns : List Int}, ns ≠ [] → ∃ m ∈ ns, ∀ x ∈ ns, m ≤ x
  | [], h => absurd rfl h
  | [a], _ => ⟨a, by simp, fun x h => by rw [List.mem_singleton.mp h]; exact Int.le_refl _⟩
  | a :: b :: l, _ => by
    obtain ⟨m, hm, hl⟩ := exists_min (ns := b :: l) (by simp)
    by_cases h : a ≤ m
    · exact ⟨a, by simp, fun x hx => by
        rcases List.mem_cons.mp hx with e | e
        · rw [e]; exact Int.le_refl _
        · have := hl x e; omega⟩
    · exact ⟨m, List.mem_cons_of_mem _ hm, fun x hx => by
        rcases List.mem_cons.mp hx with e | e
        · rw [e]; omega
        · exact hl x e⟩
theorem emp_map {α β : Type} (f : α → β) (l : List α) : (l.map f).isEmpty = l.isEmpty := by cases l <;> rfl
theorem fm_len {val : Nat → Int} : ∀ i : Nat, (PyProof.Rows.firstMet val i).length = i → ∀ a b, a < b → b < i → val a ≠ val b
  | 0, _, a, b, _, h => by omega
  | i + 1, hl, a, b, h1, h2 => by
    have hle := PyProof.Rows.firstMet_length_le val i
    rw [PyProof.Rows.firstMet_succ] at hl
    unfold PyProof.Rows.step_dedup at hl
    split at hl
    · omega
    · rename_i hno
      rw [List.length_append] at hl
      have hl2 : (PyProof.Rows.firstMet val i).length = i := by simpa using hl
      by_cases hb : b < i
      · exact fm_len i hl2 a b h1 hb
      · have e : b = i := by omega
        subst e
        intro z
        apply hno
        rw [PyProof.Rows.firstMet_any, List.any_eq_true]
        exact ⟨val a, List.mem_map.mpr ⟨a, List.mem_range.mpr h1, rfl⟩, by rw [z]; simp⟩
theorem ndb_iff {ns : List Int} : ndb ns = true ↔ ns.Nodup := by
  unfold ndb dd
  rw [decide_eq_true_eq]
  constructor
  · intro h
    rw [List.nodup_iff_pairwise_ne, List.pairwise_iff_getElem]
    intro a b ha hb hab
    have := fm_len _ h a b hab hb
    rw [List.getD_eq_getElem?_getD, List.getElem?_eq_getElem ha, List.getD_eq_getElem?_getD, List.getElem?_eq_getElem hb] at this
    exact this
  · intro h
    rw [RZ.firstMet_nodup h _ (Nat.le_refl _), List.take_length]
theorem out_inl {b : Bool} {x s : Slot} {y : Addr} (h : (if b = true then (.inl x : Out) else .inr y) = .inl s) : b = true := by
  cases b
  · cases h
  · rfl
theorem out_inr {b : Bool} {x : Slot} {y C : Addr} (h : (if b = true then (.inl x : Out) else .inr y) = .inr C) : b = false ∧ C = y := by
  cases b
  · cases h; exact ⟨rfl, rfl⟩
  · cases h
abbrev rowA (r : List Int) : AbsV := lsA (r.map nI)
def nF (ns : List Int) (nb : List (List Int)) : List (Str × AbsV) := [("_names", lsA (ns.map nI)), ("_neighbors", lsA (nb.map rowA)), ("_ports", lsA (nb.map fun r => dcA (portsL r)))]
def okBack (nb : List (List Int)) : Bool := (List.range nb.length).all fun i => (nb.getD i []).all fun o => (nb.getD o.toNat []).contains (i : Int)
theorem map_row {β : Type} {f : List Int → β} {nb : List (List Int)} {i : Nat} {r : β} (h : (nb.map f)[i]? = some r) : nb[i]? = some (nb.getD i []) ∧ r = f (nb.getD i []) := by
  rw [List.getElem?_map] at h
  cases e : nb[i]? with
  | none => rw [e] at h; cases h
  | some o =>
    rw [e] at h
    have e2 : nb.getD i [] = o := by rw [List.getD_eq_getElem?_getD, e]; rfl
    rw [e2]
    exact ⟨rfl, (Option.some.inj h).symm⟩
theorem map_int {row : List Int} {i : Nat} {r : AbsV} (h : (row.map nI)[i]? = some r) : ∃ o, row[i]? = some o ∧ r = nI o := by
  rw [List.getElem?_map] at h
  cases e : row[i]? with
  | none => rw [e] at h; cases h
  | some o => rw [e] at h; exact ⟨o, rfl, (Option.some.inj h).symm⟩
theorem accL_rows {β : List (List Int)} (f : List Int → AbsV) : accL (fun _ => true) (fun j => f (β.getD j [])) β.length = β.map f := by
  unfold accL
  rw [List.filter_eq_self.mpr (fun _ _ => rfl)]
  apply List.ext_getElem
  · simp
  · intro i h1 h2
    simp at h1
    simp [List.getD_eq_getElem?_getD, List.getElem?_eq_getElem h1]
def okNet (ns : List Int) (nb : List (List Int)) : Bool := okNames ns && (decide (nb.length = ns.length) && ((List.range nb.length).all (fun i => okRow (i : Nat) (nb.getD i []) ns.length) && okBack nb))
def insL (L : List (List Int)) (c : Nat) (a x : Int) : List (List Int) := L.set c ((L.getD c []).take a.toNat ++ [x] ++ (L.getD c []).drop a.toNat)
def dNum (k n : Int) : Int := (n * 69621 + 12345 + k * 7) % 2147483647
def dGo (degree f g : Int) (L : List (List Int)) : Bool := !decide (f = g) && (!decide (g ∈ L.getD f.toNat []) && (decide (((L.getD f.toNat []).length : Int) < degree) && decide (((L.getD g.toNat []).length : Int) < degree)))
def dPut (n f g : Int) (L : List (List Int)) : List (List Int) := insL (insL L f.toNat ((n / 65536) % (((L.getD f.toNat []).length : Int) + 1)) g) g.toNat ((n / 262144) % ((((insL L f.toNat ((n / 65536) % (((L.getD f.toNat []).length : Int) + 1)) g).getD g.toNat []).length : Int) + 1)) f
def dStep (count degree k : Int) (s : Int × List (List Int)) : Int × List (List Int) :=
  (dNum k s.1, if dGo degree (dNum k s.1 / 16 % count) (dNum k s.1 / 4096 % count) s.2 = true then dPut (dNum k s.1) (dNum k s.1 / 16 % count) (dNum k s.1 / 4096 % count) s.2 else s.2)
def dSteps (count degree number : Int) : Nat → Int × List (List Int)
  | 0 => (number, List.replicate count.toNat [])
  | k + 1 => dStep count degree (k : Nat) (dSteps count degree number k)
abbrev nstL (L : List (List Int)) : List (List AbsV) := L.map fun r => r.map nI
theorem nstL_get {L : List (List Int)} {c : Nat} (h : c < L.length) : (nstL L)[c]? = some ((L.getD c []).map nI) := by
  rw [List.getElem?_map, List.getD_eq_getElem?_getD, List.getElem?_eq_getElem h]; rfl
theorem nstL_set (L : List (List Int)) (c : Nat) (a x : Int) : (nstL L).set c (((L.getD c []).map nI).take a.toNat ++ [nI x] ++ ((L.getD c []).map nI).drop a.toNat) = nstL (insL L c a x) := by
  unfold nstL insL
  rw [List.map_set]
  simp only [List.map_append, List.map_take, List.map_drop, List.map_cons, List.map_nil]
theorem insL_len (L : List (List Int)) (c : Nat) (a x : Int) : (insL L c a x).length = L.length := by unfold insL; rw [List.length_set]
theorem dSteps_len (count degree number : Int) : ∀ k, (dSteps count degree number k).2.length = count.toNat
  | 0 => by show (List.replicate _ _).length = _; rw [List.length_replicate]
  | k + 1 => by
    show (if _ then dPut _ _ _ _ else _).length = _
    split
    · unfold dPut; rw [insL_len, insL_len]; exact dSteps_len count degree number k
    · exact dSteps_len count degree number k
def bump (names : List Int) : Nat → Int → Int
  | 0, m => m
  | j + 1, m => let m' := bump names j m; if decide (m' ∈ names) = true then m' + 1 else m'
def nStep (count : Int) (s : Int × List Int) : Int × List Int := let n := (s.1 * 48271 + 11) % 2147483647
  (n, s.2 ++ [bump s.2 count.toNat ((n / 64) % (count + 1 + (n / 8) % 90))])
def nSteps (count number : Int) : Nat → Int × List Int
  | 0 => (number, [])
  | k + 1 => nStep count (nSteps count number k)
theorem nSteps_len (count number : Int) : ∀ k, (nSteps count number k).2.length = k
  | 0 => rfl
  | k + 1 => by
    show (_ ++ [_]).length = _
    rw [List.length_append, nSteps_len count number k]; rfl
def netD (number most degree : Int) : List Int × List (List Int) := let count := 1 + number % most
  let s := dSteps count degree (number / most) (2 * count).toNat
  ((nSteps count s.1 count.toNat).2, s.2)
def shRow (way count k : Int) : List Int :=
  let r0 := [(k - 1) % count, (k + 1) % count]
  let r1 := if decide (way = 1) = true then [k - 1, k + 1].filter (fun j => decide (0 ≤ j) && decide (j < count)) else r0
  let r2 := if decide (way = 2) = true then [k + 1, k - 2, k + 2, k - 1].filter (fun j => (decide (0 ≤ j) && decide (j < count)) && (!decide (j = k) && decide ((if j - k < 0 then -(j - k) else j - k) < 3))) else r1
  if decide (way = 3) = true then ((if decide (k > 0) = true then [(k - 1) / 2] else []) ++ [2 * k + 1, 2 * k + 2]).filter (fun j => decide (j < count)) else r2
def shNames (count number : Int) : Nat → List Int
  | 0 => []
  | k + 1 => shNames count number k ++ [bump (shNames count number k) count.toNat (((k : Nat) + 1) * (1 + number / 16) * 7 % 101)]
theorem shNames_len (count number : Int) : ∀ k, (shNames count number k).length = k
  | 0 => rfl
  | k + 1 => by
    show (_ ++ [_]).length = _
    rw [List.length_append, shNames_len count number k]; rfl
def netS (number most : Int) : List Int × List (List Int) := let count := 3 + number / 4 % (most - 2)
  (shNames count number count.toNat, (List.range count.toNat).map fun (k : Nat) => shRow (number % 4) count k)
theorem set_last {α : Type} : ∀ (l : List α) (x y : α), (l ++ [x]).set l.length y = l ++ [y]
  | [], _, _ => rfl
  | a :: l, x, y => congrArg (a :: ·) (set_last l x y)
theorem evl_if {K : PySem.W.Frag} {E : List Slot} {t : TT} {ta tb : TE} {l : List AbsV} {b : Bool} (h : ET K E t b) (h1 : b = true → EVL K E ta l) (h2 : b = false → EVL K E tb l) : EVL K E (tIf t ta tb) l := fun B G0 σ G H k Q q => h B G0 σ G H k _ fun G1 H1 x1 => by
  cases b with
  | true =>
    show ta σ H1 Q
    exact h1 rfl B G0 σ G1 H1 (k.ext x1) Q fun p vs G2 H2 x2 e2 r2 => q p vs G2 H2 (x1.trans x2) e2 r2
  | false =>
    show tb σ H1 Q
    exact h2 rfl B G0 σ G1 H1 (k.ext x1) Q fun p vs G2 H2 x2 e2 r2 => q p vs G2 H2 (x1.trans x2) e2 r2
theorem ite_mapL {b : Bool} {x y : List Int} : (if b = true then x.map nI else y.map nI) = (if b = true then x else y).map nI := by cases b <;> rfl
def netF (number most : Int) : List Int × List (List Int) := if decide (number % 3 = 0) = true then netS (number / 3) most else netD (number / 3) most 4
theorem run_le : ∀ (n : Nat) (names : List Int) (m : Int), (∀ t : Nat, t < n → m + (t : Int) ∈ names) → n ≤ names.length
  | 0, _, _, _ => Nat.zero_le _
  | n + 1, names, m, h => by
    have hm := h n (Nat.lt_succ_self n)
    have h2 := run_le n (names.erase (m + (n : Int))) m fun t ht => (List.mem_erase_of_ne (by omega)).mpr (h t (by omega))
    rw [List.length_erase_of_mem hm] at h2
    have := List.length_pos_of_mem hm
    omega
theorem bump_spec (names : List Int) (m : Int) : ∀ j : Nat, ∃ t : Nat, t ≤ j ∧ bump names j m = m + (t : Int) ∧ (∀ u : Nat, u < t → m + (u : Int) ∈ names) ∧ (t < j → m + (t : Int) ∉ names)
  | 0 => ⟨0, Nat.le_refl _, by show m = _; simp, fun u hu => by omega, fun h => by omega⟩
  | j + 1 => by
    obtain ⟨t, h1, h2, h3, h4⟩ := bump_spec names m j
    have hb : bump names (j + 1) m = if decide (bump names j m ∈ names) = true then bump names j m + 1 else bump names j m := rfl
    rw [hb, h2]
    by_cases hin : m + (t : Int) ∈ names
    · rw [if_pos (decide_eq_true hin)]
      have e : t = j := by
        rcases Nat.lt_or_ge t j with h | h
        · exact absurd hin (h4 h)
        · omega
      exact ⟨t + 1, by omega, by omega, fun u hu => by
        rcases Nat.lt_or_ge u t with h | h
        · exact h3 u h
        · have : u = t := by omega
          rw [this]; exact hin, fun h => by omega⟩
    · rw [if_neg (by simpa using hin)]
      exact ⟨t, by omega, rfl, h3, fun _ => hin⟩
theorem bump_new {names : List Int} {j : Nat} (m : Int) (h : names.length < j) : bump names j m ∉ names := by
  obtain ⟨t, h1, h2, h3, h4⟩ := bump_spec names m j
  rw [h2]
  rcases Nat.lt_or_ge t j with z | z
  · exact h4 z
  · have := run_le t names m h3
    omega
theorem bump_pos {names : List Int} {j : Nat} {m : Int} (h : 0 ≤ m) : 0 ≤ bump names j m := by
  obtain ⟨t, _, h2, _⟩ := bump_spec names m j
  omega
def NamesOk (ns : List Int) : Prop := ns.Nodup ∧ ∀ x ∈ ns, 0 ≤ x
theorem namesOk_more {ns : List Int} {x : Int} (h : NamesOk ns) (hx : x ∉ ns) (h0 : 0 ≤ x) : NamesOk (ns ++ [x]) := by
  refine ⟨?_, fun y hy => ?_⟩
  · rw [List.nodup_append]
    refine ⟨h.1, by simp, fun a ha b hb e => ?_⟩
    have : b = x := by simpa using hb
    rw [e, this] at ha
    exact hx ha
  · rcases List.mem_append.mp hy with z | z
    · exact h.2 y z
    · have : y = x := by simpa using z
      rw [this]; exact h0
theorem nSteps_ok {count : Int} (hc : 1 ≤ count) (number : Int) : ∀ k : Nat, k ≤ count.toNat → NamesOk (nSteps count number k).2
  | 0, _ => ⟨List.nodup_nil, fun x h => nomatch h⟩
  | k + 1, h => by
    have hl := nSteps_len count number k
    have h0 : 0 ≤ ((nSteps count number k).1 * 48271 + 11) % 2147483647 / 8 % 90 := Int.emod_nonneg _ (by decide)
    exact namesOk_more (nSteps_ok hc number k (by omega)) (bump_new _ (by omega)) (bump_pos (Int.emod_nonneg _ (by omega)))
theorem shNames_ok {count : Int} (number : Int) : ∀ k : Nat, k ≤ count.toNat → NamesOk (shNames count number k)
  | 0, _ => ⟨List.nodup_nil, fun x h => nomatch h⟩
  | k + 1, h => by
    have hl := shNames_len count number k
    exact namesOk_more (shNames_ok number k (by omega)) (bump_new _ (by omega)) (bump_pos (Int.emod_nonneg _ (by decide)))
/-- the lists of a network of n nodes -/
def Good (n : Nat) (L : List (List Int)) : Prop := L.length = n ∧ ∀ i : Nat, i < n → (L.getD i []).Nodup ∧ ∀ o ∈ L.getD i [], 0 ≤ o ∧ o < (n : Int) ∧ o ≠ (i : Int) ∧ (i : Int) ∈ L.getD o.toNat []
theorem getD_insL {L : List (List Int)} {c i : Nat} {a x : Int} (hc : c < L.length) : (insL L c a x).getD i [] = if i = c then (L.getD c []).take a.toNat ++ [x] ++ (L.getD c []).drop a.toNat else L.getD i [] := by
  unfold insL
  rw [List.getD_eq_getElem?_getD]
  by_cases h : i = c
  · rw [if_pos h, h, List.getElem?_set_self hc]; rfl
  · rw [if_neg h, List.getElem?_set_ne (fun e => h e.symm), ← List.getD_eq_getElem?_getD]
theorem mem_ins {l : List Int} {k : Nat} {x y : Int} : y ∈ l.take k ++ [x] ++ l.drop k ↔ y = x ∨ y ∈ l := by
  conv => rhs; rw [← List.take_append_drop k l]
  simp only [List.mem_append, List.mem_singleton]
  constructor
  · rintro ((h | h) | h)
    · exact .inr (.inl h)
    · exact .inl h
    · exact .inr (.inr h)
  · rintro (h | h | h)
    · exact .inl (.inr h)
    · exact .inl (.inl h)
    · exact .inr h
theorem nodup_ins {l : List Int} {k : Nat} {x : Int} (h : l.Nodup) (hx : x ∉ l) : (l.take k ++ [x] ++ l.drop k).Nodup := by
  rw [List.append_assoc, List.singleton_append]
  have hp : (l.take k ++ x :: l.drop k).Perm (x :: (l.take k ++ l.drop k)) := List.perm_middle
  rw [hp.nodup_iff, List.take_append_drop]
  exact List.nodup_cons.mpr ⟨hx, h⟩
theorem put_mem {L : List (List Int)} {f g a b : Int} (hf : f.toNat < L.length) (hg : g.toNat < L.length) (hne : f.toNat ≠ g.toNat) (i : Nat) (y : Int) :
    y ∈ (insL (insL L f.toNat a g) g.toNat b f).getD i [] ↔ y ∈ L.getD i [] ∨ (i = f.toNat ∧ y = g) ∨ (i = g.toNat ∧ y = f) := by
  rw [getD_insL (by rw [insL_len]; exact hg)]
  have h1 : (insL L f.toNat a g).getD g.toNat [] = L.getD g.toNat [] := by rw [getD_insL hf, if_neg (fun e => hne e.symm)]
  by_cases hi : i = g.toNat
  · rw [if_pos hi, h1, mem_ins, hi]
    constructor
    · rintro (h | h)
      · exact .inr (.inr ⟨rfl, h⟩)
      · exact .inl h
    · rintro (h | h | h)
      · exact .inr h
      · exact absurd h.1.symm hne
      · exact .inl h.2
  · rw [if_neg hi, getD_insL hf]
    by_cases hi2 : i = f.toNat
    · rw [if_pos hi2, mem_ins, hi2]
      constructor
      · rintro (h | h)
        · exact .inr (.inl ⟨rfl, h⟩)
        · exact .inl h
      · rintro (h | h | h)
        · exact .inr h
        · exact .inl h.2
        · exact absurd h.1 hne
    · rw [if_neg hi2]
      constructor
      · exact fun h => .inl h
      · rintro (h | h | h)
        · exact h
        · exact absurd h.1 hi2
        · exact absurd h.1 hi
theorem put_good {n : Nat} {L : List (List Int)} {f g : Int} (h : Good n L) (f0 : 0 ≤ f) (f1 : f < (n : Int)) (g0 : 0 ≤ g) (g1 : g < (n : Int)) (hne : f ≠ g) (hnot : g ∉ L.getD f.toNat []) (a b : Int) : Good n (insL (insL L f.toNat a g) g.toNat b f) := by
  obtain ⟨hl, hr⟩ := h
  have hf : f.toNat < L.length := by omega
  have hg : g.toNat < L.length := by omega
  have hn : f.toNat ≠ g.toNat := by omega
  have ef : (f.toNat : Int) = f := Int.toNat_of_nonneg f0
  have eg : (g.toNat : Int) = g := Int.toNat_of_nonneg g0
  have hnot2 : f ∉ L.getD g.toNat [] := fun z => by
    have := ((hr g.toNat (by omega)).2 f z).2.2.2
    rw [eg] at this
    exact hnot this
  refine ⟨by rw [insL_len, insL_len]; exact hl, fun i hi => ⟨?_, fun o ho => ?_⟩⟩
  · rw [getD_insL (by rw [insL_len]; exact hg)]
    have h1 : (insL L f.toNat a g).getD g.toNat [] = L.getD g.toNat [] := by rw [getD_insL hf, if_neg (fun e => hn e.symm)]
    by_cases hi1 : i = g.toNat
    · rw [if_pos hi1, h1]
      exact nodup_ins (hr _ (by omega)).1 hnot2
    · rw [if_neg hi1, getD_insL hf]
      by_cases hi2 : i = f.toNat
      · rw [if_pos hi2]
        exact nodup_ins (hr _ (by omega)).1 hnot
      · rw [if_neg hi2]
        exact (hr i hi).1
  · rw [put_mem hf hg hn] at ho
    rw [put_mem hf hg hn]
    rcases ho with z | ⟨z, e⟩ | ⟨z, e⟩
    · obtain ⟨a1, a2, a3, a4⟩ := (hr i hi).2 o z
      exact ⟨a1, a2, a3, .inl a4⟩
    · rw [e, z, ef]
      exact ⟨g0, g1, fun q => hne q.symm, .inr (.inr ⟨rfl, rfl⟩)⟩
    · rw [e, z, eg]
      exact ⟨f0, f1, hne, .inr (.inl ⟨rfl, rfl⟩)⟩
theorem dSteps_good {count degree number : Int} (hc : 1 ≤ count) : ∀ k, Good count.toNat (dSteps count degree number k).2
  | 0 => by
    refine ⟨List.length_replicate, fun i hi => ?_⟩
    have : (List.replicate count.toNat ([] : List Int)).getD i [] = [] := by
      rw [List.getD_eq_getElem?_getD, List.getElem?_replicate]
      split <;> rfl
    show (List.getD (List.replicate count.toNat ([] : List Int)) i []).Nodup ∧ _
    have e2 : (dSteps count degree number 0).2 = List.replicate count.toNat [] := rfl
    rw [e2, this]
    exact ⟨List.nodup_nil, fun o h => nomatch h⟩
  | k + 1 => by
    have ih := dSteps_good (degree := degree) (number := number) hc k
    have e : (dSteps count degree number (k + 1)).2 = (dStep count degree (k : Nat) (dSteps count degree number k)).2 := rfl
    rw [e]
    unfold dStep
    dsimp only
    split
    · rename_i hT
      unfold dGo at hT
      simp only [Bool.and_eq_true, decide_eq_true_eq, Bool.not_eq_true', decide_eq_false_iff_not] at hT
      unfold dPut
      have m0 : ∀ a : Int, 0 ≤ a % count ∧ a % count < (count.toNat : Int) := fun a => ⟨Int.emod_nonneg _ (by omega), by have := Int.emod_lt_of_pos a (show 0 < count by omega); omega⟩
      exact put_good ih (m0 _).1 (m0 _).2 (m0 _).1 (m0 _).2 hT.1 hT.2.1 _ _
    · exact ih

theorem namesOk_ok {ns : List Int} (h : NamesOk ns) (h1 : ns ≠ []) : okNames ns = true := by
  unfold okNames
  have e1 : ns.isEmpty = false := by
    cases ns with
    | nil => exact absurd rfl h1
    | cons a l => rfl
  have e2 : ns.all (fun x => decide (0 ≤ x)) = true := by
    rw [List.all_eq_true]
    exact fun x hx => decide_eq_true (h.2 x hx)
  rw [e1, e2, ndb_iff.mpr h.1]; rfl
theorem good_rows {n : Nat} {L : List (List Int)} (h : Good n L) : (List.range L.length).all (fun i => okRow (i : Nat) (L.getD i []) (n : Nat)) = true := by
  rw [List.all_eq_true]
  intro i hi
  have hi : i < n := by rw [← h.1]; exact List.mem_range.mp hi
  obtain ⟨a, b⟩ := h.2 i hi
  unfold okRow
  rw [ndb_iff.mpr a, Bool.and_true, List.all_eq_true]
  intro o ho
  obtain ⟨c1, c2, c3, _⟩ := b o ho
  simp [c1, c2, c3]
theorem good_back {n : Nat} {L : List (List Int)} (h : Good n L) : okBack L = true := by
  unfold okBack
  rw [List.all_eq_true]
  intro i hi
  have hi : i < n := by rw [← h.1]; exact List.mem_range.mp hi
  rw [List.all_eq_true]
  intro o ho
  simpa using ((h.2 i hi).2 o ho).2.2.2
theorem good_net {ns : List Int} {L : List (List Int)} (h : NamesOk ns) (h1 : ns ≠ []) (g : Good ns.length L) : okNet ns L = true := by
  unfold okNet
  rw [namesOk_ok h h1, decide_eq_true g.1, good_back g, good_rows g]; rfl
theorem shape_rows : ∀ c, c < 11 → 3 ≤ c → ∀ w, w < 4 → (List.range ((List.range c).map fun (k : Nat) => shRow (w : Nat) (c : Nat) k).length).all (fun i => okRow (i : Nat) (((List.range c).map fun (k : Nat) => shRow (w : Nat) (c : Nat) k).getD i []) (c : Nat)) = true ∧ okBack ((List.range c).map fun (k : Nat) => shRow (w : Nat) (c : Nat) k) = true := by decide +kernel
theorem ne_of_len {α : Type} {l : List α} {n : Nat} (h : l.length = n) (h1 : 1 ≤ n) : l ≠ [] := fun z => by rw [z] at h; simp at h; omega
theorem netD_ok {number most degree : Int} (h0 : 0 ≤ number) (h1 : 1 ≤ most) : okNet (netD number most degree).1 (netD number most degree).2 = true := by
  have hc0 : 0 ≤ number % most := Int.emod_nonneg _ (by omega)
  have b1 : 1 ≤ 1 + number % most := by omega
  unfold netD
  dsimp only
  generalize 1 + number % most = count at b1
  have hl := nSteps_len count (dSteps count degree (number / most) (2 * count).toNat).1 count.toNat
  exact good_net (nSteps_ok b1 _ _ (Nat.le_refl _)) (ne_of_len hl (by omega)) (by rw [hl]; exact dSteps_good b1 _)
theorem netS_ok {number most : Int} (h1 : 3 ≤ most) (h2 : most ≤ 10) : okNet (netS number most).1 (netS number most).2 = true := by
  have hc0 : 0 ≤ number / 4 % (most - 2) := Int.emod_nonneg _ (by omega)
  have hc1 : number / 4 % (most - 2) < most - 2 := Int.emod_lt_of_pos _ (by omega)
  have b1 : 3 ≤ 3 + number / 4 % (most - 2) := by omega
  have b2 : 3 + number / 4 % (most - 2) ≤ 10 := by omega
  have w0 : 0 ≤ number % 4 := Int.emod_nonneg _ (by decide)
  have w1 : number % 4 < 4 := Int.emod_lt_of_pos _ (by decide)
  unfold netS
  dsimp only
  generalize 3 + number / 4 % (most - 2) = count at b1 b2
  generalize number % 4 = way at w0 w1
  have hl := shNames_len count number count.toNat
  obtain ⟨r1, r2⟩ := shape_rows count.toNat (by omega) (by omega) way.toNat (by omega)
  rw [Int.toNat_of_nonneg (by omega), Int.toNat_of_nonneg (by omega)] at r1 r2
  unfold okNet
  rw [namesOk_ok (shNames_ok number _ (Nat.le_refl _)) (ne_of_len hl (by omega)), hl, List.length_map, List.length_range, decide_eq_true rfl, r2]
  rw [List.length_map, List.length_range] at r1
  rw [Int.toNat_of_nonneg (by omega), r1]; rfl
theorem netF_ok {number most : Int} (h0 : 0 ≤ number) (h1 : 3 ≤ most) (h2 : most ≤ 10) : okNet (netF number most).1 (netF number most).2 = true := by
  have hd : 0 ≤ number / 3 := Int.ediv_nonneg h0 (by decide)
  unfold netF
  split
  · exact netS_ok h1 h2
  · exact netD_ok hd (by omega)
end Ab

namespace Bfs
def bStep (d : Int) (s : List (Option Int) × List Int) (o : Int) : List (Option Int) × List Int := if (s.1.getD o.toNat none).isNone = true then (s.1.set o.toNat (some d), s.2 ++ [o]) else s
def bRow (d : Int) (row : List Int) (s : List (Option Int) × List Int) : List (Option Int) × List Int := row.foldl (bStep d) s
def bLayer (nb : List (List Int)) (d : Int) (edge : List Int) (s : List (Option Int) × List Int) : List (Option Int) × List Int := edge.foldl (fun s e => bRow d (nb.getD e.toNat []) s) s
def bRun (nb : List (List Int)) : Nat → Int → List (Option Int) → List Int → List (Option Int)
  | 0, _, F, _ => F
  | m + 1, d, F, e => if e.isEmpty = true then F else bRun nb m (d + 1) (bLayer nb (d + 1) e (F, [])).1 (bLayer nb (d + 1) e (F, [])).2
def nones (F : List (Option Int)) : Nat := (F.filter Option.isNone).length
theorem nones_set : ∀ {F : List (Option Int)} {c : Nat} {d : Int}, c < F.length → (F.getD c none).isNone = true → nones (F.set c (some d)) + 1 = nones F
  | [], c, d, h, _ => by simp at h
  | a :: F, 0, d, _, h => by
    cases a with
    | none => simp [nones]
    | some x => simp at h
  | a :: F, c + 1, d, h, h2 => by
    have ih := nones_set (F := F) (c := c) (d := d) (by simpa using h) (by simpa using h2)
    cases a <;> simp [nones] at ih ⊢ <;> omega
def InR (n : Nat) (l : List Int) : Prop := ∀ o ∈ l, 0 ≤ o ∧ o < (n : Int)
structure BOk (n : Nat) (s : List (Option Int) × List Int) (t : Nat) : Prop where
  len : s.1.length = n
  rng : InR n s.2
  cnt : nones s.1 + s.2.length = t
theorem bStep_ok {n t : Nat} {d o : Int} {s : List (Option Int) × List Int} (h : BOk n s t) (h0 : 0 ≤ o) (h1 : o < (n : Int)) : BOk n (bStep d s o) t := by
  unfold bStep
  split
  · rename_i hN
    refine ⟨by rw [List.length_set]; exact h.len, fun x hx => ?_, ?_⟩
    · rcases List.mem_append.mp hx with z | z
      · exact h.rng x z
      · have : x = o := by simpa using z
        rw [this]; exact ⟨h0, h1⟩
    · have := nones_set (d := d) (show o.toNat < s.1.length by rw [h.len]; omega) hN
      have := h.cnt
      rw [List.length_append, List.length_singleton]
      dsimp only
      omega
  · exact h
theorem bRow_ok {n t : Nat} {d : Int} : ∀ {row : List Int} {s : List (Option Int) × List Int}, InR n row → BOk n s t → BOk n (bRow d row s) t
  | [], _, _, h => h
  | o :: row, s, hr, h => bRow_ok (row := row) (fun x hx => hr x (List.mem_cons_of_mem _ hx)) (bStep_ok h (hr o (List.mem_cons_self ..)).1 (hr o (List.mem_cons_self ..)).2)
theorem bLayer_ok {nb : List (List Int)} {n t : Nat} {d : Int} (hnb : ∀ i, i < n → InR n (nb.getD i [])) : ∀ {edge : List Int} {s : List (Option Int) × List Int}, InR n edge → BOk n s t → BOk n (bLayer nb d edge s) t
  | [], _, _, h => h
  | e :: edge, s, hr, h => bLayer_ok hnb (edge := edge) (fun x hx => hr x (List.mem_cons_of_mem _ hx)) (bRow_ok (hnb _ (by have := hr e (List.mem_cons_self ..); omega)) h)
/-- one turn of the law's queue, at place a of its line -/
def qAt (nb : List (List Int)) (a : Nat) (s : List (Option Int) × List Int) : List (Option Int) × List Int :=
  if a < s.2.length then bRow ((s.1.getD (s.2.getD a 0).toNat none).getD 0 + 1) (nb.getD (s.2.getD a 0).toNat []) s else s
def qRun (nb : List (List Int)) : Nat → Nat → List (Option Int) × List Int → List (Option Int) × List Int
  | 0, _, s => s
  | k + 1, a, s => qRun nb k (a + 1) (qAt nb a s)
theorem qRun_end {nb : List (List Int)} : ∀ {k a : Nat} {s : List (Option Int) × List Int}, s.2.length ≤ a → qRun nb k a s = s
  | 0, _, _, _ => rfl
  | k + 1, a, s, h => by
    have e : qAt nb a s = s := by unfold qAt; rw [if_neg (by omega)]
    show qRun nb k (a + 1) (qAt nb a s) = s
    rw [e]
    exact qRun_end (by omega)
theorem qRun_add {nb : List (List Int)} : ∀ {k j a : Nat} {s : List (Option Int) × List Int}, qRun nb (k + j) a s = qRun nb j (a + k) (qRun nb k a s)
  | 0, j, a, s => by rw [Nat.zero_add]; rfl
  | k + 1, j, a, s => by
    rw [Nat.succ_add_eq_add_succ]
    show qRun nb (k + (j + 1)) a s = qRun nb j (a + (k + 1)) (qRun nb k (a + 1) (qAt nb a s))
    rw [show k + (j + 1) = (k + j) + 1 by omega]
    show qRun nb (k + j) (a + 1) (qAt nb a s) = _
    rw [qRun_add, show a + 1 + k = a + (k + 1) by omega]
theorem bStep_pre {d o : Int} {F : List (Option Int)} {X Y : List Int} : bStep d (F, X ++ Y) o = ((bStep d (F, Y) o).1, X ++ (bStep d (F, Y) o).2) := by
  unfold bStep
  split <;> simp
theorem bRow_pre {d : Int} {X : List Int} : ∀ {row : List Int} {F : List (Option Int)} {Y : List Int}, bRow d row (F, X ++ Y) = ((bRow d row (F, Y)).1, X ++ (bRow d row (F, Y)).2)
  | [], _, _ => rfl
  | o :: row, F, Y => by
    show bRow d row (bStep d (F, X ++ Y) o) = ((bRow d row (bStep d (F, Y) o)).1, X ++ (bRow d row (bStep d (F, Y) o)).2)
    rw [bStep_pre, bRow_pre]
theorem bStep_keep {d o v : Int} {s : List (Option Int) × List Int} {x : Nat} (h : s.1.getD x none = some v) : (bStep d s o).1.getD x none = some v := by
  unfold bStep
  split
  · rename_i hN
    by_cases z : o.toNat = x
    · rw [z, h] at hN; cases hN
    · dsimp only
      rw [List.getD_eq_getElem?_getD, List.getElem?_set_ne z, ← List.getD_eq_getElem?_getD]
      exact h
  · exact h
theorem bRow_keep {d v : Int} {x : Nat} : ∀ {row : List Int} {s : List (Option Int) × List Int}, s.1.getD x none = some v → (bRow d row s).1.getD x none = some v
  | [], _, h => h
  | o :: row, s, h => bRow_keep (row := row) (bStep_keep h)
theorem bLayer_keep {nb : List (List Int)} {d v : Int} {x : Nat} : ∀ {e : List Int} {s : List (Option Int) × List Int}, s.1.getD x none = some v → (bLayer nb d e s).1.getD x none = some v
  | [], _, h => h
  | o :: e, s, h => bLayer_keep (e := e) (bRow_keep h)
/-- all of a line have the distance d -/
def AllD (F : List (Option Int)) (d : Int) (l : List Int) : Prop := ∀ x ∈ l, F.getD x.toNat none = some d
theorem bStep_new {n : Nat} {d o : Int} {s : List (Option Int) × List Int} (hl : s.1.length = n) (h0 : 0 ≤ o) (h1 : o < (n : Int)) (h : AllD s.1 d s.2) : AllD (bStep d s o).1 d (bStep d s o).2 := fun x hx => by
  by_cases hN : (s.1.getD o.toNat none).isNone = true
  · have e : bStep d s o = (s.1.set o.toNat (some d), s.2 ++ [o]) := by unfold bStep; rw [if_pos hN]
    rw [e] at hx ⊢
    rcases List.mem_append.mp hx with z | z
    · have := bStep_keep (d := d) (o := o) (h x z)
      rw [e] at this; exact this
    · have : x = o := by simpa using z
      rw [this]
      dsimp only
      rw [List.getD_eq_getElem?_getD, List.getElem?_set_self (by omega)]; rfl
  · have e : bStep d s o = s := by unfold bStep; rw [if_neg hN]
    rw [e] at hx ⊢
    exact h x hx
theorem bStep_len {d o : Int} {s : List (Option Int) × List Int} : (bStep d s o).1.length = s.1.length := by
  unfold bStep
  split
  · exact List.length_set ..
  · rfl
theorem bRow_new {n : Nat} {d : Int} : ∀ {row : List Int} {s : List (Option Int) × List Int}, s.1.length = n → InR n row → AllD s.1 d s.2 → AllD (bRow d row s).1 d (bRow d row s).2 ∧ (bRow d row s).1.length = n
  | [], _, hl, _, h => ⟨h, hl⟩
  | o :: row, s, hl, hr, h => bRow_new (row := row) (bStep_len.trans hl) (fun x hx => hr x (List.mem_cons_of_mem _ hx)) (bStep_new hl (hr o (List.mem_cons_self ..)).1 (hr o (List.mem_cons_self ..)).2 h)
theorem bLayer_new {nb : List (List Int)} {n : Nat} {d : Int} (hnb : ∀ i, i < n → InR n (nb.getD i [])) : ∀ {e : List Int} {s : List (Option Int) × List Int}, s.1.length = n → InR n e → AllD s.1 d s.2 → AllD (bLayer nb d e s).1 d (bLayer nb d e s).2
  | [], _, _, _, h => h
  | o :: e, s, hl, hr, h => by
    have := bRow_new (d := d) hl (hnb o.toNat (by have := hr o (List.mem_cons_self ..); omega)) h
    exact bLayer_new hnb (e := e) this.2 (fun x hx => hr x (List.mem_cons_of_mem _ hx)) this.1
/-- the queue's turns of one layer -/
theorem q_layer {nb : List (List Int)} {d : Int} : ∀ {e P Y : List Int} {F : List (Option Int)}, AllD F d e →
    qRun nb e.length P.length (F, P ++ e ++ Y) = ((bLayer nb (d + 1) e (F, Y)).1, P ++ e ++ (bLayer nb (d + 1) e (F, Y)).2)
  | [], P, Y, F, _ => rfl
  | o :: e, P, Y, F, h => by
    have ho : F.getD o.toNat none = some d := h o (List.mem_cons_self ..)
    have e1 : qAt nb P.length (F, P ++ (o :: e) ++ Y) = ((bRow (d + 1) (nb.getD o.toNat []) (F, Y)).1, P ++ (o :: e) ++ (bRow (d + 1) (nb.getD o.toNat []) (F, Y)).2) := by
      unfold qAt
      have g : (P ++ (o :: e) ++ Y).getD P.length 0 = o := by
        rw [List.getD_eq_getElem?_getD, List.append_assoc, List.getElem?_append_right (Nat.le_refl _), Nat.sub_self]; rfl
      dsimp only
      rw [if_pos (by simp), g, ho]
      exact bRow_pre
    show qRun nb e.length (P.length + 1) (qAt nb P.length (F, P ++ (o :: e) ++ Y)) = _
    rw [e1]
    have h2 : AllD (bRow (d + 1) (nb.getD o.toNat []) (F, Y)).1 d e := fun x hx => bRow_keep (h x (List.mem_cons_of_mem _ hx))
    have ih := q_layer (nb := nb) (e := e) (P := P ++ [o]) (Y := (bRow (d + 1) (nb.getD o.toNat []) (F, Y)).2) h2
    rw [List.length_append, List.length_singleton, List.append_assoc P [o] e] at ih
    exact ih
/-- the layers are the queue -/
theorem bRun_q {nb : List (List Int)} {n : Nat} (hnb : ∀ i, i < n → InR n (nb.getD i [])) : ∀ {m k : Nat} {d : Int} {F : List (Option Int)} {e P : List Int}, F.length = n → InR n e → AllD F d e → (e = [] ∨ nones F < m) → nones F + e.length ≤ k →
    bRun nb m d F e = (qRun nb k P.length (F, P ++ e)).1
  | 0, k, d, F, e, P, hl, hr, ha, hm, hk => by
    have : e = [] := by
      rcases hm with z | z
      · exact z
      · omega
    subst this
    rw [qRun_end (by simp)]; rfl
  | m + 1, k, d, F, e, P, hl, hr, ha, hm, hk => by
    by_cases he : e = []
    · subst he
      rw [qRun_end (by simp)]; rfl
    · have hi : e.isEmpty = false := by
        cases e with
        | nil => exact absurd rfl he
        | cons a l => rfl
      have e1 : bRun nb (m + 1) d F e = bRun nb m (d + 1) (bLayer nb (d + 1) e (F, [])).1 (bLayer nb (d + 1) e (F, [])).2 := by
        show (if e.isEmpty = true then F else _) = _
        rw [hi]; rfl
      have b0 : BOk n (F, []) (nones F) := ⟨hl, fun o ho => (nomatch ho), rfl⟩
      have b1 := bLayer_ok (d := d + 1) hnb hr b0
      have n1 := bLayer_new (d := d + 1) hnb (s := (F, [])) hl hr (fun x hx => nomatch hx)
      have c1 := b1.cnt
      have hk1 : k = e.length + (k - e.length) := by omega
      have := q_layer (nb := nb) (d := d) (e := e) (P := P) (Y := []) (F := F) ha
      rw [List.append_nil] at this
      rw [e1, hk1, qRun_add, this, ← List.length_append]
      refine bRun_q hnb (P := P ++ e) b1.len b1.rng n1 ?_ (by omega)
      rcases Nat.eq_zero_or_pos (bLayer nb (d + 1) e (F, [])).2.length with z | z
      · exact .inl (List.length_eq_zero_iff.mp z)
      · right
        rcases hm with y | y
        · exact absurd y he
        · omega
/-- what the line holds is what is found -/
structure QOk (n : Nat) (s : List (Option Int) × List Int) : Prop where
  len : s.1.length = n
  rng : InR n s.2
  nd : s.2.Nodup
  iff : ∀ x : Int, 0 ≤ x → x < (n : Int) → (x ∈ s.2 ↔ (s.1.getD x.toNat none).isSome = true)
theorem bStep_q {n : Nat} {d o : Int} {s : List (Option Int) × List Int} (h : QOk n s) (h0 : 0 ≤ o) (h1 : o < (n : Int)) : QOk n (bStep d s o) := by
  by_cases hN : (s.1.getD o.toNat none).isNone = true
  · have e : bStep d s o = (s.1.set o.toNat (some d), s.2 ++ [o]) := by unfold bStep; rw [if_pos hN]
    rw [e]
    have hno : o ∉ s.2 := fun z => by
      have := (h.iff o h0 h1).mp z
      revert this hN
      cases s.1.getD o.toNat none <;> simp
    refine ⟨(List.length_set ..).trans h.len, fun x hx => ?_, ?_, fun x x0 x1 => ?_⟩
    · rcases List.mem_append.mp hx with z | z
      · exact h.rng x z
      · have : x = o := by simpa using z
        rw [this]; exact ⟨h0, h1⟩
    · refine List.nodup_append.mpr ⟨h.nd, by simp, fun a ha b hb => ?_⟩
      have : b = o := by simpa using hb
      rw [this]
      exact fun z => hno (z ▸ ha)
    · dsimp only
      have hl := h.len
      by_cases z : x = o
      · subst z
        rw [List.getD_eq_getElem?_getD, List.getElem?_set_self (by omega)]
        simp
      · rw [List.getD_eq_getElem?_getD, List.getElem?_set_ne (by omega), ← List.getD_eq_getElem?_getD, ← h.iff x x0 x1]
        simp [z]
  · have e : bStep d s o = s := by unfold bStep; rw [if_neg hN]
    rw [e]; exact h
theorem bRow_q {n : Nat} {d : Int} : ∀ {row : List Int} {s : List (Option Int) × List Int}, InR n row → QOk n s → QOk n (bRow d row s)
  | [], _, _, h => h
  | o :: row, s, hr, h => bRow_q (row := row) (fun x hx => hr x (List.mem_cons_of_mem _ hx)) (bStep_q h (hr o (List.mem_cons_self ..)).1 (hr o (List.mem_cons_self ..)).2)
theorem qAt_q {nb : List (List Int)} {n a : Nat} (hnb : ∀ i, i < n → InR n (nb.getD i [])) {s : List (Option Int) × List Int} (h : QOk n s) : QOk n (qAt nb a s) := by
  unfold qAt
  split
  · rename_i ha
    refine bRow_q (hnb _ ?_) h
    rw [List.getD_eq_getElem?_getD, List.getElem?_eq_getElem ha]
    have := h.rng _ (List.getElem_mem ha)
    show (s.2[a]).toNat < n
    omega
  · exact h
theorem q_start {n v : Nat} (hv : v < n) : QOk n ((List.replicate n (none : Option Int)).set v (some 0), [(v : Int)]) := by
  refine ⟨by simp, fun o ho => ?_, by simp, fun x x0 x1 => ?_⟩
  · have : o = (v : Int) := by simpa using ho
    omega
  · dsimp only
    by_cases z : x = (v : Int)
    · subst z
      rw [Int.toNat_natCast, List.getD_eq_getElem?_getD, List.getElem?_set_self (by simp; exact hv)]; simp
    · rw [List.getD_eq_getElem?_getD, List.getElem?_set_ne (by omega), List.getElem?_replicate]
      simp [z]
      split <;> simp
end Bfs

namespace Ab
open PySem PySem.Spec PyProof.Rows L2 Bfs
/-! ### networks as facts -/
theorem nodup_le : ∀ (n : Nat) {l : List Int}, l.Nodup → (∀ x ∈ l, 0 ≤ x ∧ x < (n : Int)) → l.length ≤ n
  | 0, l, _, h => by
    cases l with
    | nil => exact Nat.le_refl _
    | cons a l => have := h a (List.mem_cons_self ..); omega
  | n + 1, l, hd, h => by
    have h2 := nodup_le n (l := l.erase (n : Int)) (hd.erase _) fun x hx => by
      have a := (List.Nodup.mem_erase_iff hd).mp hx
      have b := h x a.2
      have := a.1
      omega
    by_cases hm : (n : Int) ∈ l
    · rw [List.length_erase_of_mem hm] at h2; omega
    · rw [List.erase_of_not_mem hm] at h2; omega
structure NetP (ns : List Int) (nb : List (List Int)) : Prop where
  ne : ns ≠ []
  pos : ∀ x ∈ ns, 0 ≤ x
  nd : ns.Nodup
  len : nb.length = ns.length
  rows : ∀ i, i < nb.length → InR nb.length (nb.getD i [])
  rnd : ∀ i, i < nb.length → (nb.getD i []).Nodup
  self : ∀ i, i < nb.length → (i : Int) ∉ nb.getD i []
  back : ∀ i, i < nb.length → ∀ o ∈ nb.getD i [], (i : Int) ∈ nb.getD o.toNat []
theorem NetP.of {ns : List Int} {nb : List (List Int)} (h : okNet ns nb = true) : NetP ns nb := by
  unfold okNet at h
  rw [Bool.and_eq_true, Bool.and_eq_true, Bool.and_eq_true] at h
  obtain ⟨h1, h2, h3, h4⟩ := h
  have h2 := of_decide_eq_true h2
  unfold okNames at h1
  rw [Bool.and_eq_true, Bool.and_eq_true] at h1
  obtain ⟨a1, a2, a3⟩ := h1
  have hr : ∀ i, i < nb.length → (∀ o ∈ nb.getD i [], (0 ≤ o ∧ o < (nb.length : Int)) ∧ o ≠ (i : Int)) ∧ (nb.getD i []).Nodup := fun i hi => by
    have := List.all_eq_true.mp h3 i (List.mem_range.mpr hi)
    unfold okRow at this
    rw [Bool.and_eq_true] at this
    refine ⟨fun o ho => ?_, ndb_iff.mp this.2⟩
    have := List.all_eq_true.mp this.1 o ho
    simp at this
    omega
  refine ⟨fun z => by (rw [z] at a1; cases a1), fun x hx => ?_, ndb_iff.mp a3, h2, fun i hi o ho => ((hr i hi).1 o ho).1, fun i hi => (hr i hi).2, fun i hi z => ((hr i hi).1 _ z).2 rfl, fun i hi o ho => ?_⟩
  · have := List.all_eq_true.mp a2 x hx
    simpa using this
  · unfold okBack at h4
    have := List.all_eq_true.mp h4 i (List.mem_range.mpr hi)
    have := List.all_eq_true.mp this o ho
    simpa using this
theorem NetP.row_le {ns : List Int} {nb : List (List Int)} (h : NetP ns nb) (i : Nat) : (nb.getD i []).length ≤ nb.length := by
  by_cases hi : i < nb.length
  · exact nodup_le _ (h.rnd i hi) (h.rows i hi)
  · rw [List.getD_eq_getElem?_getD, List.getElem?_eq_none (by omega)]
    exact Nat.zero_le _
theorem netF_len {number most : Int} (h0 : 0 ≤ number) (h1 : 3 ≤ most) : (((netF number most).1.length : Nat) : Int) ≤ most ∧ 1 ≤ (netF number most).1.length := by
  unfold netF
  split
  · unfold netS
    dsimp only
    rw [shNames_len]
    have hc0 : 0 ≤ number / 3 / 4 % (most - 2) := Int.emod_nonneg _ (by omega)
    have hc1 : number / 3 / 4 % (most - 2) < most - 2 := Int.emod_lt_of_pos _ (by omega)
    omega
  · unfold netD
    dsimp only
    rw [nSteps_len]
    have hc0 : 0 ≤ number / 3 % most := Int.emod_nonneg _ (by omega)
    have hc1 : number / 3 % most < most := Int.emod_lt_of_pos _ (by omega)
    omega
/-! ### dicts made from a line of keys -/
def mapK (f : Int → AbsV) (l : List Int) : List (Key × AbsV) := l.map fun o => ((Sum.inl o : Key), f o)
theorem look_map_in {f : Int → AbsV} {o : Int} : ∀ {l : List Int}, o ∈ l → lookA (mapK f l) (Sum.inl o) = some (f o)
  | a :: l, h => by
    unfold lookA mapK
    rw [List.map_cons, List.find?_cons]
    dsimp only
    by_cases z : a = o
    · subst z
      rw [decide_eq_true rfl]; rfl
    · rw [decide_eq_false (fun e => z (Sum.inl.inj e))]
      rcases List.mem_cons.mp h with y | y
      · exact absurd y.symm z
      · exact look_map_in y
theorem look_map_out {f : Int → AbsV} {o : Int} : ∀ {l : List Int}, o ∉ l → lookA (mapK f l) (Sum.inl o) = none
  | [], _ => rfl
  | a :: l, h => by
    unfold lookA mapK
    rw [List.map_cons, List.find?_cons]
    dsimp only
    rw [decide_eq_false (fun e => h (by rw [← Sum.inl.inj e]; exact List.mem_cons_self ..))]
    exact look_map_out fun z => h (List.mem_cons_of_mem _ z)
theorem put_map_new {f : Int → AbsV} {l : List Int} {o : Int} {r : AbsV} (h : o ∉ l) : putA (mapK f l) (Sum.inl o) r = mapK f l ++ [(Sum.inl o, r)] := by
  unfold putA
  have : ((mapK f l).any fun kv => decide (kv.1 = Sum.inl o)) = false := by
    rw [List.any_eq_false]
    rintro ⟨k, v⟩ hk
    obtain ⟨a, ha, e⟩ := List.mem_map.mp hk
    cases e
    simp
    exact fun z => h (z ▸ ha)
  rw [if_neg (by rw [this]; decide)]
/-! ### the queue as a dict -/
def valQ (F : List (Option Int)) (o : Int) : Int := (F.getD o.toNat none).getD 0
def dcQ (s : List (Option Int) × List Int) : List (Key × AbsV) := mapK (fun o => nI (valQ s.1 o)) s.2
def bStart (n v : Nat) : List (Option Int) × List Int := ((List.replicate n (none : Option Int)).set v (some 0), [((v : Nat) : Int)])
theorem dcQ_len (s : List (Option Int) × List Int) : (dcQ s).length = s.2.length := List.length_map ..
theorem dcQ_put {n : Nat} {s : List (Option Int) × List Int} {o d : Int} (h : QOk n s) (h0 : 0 ≤ o) (h1 : o < (n : Int)) (hN : o ∉ s.2) : putA (dcQ s) (Sum.inl o) (nI d) = dcQ (s.1.set o.toNat (some d), s.2 ++ [o]) := by
  unfold dcQ
  rw [put_map_new hN]
  unfold mapK
  dsimp only
  rw [List.map_append, List.map_singleton]
  have hl := h.len
  have e1 : valQ (s.1.set o.toNat (some d)) o = d := by
    unfold valQ
    rw [List.getD_eq_getElem?_getD, List.getElem?_set_self (by omega)]; rfl
  rw [e1]
  refine congrArg (· ++ [((Sum.inl o : Key), nI d)]) (List.map_congr_left fun x hx => ?_)
  have hx0 := h.rng x hx
  have hne : x ≠ o := fun z => hN (z ▸ hx)
  unfold valQ
  rw [List.getD_eq_getElem?_getD, List.getD_eq_getElem?_getD, List.getElem?_set_ne (by omega)]
theorem step_in {d o : Int} {n : Nat} {s : List (Option Int) × List Int} (h : QOk n s) (h0 : 0 ≤ o) (h1 : o < (n : Int)) (hN : o ∈ s.2) : bStep d s o = s := by
  have := (h.iff o h0 h1).mp hN
  unfold bStep
  rw [if_neg]
  revert this
  cases s.1.getD o.toNat none <;> simp
theorem step_out {d o : Int} {n : Nat} {s : List (Option Int) × List Int} (h : QOk n s) (h0 : 0 ≤ o) (h1 : o < (n : Int)) (hN : o ∉ s.2) : bStep d s o = (s.1.set o.toNat (some d), s.2 ++ [o]) := by
  have : ¬ (s.1.getD o.toNat none).isSome = true := fun z => hN ((h.iff o h0 h1).mpr z)
  unfold bStep
  rw [if_pos]
  revert this
  cases s.1.getD o.toNat none <;> simp
theorem row_take {d : Int} {row : List Int} {j : Nat} {o : Int} {s : List (Option Int) × List Int} (h : row[j]? = some o) : bRow d (row.take (j + 1)) s = bStep d (bRow d (row.take j) s) o := by
  unfold bRow
  rw [List.take_add_one, h, List.foldl_append]; rfl
theorem layer_take {nb : List (List Int)} {d : Int} {e : List Int} {j : Nat} {o : Int} {s : List (Option Int) × List Int} (h : e[j]? = some o) : bLayer nb d (e.take (j + 1)) s = bRow d (nb.getD o.toNat []) (bLayer nb d (e.take j) s) := by
  unfold bLayer
  rw [List.take_add_one, h, List.foldl_append]; rfl
/-- the line of the queue keeps within the nodes -/
theorem start_ok2 {n v : Nat} (hv : v < n) : BOk n (bStart n v) n := by
  have hs : (List.replicate n (none : Option Int)).length = n := List.length_replicate ..
  have := nones_set (F := List.replicate n none) (c := v) (d := 0) (by omega) (by
    rw [List.getD_eq_getElem?_getD, List.getElem?_replicate]
    split <;> rfl)
  refine ⟨by unfold bStart; simp, fun o ho => ?_, ?_⟩
  · have : o = (v : Int) := by simpa [bStart] using ho
    omega
  · have e : nones (List.replicate n (none : Option Int)) = n := by
      unfold nones
      rw [List.filter_replicate]
      simp
    unfold bStart
    dsimp only [List.length_singleton]
    omega
theorem qAt_ok {nb : List (List Int)} {n t a : Nat} (hnb : ∀ i, i < n → InR n (nb.getD i [])) {s : List (Option Int) × List Int} (h : BOk n s t) : BOk n (qAt nb a s) t := by
  unfold qAt
  split
  · rename_i ha
    refine bRow_ok (hnb _ ?_) h
    rw [List.getD_eq_getElem?_getD, List.getElem?_eq_getElem ha]
    have := h.rng _ (List.getElem_mem ha)
    show (s.2[a]).toNat < n
    omega
  · exact h
theorem qRun_ok {nb : List (List Int)} {n t : Nat} (hnb : ∀ i, i < n → InR n (nb.getD i [])) : ∀ {k a : Nat} {s : List (Option Int) × List Int}, QOk n s → BOk n s t → QOk n (qRun nb k a s) ∧ BOk n (qRun nb k a s) t
  | 0, _, _, h, g => ⟨h, g⟩
  | k + 1, a, s, h, g => qRun_ok hnb (k := k) (qAt_q hnb h) (qAt_ok hnb g)
/-- the distances from a node, as the queue finds them -/
def farF (nb : List (List Int)) (v : Nat) : List (Option Int) × List Int := qRun nb nb.length 0 (bStart nb.length v)
theorem far_run {nb : List (List Int)} {v : Nat} (hnb : ∀ i, i < nb.length → InR nb.length (nb.getD i [])) (hv : v < nb.length) : bRun nb (nb.length + 1) 0 ((List.replicate nb.length none).set v (some 0)) [((v : Nat) : Int)] = (farF nb v).1 := by
  have b := start_ok2 hv
  have c := b.cnt
  unfold bStart at c
  dsimp only [List.length_singleton] at c
  refine bRun_q hnb (P := []) (k := nb.length) (by simp) (fun o ho => ?_) (fun x hx => ?_) (.inr (by omega)) (by rw [List.length_singleton]; omega)
  · have : o = (v : Int) := by simpa using ho
    omega
  · have : x = (v : Int) := by simpa using hx
    rw [this, Int.toNat_natCast, List.getD_eq_getElem?_getD, List.getElem?_set_self (by simp; exact hv)]; rfl
theorem far_ok {nb : List (List Int)} {v : Nat} (hnb : ∀ i, i < nb.length → InR nb.length (nb.getD i [])) (hv : v < nb.length) (k : Nat) : QOk nb.length (qRun nb k 0 (bStart nb.length v)) ∧ BOk nb.length (qRun nb k 0 (bStart nb.length v)) nb.length := qRun_ok hnb (q_start hv) (start_ok2 hv)
abbrev oA : Option Int → AbsV
  | none => nN
  | some d => nI d
theorem far_list {n : Nat} {s : List (Option Int) × List Int} (h : QOk n s) : (List.range n).map (fun o => (lookA (dcQ s) (Sum.inl ((o : Nat) : Int))).getD nN) = s.1.map oA := by
  have hl := h.len
  apply List.ext_getElem
  · rw [List.length_map, List.length_map, List.length_range, hl]
  · intro i h1 h2
    rw [List.length_map, List.length_range] at h1
    rw [List.getElem_map, List.getElem_map, List.getElem_range]
    have e : s.1[i]'(by omega) = s.1.getD i none := by
      rw [List.getD_eq_getElem?_getD, List.getElem?_eq_getElem (by omega)]; rfl
    have hi := h.iff (i : Int) (by omega) (by omega)
    rw [Int.toNat_natCast] at hi
    rw [e]
    by_cases z : ((i : Nat) : Int) ∈ s.2
    · have hs := hi.mp z
      have : lookA (dcQ s) (Sum.inl ((i : Nat) : Int)) = some (nI (valQ s.1 (i : Int))) := look_map_in z
      rw [this]
      unfold valQ
      rw [Int.toNat_natCast]
      cases ez : s.1.getD i none with
      | none => rw [ez] at hs; cases hs
      | some d => rfl
    · have : lookA (dcQ s) (Sum.inl ((i : Nat) : Int)) = none := look_map_out z
      rw [this]
      cases ez : s.1.getD i none with
      | none => rfl
      | some d => exact absurd (hi.mpr (by rw [ez]; rfl)) z
def oD : Option Int → PyData
  | none => .none
  | some d => .int d
theorem like_far (F : List (Option Int)) : lsA (F.map oA) = dat (.list (F.map oD)) := by
  show _ = lsA (dats _)
  rw [dats_map, List.map_map]
  refine congrArg lsA (List.map_congr_left fun o _ => ?_)
  cases o <;> rfl
theorem fit_far {F : List (Option Int)} (h : F.length ≤ 1000) {n : Nat} : Fit (n + 2) (.list (F.map oD)) := .inr ⟨_, .inl rfl, by rw [List.length_map]; exact h, fun x hx => by
  obtain ⟨z, _, rfl⟩ := List.mem_map.mp hx
  cases z <;> exact .inl trivial⟩
end Ab
set_option maxHeartbeats 4000000
namespace k02x
open PySem PySem.Spec PyProof.Rows L2 Ab

local macro_rules | `(tactic| walk_at "sc") => `(tactic| first
  | assumption
  | omega
  | decide
  | (refine Or.inl ?_; omega)
  | (refine Or.inr ?_; omega)
  | (refine ⟨?_, ?_⟩ <;> omega)
  | (refine ⟨?_, ?_, ?_⟩ <;> omega))
local macro_rules | `(tactic| walk_at "evl") => `(tactic| first
  | exact evl_own rfl
  | exact evl_red rfl
  | exact evl_var rfl
  | ((with_reducible refine' EVF.evl ?h0); (case h0 => walk_at "evf"))
  | ((with_reducible refine' EV.evl ?h0); (case h0 => walk_at "ev")))
local macro_rules | `(tactic| walk_at "eav") => `(tactic| first
  | exact eav_nil
  | ((with_reducible refine' eav_cons ?h0 ?h1); (case h0 => walk_at "ev"); (case h1 => walk_at "eav")))
local macro_rules | `(tactic| walk_at "evf") => `(tactic| first
  | ((with_reducible refine' evf_lst ?h0 ?h1); (case h0 => walk_at "eav"); (case h1 => (first | decide | (simp; done) | omega)))
  | ((with_reducible refine' evf_list ?h0); (case h0 => walk_at "evl")))
local macro_rules | `(tactic| walk_at "ea") => `(tactic| first
  | exact ea_nil
  | ((with_reducible refine' ea_scr ?h0 ?h1); (case h0 => rfl); (case h1 => walk_at "ea"))
  | ((with_reducible refine' ea_val ?h0 ?h1); (case h0 => walk_at "ev"); (case h1 => walk_at "ea"))
  | ((with_reducible refine' ea_red ?h0 ?h1); (case h0 => walk_at "evl"); (case h1 => walk_at "ea")))
local macro_rules | `(tactic| walk_at "ev") => `(tactic| first
  | exact ev_var rfl
  | exact ev_int
  | exact ev_bl
  | exact ev_str
  | exact ev_non
  | ((with_reducible refine' ev_I0 ?h0 ?h1); (case h0 => walk_at "ev"); (case h1 => walk_at "ev"))
  | ((with_reducible refine' ev_I ?h0 ?h1 ?h2); (case h0 => walk_at "ev"); (case h1 => walk_at "ev"); (case h2 => walk_at "sc"))
  | ((with_reducible refine' ev_U ?h0); (case h0 => walk_at "ev"))
  | ((with_reducible refine' ev_eqI ?h0 ?h1); (case h0 => walk_at "ev"); (case h1 => walk_at "ev"))
  | ((with_reducible refine' ev_neI ?h0 ?h1); (case h0 => walk_at "ev"); (case h1 => walk_at "ev"))
  | ((with_reducible refine' ev_chI ?h0 ?h1 ?h2); (case h0 => walk_at "ev"); (case h1 => walk_at "ev"); (case h2 => walk_at "ev"))
  | ((with_reducible refine' ev_abs ?h0); (case h0 => walk_at "ev"))
  | ((with_reducible refine' ev_max2 ?h0 ?h1); (case h0 => walk_at "ev"); (case h1 => walk_at "ev"))
  | ((with_reducible refine' ev_min2 ?h0 ?h1); (case h0 => walk_at "ev"); (case h1 => walk_at "ev"))
  | ((with_reducible refine' ev_int1 ?h0); (case h0 => walk_at "ev"))
  | ((with_reducible refine' ev_intB ?h0); (case h0 => walk_at "ev"))
  | exact ev_lenS rfl
  | ((with_reducible refine' ev_len ?h0); (case h0 => walk_at "evl"))
  | ((with_reducible refine' ev_lenT ?h0); (case h0 => walk_at "ev"))
  | ((with_reducible refine' ev_bits ?h0); (case h0 => walk_at "ev"))
  | ((with_reducible refine' ev_notV ?h0); (case h0 => walk_at "ev"))
  | ((with_reducible refine' ev_tup ?h0 ?h1); (case h0 => walk_at "eav"); (case h1 => (first | decide | (simp; done) | omega)))
  | walk_at "evc"
  | ((with_reducible show EV _ _ (tLst _) _); refine' EVF.ev ?h0; (case h0 => walk_at "evf")))
local macro_rules | `(tactic| walk_at "et") => `(tactic| first
  | ((with_reducible refine' et_test ?h0); (case h0 => walk_at "ev"))
  | ((with_reducible refine' et_B ?h0); (case h0 => walk_at "ev"))
  | ((with_reducible refine' et_not ?h0); (case h0 => walk_at "et"))
  | ((with_reducible refine' et_and ?h0 ?h1); (case h0 => walk_at "et"); (case h1 => (intro _; walk_at "et")))
  | ((with_reducible refine' et_or ?h0 ?h1); (case h0 => walk_at "et"); (case h1 => (intro _; walk_at "et"))))
local macro_rules | `(tactic| walk_at "nx") => `(tactic| (first | (with_reducible show ES _ _ _ _) | skip); try (dsimp only [List.set_cons_zero, List.set_cons_succ, List.length_cons, List.length_nil, List.replicate, List.cons_append, List.nil_append]))
local macro_rules | `(tactic| walk_at "set") => `(tactic| (first
  | ((with_reducible show ES _ _ (tSeq (tAsg _ _) _) _); first | refine es_seq (es_asgF (by walk_at "evf") ?_) | refine es_seq (es_asg (by walk_at "ev") ?_))
  | ((with_reducible show ES _ _ (tAsg _ _) _); first | refine es_asgF (by walk_at "evf") ?_ | refine es_asg (by walk_at "ev") ?_)
  | ((with_reducible show ES _ _ (tSeq (tAug _ _ _) _) _); refine es_seq (es_aug rfl (by walk_at "ev") ?_))
  | ((with_reducible show ES _ _ (tAug _ _ _) _); refine es_aug rfl (by walk_at "ev") ?_)); walk_at "nx")
local macro_rules | `(tactic| walk_at "if") => `(tactic| (first
  | ((with_reducible show ES _ _ (tSeq _ _) _); refine es_seq (es_if (by walk_at "et") ?_ ?_))
  | refine es_if (by walk_at "et") ?_ ?_))
local macro_rules | `(tactic| walk_at "nest") => `(tactic| (dsimp only [Cx.blk, Cx.nox, Cx.wish, cxOf, compEnvC]; exact blkOk_by (by first | decide +kernel | rfl)))

def topS (i : Nat) : Stmt := PySem.Challenge.pw_nearby_k02_distances_and_bounds.main.body.getD i (.Pass ⟨0, 0, 0, 0⟩)

structure Bl (mg : Str → Option Value) : Prop where
  abs : mg "abs" = none
  all : mg "all" = none
  bool : mg "bool" = none
  enumerate : mg "enumerate" = none
  int : mg "int" = none
  isinstance : mg "isinstance" = none
  len : mg "len" = none
  list : mg "list" = none
  max : mg "max" = none
  min : mg "min" = none
  range : mg "range" = none
  set : mg "set" = none
  str : mg "str" = none
  tuple : mg "tuple" = none

structure Cs where
  InvalidNetwork : Addr
  Network : Addr
structure Tx (K : PySem.W.Frag) (mg : Str → Option Value) (c : Cs) : Prop where
  x_InvalidNetwork : ExcC K mg "InvalidNetwork" c.InvalidNetwork
  cl_Network : Cls K c.Network
  n_Network__names : NoAttr K c.Network "_names"
  n_Network__neighbors : NoAttr K c.Network "_neighbors"
  n_Network__ports : NoAttr K c.Network "_ports"

open Bfs

section
variable {P : Program} {w : World} {K : PySem.W.Frag} {mg : Str → Option Value} {base : Heap}

abbrev s__check_names : Stmt := topS 6
abbrev n__check_names : List Str := ["names"]
theorem sc__check_names : FnScope n__check_names ["names"] (defScope s__check_names) := ⟨rfl, rfl, rfl, by decide +kernel, rfl, by decide +kernel, by decide +kernel⟩

abbrev sp__check_names (K : PySem.W.Frag) (c : Cs) : Sp := spE K (X := List Int) (fun ns => [.val (lsA (ns.map nI))]) (fun ns => ns.length ≤ 4000) (fun ns => if okNames ns = true then .inl (.val nN) else .inr c.InvalidNetwork)

theorem ok__check_names {c : Cs} (T : Tx K mg c) (M : Bl mg)  (d : DefAt K mg "_check_names" s__check_names ["names"]) : CalX P w K mg base 1 "_check_names" (sp__check_names K c) := by
  refine calX d sc__check_names (fun _ => rfl) fun f cdv A outer s H E hr => ⟨_, (pss_cons (ps_if (pt_not (pt_truth (pv 0) (by intro _; rfl))) (pss_one (ps_raise rfl (takes_of rfl rfl rfl rfl) (pmk_own PySem.F.excBase_ValueError T.x_InvalidNetwork.x T.x_InvalidNetwork.g T.x_InvalidNetwork.k (raises_own T.x_InvalidNetwork.b T.x_InvalidNetwork.t) (by rfl)))) pss_nil)
      (pss_cons (ps_if (pt_cmpR op_lt (pe_callB (minK K rfl) (by rfl) M.min bt_min (pa_cons (pv 0) pa_nil)) pe_int (nomark _)) (pss_one (ps_raise rfl (takes_of rfl rfl rfl rfl) (pmk_own PySem.F.excBase_ValueError T.x_InvalidNetwork.x T.x_InvalidNetwork.g T.x_InvalidNetwork.k (raises_own T.x_InvalidNetwork.b T.x_InvalidNetwork.t) (by rfl)))) pss_nil)
      (pss_one (ps_if (pt_cmpR op_ne (lenSetGK K (by rfl) M.len (by rfl) M.set (pv 0)) (pe_callB (len_seqK K) (by rfl) M.len bt_len (pa_cons (pv 0) pa_nil)) (nomark _)) (pss_one (ps_raise rfl (takes_of rfl rfl rfl rfl) (pmk_own PySem.F.excBase_ValueError T.x_InvalidNetwork.x T.x_InvalidNetwork.g T.x_InvalidNetwork.k (raises_own T.x_InvalidNetwork.b T.x_InvalidNetwork.t) (by rfl)))) pss_nil)))), ?_⟩
  try dsimp only [cxOf, Cx.nox, Cx.wish, Cx.blk]

  intro ns hn
  show ES K [.val (lsA (ns.map nI))] _ _
  refine es_seq (es_if (et_not (et_truthL (l := ns.map nI) (by walk_at "evl") _ (fun _ _ _ h => h))) (fun h => ?_) (fun h => ?_))
  · refine es_raise rfl (out_bad ?_)
    rw [emp_map] at h
    unfold okNames
    revert h
    cases ns.isEmpty <;> simp
  refine es_next ?_
  walk_at "nx"
  rw [emp_map] at h
  have hne : ns ≠ [] := fun z => by rw [z] at h; cases h
  have he : ns.isEmpty = false := by revert h; cases ns.isEmpty <;> simp
  obtain ⟨m, hm, hl⟩ := exists_min hne
  refine es_seq (es_if (et_test (ev_I0 (ev_minL (ns := ns) (by walk_at "evl") hm hl) (by walk_at "ev"))) (fun h2 => ?_) (fun h2 => ?_))
  · refine es_raise rfl (out_bad ?_)
    have h3 : m < 0 := of_decide_eq_true h2
    have : ns.all (fun x => decide (0 ≤ x)) = false := by
      rw [List.all_eq_false]
      exact ⟨m, hm, by simp; omega⟩
    unfold okNames
    rw [this]; simp
  refine es_next ?_
  walk_at "nx"
  have h3 : ns.all (fun x => decide (0 ≤ x)) = true := by
    have h3 : ¬ m < 0 := of_decide_eq_false h2
    rw [List.all_eq_true]
    intro x hx
    have := hl x hx
    exact decide_eq_true (by omega)
  refine es_if (et_test (ev_neI (ev_lenSetG (ns := ns) (by walk_at "evl") hn) (by walk_at "ev"))) (fun h4 => ?_) (fun h4 => ?_)
  · refine es_raise rfl (out_bad ?_)
    have : ndb ns = false := by
      unfold ndb
      have h5 : ¬ ((dd ns : Nat) : Int) = ((ns.map nI).length : Nat) := by simpa using h4
      rw [List.length_map] at h5
      exact decide_eq_false (by omega)
    unfold okNames
    rw [this]; simp
  · refine es_next (out_ok ?_)
    have : ndb ns = true := by
      unfold ndb
      have h5 : ((dd ns : Nat) : Int) = ((ns.map nI).length : Nat) := by simpa using h4
      rw [List.length_map] at h5
      exact decide_eq_true (by omega)
    unfold okNames
    rw [he, h3, this]; rfl
end

section
variable {P : Program} {w : World} {K : PySem.W.Frag} {mg : Str → Option Value} {base : Heap}

abbrev s__check_row : Stmt := topS 7
abbrev n__check_row : List Str := ["node", "row", "size", "other"]
theorem sc__check_row : FnScope n__check_row ["node", "row", "size"] (defScope s__check_row) := ⟨rfl, rfl, rfl, by decide +kernel, rfl, by decide +kernel, by decide +kernel⟩

abbrev sp__check_row (K : PySem.W.Frag) (c : Cs) : Sp := spE K (X := Int × List Int × Int) (fun x => [.val (nI x.1), .val (lsA (x.2.1.map nI)), .val (nI x.2.2)]) (fun x => x.2.1.length ≤ 4000) (fun x => if okRow x.1 x.2.1 x.2.2 = true then .inl (.val nN) else .inr c.InvalidNetwork)

theorem ok__check_row {c : Cs} (T : Tx K mg c) (M : Bl mg)  (d : DefAt K mg "_check_row" s__check_row ["node", "row", "size"]) : CalX P w K mg base 1 "_check_row" (sp__check_row K c) := by
  refine calX d sc__check_row (fun _ => rfl) fun f cdv A outer s H E hr => ⟨_, (pss_cons (ps_for (passes_of rfl) rfl (pi_listK K (pv 1)) (pg_name (i := 3) sc__check_row.nd rfl (Or.inl rfl)) (pss_cons (ps_if (pt_not (pt_chain op_le op_lt pe_int (pv 3) (pv 2))) (pss_one (ps_raise rfl (takes_of rfl rfl rfl rfl) (pmk_own PySem.F.excBase_ValueError T.x_InvalidNetwork.x T.x_InvalidNetwork.g T.x_InvalidNetwork.k (raises_own T.x_InvalidNetwork.b T.x_InvalidNetwork.t) (by rfl)))) pss_nil)
      (pss_one (ps_if (pt_cmpR op_eq (pv 3) (pv 0) (nomark _)) (pss_one (ps_raise rfl (takes_of rfl rfl rfl rfl) (pmk_own PySem.F.excBase_ValueError T.x_InvalidNetwork.x T.x_InvalidNetwork.g T.x_InvalidNetwork.k (raises_own T.x_InvalidNetwork.b T.x_InvalidNetwork.t) (by rfl)))) pss_nil))))
      (pss_one (ps_if (pt_cmpR op_ne (lenSetGK K (by rfl) M.len (by rfl) M.set (pv 1)) (pe_callB (len_seqK K) (by rfl) M.len bt_len (pa_cons (pv 1) pa_nil)) (nomark _)) (pss_one (ps_raise rfl (takes_of rfl rfl rfl rfl) (pmk_own PySem.F.excBase_ValueError T.x_InvalidNetwork.x T.x_InvalidNetwork.g T.x_InvalidNetwork.k (raises_own T.x_InvalidNetwork.b T.x_InvalidNetwork.t) (by rfl)))) pss_nil))), ?_⟩
  try dsimp only [cxOf, Cx.nox, Cx.wish, Cx.blk]

  rintro ⟨n, row, size⟩ hn
  dsimp only at hn
  show ES K [.val (nI n), .val (lsA (row.map nI)), .val (nI size), .un] _ _
  refine es_seq (es_forL (l := row.map nI) (fun i E => (∃ s, E = [.val (nI n), .val (lsA (row.map nI)), .val (nI size), s]) ∧ ∀ o ∈ row.take i, 0 ≤ o ∧ o < size ∧ o ≠ n) (ev_var rfl).evs ⟨⟨_, rfl⟩, by simp⟩ ?_ ?_)
  · rintro i r _ hi ⟨⟨s, rfl⟩, hall⟩
    obtain ⟨o, ho, rfl⟩ : ∃ o, row[i]? = some o ∧ nI o = r := by
      rw [List.getElem?_map] at hi
      cases e : row[i]? with
      | none => rw [e] at hi; cases hi
      | some o => rw [e] at hi; exact ⟨o, rfl, Option.some.inj hi⟩
    have hmem : o ∈ row := List.mem_of_getElem? ho
    have bad : ¬ (0 ≤ o ∧ o < size ∧ o ≠ n) → okRow n row size = false := fun hb => by
      unfold okRow
      have : row.all (fun o => decide (0 ≤ o) && decide (o < size) && !decide (o = n)) = false := by
        rw [List.all_eq_false]
        refine ⟨o, hmem, ?_⟩
        simp only [Bool.and_eq_true, decide_eq_true_eq, Bool.not_eq_true', decide_eq_false_iff_not]
        exact fun z => hb ⟨z.1.1, z.1.2, z.2⟩
      rw [this]; rfl
    refine ⟨_, gt_name, ?_⟩
    walk_at "nx"
    refine es_seq (es_if (et_not (et_test (by walk_at "ev"))) (fun h => ?_) (fun h => ?_))
    · refine es_raise rfl (out_bad (bad fun z => ?_))
      have z1 := z.1
      have z2 := z.2.1
      simp [z1, z2] at h
    refine es_next ?_
    walk_at "nx"
    refine es_if (by walk_at "et") (fun h2 => ?_) (fun h2 => ?_)
    · refine es_raise rfl (out_bad (bad fun z => z.2.2 (of_decide_eq_true h2)))
    refine es_next ⟨⟨_, rfl⟩, ?_⟩
    have h2' : ¬ o = n := of_decide_eq_false h2
    have h' : 0 ≤ o ∧ o < size := by simpa using h
    intro o' ho'
    rw [List.take_add_one, ho] at ho'
    rcases List.mem_append.mp ho' with z | z
    · exact hall o' z
    · have : o' = o := by simpa using z
      rw [this]; exact ⟨h'.1, h'.2, h2'⟩
  · rintro _ ⟨⟨s, rfl⟩, hall⟩
    rw [List.length_map, List.take_length] at hall
    have h3 : row.all (fun o => decide (0 ≤ o) && decide (o < size) && !decide (o = n)) = true := by
      rw [List.all_eq_true]
      intro x hx
      obtain ⟨a, b, d⟩ := hall x hx
      simp [a, b, d]
    show ES _ _ _ _
    refine es_if (et_test (ev_neI (ev_lenSetG (ns := row) (by walk_at "evl") hn) (by walk_at "ev"))) (fun h4 => ?_) (fun h4 => ?_)
    · refine es_raise rfl (out_bad ?_)
      have : ndb row = false := by
        unfold ndb
        have h5 : ¬ ((dd row : Nat) : Int) = ((row.map nI).length : Nat) := by simpa using h4
        rw [List.length_map] at h5
        exact decide_eq_false (by omega)
      unfold okRow
      rw [this]; simp
    · refine es_next (out_ok ?_)
      have : ndb row = true := by
        unfold ndb
        have h5 : ((dd row : Nat) : Int) = ((row.map nI).length : Nat) := by simpa using h4
        rw [List.length_map] at h5
        exact decide_eq_true (by omega)
      unfold okRow
      rw [h3, this]; rfl
end

section
variable {P : Program} {w : World} {K : PySem.W.Frag} {mg : Str → Option Value} {base : Heap}

abbrev s__ports_by_neighbor : Stmt := topS 8
abbrev n__ports_by_neighbor : List Str := ["row", "port", "other"]
theorem sc__ports_by_neighbor : FnScope n__ports_by_neighbor ["row"] (defScope s__ports_by_neighbor) := ⟨rfl, rfl, rfl, by decide +kernel, rfl, by decide +kernel, by decide +kernel⟩

abbrev sp__ports_by_neighbor (K : PySem.W.Frag) : Sp := spX K (X := List Int) (fun row => [.val (lsA (row.map nI))]) (fun row => row.Nodup ∧ row.length ≤ 4000) (fun row => .val (dcA (portsL row)))

theorem ok__ports_by_neighbor {c : Cs} (T : Tx K mg c) (M : Bl mg)  (d : DefAt K mg "_ports_by_neighbor" s__ports_by_neighbor ["row"]) : Cal P w K mg base 1 "_ports_by_neighbor" (sp__ports_by_neighbor K) := by
  refine calA d sc__ports_by_neighbor (fun _ => rfl) fun f cdv A outer s H E hr => ⟨_, (pss_one (ps_ret (pe_dc (own := [("port", 1), ("other", 2)]) rfl sc__ports_by_neighbor.nd (pi_enum (by rfl) M.enumerate (pa_cons (pv 0) pa_nil)) (blkOk_by (own := [("port", 1), ("other", 2)]) (N := n__ports_by_neighbor) (sc := defScope s__ports_by_neighbor) (by decide +kernel)) (fun _ _ _ _ _ => (pg_tupK K (n := 2) (by rfl) (pgs_cons (pg_name (i := 1) sc__ports_by_neighbor.nd rfl (Or.inl rfl)) (pgs_cons (pg_name (i := 2) sc__ports_by_neighbor.nd rfl (Or.inl rfl)) pgs_nil)))) (fun _ _ _ _ _ => pts_nil) (fun _ _ _ _ _ => (pv 2)) (fun _ _ _ _ _ => (pv 1))))), ?_⟩
  try dsimp only [cxOf, Cx.nox, Cx.wish, Cx.blk]

  rintro row ⟨hn, hl⟩
  show ES K [.val (lsA (row.map nI)), .un, .un] _ _
  have hg : ∀ {c : Nat} {r : AbsV}, (row.map nI)[c]? = some r → r = nI (row.getD c 0) := fun {c r} h => by
    rw [List.getElem?_map] at h
    cases e : row[c]? with
    | none => rw [e] at h; cases h
    | some o =>
      rw [e] at h
      rw [List.getD_eq_getElem?_getD, e]; exact (Option.some.inj h).symm
  have h := evd_dcE (K := K) (E := [.val (lsA (row.map nI)), .un, .un]) (i := 1) (j := 2) (by decide) (l := row.map nI) (ta := tVar 0) (tk := tVar 2) (tv := tVar 1) (ev_var rfl).evs (fun c => row.getD c 0) (fun c => nI (c : Nat)) (fun a b h1 h2 z => by
    rw [List.length_map] at h2
    have e1 : row[a]? = some (row.getD a 0) := by rw [List.getD_eq_getElem?_getD, List.getElem?_eq_getElem (by omega)]; rfl
    have e2 : row[b]? = some (row.getD b 0) := by rw [List.getD_eq_getElem?_getD, List.getElem?_eq_getElem h2]; rfl
    have z' : row.getD a 0 = row.getD b 0 := z
    rw [z'] at e1
    have := nd_ix hn e1 e2
    omega) (by rw [List.length_map]; omega) (fun c r hr => by rw [hg hr]; exact ev_var rfl) (fun c r hr => ev_var rfl)
  rw [List.length_map] at h
  exact es_ret h.ev rfl
end

section
variable {P : Program} {w : World} {K : PySem.W.Frag} {mg : Str → Option Value} {base : Heap}

abbrev s_Network__check_returns : Stmt := inClass (topS 5) 7
abbrev n_Network__check_returns : List Str := ["self", "node", "row", "other"]
theorem sc_Network__check_returns : FnScope n_Network__check_returns ["self"] (defScope s_Network__check_returns) := ⟨rfl, rfl, rfl, by decide +kernel, rfl, by decide +kernel, by decide +kernel⟩

abbrev sp_Network__check_returns (K : PySem.W.Frag) (c : Cs) : Sp := spE K (X := List Int × List (List Int)) (fun x => [.val (inA c.Network (nF x.1 x.2))]) (fun x => x.2.length ≤ 4000 ∧ ∀ i, i < x.2.length → (x.2.getD i []).Nodup ∧ (x.2.getD i []).length ≤ 4000 ∧ ∀ o ∈ x.2.getD i [], 0 ≤ o ∧ o < x.2.length) (fun x => if okBack x.2 = true then .inl (.val nN) else .inr c.InvalidNetwork)

theorem ok_Network__check_returns {c : Cs} (T : Tx K mg c) (M : Bl mg)  (d : MetAt K c.Network "_check_returns" "Network._check_returns" s_Network__check_returns ["self"]) : MetX P w K mg base 1 c.Network "_check_returns" (sp_Network__check_returns K c) := by
  refine metX d sc_Network__check_returns (fun _ => rfl) fun f cdv A outer s H E hr => ⟨_, (pss_one (ps_for (passes_of rfl) rfl (pi_enum (by rfl) M.enumerate (pa_cons (pe_fld (pv 0) rfl) pa_nil)) (pg_tupK K (n := 2) (by rfl) (pgs_cons (pg_name (i := 1) sc_Network__check_returns.nd rfl (Or.inl rfl)) (pgs_cons (pg_name (i := 2) sc_Network__check_returns.nd rfl (Or.inl rfl)) pgs_nil))) (pss_one (ps_for (passes_of rfl) rfl (pi_listK K (pv 2)) (pg_name (i := 3) sc_Network__check_returns.nd rfl (Or.inl rfl)) (pss_one (ps_if (pt_cmp (pc_dnotin (units1 hr) (pv 1) (pe_ix (ix_listK K) (pe_fld (pv 0) rfl) (pv 3) (fun _ _ => rfl)))) (pss_one (ps_raise rfl (takes_of rfl rfl rfl rfl) (pmk_own PySem.F.excBase_ValueError T.x_InvalidNetwork.x T.x_InvalidNetwork.g T.x_InvalidNetwork.k (raises_own T.x_InvalidNetwork.b T.x_InvalidNetwork.t) (by rfl)))) pss_nil)))))), ?_⟩
  try dsimp only [cxOf, Cx.nox, Cx.wish, Cx.blk]

  rintro ⟨ns, nb⟩ ⟨hn, hr⟩
  dsimp only at hn hr
  show ES K [.val (inA c.Network (nF ns nb)), .un, .un, .un] _ _
  refine es_forE (l := nb.map rowA) (fun i E => (∃ s s2 s3, E = [.val (inA c.Network (nF ns nb)), s, s2, s3]) ∧ ∀ j, j < i → ∀ o ∈ nb.getD j [], (j : Int) ∈ nb.getD o.toNat []) (ev_fld (ev_var rfl) T.cl_Network T.n_Network__neighbors rfl).evs ⟨⟨_, _, _, rfl⟩, fun j h => by omega⟩ ?_ ?_
  · rintro i r _ hi ⟨⟨s, s2, s3, rfl⟩, hall⟩
    obtain ⟨e1, rfl⟩ := map_row hi
    have hil : i < nb.length := (List.getElem?_eq_some_iff.mp e1).1
    obtain ⟨h1, h2, h3⟩ := hr i hil
    refine ⟨_, gt_tup (gts_cons gt_name (gts_cons gt_name gts_nil)), ?_⟩
    walk_at "nx"
    refine es_forL (l := (nb.getD i []).map nI) (fun k E => (∃ s, E = [.val (inA c.Network (nF ns nb)), .val (nI (i : Nat)), .val (rowA (nb.getD i [])), s]) ∧ ∀ o ∈ (nb.getD i []).take k, (i : Int) ∈ nb.getD o.toNat []) (ev_var rfl).evs ⟨⟨_, rfl⟩, by simp⟩ ?_ ?_
    · rintro k r _ hk ⟨⟨s, rfl⟩, hin⟩
      obtain ⟨o, ho, rfl⟩ := map_int hk
      have hmem : o ∈ nb.getD i [] := List.mem_of_getElem? ho
      obtain ⟨b1, b2⟩ := h3 o hmem
      refine ⟨_, gt_name, ?_⟩
      walk_at "nx"
      have hol : o.toNat < nb.length := by omega
      have hport : (nb.map fun r => dcA (portsL r))[o.toNat]? = some (dcA (portsL (nb.getD o.toNat []))) := by
        rw [List.getElem?_map, List.getD_eq_getElem?_getD, List.getElem?_eq_getElem hol]; rfl
      refine es_if (et_test (ev_dnotin (ev_var rfl) (ev_ixL (i := o.toNat) (ev_fld (ev_var rfl) T.cl_Network T.n_Network__ports rfl).evl (ev_var rfl) (by omega) hport).evd)) (fun h => ?_) (fun h => ?_)
      · refine es_raise rfl (out_bad ?_)
        have hno : (i : Int) ∉ nb.getD o.toNat [] := fun z => by
          obtain ⟨q, hq⟩ := List.getElem?_of_mem z
          rw [look_ports (hr _ hol).1 hq] at h
          cases h
        unfold okBack
        rw [List.all_eq_false]
        refine ⟨i, List.mem_range.mpr hil, ?_⟩
        rw [Bool.not_eq_true, List.all_eq_false]
        exact ⟨o, hmem, by simpa using hno⟩
      · refine es_next ⟨⟨_, rfl⟩, ?_⟩
        have hyes : (i : Int) ∈ nb.getD o.toNat [] := by
          by_cases z : (i : Int) ∈ nb.getD o.toNat []
          · exact z
          · rw [look_ports_none z] at h
            cases h
        intro o' ho'
        rw [List.take_add_one, ho] at ho'
        rcases List.mem_append.mp ho' with z | z
        · exact hin o' z
        · have : o' = o := by simpa using z
          rw [this]; exact hyes
    · rintro _ ⟨⟨s, rfl⟩, hin⟩
      rw [List.length_map, List.take_length] at hin
      refine ⟨⟨_, _, _, rfl⟩, fun j hj o ho => ?_⟩
      by_cases hj2 : j < i
      · exact hall j hj2 o ho
      · have e : j = i := by omega
        subst e
        exact hin o ho
  · rintro _ ⟨⟨s, s2, s3, rfl⟩, hall⟩
    rw [List.length_map] at hall
    refine out_ok ?_
    unfold okBack
    rw [List.all_eq_true]
    intro i hi
    rw [List.all_eq_true]
    intro o ho
    simpa using hall i (List.mem_range.mp hi) o ho
end

section
variable {P : Program} {w : World} {K : PySem.W.Frag} {mg : Str → Option Value} {base : Heap}

abbrev s_Network___init__ : Stmt := inClass (topS 5) 0
abbrev n_Network___init__ : List Str := ["self", "names", "neighbors", "node", "row"]
theorem sc_Network___init__ : FnScope n_Network___init__ ["self", "names", "neighbors"] (defScope s_Network___init__) := ⟨rfl, rfl, rfl, by decide +kernel, rfl, by decide +kernel, by decide +kernel⟩

abbrev sp_Network___init__ (K : PySem.W.Frag) (c : Cs) : Sp := spIE K c.Network (X := List Int × List (List Int)) (fun x => [.val (lsA (x.1.map nI)), .val (lsA (x.2.map rowA))]) (fun x => x.1.length ≤ 4000 ∧ x.2.length ≤ 4000 ∧ ∀ i, i < x.2.length → (x.2.getD i []).length ≤ 4000) (fun x => nF x.1 x.2) (fun x => if okNet x.1 x.2 = true then none else some c.InvalidNetwork)

theorem ok_Network___init__ {c : Cs} (T : Tx K mg c) (M : Bl mg) (m_Network__check_returns : MetX P w K mg base 1 c.Network "_check_returns" (sp_Network__check_returns K c)) (c_ports_by_neighbor : Cal P w K mg base 1 "_ports_by_neighbor" (sp__ports_by_neighbor K)) (c_check_row : CalX P w K mg base 1 "_check_row" (sp__check_row K c)) (c_check_names : CalX P w K mg base 1 "_check_names" (sp__check_names K c)) (d : MakAt K mg c.Network "Network" "Network.__init__" s_Network___init__ ["self", "names", "neighbors"]) : MakX P w K mg base 2 "Network" c.Network (sp_Network___init__ K c) := by
  refine makX d sc_Network___init__ (fun _ => rfl) fun f cdv A outer s H E hr => ⟨_, (pss_cons (ps_expr (pe_cx c_check_names hr (by decide) (by rfl) (passes_call (takes_of rfl rfl rfl rfl) (fun _ _ _ _ h => h)) (pa_cons (pv 1) pa_nil)))
      (pss_cons (ps_if (pt_cmpR op_ne (pe_callB (len_seqK K) (by rfl) M.len bt_len (pa_cons (pv 2) pa_nil)) (pe_callB (len_seqK K) (by rfl) M.len bt_len (pa_cons (pv 1) pa_nil)) (nomark _)) (pss_one (ps_raise rfl (takes_of rfl rfl rfl rfl) (pmk_own PySem.F.excBase_ValueError T.x_InvalidNetwork.x T.x_InvalidNetwork.g T.x_InvalidNetwork.k (raises_own T.x_InvalidNetwork.b T.x_InvalidNetwork.t) (by rfl)))) pss_nil)
      (pss_cons (ps_for (passes_of rfl) rfl (pi_enum (by rfl) M.enumerate (pa_cons (pv 2) pa_nil)) (pg_tupK K (n := 2) (by rfl) (pgs_cons (pg_name (i := 3) sc_Network___init__.nd rfl (Or.inl rfl)) (pgs_cons (pg_name (i := 4) sc_Network___init__.nd rfl (Or.inl rfl)) pgs_nil))) (pss_one (ps_expr (pe_cx c_check_row hr (by decide) (by rfl) (passes_call (takes_of rfl rfl rfl rfl) (fun _ _ _ _ h => h)) (pa_cons (pv 3) (pa_cons (pv 4) (pa_cons (pe_callB (len_seqK K) (by rfl) M.len bt_len (pa_cons (pv 1) pa_nil)) pa_nil)))))))
      (pss_cons (ps_fld (pv 0) (pe_callTy (list_ofK K) (by rfl) M.list bt_list (pa_cons (pv 1) pa_nil)) rfl)
      (pss_cons (ps_fld (pv 0) (pe_lc (own := [("row", 4)]) rfl sc_Network___init__.nd (pi_listK K (pv 2)) (blkOk_by (own := [("row", 4)]) (N := n_Network___init__) (sc := defScope s_Network___init__) (by decide +kernel)) (fun _ _ _ _ _ => (pg_name (i := 4) sc_Network___init__.nd rfl (Or.inl rfl))) (fun _ _ _ _ _ => pts_nil) (fun _ _ _ _ _ => (pe_callTy (list_ofK K) (by rfl) M.list bt_list (pa_cons (pv 4) pa_nil)))) rfl)
      (pss_cons (ps_fld (pv 0) (pe_lc (own := [("row", 4)]) rfl sc_Network___init__.nd (pi_listK K (pv 2)) (blkOk_by (own := [("row", 4)]) (N := n_Network___init__) (sc := defScope s_Network___init__) (by decide +kernel)) (fun _ _ _ _ _ => (pg_name (i := 4) sc_Network___init__.nd rfl (Or.inl rfl))) (fun _ _ _ _ _ => pts_nil) (fun _ _ _ _ _ => (pe_ca c_ports_by_neighbor hr (by decide) (by rfl) (pa_cons (pv 4) pa_nil)))) rfl)
      (pss_one (ps_expr (pe_mex0 m_Network__check_returns hr (by decide) (pv 0) (passes_call (takes_of rfl rfl rfl rfl) (fun _ _ _ _ h => h))))))))))), ?_⟩
  try dsimp only [cxOf, Cx.nox, Cx.wish, Cx.blk]

  rintro p ⟨ns, nb⟩ ⟨hn, hb, hr⟩
  dsimp only at hn hb hr
  have bad : okNet ns nb = false → (if okNet ns nb = true then none else some c.InvalidNetwork) = some c.InvalidNetwork := fun h => by rw [h]; rfl
  show ES K [.ins p c.Network [], .val (lsA (ns.map nI)), .val (lsA (nb.map rowA)), .un, .un] _ _
  refine es_seq (es_dropX (ex_call ns (by walk_at "ea") hn) rfl (fun r e => ?_) (fun C e => ?_))
  rotate_left
  · obtain ⟨e1, rfl⟩ := out_inr e
    exact bad (by unfold okNet; rw [e1]; rfl)
  have hok1 := out_inl e
  refine es_seq (es_if (by walk_at "et") (fun h => ?_) (fun h => ?_))
  · refine es_raise rfl (bad ?_)
    have h5 : ¬ ((nb.map rowA).length : Int) = ((ns.map nI).length : Nat) := by simpa using h
    rw [List.length_map, List.length_map] at h5
    unfold okNet
    rw [decide_eq_false (fun z => h5 (by omega))]; simp
  refine es_next ?_
  walk_at "nx"
  have hlen : nb.length = ns.length := by
    have h5 : ((nb.map rowA).length : Int) = ((ns.map nI).length : Nat) := by simpa using h
    rw [List.length_map, List.length_map] at h5
    omega
  refine es_seq (es_forE (l := nb.map rowA) (fun i E => (∃ s s2, E = [.ins p c.Network [], .val (lsA (ns.map nI)), .val (lsA (nb.map rowA)), s, s2]) ∧ ∀ j, j < i → okRow (j : Nat) (nb.getD j []) ns.length = true) (ev_var rfl).evs ⟨⟨_, _, rfl⟩, fun j h => by omega⟩ ?_ ?_)
  · rintro i r _ hi ⟨⟨s, s2, rfl⟩, hall⟩
    obtain ⟨e1, rfl⟩ := map_row hi
    have hil : i < nb.length := (List.getElem?_eq_some_iff.mp e1).1
    refine ⟨_, gt_tup (gts_cons gt_name (gts_cons gt_name gts_nil)), ?_⟩
    walk_at "nx"
    refine es_dropX (ex_call (((i : Nat) : Int), nb.getD i [], (((ns.map nI).length : Nat) : Int)) (ea_val (ev_var rfl) (ea_val (ev_var rfl) (ea_val (ev_len (l := ns.map nI) (evl_var rfl)) ea_nil))) (hr i hil)) rfl (fun r e => ?_) (fun C e => ?_)
    · have h1 := out_inl e
      dsimp only at h1
      rw [List.length_map] at h1
      refine ⟨⟨_, _, rfl⟩, fun j hj => ?_⟩
      by_cases hj2 : j < i
      · exact hall j hj2
      · have e : j = i := by omega
        subst e
        exact h1
    · obtain ⟨h1, rfl⟩ := out_inr e
      dsimp only at h1
      rw [List.length_map] at h1
      refine bad ?_
      have : (List.range nb.length).all (fun i => okRow (i : Nat) (nb.getD i []) ns.length) = false := by
        rw [List.all_eq_false]
        exact ⟨i, List.mem_range.mpr hil, by rw [h1]; simp⟩
      unfold okNet
      rw [this]; simp
  · rintro _ ⟨⟨s, s2, rfl⟩, hall⟩
    rw [List.length_map] at hall
    show ES _ _ _ _
    refine es_seq (es_fld rfl T.cl_Network T.n_Network__names (EVF.ev (evf_list (by walk_at "evl"))) rfl (by first | decide | (simp; done)) ?_)
    walk_at "nx"
    have hc := evf_lcL (K := K) (E := [.ins p c.Network [("_names", lsA (ns.map nI))], .val (lsA (ns.map nI)), .val (lsA (nb.map rowA)), s, s2]) (i := 4) (ta := tVar 2) (l := nb.map rowA) (tt := tYes) (te := tCB (fun xs H Q => ∃ p ys, xs = [.ref p] ∧ (SqL K H p ys ∨ SqT K H p ys) ∧ ∀ l, H l = none → Q (.ref l) (upd H l (.lst ys))) (tCons (tVar 4) tNil)) (ev_var rfl).evs (fun _ => true) (fun j => rowA (nb.getD j [])) (by rw [List.length_map]; omega) (fun _ _ _ => et_yes) (fun j r hj _ => by
      obtain ⟨_, rfl⟩ := map_row hj
      exact (evf_list (ev_var rfl).evl).ev)
    rw [List.length_map, accL_rows rowA] at hc
    refine es_seq (es_fld rfl T.cl_Network T.n_Network__neighbors hc.ev rfl (by first | decide | (simp; done)) ?_)
    walk_at "nx"
    have nd : ∀ j, j < nb.length → (nb.getD j []).Nodup ∧ ∀ o ∈ nb.getD j [], 0 ≤ o ∧ o < ns.length := fun j hj => by
      have := hall j hj
      unfold okRow at this
      rw [Bool.and_eq_true, List.all_eq_true] at this
      refine ⟨ndb_iff.mp this.2, fun o ho => ?_⟩
      have := this.1 o ho
      simp at this
      exact ⟨this.1.1, this.1.2⟩
    have hc2 := evf_lcL (K := K) (E := [.ins p c.Network [("_names", lsA (ns.map nI)), ("_neighbors", lsA (nb.map rowA))], .val (lsA (ns.map nI)), .val (lsA (nb.map rowA)), s, s2]) (i := 4) (ta := tVar 2) (l := nb.map rowA) (tt := tYes) (te := tCall (sp__ports_by_neighbor K) [] E0 (tCons (tVar 4) tNil)) (ev_var rfl).evs (fun _ => true) (fun j => dcA (portsL (nb.getD j []))) (by rw [List.length_map]; omega) (fun _ _ _ => et_yes) (fun j r hj _ => by
      obtain ⟨e1, rfl⟩ := map_row hj
      have hjl : j < nb.length := (List.getElem?_eq_some_iff.mp e1).1
      exact ev_call (nb.getD j []) (by walk_at "ea") ⟨(nd j hjl).1, hr j hjl⟩ rfl)
    rw [List.length_map, accL_rows (fun r => dcA (portsL r))] at hc2
    refine es_seq (es_fld rfl T.cl_Network T.n_Network__ports hc2.ev rfl (by first | decide | (simp; done)) ?_)
    walk_at "nx"
    refine es_freezeI (i := 0) rfl ?_
    walk_at "nx"
    refine es_dropX (ex_meth (C := c.Network) (fs := nF ns nb) (as := []) (ns, nb) (EV.ofI (ev_var rfl)) rfl ea_nil rfl ⟨hb, fun i hi => ⟨(nd i hi).1, hr i hi, fun o ho => by have := (nd i hi).2 o ho; dsimp only; omega⟩⟩) rfl (fun r e => ?_) (fun C e => ?_)
    · have h1 := out_inl e
      refine ⟨?_, rfl⟩
      have : okNet ns nb = true := by
        unfold okNet
        rw [hok1, decide_eq_true hlen, h1]
        have : (List.range nb.length).all (fun i => okRow (i : Nat) (nb.getD i []) ns.length) = true := by
          rw [List.all_eq_true]
          exact fun i hi => hall i (List.mem_range.mp hi)
        rw [this]; rfl
      show (if okNet ns nb = true then none else _) = none
      rw [this]; rfl
    · obtain ⟨h1, rfl⟩ := out_inr e
      exact bad (by unfold okNet; rw [h1]; simp)
end

section
variable {P : Program} {w : World} {K : PySem.W.Frag} {mg : Str → Option Value} {base : Heap}

abbrev s_Network_names : Stmt := inClass (topS 5) 2
abbrev n_Network_names : List Str := ["self"]
theorem sc_Network_names : FnScope n_Network_names ["self"] (defScope s_Network_names) := ⟨rfl, rfl, rfl, by decide +kernel, rfl, by decide +kernel, by decide +kernel⟩

abbrev sp_Network_names (K : PySem.W.Frag) (c : Cs) : Sp := spX K (X := List Int × List (List Int)) (fun x => [.val (inA c.Network (nF x.1 x.2))]) (fun x => x.1.length ≤ 4000) (fun x => .own (x.1.map nI))

theorem ok_Network_names {c : Cs} (T : Tx K mg c) (M : Bl mg)  (d : MetAt K c.Network "names" "Network.names" s_Network_names ["self"]) : MetA P w K mg base 1 c.Network "names" (sp_Network_names K c) := by
  refine metA d sc_Network_names (fun _ => rfl) fun f cdv A outer s H E hr => ⟨_, (pss_one (ps_ret (pe_callTy (list_ofK K) (by rfl) M.list bt_list (pa_cons (pe_fld (pv 0) rfl) pa_nil)))), ?_⟩
  try dsimp only [cxOf, Cx.nox, Cx.wish, Cx.blk]

  rintro ⟨ns, nb⟩ hn
  show ES K [.val (inA c.Network (nF ns nb))] _ _
  exact es_retF (evf_list (ev_fld (ev_var rfl) T.cl_Network T.n_Network__names rfl).evl) rfl
end

section
variable {P : Program} {w : World} {K : PySem.W.Frag} {mg : Str → Option Value} {base : Heap}

abbrev s_Network_neighbors : Stmt := inClass (topS 5) 3
abbrev n_Network_neighbors : List Str := ["self", "node"]
theorem sc_Network_neighbors : FnScope n_Network_neighbors ["self", "node"] (defScope s_Network_neighbors) := ⟨rfl, rfl, rfl, by decide +kernel, rfl, by decide +kernel, by decide +kernel⟩

abbrev sp_Network_neighbors (K : PySem.W.Frag) (c : Cs) : Sp := spX K (X := (List Int × List (List Int)) × Nat) (fun x => [.val (inA c.Network (nF x.1.1 x.1.2)), .val (nI (x.2 : Nat))]) (fun x => x.2 < x.1.2.length) (fun x => .own ((x.1.2.getD x.2 []).map nI))

theorem ok_Network_neighbors {c : Cs} (T : Tx K mg c) (M : Bl mg)  (d : MetAt K c.Network "neighbors" "Network.neighbors" s_Network_neighbors ["self", "node"]) : MetA P w K mg base 1 c.Network "neighbors" (sp_Network_neighbors K c) := by
  refine metA d sc_Network_neighbors (fun _ => rfl) fun f cdv A outer s H E hr => ⟨_, (pss_one (ps_ret (pe_callTy (list_ofK K) (by rfl) M.list bt_list (pa_cons (pe_ix (ix_listK K) (pe_fld (pv 0) rfl) (pv 1) (fun _ _ => rfl)) pa_nil)))), ?_⟩
  try dsimp only [cxOf, Cx.nox, Cx.wish, Cx.blk]

  rintro ⟨⟨ns, nb⟩, n⟩ hn
  dsimp only at hn
  show ES K [.val (inA c.Network (nF ns nb)), .val (nI (n : Nat))] _ _
  refine es_retF (evf_list (ev_ixL (i := n) (r := rowA (nb.getD n [])) (ev_fld (ev_var rfl) T.cl_Network T.n_Network__neighbors rfl).evl (ev_var rfl) rfl ?_).evl) rfl
  rw [List.getElem?_map, List.getD_eq_getElem?_getD, List.getElem?_eq_getElem hn]; rfl
end

section
variable {P : Program} {w : World} {K : PySem.W.Frag} {mg : Str → Option Value} {base : Heap}

abbrev s__law_cell : Stmt := topS 14
abbrev n__law_cell : List Str := ["script", "k"]
theorem sc__law_cell : FnScope n__law_cell ["script", "k"] (defScope s__law_cell) := ⟨rfl, rfl, rfl, by decide +kernel, rfl, by decide +kernel, by decide +kernel⟩

abbrev sp__law_cell (K : PySem.W.Frag) : Sp := spX K (X := List Int × Int) (fun x => [.scr x.1, .val (nI x.2)]) (fun x => 0 ≤ x.2) (fun x => .val (nI (x.1.getD x.2.toNat 0)))

theorem ok__law_cell {c : Cs} (T : Tx K mg c) (M : Bl mg)  (d : DefAt K mg "_law_cell" s__law_cell ["script", "k"]) : Cal P w K mg base 1 "_law_cell" (sp__law_cell K) := by
  refine calA d sc__law_cell (fun _ => rfl) fun f cdv A outer s H E hr => ⟨_, (pss_cons (ps_if (pt_cmpR op_lt (pv 1) (pe_callB (len_seqK K) (by rfl) M.len bt_len (pa_cons (pv 0) pa_nil)) (nomark _)) (pss_one (ps_ret (pe_ix (ix_listK K) (pv 0) (pv 1) (fun _ _ => rfl)))) pss_nil)
      (pss_one (ps_ret pe_int))), ?_⟩
  try dsimp only [cxOf, Cx.nox, Cx.wish, Cx.blk]

  rintro ⟨ns, k⟩ hk
  dsimp only at hk
  show ES K [.scr ns, .val (nI k)] _ _
  walk_at "if" <;> intro hT
  · have hlt : k < (ns.length : Int) := of_decide_eq_true hT
    have hx : ns[k.toNat]? = some (ns.getD k.toNat 0) := by
      rw [List.getD_eq_getElem?_getD, List.getElem?_eq_getElem (by omega)]; rfl
    exact es_ret (ev_ixS rfl (ev_var rfl) (j := k.toNat) (by omega) hx) rfl
  · refine es_next ?_
    walk_at "nx"
    have hge : ¬ k < (ns.length : Int) := of_decide_eq_false hT
    refine es_ret ev_int ?_
    have : ns.getD k.toNat 0 = 0 := by
      rw [List.getD_eq_getElem?_getD, List.getElem?_eq_none (by omega)]; rfl
    rw [this]; rfl
end

section
variable {P : Program} {w : World} {K : PySem.W.Frag} {mg : Str → Option Value} {base : Heap}

abbrev s__law_draw_net : Stmt := topS 15
abbrev n__law_draw_net : List Str := ["number", "most", "degree", "count", "k", "lists", "first", "second", "names", "name", "j"]
theorem sc__law_draw_net : FnScope n__law_draw_net ["number", "most", "degree"] (defScope s__law_draw_net) := ⟨rfl, rfl, rfl, by decide +kernel, rfl, by decide +kernel, by decide +kernel⟩

abbrev sp__law_draw_net (K : PySem.W.Frag) : Sp := spX K (X := Int × Int × Int) (fun x => [.val (nI x.1), .val (nI x.2.1), .val (nI x.2.2)]) (fun x => 0 ≤ x.1 ∧ 1 ≤ x.2.1 ∧ x.2.1 ≤ 40 ∧ x.2.2 ≤ 90) (fun x => .val (tuA [lsA ((netD x.1 x.2.1 x.2.2).1.map nI), lsA ((netD x.1 x.2.1 x.2.2).2.map fun r => lsA (r.map nI))]))

theorem ok__law_draw_net {c : Cs} (T : Tx K mg c) (M : Bl mg)  (d : DefAt K mg "_law_draw_net" s__law_draw_net ["number", "most", "degree"]) : Cal P w K mg base 1 "_law_draw_net" (sp__law_draw_net K) := by
  refine calA d sc__law_draw_net (fun _ => rfl) fun f cdv A outer s H E hr => ⟨_, (pss_cons (ps_set (i := 3) sc__law_draw_net.nd rfl (Or.inl rfl) (pe_op op_add pe_int (pe_op op_mod (pe_callTy call_int1 (by rfl) M.int bt_int (pa_cons (pv 0) pa_nil)) (pv 1))))
      (pss_cons (ps_set (i := 0) sc__law_draw_net.nd rfl (Or.inl rfl) (pe_op op_fdiv (pv 0) (pv 1)))
      (pss_cons (ps_setLc (i := 5) (own := [("k", 4)]) rfl sc__law_draw_net.nd rfl rfl (sw_true rfl rfl rfl (by decide +kernel)) (pi_range1 (by rfl) M.range (pa_cons (pv 3) pa_nil)) (blkOk_by (own := [("k", 4)]) (N := n__law_draw_net) (sc := defScope s__law_draw_net) (by decide +kernel)) (fun _ _ _ _ _ => (pg_name (i := 4) sc__law_draw_net.nd rfl (Or.inl rfl))) (fun _ _ _ _ _ => pts_nil) (fun _ _ _ _ _ => (pe_lst pa_nil)))
      (pss_cons (ps_for PassesOwn.never rfl (pi_range1 (by rfl) M.range (pa_cons (pe_op op_mul pe_int (pv 3)) pa_nil)) (pg_name (i := 4) sc__law_draw_net.nd rfl (Or.inl rfl)) (pss_cons (ps_set (i := 0) sc__law_draw_net.nd rfl (Or.inl rfl) (pe_op op_mod (pe_callTy call_int1 (by rfl) M.int bt_int (pa_cons (pe_op op_add (pe_op op_add (pe_op op_mul (pv 0) pe_int) pe_int) (pe_op op_mul (pv 4) pe_int)) pa_nil)) pe_int))
      (pss_cons (ps_set (i := 6) sc__law_draw_net.nd rfl (Or.inl rfl) (pe_op op_mod (pe_callTy call_int1 (by rfl) M.int bt_int (pa_cons (pe_op op_fdiv (pv 0) pe_int) pa_nil)) (pv 3)))
      (pss_cons (ps_set (i := 7) sc__law_draw_net.nd rfl (Or.inl rfl) (pe_op op_mod (pe_callTy call_int1 (by rfl) M.int bt_int (pa_cons (pe_op op_fdiv (pv 0) pe_int) pa_nil)) (pv 3)))
      (pss_one (ps_if (PW.pt (pw_and (pt_cmpR op_ne (pv 6) (pv 7) (nomark _)) (pw_and (pt_cmpR (notIn_seqK K) (pv 7) (pe_ix (ix_listK K) (pv 5) (pv 6) (fun _ _ => rfl)) (by rfl)) (pw_and (pt_cmpR op_lt (pe_callB (len_seqK K) (by rfl) M.len bt_len (pa_cons (pe_ix (ix_listK K) (pv 5) (pv 6) (fun _ _ => rfl)) pa_nil)) (pv 2) (nomark _)) (pw_and1 (pt_cmpR op_lt (pe_callB (len_seqK K) (by rfl) M.len bt_len (pa_cons (pe_ix (ix_listK K) (pv 5) (pv 7) (fun _ _ => rfl)) pa_nil)) (pv 2) (nomark _))))))) (pss_cons (ps_expr (pe_bm PySem.F.plainAttrs_list PySem.F.slot_list_insert PySem.F.type_list_insert mt_insert (pe_ix (ix_listK K) (pv 5) (pv 6) (fun _ _ => rfl)) (pa_cons (pe_op op_mod (pe_callTy call_int1 (by rfl) M.int bt_int (pa_cons (pe_op op_fdiv (pv 0) pe_int) pa_nil)) (pe_op op_add (pe_callB (len_seqK K) (by rfl) M.len bt_len (pa_cons (pe_ix (ix_listK K) (pv 5) (pv 6) (fun _ _ => rfl)) pa_nil)) pe_int)) (pa_cons (pv 7) pa_nil))))
      (pss_one (ps_expr (pe_bm PySem.F.plainAttrs_list PySem.F.slot_list_insert PySem.F.type_list_insert mt_insert (pe_ix (ix_listK K) (pv 5) (pv 7) (fun _ _ => rfl)) (pa_cons (pe_op op_mod (pe_callTy call_int1 (by rfl) M.int bt_int (pa_cons (pe_op op_fdiv (pv 0) pe_int) pa_nil)) (pe_op op_add (pe_callB (len_seqK K) (by rfl) M.len bt_len (pa_cons (pe_ix (ix_listK K) (pv 5) (pv 7) (fun _ _ => rfl)) pa_nil)) pe_int)) (pa_cons (pv 6) pa_nil)))))) pss_nil))))))
      (pss_cons (ps_set (i := 8) sc__law_draw_net.nd rfl (Or.inl rfl) (pe_lst pa_nil))
      (pss_cons (ps_for PassesOwn.never rfl (pi_range1 (by rfl) M.range (pa_cons (pv 3) pa_nil)) (pg_name (i := 4) sc__law_draw_net.nd rfl (Or.inl rfl)) (pss_cons (ps_set (i := 0) sc__law_draw_net.nd rfl (Or.inl rfl) (pe_op op_mod (pe_callTy call_int1 (by rfl) M.int bt_int (pa_cons (pe_op op_add (pe_op op_mul (pv 0) pe_int) pe_int) pa_nil)) pe_int))
      (pss_cons (ps_set (i := 9) sc__law_draw_net.nd rfl (Or.inl rfl) (pe_op op_mod (pe_callTy call_int1 (by rfl) M.int bt_int (pa_cons (pe_op op_fdiv (pv 0) pe_int) pa_nil)) (pe_op op_add (pe_op op_add (pv 3) pe_int) (pe_op op_mod (pe_callTy call_int1 (by rfl) M.int bt_int (pa_cons (pe_op op_fdiv (pv 0) pe_int) pa_nil)) pe_int))))
      (pss_cons (ps_for PassesOwn.never rfl (pi_range1 (by rfl) M.range (pa_cons (pv 3) pa_nil)) (pg_name (i := 10) sc__law_draw_net.nd rfl (Or.inl rfl)) (pss_one (ps_if (pt_cmpR (in_seqK K) (pv 9) (pv 8) (by rfl)) (pss_one (ps_set (i := 9) sc__law_draw_net.nd rfl (Or.inl rfl) (pe_op op_add (pv 9) pe_int))) pss_nil)))
      (pss_one (ps_expr (pe_bm PySem.F.plainAttrs_list PySem.F.slot_list_append PySem.F.type_list_append mt_append (pv 8) (pa_cons (pv 9) pa_nil))))))))
      (pss_one (ps_ret (pe_tup (pa_cons (pv 8) (pa_cons (pv 5) pa_nil))))))))))), ?_⟩
  try dsimp only [cxOf, Cx.nox, Cx.wish, Cx.blk]

  rintro ⟨number, most, degree⟩ ⟨h0, h1, h2, h3⟩
  dsimp only at h0 h1 h2 h3
  show ES K [.val (nI number), .val (nI most), .val (nI degree), .un, .un, .un, .un, .un, .un, .un, .un] _ _
  have hm0 : (0 : Int) < most := by omega
  have hdm : CDiv number most := ⟨by omega, by omega⟩
  refine es_seq (es_asg (ev_I0 ev_int (ev_I (ev_int1 (ev_var rfl)) (ev_var rfl) hm0)) ?_)
  walk_at "nx"
  have hc0 : 0 ≤ number % most := Int.emod_nonneg _ (by omega)
  have hc1 : number % most < most := Int.emod_lt_of_pos _ (by omega)
  refine es_seq (es_asg (by walk_at "ev") ?_)
  walk_at "nx"
  have hnd : netD number most degree = ((nSteps (1 + number % most) (dSteps (1 + number % most) degree (number / most) (2 * (1 + number % most)).toNat).1 (1 + number % most).toNat).2, (dSteps (1 + number % most) degree (number / most) (2 * (1 + number % most)).toNat).2) := rfl
  rw [hnd]
  have b1 : 1 ≤ 1 + number % most := by omega
  have b2 : 1 + number % most ≤ 40 := by omega
  generalize 1 + number % most = count at b1 b2
  generalize number / most = num0
  refine es_seq (es_asgN (n := count.toNat) (lo := 0) (w_range1 (ev_var rfl) (by omega) (by omega)) (by omega) fun p qs => ?_)
  walk_at "nx"
  have hz : List.replicate count.toNat ([] : List AbsV) = nstL (List.replicate count.toNat []) := by
    unfold nstL
    rw [List.map_replicate]; rfl
  rw [hz]
  refine es_seq (es_forR (lo := 0) (n := (2 * count).toNat) (fun i E => ∃ s4 s6 s7, E = [.val (nI (dSteps count degree num0 i).1), .val (nI most), .val (nI degree), .val (nI count), s4, .nst p qs (nstL (dSteps count degree num0 i).2), s6, s7, .un, .un, .un]) (w_range1 (ev_I ev_int (ev_var rfl) (.inl ⟨by omega, by omega⟩)) (by omega) (by omega)) ⟨_, _, _, rfl⟩ ?_ ?_)
  · rintro i _ hi ⟨s4, s6, s7, rfl⟩
    refine ⟨_, gt_name, ?_⟩
    rw [Int.zero_add]
    walk_at "nx"
    have hlen := dSteps_len count degree num0 i
    have hs : dSteps count degree num0 (i + 1) = dStep count degree (i : Nat) (dSteps count degree num0 i) := rfl
    generalize dSteps count degree num0 i = st at hlen hs
    obtain ⟨n0, L⟩ := st
    dsimp only at hlen hs
    have hcm : ∀ a b : Int, b ≤ 100000 ∧ 0 ≤ b → CMul a b := fun a b h => .inr ⟨by omega, by omega⟩
    have cc0 : (0 : Int) < count := by omega
    refine es_seq (es_asg (ev_I (ev_int1 (ev_I0 (ev_I0 (ev_I (ev_var rfl) ev_int (hcm _ _ (by decide))) ev_int) (ev_I (ev_var rfl) ev_int (hcm _ _ (by decide))))) ev_int (by decide)) ?_)
    walk_at "nx"
    change ES K [.val (nI (dNum (i : Nat) n0)), .val (nI most), .val (nI degree), .val (nI count), .val (nI (i : Nat)), .nst p qs (nstL L), s6, s7, .un, .un, .un] _ _
    have hs2 : dSteps count degree num0 (i + 1) = (dNum (i : Nat) n0, if dGo degree (dNum (i : Nat) n0 / 16 % count) (dNum (i : Nat) n0 / 4096 % count) L = true then dPut (dNum (i : Nat) n0) (dNum (i : Nat) n0 / 16 % count) (dNum (i : Nat) n0 / 4096 % count) L else L) := hs
    rw [hs2]
    generalize dNum (i : Nat) n0 = n
    refine es_seq (es_asg (ev_I (ev_int1 (ev_I (ev_var rfl) ev_int ⟨by decide, by decide⟩)) (ev_var rfl) cc0) ?_)
    walk_at "nx"
    refine es_seq (es_asg (ev_I (ev_int1 (ev_I (ev_var rfl) ev_int ⟨by decide, by decide⟩)) (ev_var rfl) cc0) ?_)
    walk_at "nx"
    have f0 : 0 ≤ n / 16 % count := Int.emod_nonneg _ (by omega)
    have f1 : n / 16 % count < count := Int.emod_lt_of_pos _ cc0
    have g0 : 0 ≤ n / 4096 % count := Int.emod_nonneg _ (by omega)
    have g1 : n / 4096 % count < count := Int.emod_lt_of_pos _ cc0
    generalize n / 16 % count = f at f0 f1
    generalize n / 4096 % count = g at g0 g1
    have eF : ∀ {L' : List (List Int)} {E : List Slot} {j : Nat} {x : Int}, L'.length = count.toNat → E[5]? = some (.nst p qs (nstL L')) → 0 ≤ x → x < count → E[j]? = some (.val (nI x)) → EVL K E (tOp (rIxL K) (tVar 5) (tVar j)) ((L'.getD x.toNat []).map nI) := fun hl h5 h0 h1 hj => evl_ixN h5 (ev_var hj) (by omega) (nstL_get (by omega))
    have eL : ∀ {E : List Slot} {te : TE} {l : List Int}, EVL K E te (l.map nI) → EV K E (tCB (fun xs H Q => ∃ p ys, xs = [.ref p] ∧ (SqL K H p ys ∨ SqT K H p ys) ∧ Q (.int ys.length) H) (tCons te tNil)) (nI (l.length : Nat)) := fun {E te l} h => EV.is (ev_len h) (by rw [List.length_map])
    refine es_if (b := dGo degree f g L) (et_and (et_test (ev_neI (ev_var rfl) (ev_var rfl))) (fun _ => et_and (et_test (ev_ninI (ev_var rfl) (eF hlen rfl f0 f1 rfl))) (fun _ => et_and (et_test (ev_I0 (eL (eF hlen rfl f0 f1 rfl)) (ev_var rfl))) (fun _ => et_test (ev_I0 (eL (eF hlen rfl g0 g1 rfl)) (ev_var rfl)))))) (fun hT => ?_) (fun hF => ?_)
    · have hT' := hT
      unfold dGo at hT'
      simp only [Bool.and_eq_true, decide_eq_true_eq, Bool.not_eq_true', decide_eq_false_iff_not] at hT'
      obtain ⟨_, _, q1, q2⟩ := hT'
      rw [hT, if_pos rfl]
      have hmod : ∀ (a b : Int), 0 < b → b < 100000 → 0 ≤ a % b ∧ a % b < 2 ^ 62 := fun a b h1 h2 => ⟨Int.emod_nonneg _ (by omega), by have := Int.emod_lt_of_pos a h1; omega⟩
      refine es_seq (es_insN (c := f.toNat) (a := (n / 65536) % (((L.getD f.toNat []).length : Int) + 1)) rfl (ev_var rfl) (by omega) (nstL_get (by omega)) (ev_I (ev_int1 (ev_I (ev_var rfl) ev_int ⟨by decide, by decide⟩)) (ev_I0 (eL (eF hlen rfl f0 f1 rfl)) ev_int) (by show (0 : Int) < _; omega)) (hmod _ _ (by omega) (by omega)) (ev_var rfl) (by rw [List.length_map]; omega) ?_)
      walk_at "nx"
      rw [nstL_set]
      have hl2 : (insL L f.toNat ((n / 65536) % (((L.getD f.toNat []).length : Int) + 1)) g).length = count.toNat := by rw [insL_len]; exact hlen
      have hr2 : ((insL L f.toNat ((n / 65536) % (((L.getD f.toNat []).length : Int) + 1)) g).getD g.toNat []).length ≤ 100 := by
        unfold insL
        rw [List.getD_eq_getElem?_getD]
        by_cases hfg : f.toNat = g.toNat
        · rw [hfg, List.getElem?_set_self (by omega)]
          rw [hfg] at q1
          simp only [Option.getD_some, List.length_append, List.length_take, List.length_drop, List.length_singleton]
          omega
        · rw [List.getElem?_set_ne hfg, ← List.getD_eq_getElem?_getD]
          omega
      refine es_insN (c := g.toNat) (a := (n / 262144) % ((((insL L f.toNat ((n / 65536) % (((L.getD f.toNat []).length : Int) + 1)) g).getD g.toNat []).length : Int) + 1)) rfl (ev_var rfl) (by omega) (nstL_get (by omega)) (ev_I (ev_int1 (ev_I (ev_var rfl) ev_int ⟨by decide, by decide⟩)) (ev_I0 (eL (eF hl2 rfl g0 g1 rfl)) ev_int) (by show (0 : Int) < _; omega)) (hmod _ _ (by omega) (by omega)) (ev_var rfl) (by rw [List.length_map]; omega) ⟨.val (nI (i : Nat)), .val (nI f), .val (nI g), ?_⟩
      rw [nstL_set]
      rfl
    · rw [hF, if_neg Bool.false_ne_true]
      exact es_next ⟨_, _, _, rfl⟩
  · rintro _ ⟨s4, s6, s7, rfl⟩
    show ES _ _ _ _
    generalize dSteps count degree num0 (2 * count).toNat = st
    obtain ⟨n1, L⟩ := st
    dsimp only
    walk_at "set"
    refine es_seq (es_forR (lo := 0) (n := count.toNat) (fun i E => ∃ s4 s9 s10, E = [.val (nI (nSteps count n1 i).1), .val (nI most), .val (nI degree), .val (nI count), s4, .nst p qs (nstL L), s6, s7, .own ((nSteps count n1 i).2.map nI), s9, s10]) (w_range1 (ev_var rfl) (by omega) (by omega)) ⟨_, _, _, rfl⟩ ?_ ?_)
    · rintro i _ hi ⟨s4, s9, s10, rfl⟩
      refine ⟨_, gt_name, ?_⟩
      rw [Int.zero_add]
      walk_at "nx"
      have hlen := nSteps_len count n1 i
      have hs : nSteps count n1 (i + 1) = nStep count (nSteps count n1 i) := rfl
      generalize nSteps count n1 i = st at hlen hs
      obtain ⟨n0, ns⟩ := st
      dsimp only at hlen hs
      have hs2 : nSteps count n1 (i + 1) = ((n0 * 48271 + 11) % 2147483647, ns ++ [bump ns count.toNat ((n0 * 48271 + 11) % 2147483647 / 64 % (count + 1 + (n0 * 48271 + 11) % 2147483647 / 8 % 90))]) := hs
      rw [hs2]
      refine es_seq (es_asg (ev_I (ev_int1 (ev_I0 (ev_I (ev_var rfl) ev_int (.inr ⟨by omega, by omega⟩)) ev_int)) ev_int (by decide)) ?_)
      walk_at "nx"
      generalize (n0 * 48271 + 11) % 2147483647 = n
      have q0 : 0 ≤ n / 8 % 90 := Int.emod_nonneg _ (by decide)
      refine es_seq (es_asg (ev_I (ev_int1 (ev_I (ev_var rfl) ev_int ⟨by decide, by decide⟩)) (ev_I0 (ev_I0 (ev_var rfl) ev_int) (ev_I (ev_int1 (ev_I (ev_var rfl) ev_int ⟨by decide, by decide⟩)) ev_int (by decide))) (by show (0 : Int) < _; omega)) ?_)
      walk_at "nx"
      generalize n / 64 % (count + 1 + n / 8 % 90) = m0
      refine es_seq (es_forR (lo := 0) (n := count.toNat) (fun j E => ∃ s10, E = [.val (nI n), .val (nI most), .val (nI degree), .val (nI count), .val (nI (i : Nat)), .nst p qs (nstL L), s6, s7, .own (ns.map nI), .val (nI (bump ns j m0)), s10]) (w_range1 (ev_var rfl) (by omega) (by omega)) ⟨_, rfl⟩ ?_ ?_)
      · rintro j _ hj ⟨s10, rfl⟩
        refine ⟨_, gt_name, ?_⟩
        walk_at "nx"
        have hb : bump ns (j + 1) m0 = if decide (bump ns j m0 ∈ ns) = true then bump ns j m0 + 1 else bump ns j m0 := rfl
        rw [hb]
        refine es_if (et_test (ev_inI (ev_var rfl) (evl_own rfl))) (fun hT => ?_) (fun hF => ?_)
        · rw [if_pos hT]
          refine es_asg (by walk_at "ev") ⟨_, rfl⟩
        · rw [if_neg (by rw [hF]; exact Bool.false_ne_true)]
          exact es_next ⟨_, rfl⟩
      · rintro _ ⟨s10, rfl⟩
        show ES _ _ _ _
        refine es_app rfl (ev_var rfl) (by rw [List.length_map]; omega) ⟨.val (nI (i : Nat)), .val (nI (bump ns count.toNat m0)), s10, ?_⟩
        rw [List.map_append]; rfl
    · rintro _ ⟨s4, s9, s10, rfl⟩
      show ES _ _ _ _
      refine es_freeze (i := 8) rfl ?_
      walk_at "nx"
      refine es_freezeN (i := 5) rfl ?_
      walk_at "nx"
      refine es_ret (ev_tup (eav_cons (ev_var rfl) (eav_cons (ev_var rfl) eav_nil)) (by simp)) ?_
      show Slot.val _ = Slot.val _
      unfold nstL
      rw [List.map_map]; rfl
end

section
variable {P : Program} {w : World} {K : PySem.W.Frag} {mg : Str → Option Value} {base : Heap}

abbrev s__law_shape_net : Stmt := topS 16
abbrev n__law_shape_net : List Str := ["number", "most", "way", "count", "lists", "k", "around", "j", "names"]
theorem sc__law_shape_net : FnScope n__law_shape_net ["number", "most"] (defScope s__law_shape_net) := ⟨rfl, rfl, rfl, by decide +kernel, rfl, by decide +kernel, by decide +kernel⟩

abbrev sp__law_shape_net (K : PySem.W.Frag) : Sp := spX K (X := Int × Int) (fun x => [.val (nI x.1), .val (nI x.2)]) (fun x => 0 ≤ x.1 ∧ 3 ≤ x.2 ∧ x.2 ≤ 40) (fun x => .val (tuA [lsA ((netS x.1 x.2).1.map nI), lsA ((netS x.1 x.2).2.map fun r => lsA (r.map nI))]))

theorem ok__law_shape_net {c : Cs} (T : Tx K mg c) (M : Bl mg)  (d : DefAt K mg "_law_shape_net" s__law_shape_net ["number", "most"]) : Cal P w K mg base 1 "_law_shape_net" (sp__law_shape_net K) := by
  refine calA d sc__law_shape_net (fun _ => rfl) fun f cdv A outer s H E hr => ⟨_, (pss_cons (ps_set (i := 2) sc__law_shape_net.nd rfl (Or.inl rfl) (pe_op op_mod (pe_callTy call_int1 (by rfl) M.int bt_int (pa_cons (pv 0) pa_nil)) pe_int))
      (pss_cons (ps_set (i := 3) sc__law_shape_net.nd rfl (Or.inr rfl) (pe_op op_add pe_int (pe_op op_mod (pe_callTy call_int1 (by rfl) M.int bt_int (pa_cons (pe_op op_fdiv (pv 0) pe_int) pa_nil)) (pe_op op_sub (pv 1) pe_int))))
      (pss_cons (ps_set (i := 4) sc__law_shape_net.nd rfl (Or.inl rfl) (pe_lst pa_nil))
      (pss_cons (ps_for PassesOwn.never rfl (pi_range1 (by rfl) M.range (pa_cons (pv 3) pa_nil)) (pg_name (i := 5) sc__law_shape_net.nd rfl (Or.inr rfl)) (pss_cons (ps_set (i := 6) sc__law_shape_net.nd rfl (Or.inl rfl) (pe_lst (pa_cons (pe_op op_mod (pe_callTy call_int1 (by rfl) M.int bt_int (pa_cons (pe_op op_sub (pv 5) pe_int) pa_nil)) (pv 3)) (pa_cons (pe_op op_mod (pe_op op_add (pv 5) pe_int) (pv 3)) pa_nil))))
      (pss_cons (ps_if (pt_cmpR op_eq (pv 2) pe_int (nomark _)) (pss_one (ps_setLc (i := 6) (own := [("j", 7)]) rfl sc__law_shape_net.nd rfl rfl (sw_true rfl rfl rfl (by decide +kernel)) (pi_tupK K (pe_tup (pa_cons (pe_op op_sub (pv 5) pe_int) (pa_cons (pe_op op_add (pv 5) pe_int) pa_nil)))) (blkOk_by (own := [("j", 7)]) (N := n__law_shape_net) (sc := defScope s__law_shape_net) (by decide +kernel)) (fun _ _ _ _ _ => (pg_name (i := 7) sc__law_shape_net.nd rfl (Or.inl rfl))) (fun _ _ _ _ _ => (pts_one (pt_chain op_le op_lt pe_int (pv 7) (pv 3)))) (fun _ _ _ _ _ => (pv 7)))) pss_nil)
      (pss_cons (ps_if (pt_cmpR op_eq (pv 2) pe_int (nomark _)) (pss_one (ps_setLc (i := 6) (own := [("j", 7)]) rfl sc__law_shape_net.nd rfl rfl (sw_true rfl rfl rfl (by decide +kernel)) (pi_tupK K (pe_tup (pa_cons (pe_op op_add (pv 5) pe_int) (pa_cons (pe_op op_sub (pv 5) pe_int) (pa_cons (pe_op op_add (pv 5) pe_int) (pa_cons (pe_op op_sub (pv 5) pe_int) pa_nil)))))) (blkOk_by (own := [("j", 7)]) (N := n__law_shape_net) (sc := defScope s__law_shape_net) (by decide +kernel)) (fun _ _ _ _ _ => (pg_name (i := 7) sc__law_shape_net.nd rfl (Or.inl rfl))) (fun _ _ _ _ _ => (pts_one (PW.pt (pw_and (pt_chain op_le op_lt pe_int (pv 7) (pv 3)) (pw_and (pt_cmpR op_ne (pv 7) (pv 5) (nomark _)) (pw_and1 (pt_cmpR op_lt (pe_callB call_abs (by rfl) M.abs bt_abs (pa_cons (pe_op op_sub (pv 7) (pv 5)) pa_nil)) pe_int (nomark _)))))))) (fun _ _ _ _ _ => (pv 7)))) pss_nil)
      (pss_cons (ps_if (pt_cmpR op_eq (pv 2) pe_int (nomark _)) (pss_one (ps_setLc (i := 6) (own := [("j", 7)]) rfl sc__law_shape_net.nd rfl rfl (sw_true rfl rfl rfl (by decide +kernel)) (pi_listK K (pe_op op_cat (pe_ifExp (pt_cmpR op_gt (pv 5) pe_int (nomark _)) (pe_lst (pa_cons (pe_op op_fdiv (pe_op op_sub (pv 5) pe_int) pe_int) pa_nil)) (pe_lst pa_nil)) (pe_lst (pa_cons (pe_op op_add (pe_op op_mul pe_int (pv 5)) pe_int) (pa_cons (pe_op op_add (pe_op op_mul pe_int (pv 5)) pe_int) pa_nil))))) (blkOk_by (own := [("j", 7)]) (N := n__law_shape_net) (sc := defScope s__law_shape_net) (by decide +kernel)) (fun _ _ _ _ _ => (pg_name (i := 7) sc__law_shape_net.nd rfl (Or.inl rfl))) (fun _ _ _ _ _ => (pts_one (pt_cmpR op_lt (pv 7) (pv 3) (nomark _)))) (fun _ _ _ _ _ => (pv 7)))) pss_nil)
      (pss_one (ps_expr (pe_bm PySem.F.plainAttrs_list PySem.F.slot_list_append PySem.F.type_list_append mt_append (pv 4) (pa_cons (pv 6) pa_nil)))))))))
      (pss_cons (ps_set (i := 8) sc__law_shape_net.nd rfl (Or.inl rfl) (pe_lst pa_nil))
      (pss_cons (ps_for PassesOwn.never rfl (pi_range1 (by rfl) M.range (pa_cons (pv 3) pa_nil)) (pg_name (i := 5) sc__law_shape_net.nd rfl (Or.inr rfl)) (pss_cons (ps_expr (pe_bm PySem.F.plainAttrs_list PySem.F.slot_list_append PySem.F.type_list_append mt_append (pv 8) (pa_cons (pe_op op_mod (pe_callTy call_int1 (by rfl) M.int bt_int (pa_cons (pe_op op_mul (pe_op op_mul (pe_op op_add (pv 5) pe_int) (pe_op op_add pe_int (pe_op op_fdiv (pv 0) pe_int))) pe_int) pa_nil)) pe_int) pa_nil)))
      (pss_one (ps_for PassesOwn.never rfl (pi_range1 (by rfl) M.range (pa_cons (pv 3) pa_nil)) (pg_name (i := 7) sc__law_shape_net.nd rfl (Or.inl rfl)) (pss_one (ps_if (pt_cmpR (in_seqK K) (pe_ix (ix_listK K) (pv 8) (pv 5) (fun _ _ => rfl)) (pe_slice (sl_listK K) (pv 8) po_none (po_some (pv 5))) (by rfl)) (pss_one (ps_asg (pe_op op_add (pe_ix (ix_listK K) (pv 8) (pv 5) (fun _ _ => rfl)) pe_int) (pg_sub (pv 8) (pv 5) set_list))) pss_nil))))))
      (pss_one (ps_ret (pe_tup (pa_cons (pv 8) (pa_cons (pv 4) pa_nil))))))))))), ?_⟩
  try dsimp only [cxOf, Cx.nox, Cx.wish, Cx.blk]

  rintro ⟨number, most⟩ ⟨h0, h1, h2⟩
  dsimp only at h0 h1 h2
  show ES K [.val (nI number), .val (nI most), .un, .un, .un, .un, .un, .un, .un] _ _
  have hm0 : (0 : Int) < most - 2 := by omega
  refine es_seq (es_asg (ev_I (ev_int1 (ev_var rfl)) ev_int (by decide)) ?_)
  walk_at "nx"
  refine es_seq (es_asg (ev_I0 ev_int (ev_I (ev_int1 (ev_I (ev_var rfl) ev_int ⟨by decide, by decide⟩)) (ev_I0 (ev_var rfl) ev_int) hm0)) ?_)
  walk_at "nx"
  have hnd : netS number most = (shNames (3 + number / 4 % (most - 2)) number (3 + number / 4 % (most - 2)).toNat, (List.range (3 + number / 4 % (most - 2)).toNat).map fun (k : Nat) => shRow (number % 4) (3 + number / 4 % (most - 2)) k) := rfl
  rw [hnd]
  have hc0 : 0 ≤ number / 4 % (most - 2) := Int.emod_nonneg _ (by omega)
  have hc1 : number / 4 % (most - 2) < most - 2 := Int.emod_lt_of_pos _ (by omega)
  have b1 : 3 ≤ 3 + number / 4 % (most - 2) := by omega
  have b2 : 3 + number / 4 % (most - 2) ≤ 41 := by omega
  generalize 3 + number / 4 % (most - 2) = count at b1 b2
  generalize number % 4 = way
  walk_at "set"
  have cc0 : (0 : Int) < count := by omega
  have hcm : ∀ a b : Int, b ≤ 100000 ∧ 0 ≤ b → CMul a b := fun a b h => .inr ⟨by omega, by omega⟩
  refine es_seq (es_forR (lo := 0) (n := count.toNat) (fun i E => ∃ s5 s6 s7, E = [.val (nI number), .val (nI most), .val (nI way), .val (nI count), .own ((List.range i).map fun (k : Nat) => lsA ((shRow way count k).map nI)), s5, s6, s7, .un]) (w_range1 (ev_var rfl) (by omega) (by omega)) ⟨_, _, _, rfl⟩ ?_ ?_)
  · rintro i _ hi ⟨s5, s6, s7, rfl⟩
    refine ⟨_, gt_name, ?_⟩
    rw [Int.zero_add]
    walk_at "nx"
    refine es_seq (es_asgF (evf_lst (l := [nI (((i : Int) - 1) % count), nI (((i : Int) + 1) % count)]) (eav_cons (ev_I (ev_int1 (ev_I0 (ev_var rfl) ev_int)) (ev_var rfl) cc0) (eav_cons (ev_I (ev_I0 (ev_var rfl) ev_int) (ev_var rfl) cc0) eav_nil)) (by simp)) ?_)
    walk_at "nx"
    refine es_seq (es_setIf (i := 6) (m := ([(i : Int) - 1, (i : Int) + 1].filter (fun j => decide (0 ≤ j) && decide (j < count))).map nI) (by walk_at "et") rfl (fun _ => evf_filtU (fun j => decide (0 ≤ j) && decide (j < count)) (ev_tup (l := [nI ((i : Int) - 1), nI ((i : Int) + 1)]) (by walk_at "eav") (by simp)) (by simp) (fun o _ => et_test (by walk_at "ev")) (by simp)) ?_)
    walk_at "nx"
    refine es_seq (es_setIf (i := 6) (m := ([(i : Int) + 1, (i : Int) - 2, (i : Int) + 2, (i : Int) - 1].filter (fun j => (decide (0 ≤ j) && decide (j < count)) && (!decide (j = (i : Int)) && decide ((if j - (i : Int) < 0 then -(j - (i : Int)) else j - (i : Int)) < 3)))).map nI) (by walk_at "et") rfl (fun _ => evf_filtU _ (ev_tup (l := [nI ((i : Int) + 1), nI ((i : Int) - 2), nI ((i : Int) + 2), nI ((i : Int) - 1)]) (by walk_at "eav") (by simp)) (by simp) (fun o _ => et_and (et_test (by walk_at "ev")) (fun _ => et_and (et_test (by walk_at "ev")) (fun _ => et_test (by walk_at "ev")))) (by simp)) ?_)
    walk_at "nx"
    have h3 : ((if decide ((i : Int) > 0) = true then [nI (((i : Int) - 1) / 2)] else []) ++ [nI (2 * (i : Int) + 1), nI (2 * (i : Int) + 2)]) = ((if decide ((i : Int) > 0) = true then [((i : Int) - 1) / 2] else []) ++ [2 * (i : Int) + 1, 2 * (i : Int) + 2]).map nI := by
      cases decide ((i : Int) > 0) <;> rfl
    have hl3 : ((if decide ((i : Int) > 0) = true then [((i : Int) - 1) / 2] else []) ++ [2 * (i : Int) + 1, 2 * (i : Int) + 2]).length ≤ 3 := by
      cases decide ((i : Int) > 0) <;> simp
    refine es_seq (es_setIf (i := 6) (m := (((if decide ((i : Int) > 0) = true then [((i : Int) - 1) / 2] else []) ++ [2 * (i : Int) + 1, 2 * (i : Int) + 2]).filter (fun j => decide (j < count))).map nI) (by walk_at "et") rfl (fun _ => evf_filtL _ (EVF.evs (EVF.is (evf_cat (l := if decide ((i : Int) > 0) = true then [nI (((i : Int) - 1) / 2)] else []) (m := [nI (2 * (i : Int) + 1), nI (2 * (i : Int) + 2)]) (evl_if (by walk_at "et") (fun h => EVF.evl (EVF.is (evf_lst (l := [nI (((i : Int) - 1) / 2)]) (eav_cons (ev_I (ev_I0 (ev_var rfl) ev_int) ev_int ⟨by decide, by decide⟩) eav_nil) (by simp)) (by rw [if_pos h]))) (fun h => EVF.evl (EVF.is (evf_lst (l := []) eav_nil (by simp)) (by rw [h]; rfl)))) (EVF.evl (evf_lst (eav_cons (ev_I0 (ev_I ev_int (ev_var rfl) (.inl ⟨by decide, by decide⟩)) ev_int) (eav_cons (ev_I0 (ev_I ev_int (ev_var rfl) (.inl ⟨by decide, by decide⟩)) ev_int) eav_nil)) (by simp))) (by cases decide ((i : Int) > 0) <;> simp)) h3)) (by omega) (fun o _ => et_test (by walk_at "ev")) (by simp)) ?_)
    walk_at "nx"
    have eL : (if decide (way = 3) = true then (((if decide ((i : Int) > 0) = true then [((i : Int) - 1) / 2] else []) ++ [2 * (i : Int) + 1, 2 * (i : Int) + 2]).filter (fun j => decide (j < count))).map nI else (if decide (way = 2) = true then ([(i : Int) + 1, (i : Int) - 2, (i : Int) + 2, (i : Int) - 1].filter (fun j => (decide (0 ≤ j) && decide (j < count)) && (!decide (j = (i : Int)) && decide ((if j - (i : Int) < 0 then -(j - (i : Int)) else j - (i : Int)) < 3)))).map nI else (if decide (way = 1) = true then ([(i : Int) - 1, (i : Int) + 1].filter (fun j => decide (0 ≤ j) && decide (j < count))).map nI else [nI (((i : Int) - 1) % count), nI (((i : Int) + 1) % count)]))) = (shRow way count (i : Nat)).map nI := by
      unfold shRow
      cases decide (way = 3) <;> cases decide (way = 2) <;> cases decide (way = 1) <;> rfl
    change ES K [.val (nI number), .val (nI most), .val (nI way), .val (nI count), .own ((List.range i).map fun (k : Nat) => lsA ((shRow way count k).map nI)), .val (nI (i : Nat)), .own (if decide (way = 3) = true then (((if decide ((i : Int) > 0) = true then [((i : Int) - 1) / 2] else []) ++ [2 * (i : Int) + 1, 2 * (i : Int) + 2]).filter (fun j => decide (j < count))).map nI else (if decide (way = 2) = true then ([(i : Int) + 1, (i : Int) - 2, (i : Int) + 2, (i : Int) - 1].filter (fun j => (decide (0 ≤ j) && decide (j < count)) && (!decide (j = (i : Int)) && decide ((if j - (i : Int) < 0 then -(j - (i : Int)) else j - (i : Int)) < 3)))).map nI else (if decide (way = 1) = true then ([(i : Int) - 1, (i : Int) + 1].filter (fun j => decide (0 ≤ j) && decide (j < count))).map nI else [nI (((i : Int) - 1) % count), nI (((i : Int) + 1) % count)]))), s7, .un] _ _
    rw [eL]
    refine es_freeze (i := 6) rfl ?_
    walk_at "nx"
    refine es_app rfl (ev_var rfl) (by rw [List.length_map, List.length_range]; omega) ⟨.val (nI (i : Nat)), .val (lsA ((shRow way count (i : Nat)).map nI)), s7, ?_⟩
    rw [List.range_succ, List.map_append]; rfl
  · rintro _ ⟨s5, s6, s7, rfl⟩
    show ES _ _ _ _
    walk_at "set"
    refine es_seq (es_forR (lo := 0) (n := count.toNat) (fun i E => ∃ s5 s7, E = [.val (nI number), .val (nI most), .val (nI way), .val (nI count), .own ((List.range count.toNat).map fun (k : Nat) => lsA ((shRow way count k).map nI)), s5, s6, s7, .own ((shNames count number i).map nI)]) (w_range1 (ev_var rfl) (by omega) (by omega)) ⟨_, _, rfl⟩ ?_ ?_)
    · rintro i _ hi ⟨s5, s7, rfl⟩
      refine ⟨_, gt_name, ?_⟩
      rw [Int.zero_add]
      walk_at "nx"
      have hlen := shNames_len count number i
      have hs : shNames count number (i + 1) = shNames count number i ++ [bump (shNames count number i) count.toNat (((i : Nat) + 1) * (1 + number / 16) * 7 % 101)] := rfl
      rw [hs]
      generalize shNames count number i = pre at hlen
      refine es_seq (es_app rfl (r := nI ((((i : Nat) : Int) + 1) * (1 + number / 16) * 7 % 101)) (ev_I (ev_int1 (ev_I (ev_I (ev_I0 (ev_var rfl) ev_int) (ev_I0 ev_int (ev_I (ev_var rfl) ev_int ⟨by decide, by decide⟩)) (.inl ⟨by omega, by omega⟩)) ev_int (.inr ⟨by decide, by decide⟩))) ev_int (by decide)) (by rw [List.length_map]; omega) ?_)
      walk_at "nx"
      generalize (((i : Nat) : Int) + 1) * (1 + number / 16) * 7 % 101 = m0
      refine es_forR (lo := 0) (n := count.toNat) (fun j E => ∃ s7, E = [.val (nI number), .val (nI most), .val (nI way), .val (nI count), .own ((List.range count.toNat).map fun (k : Nat) => lsA ((shRow way count k).map nI)), .val (nI (i : Nat)), s6, s7, .own (pre.map nI ++ [nI (bump pre j m0)])]) (w_range1 (ev_var rfl) (by omega) (by omega)) ⟨_, rfl⟩ ?_ ?_
      · rintro j _ hj ⟨s7, rfl⟩
        refine ⟨_, gt_name, ?_⟩
        walk_at "nx"
        have hb : bump pre (j + 1) m0 = if decide (bump pre j m0 ∈ pre) = true then bump pre j m0 + 1 else bump pre j m0 := rfl
        rw [hb]
        generalize bump pre j m0 = m
        have hix : (pre.map nI ++ [nI m])[i]? = some (nI m) := by
          rw [List.getElem?_append_right (by rw [List.length_map]; omega), List.length_map, hlen, Nat.sub_self]; rfl
        have htk : (pre.map nI ++ [nI m]).take ((i : Nat) : Int).toNat = pre.map nI := by
          rw [Int.toNat_natCast, List.take_append_of_le_length (by rw [List.length_map]; omega), List.take_of_length_le (by rw [List.length_map]; omega)]
        refine es_if (et_test (ev_inI (ev_ixL (i := i) (evl_own rfl) (ev_var rfl) rfl hix) (EVF.evl (EVF.is (evf_to (evl_own rfl) (ev_var rfl) (by omega)) htk)))) (fun hT => ?_) (fun hF => ?_)
        · rw [if_pos hT]
          refine es_setI (j := i) rfl (ev_I0 (ev_ixL (i := i) (evl_own rfl) (ev_var rfl) rfl hix) ev_int) (ev_var rfl) rfl (by rw [List.length_append, List.length_map]; simp; omega) ⟨.val (nI (0 + (j : Int))), ?_⟩
          have : (pre.map nI ++ [nI m]).set i (nI (m + 1)) = pre.map nI ++ [nI (m + 1)] := by
            have h := set_last (pre.map nI) (nI m) (nI (m + 1))
            rw [List.length_map, hlen] at h
            exact h
          rw [← this]; rfl
        · rw [if_neg (by rw [hF]; exact Bool.false_ne_true)]
          exact es_next ⟨_, rfl⟩
      · rintro _ ⟨s7, rfl⟩
        exact ⟨_, _, by rw [List.map_append]; rfl⟩
    · rintro _ ⟨s5, s7, rfl⟩
      show ES _ _ _ _
      refine es_freeze (i := 8) rfl ?_
      walk_at "nx"
      refine es_freeze (i := 4) rfl ?_
      walk_at "nx"
      refine es_ret (ev_tup (eav_cons (ev_var rfl) (eav_cons (ev_var rfl) eav_nil)) (by simp)) ?_
      show Slot.val _ = Slot.val _
      rw [List.map_map]; rfl
end

section
variable {P : Program} {w : World} {K : PySem.W.Frag} {mg : Str → Option Value} {base : Heap}

abbrev s__law_net : Stmt := topS 17
abbrev n__law_net : List Str := ["number", "most"]
theorem sc__law_net : FnScope n__law_net ["number", "most"] (defScope s__law_net) := ⟨rfl, rfl, rfl, by decide +kernel, rfl, by decide +kernel, by decide +kernel⟩

abbrev sp__law_net (K : PySem.W.Frag) : Sp := spX K (X := Int × Int) (fun x => [.val (nI x.1), .val (nI x.2)]) (fun x => 0 ≤ x.1 ∧ 3 ≤ x.2 ∧ x.2 ≤ 40) (fun x => .val (tuA [lsA ((netF x.1 x.2).1.map nI), lsA ((netF x.1 x.2).2.map fun r => lsA (r.map nI))]))

theorem ok__law_net {c : Cs} (T : Tx K mg c) (M : Bl mg) (c_law_draw_net : Cal P w K mg base 1 "_law_draw_net" (sp__law_draw_net K)) (c_law_shape_net : Cal P w K mg base 1 "_law_shape_net" (sp__law_shape_net K)) (d : DefAt K mg "_law_net" s__law_net ["number", "most"]) : Cal P w K mg base 2 "_law_net" (sp__law_net K) := by
  refine calA d sc__law_net (fun _ => rfl) fun f cdv A outer s H E hr => ⟨_, (pss_cons (ps_if (pt_cmpR op_eq (pe_op op_mod (pe_callTy call_int1 (by rfl) M.int bt_int (pa_cons (pv 0) pa_nil)) pe_int) pe_int (nomark _)) (pss_one (ps_ret (pe_ca c_law_shape_net hr (by decide) (by rfl) (pa_cons (pe_op op_fdiv (pv 0) pe_int) (pa_cons (pv 1) pa_nil))))) pss_nil)
      (pss_one (ps_ret (pe_ca c_law_draw_net hr (by decide) (by rfl) (pa_cons (pe_op op_fdiv (pv 0) pe_int) (pa_cons (pv 1) (pa_cons pe_int pa_nil))))))), ?_⟩
  try dsimp only [cxOf, Cx.nox, Cx.wish, Cx.blk]

  rintro ⟨number, most⟩ ⟨h0, h1, h2⟩
  dsimp only at h0 h1 h2
  show ES K [.val (nI number), .val (nI most)] _ _
  have hd : 0 ≤ number / 3 := Int.ediv_nonneg h0 (by decide)
  refine es_seq (es_if (et_test (ev_eqI (ev_I (ev_int1 (ev_var rfl)) ev_int (by decide)) ev_int)) (fun hT => ?_) (fun hF => ?_))
  · refine es_ret (ev_call (number / 3, most) (ea_val (ev_I (ev_var rfl) ev_int ⟨by decide, by decide⟩) (ea_val (ev_var rfl) ea_nil)) ⟨hd, h1, h2⟩ rfl) ?_
    show Slot.val _ = Slot.val _
    have : netF number most = netS (number / 3) most := if_pos hT
    rw [this]
  · refine es_next ?_
    walk_at "nx"
    refine es_ret (ev_call (number / 3, most, 4) (ea_val (ev_I (ev_var rfl) ev_int ⟨by decide, by decide⟩) (ea_val (ev_var rfl) (ea_val ev_int ea_nil))) ⟨hd, by dsimp only; omega, h2, by dsimp only; omega⟩ rfl) ?_
    show Slot.val _ = Slot.val _
    have : netF number most = netD (number / 3) most 4 := if_neg (by rw [hF]; exact Bool.false_ne_true)
    rw [this]
end

section
variable {P : Program} {w : World} {K : PySem.W.Frag} {mg : Str → Option Value} {base : Heap}

abbrev s__law_like : Stmt := topS 19
abbrev n__law_like : List Str := ["actual", "due", "k"]
theorem sc__law_like : FnScope n__law_like ["actual", "due"] (defScope s__law_like) := ⟨rfl, rfl, rfl, by decide +kernel, rfl, by decide +kernel, by decide +kernel⟩

abbrev sp_like (n : Nat) (K : PySem.W.Frag) : Sp := spX K (X := PyData) (fun d => [.val (dat d), .val (dat d)]) (fun d => Fit n d) (fun _ => .val (nB true))
abbrev sp__law_like (K : PySem.W.Frag) : Sp := sp_like 5 K
-- @mk have c_law_like := ok_like (P := l.prog) (w := w) (base := base) D__law_like M 5


theorem ok_like (d : DefAt K mg "_law_like" s__law_like ["actual", "due"]) (M : Bl mg) : ∀ n : Nat, Cal P w K mg base n "_law_like" (sp_like n K)
  | 0 => cal_never d fun x h => h
  | n + 1 => by
    have c_law_like := ok_like d M n
    refine calA d sc__law_like (fun _ => rfl) fun f cdv A outer s H E hr => ⟨_, (pss_cons (ps_if (pt_cmp (pc_isN (pv 1))) (pss_one (ps_ret (pe_cmp (pc_isN (pv 0))))) pss_nil)
      (pss_cons (ps_if (pt_val (pe_callB (isiK K) (by rfl) M.isinstance bt_isinstance (pa_cons (pv 1) (pa_cons (pe_bltn (v := .ty "bool") (by rfl) M.bool bt_bool rfl) pa_nil)))) (pss_one (ps_ret (pe_and (pe_callB (isiK K) (by rfl) M.isinstance bt_isinstance (pa_cons (pv 0) (pa_cons (pe_bltn (v := .ty "bool") (by rfl) M.bool bt_bool rfl) pa_nil))) (pe_one (pe_cmpR op_eq (pv 0) (pv 1) (nomark _)))))) pss_nil)
      (pss_cons (ps_if (pt_val (pe_callB (isiK K) (by rfl) M.isinstance bt_isinstance (pa_cons (pv 1) (pa_cons (pe_bltn (v := .ty "str") (by rfl) M.str bt_str rfl) pa_nil)))) (pss_one (ps_ret (pe_and (pe_callB (isiK K) (by rfl) M.isinstance bt_isinstance (pa_cons (pv 0) (pa_cons (pe_bltn (v := .ty "str") (by rfl) M.str bt_str rfl) pa_nil))) (pe_one (pe_cmpR op_eq (pv 0) (pv 1) (nomark _)))))) pss_nil)
      (pss_cons (ps_if (pt_val (pe_callB (isiK K) (by rfl) M.isinstance bt_isinstance (pa_cons (pv 1) (pa_cons (pe_bltn (v := .ty "int") (by rfl) M.int bt_int rfl) pa_nil)))) (pss_one (ps_ret (pe_and (pe_callB (isiK K) (by rfl) M.isinstance bt_isinstance (pa_cons (pv 0) (pa_cons (pe_bltn (v := .ty "int") (by rfl) M.int bt_int rfl) pa_nil))) (pe_and (pe_not (pe_callB (isiK K) (by rfl) M.isinstance bt_isinstance (pa_cons (pv 0) (pa_cons (pe_bltn (v := .ty "bool") (by rfl) M.bool bt_bool rfl) pa_nil)))) (pe_one (pe_cmpR op_eq (pv 0) (pv 1) (nomark _))))))) pss_nil)
      (pss_cons (ps_if (PW.pt (pw_or (pt_cmpR op_ne (pe_callB (isiK K) (by rfl) M.isinstance bt_isinstance (pa_cons (pv 1) (pa_cons (pe_bltn (v := .ty "list") (by rfl) M.list bt_list rfl) pa_nil))) (pe_callB (isiK K) (by rfl) M.isinstance bt_isinstance (pa_cons (pv 0) (pa_cons (pe_bltn (v := .ty "list") (by rfl) M.list bt_list rfl) pa_nil))) (nomark _)) (pw_or1 (pt_cmpR op_ne (pe_callB (isiK K) (by rfl) M.isinstance bt_isinstance (pa_cons (pv 1) (pa_cons (pe_bltn (v := .ty "tuple") (by rfl) M.tuple bt_tuple rfl) pa_nil))) (pe_callB (isiK K) (by rfl) M.isinstance bt_isinstance (pa_cons (pv 0) (pa_cons (pe_bltn (v := .ty "tuple") (by rfl) M.tuple bt_tuple rfl) pa_nil))) (nomark _))))) (pss_one (ps_ret pe_bl)) pss_nil)
      (pss_cons (ps_if (pt_cmpR op_ne (pe_callB (len_seqK K) (by rfl) M.len bt_len (pa_cons (pv 0) pa_nil)) (pe_callB (len_seqK K) (by rfl) M.len bt_len (pa_cons (pv 1) pa_nil)) (nomark _)) (pss_one (ps_ret pe_bl)) pss_nil)
      (pss_one (ps_ret (pe_callB (allK K rfl) (by rfl) M.all bt_all (pa_cons (pe_lc (own := [("k", 2)]) rfl sc__law_like.nd (pi_range1 (by rfl) M.range (pa_cons (pe_callB (len_seqK K) (by rfl) M.len bt_len (pa_cons (pv 1) pa_nil)) pa_nil)) (blkOk_by (own := [("k", 2)]) (N := n__law_like) (sc := defScope s__law_like) (by decide +kernel)) (fun _ _ _ _ _ => (pg_name (i := 2) sc__law_like.nd rfl (Or.inl rfl))) (fun _ _ _ _ _ => pts_nil) (fun _ _ _ _ _ => (pe_ca c_law_like hr (Nat.le_refl _) (by rfl) (pa_cons (pe_ix (ix_seqK K) (pv 0) (pv 2) (fun _ _ => rfl)) (pa_cons (pe_ix (ix_seqK K) (pv 1) (pv 2) (fun _ _ => rfl)) pa_nil))))) pa_nil)))))))))), ?_⟩
    try dsimp only [cxOf, Cx.nox, Cx.wish, Cx.blk]
    intro x hx
    show ES K [.val (dat x), .val (dat x), .un] _ _
    have no : ∀ {ts us : TS} {A : AE} {t : TT}, ET K [.val (dat x), .val (dat x), .un] t false → ES K [.val (dat x), .val (dat x), .un] us A → ES K [.val (dat x), .val (dat x), .un] (tSeq (tIfS t ts tNext) us) A := fun ht hu => es_seq (es_if ht (fun z => by cases z) fun _ => es_next hu)
    have yes : ∀ {ts us : TS} {A : AE} {t : TT}, ET K [.val (dat x), .val (dat x), .un] t true → ES K [.val (dat x), .val (dat x), .un] ts { A with nx := fun E' => ES K E' us A } → ES K [.val (dat x), .val (dat x), .un] (tSeq (tIfS t ts tNext) us) A := fun ht hu => es_seq (es_if ht (fun _ => hu) fun z => by cases z)
    have isi0 : ∀ {nm : String} {b : Bool}, kitB (tyD x) nm = some b → EV K [.val (dat x), .val (dat x), .un] (tCB (rIsi K) (tCons (tVar 0) (tCons (tC (.ty nm)) tNil))) (nB b) := fun h => ev_isi (ev_var rfl) h
    have isi1 : ∀ {nm : String} {b : Bool}, kitB (tyD x) nm = some b → EV K [.val (dat x), .val (dat x), .un] (tCB (rIsi K) (tCons (tVar 1) (tCons (tC (.ty nm)) tNil))) (nB b) := fun h => ev_isi (ev_var rfl) h
    have seqs : ∀ (ds : List PyData), (x = .list ds ∨ x = .tuple ds) → ds.length ≤ 1000 → (∀ y ∈ ds, Fit n y) → EVL K [.val (dat x), .val (dat x), .un] (tVar 1) (dats ds) ∨ EV K [.val (dat x), .val (dat x), .un] (tVar 1) (tuA (dats ds)) := fun ds h _ _ => by
      rcases h with rfl | rfl
      · exact .inl (evl_var (l := dats ds) rfl)
      · exact .inr (ev_var (r := tuA (dats ds)) rfl)
    cases x with
    | none =>
      refine yes (et_B (ev_isNd (d := .none) (ev_var rfl))) ?_
      exact es_ret (ev_isNd (d := .none) (ev_var rfl)) rfl
    | bool b =>
      refine no (et_B (ev_isNd (d := .bool b) (ev_var rfl))) ?_
      refine yes (et_B (isi1 rfl)) ?_
      refine es_ret (ev_andV (isi0 rfl) fun _ => ev_eq (ev_var rfl) (ev_var rfl) rfl) ?_
      simp [AR]
    | str z =>
      refine no (et_B (ev_isNd (d := .str z) (ev_var rfl))) ?_
      refine no (et_B (isi1 rfl)) ?_
      refine yes (et_B (isi1 rfl)) ?_
      refine es_ret (ev_andV (isi0 rfl) fun _ => ev_eq (ev_var rfl) (ev_var rfl) rfl) ?_
      simp [AR]
    | int i =>
      refine no (et_B (ev_isNd (d := .int i) (ev_var rfl))) ?_
      refine no (et_B (isi1 rfl)) ?_
      refine no (et_B (isi1 rfl)) ?_
      refine yes (et_B (isi1 rfl)) ?_
      refine es_ret (ev_andV (isi0 rfl) fun _ => ev_andV (ev_notV (isi0 (b := false) rfl)) fun _ => ev_eq (ev_var rfl) (ev_var rfl) rfl) ?_
      simp [AR]
    | dict z => rcases hx with h | ⟨ds, h | h, _⟩ <;> first | exact h.elim | cases h
    | list ds =>
      obtain ⟨hl, hf⟩ : ds.length ≤ 1000 ∧ ∀ y ∈ ds, Fit n y := by
        rcases hx with h | ⟨ds', h | h, h2⟩
        · exact h.elim
        · cases h; exact h2
        · cases h
      have l0 : EVL K [.val (dat (.list ds)), .val (dat (.list ds)), .un] (tVar 0) (dats ds) := evl_var rfl
      have l1 : EVL K [.val (dat (.list ds)), .val (dat (.list ds)), .un] (tVar 1) (dats ds) := evl_var rfl
      refine no (et_B (ev_isNd (d := .list ds) (ev_var rfl))) ?_
      refine no (et_B (isi1 rfl)) ?_
      refine no (et_B (isi1 rfl)) ?_
      refine no (et_B (isi1 rfl)) ?_
      refine no ((et_or (et_test (ev_ne (isi1 (b := true) rfl) (isi0 (b := true) rfl) rfl)) fun _ => et_test (ev_ne (isi1 (b := false) rfl) (isi0 (b := false) rfl) rfl)).is (by simp)) ?_
      refine no ((et_test (ev_neI (ev_len l0) (ev_len l1))).is (by simp)) ?_
      have hdl : (dats ds).length = ds.length := by rw [dats_map, List.length_map]
      refine es_ret (ev_all (bs := (List.range ds.length).map fun _ => true) (EVF.evl (EVF.is (evf_lcR (lo := 0) (n := ds.length) (fun B G0 σ G H k R z => w_range1 (ev_len l1) (by omega) (by omega) B G0 σ G H k R (by rw [hdl, Int.toNat_natCast]; exact z)) (fun _ => true) (fun _ => nB true) (by omega) (fun j hj => et_yes) (fun j hj _ => ?_)) (by rw [accL_all, List.map_map]; rfl)))) ?_
      · have hj2 : ds[j]? = some ds[j] := List.getElem?_eq_getElem hj
        have hat : (dats ds)[j]? = some (dat ds[j]) := by rw [dats_map, List.getElem?_map, hj2]; rfl
        refine ev_call ds[j] (ea_val (ev_ixA (i := j) (.inl (evl_var (l := dats ds) rfl)) (ev_var rfl) (by omega) hat) (ea_val (ev_ixA (i := j) (.inl (evl_var (l := dats ds) rfl)) (ev_var rfl) (by omega) hat) ea_nil)) (hf _ (List.getElem_mem hj)) rfl
      · rw [all_true]; rfl
    | tuple ds =>
      obtain ⟨hl, hf⟩ : ds.length ≤ 1000 ∧ ∀ y ∈ ds, Fit n y := by
        rcases hx with h | ⟨ds', h | h, h2⟩
        · exact h.elim
        · cases h
        · cases h; exact h2
      have l0 : EV K [.val (dat (.tuple ds)), .val (dat (.tuple ds)), .un] (tVar 0) (tuA (dats ds)) := ev_var rfl
      have l1 : EV K [.val (dat (.tuple ds)), .val (dat (.tuple ds)), .un] (tVar 1) (tuA (dats ds)) := ev_var rfl
      refine no (et_B (ev_isNd (d := .tuple ds) (ev_var rfl))) ?_
      refine no (et_B (isi1 rfl)) ?_
      refine no (et_B (isi1 rfl)) ?_
      refine no (et_B (isi1 rfl)) ?_
      refine no ((et_or (et_test (ev_ne (isi1 (b := false) rfl) (isi0 (b := false) rfl) rfl)) fun _ => et_test (ev_ne (isi1 (b := true) rfl) (isi0 (b := true) rfl) rfl)).is (by simp)) ?_
      refine no ((et_test (ev_neI (ev_lenT l0) (ev_lenT l1))).is (by simp)) ?_
      have hdl : (dats ds).length = ds.length := by rw [dats_map, List.length_map]
      refine es_ret (ev_all (bs := (List.range ds.length).map fun _ => true) (EVF.evl (EVF.is (evf_lcR (lo := 0) (n := ds.length) (fun B G0 σ G H k R z => w_range1 (ev_lenT l1) (by omega) (by omega) B G0 σ G H k R (by rw [hdl, Int.toNat_natCast]; exact z)) (fun _ => true) (fun _ => nB true) (by omega) (fun j hj => et_yes) (fun j hj _ => ?_)) (by rw [accL_all, List.map_map]; rfl)))) ?_
      · have hj2 : ds[j]? = some ds[j] := List.getElem?_eq_getElem hj
        have hat : (dats ds)[j]? = some (dat ds[j]) := by rw [dats_map, List.getElem?_map, hj2]; rfl
        refine ev_call ds[j] (ea_val (ev_ixA (i := j) (.inr (ev_var (r := tuA (dats ds)) rfl)) (ev_var rfl) (by omega) hat) (ea_val (ev_ixA (i := j) (.inr (ev_var (r := tuA (dats ds)) rfl)) (ev_var rfl) (by omega) hat) ea_nil)) (hf _ (List.getElem_mem hj)) rfl
      · rw [all_true]; rfl
end

section
variable {P : Program} {w : World} {K : PySem.W.Frag} {mg : Str → Option Value} {base : Heap}

abbrev s_Network_size : Stmt := inClass (topS 5) 1
abbrev n_Network_size : List Str := ["self"]
theorem sc_Network_size : FnScope n_Network_size ["self"] (defScope s_Network_size) := ⟨rfl, rfl, rfl, by decide +kernel, rfl, by decide +kernel, by decide +kernel⟩

abbrev sp_Network_size (K : PySem.W.Frag) (c : Cs) : Sp := spX K (X := List Int × List (List Int)) (fun x => [.val (inA c.Network (nF x.1 x.2))]) (fun _ => True) (fun x => .val (nI (x.1.length : Nat)))

theorem ok_Network_size {c : Cs} (T : Tx K mg c) (M : Bl mg)  (d : MetAt K c.Network "size" "Network.size" s_Network_size ["self"]) : MetA P w K mg base 1 c.Network "size" (sp_Network_size K c) := by
  refine metA d sc_Network_size (fun _ => rfl) fun f cdv A outer s H E hr => ⟨_, (pss_one (ps_ret (pe_callB (len_seqK K) (by rfl) M.len bt_len (pa_cons (pe_fld (pv 0) rfl) pa_nil)))), ?_⟩
  try dsimp only [cxOf, Cx.nox, Cx.wish, Cx.blk]

  rintro ⟨ns, nb⟩ _
  show ES K [.val (inA c.Network (nF ns nb))] _ _
  refine es_ret (ev_len (l := ns.map nI) (ev_fld (ev_var rfl) T.cl_Network T.n_Network__names rfl).evl) ?_
  rw [List.length_map]; rfl
end

section
variable {P : Program} {w : World} {K : PySem.W.Frag} {mg : Str → Option Value} {base : Heap}

abbrev s_Network_degree : Stmt := inClass (topS 5) 4
abbrev n_Network_degree : List Str := ["self", "node"]
theorem sc_Network_degree : FnScope n_Network_degree ["self", "node"] (defScope s_Network_degree) := ⟨rfl, rfl, rfl, by decide +kernel, rfl, by decide +kernel, by decide +kernel⟩

abbrev sp_Network_degree (K : PySem.W.Frag) (c : Cs) : Sp := spX K (X := (List Int × List (List Int)) × Nat) (fun x => [.val (inA c.Network (nF x.1.1 x.1.2)), .val (nI (x.2 : Nat))]) (fun x => x.2 < x.1.2.length) (fun x => .val (nI ((x.1.2.getD x.2 []).length : Nat)))

theorem ok_Network_degree {c : Cs} (T : Tx K mg c) (M : Bl mg)  (d : MetAt K c.Network "degree" "Network.degree" s_Network_degree ["self", "node"]) : MetA P w K mg base 1 c.Network "degree" (sp_Network_degree K c) := by
  refine metA d sc_Network_degree (fun _ => rfl) fun f cdv A outer s H E hr => ⟨_, (pss_one (ps_ret (pe_callB (len_seqK K) (by rfl) M.len bt_len (pa_cons (pe_ix (ix_listK K) (pe_fld (pv 0) rfl) (pv 1) (fun _ _ => rfl)) pa_nil)))), ?_⟩
  try dsimp only [cxOf, Cx.nox, Cx.wish, Cx.blk]

  rintro ⟨⟨ns, nb⟩, n⟩ hn
  dsimp only at hn
  show ES K [.val (inA c.Network (nF ns nb)), .val (nI (n : Nat))] _ _
  refine es_ret (ev_len (l := (nb.getD n []).map nI) (ev_ixL (i := n) (r := rowA (nb.getD n [])) (ev_fld (ev_var rfl) T.cl_Network T.n_Network__neighbors rfl).evl (ev_var rfl) rfl ?_).evl) ?_
  · rw [List.getElem?_map, List.getD_eq_getElem?_getD, List.getElem?_eq_getElem hn]; rfl
  · rw [List.length_map]; rfl
end

section
variable {P : Program} {w : World} {K : PySem.W.Frag} {mg : Str → Option Value} {base : Heap}

abbrev s__law_made : Stmt := topS 20
abbrev n__law_made : List Str := ["net", "around"]
theorem sc__law_made : FnScope n__law_made ["net"] (defScope s__law_made) := ⟨rfl, rfl, rfl, by decide +kernel, rfl, by decide +kernel, by decide +kernel⟩

abbrev netA (ns : List Int) (nb : List (List Int)) : AbsV := tuA [lsA (ns.map nI), lsA (nb.map fun r => lsA (r.map nI))]
abbrev sp__law_made (K : PySem.W.Frag) (c : Cs) : Sp := spX K (X := List Int × List (List Int)) (fun x => [.val (netA x.1 x.2)]) (fun x => okNet x.1 x.2 = true ∧ x.1.length ≤ 4000 ∧ x.2.length ≤ 4000 ∧ ∀ i, i < x.2.length → (x.2.getD i []).length ≤ 4000) (fun x => .val (inA c.Network (nF x.1 x.2)))

theorem ok__law_made {c : Cs} (T : Tx K mg c) (M : Bl mg) (m_Network : MakX P w K mg base 2 "Network" c.Network (sp_Network___init__ K c)) (d : DefAt K mg "_law_made" s__law_made ["net"]) : Cal P w K mg base 4 "_law_made" (sp__law_made K c) := by
  refine calA d sc__law_made (fun _ => rfl) fun f cdv A outer s H E hr => ⟨_, (pss_one (ps_ret (pe_mx m_Network hr (by decide) (by rfl) passL (pa_cons (pe_callTy (list_ofK K) (by rfl) M.list bt_list (pa_cons (pe_ix (ix_tupK K) (pv 0) pe_int (fun _ _ => rfl)) pa_nil)) (pa_cons (pe_lc (own := [("around", 1)]) rfl sc__law_made.nd (pi_listK K (pe_ix (ix_tupK K) (pv 0) pe_int (fun _ _ => rfl))) (blkOk_by (own := [("around", 1)]) (N := n__law_made) (sc := defScope s__law_made) (by decide +kernel)) (fun _ _ _ _ _ => (pg_name (i := 1) sc__law_made.nd rfl (Or.inl rfl))) (fun _ _ _ _ _ => pts_nil) (fun _ _ _ _ _ => (pe_callTy (list_ofK K) (by rfl) M.list bt_list (pa_cons (pv 1) pa_nil)))) pa_nil))))), ?_⟩
  try dsimp only [cxOf, Cx.nox, Cx.wish, Cx.blk]

  rintro ⟨ns, nb⟩ ⟨h1, h2, h3, h4⟩
  dsimp only at h1 h2 h3 h4
  show ES K [.val (netA ns nb), .un] _ _
  have e : outI c.Network (nF ns nb) (if okNet ns nb = true then none else some c.InvalidNetwork) = .inl (.val (inA c.Network (nF ns nb))) := by rw [h1]; rfl
  refine es_ret (EX.ev (ex_make (ns, nb) (ea_val (EVF.ev (evf_list (ev_ixT (i := 0) (ev_var rfl) ev_int rfl rfl).evl)) (ea_val (EVF.ev (EVF.is (evf_lcL (l := nb.map rowA) (EV.evs (ev_ixT (i := 1) (ev_var rfl) ev_int rfl rfl)) (fun _ => true) (fun j => rowA (nb.getD j [])) (by rw [List.length_map]; omega) (fun _ _ _ => et_yes) (fun j r hj _ => ?_)) (by rw [List.length_map, accL_rows rowA]))) ea_nil)) ⟨h2, h3, h4⟩) e) rfl
  obtain ⟨_, rfl⟩ := map_row hj
  exact (evf_list (ev_var rfl).evl).ev
end

section
variable {P : Program} {w : World} {K : PySem.W.Frag} {mg : Str → Option Value} {base : Heap}

abbrev s__law_drawn : Stmt := topS 21
abbrev n__law_drawn : List Str := ["script", "k", "most"]
theorem sc__law_drawn : FnScope n__law_drawn ["script", "k", "most"] (defScope s__law_drawn) := ⟨rfl, rfl, rfl, by decide +kernel, rfl, by decide +kernel, by decide +kernel⟩

abbrev sp__law_drawn (K : PySem.W.Frag) : Sp := spX K (X := List Int × Int × Int) (fun x => [.scr x.1, .val (nI x.2.1), .val (nI x.2.2)]) (fun x => 0 ≤ x.2.1 ∧ 3 ≤ x.2.2 ∧ x.2.2 ≤ 40) (fun x => .val (netA (netF (absI (x.1.getD x.2.1.toNat 0)) x.2.2).1 (netF (absI (x.1.getD x.2.1.toNat 0)) x.2.2).2))

theorem ok__law_drawn {c : Cs} (T : Tx K mg c) (M : Bl mg) (c_law_net : Cal P w K mg base 2 "_law_net" (sp__law_net K)) (c_law_cell : Cal P w K mg base 1 "_law_cell" (sp__law_cell K)) (d : DefAt K mg "_law_drawn" s__law_drawn ["script", "k", "most"]) : Cal P w K mg base 3 "_law_drawn" (sp__law_drawn K) := by
  refine calA d sc__law_drawn (fun _ => rfl) fun f cdv A outer s H E hr => ⟨_, (pss_one (ps_ret (pe_ca c_law_net hr (by decide) (by rfl) (pa_cons (pe_callB call_abs (by rfl) M.abs bt_abs (pa_cons (pe_ca c_law_cell hr (by decide) (by rfl) (pa_cons (pv 0) (pa_cons (pv 1) pa_nil))) pa_nil)) (pa_cons (pv 2) pa_nil))))), ?_⟩
  try dsimp only [cxOf, Cx.nox, Cx.wish, Cx.blk]

  rintro ⟨ns, k, most⟩ ⟨h0, h1, h2⟩
  dsimp only at h0 h1 h2
  show ES K [.scr ns, .val (nI k), .val (nI most)] _ _
  exact es_ret (ev_call (absI (ns.getD k.toNat 0), most) (ea_val (ev_abs (ev_call (ns, k) (by walk_at "ea") h0 rfl)) (ea_val (ev_var rfl) ea_nil)) ⟨by dsimp only; unfold absI; split <;> omega, h1, h2⟩ rfl) rfl
end

section
variable {P : Program} {w : World} {K : PySem.W.Frag} {mg : Str → Option Value} {base : Heap}

abbrev s__greatest : Stmt := topS 12
abbrev n__greatest : List Str := ["network", "degree", "node"]
theorem sc__greatest : FnScope n__greatest ["network"] (defScope s__greatest) := ⟨rfl, rfl, rfl, by decide +kernel, rfl, by decide +kernel, by decide +kernel⟩

def maxOf : List Int → Int
  | [] => 0
  | a :: l => if l.isEmpty = true ∨ maxOf l ≤ a then a else maxOf l
theorem maxOf_spec : ∀ {ns : List Int}, ns ≠ [] → maxOf ns ∈ ns ∧ ∀ x ∈ ns, x ≤ maxOf ns
  | [], h => absurd rfl h
  | a :: l, _ => by
    cases l with
    | nil => exact ⟨by unfold maxOf; simp, fun x hx => by
        have : x = a := by simpa using hx
        rw [this]; unfold maxOf; simp⟩
    | cons b l =>
      obtain ⟨h1, h2⟩ := maxOf_spec (ns := b :: l) (by simp)
      have e : maxOf (a :: b :: l) = if maxOf (b :: l) ≤ a then a else maxOf (b :: l) := by
        conv => lhs; unfold maxOf
        simp
      rw [e]
      split
      · rename_i hle
        exact ⟨by simp, fun x hx => by
          rcases List.mem_cons.mp hx with z | z
          · rw [z]; exact Int.le_refl _
          · exact Int.le_trans (h2 x z) hle⟩
      · rename_i hle
        exact ⟨List.mem_cons_of_mem _ h1, fun x hx => by
          rcases List.mem_cons.mp hx with z | z
          · rw [z]; omega
          · exact h2 x z⟩
def degs (nb : List (List Int)) : List Int := (List.range nb.length).map fun k => (((nb.getD k []).length : Nat) : Int)
abbrev sp__greatest (K : PySem.W.Frag) (c : Cs) : Sp := spX K (X := List Int × List (List Int)) (fun x => [.val (inA c.Network (nF x.1 x.2))]) (fun x => x.1 ≠ [] ∧ x.2.length = x.1.length ∧ x.1.length ≤ 4000) (fun x => .val (tuA [nI (maxOf (degs x.2)), nI (maxOf x.1)]))

theorem ok__greatest {c : Cs} (T : Tx K mg c) (M : Bl mg) (m_Network_names : MetA P w K mg base 1 c.Network "names" (sp_Network_names K c)) (m_Network_size : MetA P w K mg base 1 c.Network "size" (sp_Network_size K c)) (m_Network_degree : MetA P w K mg base 1 c.Network "degree" (sp_Network_degree K c)) (d : DefAt K mg "_greatest" s__greatest ["network"]) : Cal P w K mg base 2 "_greatest" (sp__greatest K c) := by
  refine calA d sc__greatest (fun _ => rfl) fun f cdv A outer s H E hr => ⟨_, (pss_cons (ps_set (i := 1) sc__greatest.nd rfl (Or.inl rfl) (pe_callB (maxK K rfl) (by rfl) M.max bt_max (pa_cons (pe_lc (own := [("node", 2)]) rfl sc__greatest.nd (pi_range1 (by rfl) M.range (pa_cons (pe_ma0 m_Network_size hr (by decide) (pv 0)) pa_nil)) (blkOk_by (own := [("node", 2)]) (N := n__greatest) (sc := defScope s__greatest) (by decide +kernel)) (fun _ _ _ _ _ => (pg_name (i := 2) sc__greatest.nd rfl (Or.inl rfl))) (fun _ _ _ _ _ => pts_nil) (fun _ _ _ _ _ => (pe_ma m_Network_degree hr (by decide) (pv 0) (pa_cons (pv 2) pa_nil)))) pa_nil)))
      (pss_one (ps_ret (pe_tup (pa_cons (pv 1) (pa_cons (pe_callB (maxK K rfl) (by rfl) M.max bt_max (pa_cons (pe_ma0 m_Network_names hr (by decide) (pv 0)) pa_nil)) pa_nil)))))), ?_⟩
  try dsimp only [cxOf, Cx.nox, Cx.wish, Cx.blk]

  rintro ⟨ns, nb⟩ ⟨h1, h2, h3⟩
  dsimp only at h1 h2 h3
  show ES K [.val (inA c.Network (nF ns nb)), .un, .un] _ _
  have hpos : 0 < ns.length := by
    cases ns with
    | nil => exact absurd rfl h1
    | cons a l => simp
  have hd : degs nb ≠ [] := fun z => by
    have : (degs nb).length = 0 := by rw [z]; rfl
    unfold degs at this
    rw [List.length_map, List.length_range] at this
    omega
  refine es_seq (es_asg (ev_maxL (ns := degs nb) (EVF.evl (EVF.is (evf_lcR (lo := 0) (n := nb.length) (fun B G0 σ G H k R z => w_range1 (a := ((ns.length : Nat) : Int)) (ev_meth (C := c.Network) (fs := nF ns nb) (as := []) (ns, nb) (ev_var rfl) rfl ea_nil rfl trivial rfl) (by omega) (by omega) B G0 σ G H k R (by rw [Int.toNat_natCast, ← h2]; exact z)) (fun _ => true) (fun k => nI (((nb.getD k []).length : Nat))) (by omega) (fun _ _ => et_yes) (fun j hj _ => ?_)) (by rw [accL_all]; unfold degs; rw [List.map_map]; rfl))) (maxOf_spec hd).1 (maxOf_spec hd).2) ?_)
  · rw [Int.zero_add]
    exact ev_meth (C := c.Network) (fs := nF ns nb) (as := [.val (nI (j : Nat))]) ((ns, nb), j) (ev_var rfl) rfl (ea_val (ev_var rfl) ea_nil) rfl hj rfl
  walk_at "nx"
  exact es_ret (ev_tup (eav_cons (ev_var rfl) (eav_cons (ev_maxL (ns := ns) (EVF.evl (evf_meth (C := c.Network) (fs := nF ns nb) (as := []) (ns, nb) (ev_var rfl) rfl ea_nil rfl h3 rfl)) (maxOf_spec h1).1 (maxOf_spec h1).2) eav_nil)) (by simp)) rfl
end

section
variable {P : Program} {w : World} {K : PySem.W.Frag} {mg : Str → Option Value} {base : Heap}

abbrev s_suits : Stmt := topS 10
abbrev n_suits : List Str := ["network", "bounds", "degree", "name"]
theorem sc_suits : FnScope n_suits ["network", "bounds"] (defScope s_suits) := ⟨rfl, rfl, rfl, by decide +kernel, rfl, by decide +kernel, by decide +kernel⟩

abbrev sp_suits (K : PySem.W.Frag) (c : Cs) : Sp := spX K (X := (List Int × List (List Int)) × Int × Int) (fun x => [.val (inA c.Network (nF x.1.1 x.1.2)), .val (tuA [nI x.2.1, nI x.2.2])]) (fun x => x.1.1 ≠ [] ∧ x.1.2.length = x.1.1.length ∧ x.1.1.length ≤ 4000) (fun x => .val (nB (decide (maxOf (degs x.1.2) ≤ x.2.1) && decide (maxOf x.1.1 < x.2.2))))

theorem ok_suits {c : Cs} (T : Tx K mg c) (M : Bl mg) (c_greatest : Cal P w K mg base 2 "_greatest" (sp__greatest K c)) (d : DefAt K mg "suits" s_suits ["network", "bounds"]) : Cal P w K mg base 3 "suits" (sp_suits K c) := by
  refine calA d sc_suits (fun _ => rfl) fun f cdv A outer s H E hr => ⟨_, (pss_cons (ps_asg (pe_ca c_greatest hr (by decide) (by rfl) (pa_cons (pv 0) pa_nil)) (pg_tupK K (n := 2) (by rfl) (pgs_cons (pg_name (i := 2) sc_suits.nd rfl (Or.inl rfl)) (pgs_cons (pg_name (i := 3) sc_suits.nd rfl (Or.inl rfl)) pgs_nil))))
      (pss_one (ps_ret (pe_and (pe_cmpR op_le (pv 2) (pe_ix (ix_tupK K) (pv 1) pe_int (fun _ _ => rfl)) (nomark _)) (pe_one (pe_cmpR op_lt (pv 3) (pe_ix (ix_tupK K) (pv 1) pe_int (fun _ _ => rfl)) (nomark _))))))), ?_⟩
  try dsimp only [cxOf, Cx.nox, Cx.wish, Cx.blk]

  rintro ⟨⟨ns, nb⟩, a, b⟩ h
  show ES K [.val (inA c.Network (nF ns nb)), .val (tuA [nI a, nI b]), .un, .un] _ _
  refine es_seq (es_asgG (ev_call (ns, nb) (by walk_at "ea") h rfl) (gt_tup (gts_cons gt_name (gts_cons gt_name gts_nil))) ?_)
  walk_at "nx"
  exact es_ret (ev_andV (ev_I0 (ev_var rfl) (ev_ixT (i := 0) (ev_var rfl) ev_int rfl rfl)) (fun _ => ev_I0 (ev_var rfl) (ev_ixT (i := 1) (ev_var rfl) ev_int rfl rfl))) rfl
end

section
variable {P : Program} {w : World} {K : PySem.W.Frag} {mg : Str → Option Value} {base : Heap}

abbrev s_bounds_of : Stmt := topS 11
abbrev n_bounds_of : List Str := ["network", "degree", "name"]
theorem sc_bounds_of : FnScope n_bounds_of ["network"] (defScope s_bounds_of) := ⟨rfl, rfl, rfl, by decide +kernel, rfl, by decide +kernel, by decide +kernel⟩

abbrev sp_bounds_of (K : PySem.W.Frag) (c : Cs) : Sp := spX K (X := List Int × List (List Int)) (fun x => [.val (inA c.Network (nF x.1 x.2))]) (fun x => x.1 ≠ [] ∧ x.2.length = x.1.length ∧ x.1.length ≤ 4000) (fun x => .val (tuA [nI (if maxOf (degs x.2) > 1 then maxOf (degs x.2) else 1), nI (maxOf x.1 + 1)]))

theorem ok_bounds_of {c : Cs} (T : Tx K mg c) (M : Bl mg) (c_greatest : Cal P w K mg base 2 "_greatest" (sp__greatest K c)) (d : DefAt K mg "bounds_of" s_bounds_of ["network"]) : Cal P w K mg base 3 "bounds_of" (sp_bounds_of K c) := by
  refine calA d sc_bounds_of (fun _ => rfl) fun f cdv A outer s H E hr => ⟨_, (pss_cons (ps_asg (pe_ca c_greatest hr (by decide) (by rfl) (pa_cons (pv 0) pa_nil)) (pg_tupK K (n := 2) (by rfl) (pgs_cons (pg_name (i := 1) sc_bounds_of.nd rfl (Or.inl rfl)) (pgs_cons (pg_name (i := 2) sc_bounds_of.nd rfl (Or.inl rfl)) pgs_nil))))
      (pss_one (ps_ret (pe_tup (pa_cons (pe_callB (call_max2 rfl) (by rfl) M.max bt_max (pa_cons pe_int (pa_cons (pv 1) pa_nil))) (pa_cons (pe_op op_add (pv 2) pe_int) pa_nil)))))), ?_⟩
  try dsimp only [cxOf, Cx.nox, Cx.wish, Cx.blk]

  rintro ⟨ns, nb⟩ h
  show ES K [.val (inA c.Network (nF ns nb)), .un, .un] _ _
  refine es_seq (es_asgG (ev_call (ns, nb) (by walk_at "ea") h rfl) (gt_tup (gts_cons gt_name (gts_cons gt_name gts_nil))) ?_)
  walk_at "nx"
  exact es_ret (ev_tup (eav_cons (by walk_at "ev") (eav_cons (by walk_at "ev") eav_nil)) (by simp)) rfl
end

section
variable {P : Program} {w : World} {K : PySem.W.Frag} {mg : Str → Option Value} {base : Heap}

abbrev s_distances : Stmt := topS 9
abbrev n_distances : List Str := ["network", "node", "found", "edge", "distance", "further", "near", "other"]
theorem sc_distances : FnScope n_distances ["network", "node"] (defScope s_distances) := ⟨rfl, rfl, rfl, by decide +kernel, rfl, by decide +kernel, by decide +kernel⟩

abbrev sp_distances (K : PySem.W.Frag) (c : Cs) : Sp := spX K (X := (List Int × List (List Int)) × Nat) (fun x => [.val (inA c.Network (nF x.1.1 x.1.2)), .val (nI (x.2 : Nat))]) (fun x => x.1.2.length = x.1.1.length ∧ x.1.1.length ≤ 4000 ∧ x.2 < x.1.2.length ∧ ∀ i, i < x.1.2.length → InR x.1.2.length (x.1.2.getD i [])) (fun x => .own ((farF x.1.2 x.2).1.map oA))

theorem ok_distances {c : Cs} (T : Tx K mg c) (M : Bl mg) (m_Network_neighbors : MetA P w K mg base 1 c.Network "neighbors" (sp_Network_neighbors K c)) (m_Network_size : MetA P w K mg base 1 c.Network "size" (sp_Network_size K c)) (d : DefAt K mg "distances" s_distances ["network", "node"]) : Cal P w K mg base 2 "distances" (sp_distances K c) := by
  refine calA d sc_distances (fun _ => rfl) fun f cdv A outer s H E hr => ⟨_, (pss_cons (ps_set (i := 2) sc_distances.nd rfl (Or.inl rfl) (pe_op op_rep (pe_lst (pa_cons pe_non pa_nil)) (pe_ma0 m_Network_size hr (by decide) (pv 0))))
      (pss_cons (ps_asg pe_int (pg_sub (pv 2) (pv 1) set_list))
      (pss_cons (ps_set (i := 3) sc_distances.nd rfl (Or.inl rfl) (pe_lst (pa_cons (pv 1) pa_nil)))
      (pss_cons (ps_set (i := 4) sc_distances.nd rfl (Or.inl rfl) pe_int)
      (pss_cons (ps_while PassesOwn.never (pt_truth (pv 3) (by intro _; rfl)) (pss_cons (ps_aug (i := 4) sc_distances.nd rfl (Or.inl rfl) pe_int ip_add)
      (pss_cons (ps_set (i := 5) sc_distances.nd rfl (Or.inl rfl) (pe_lst pa_nil))
      (pss_cons (ps_for PassesOwn.never rfl (pi_listK K (pv 3)) (pg_name (i := 6) sc_distances.nd rfl (Or.inl rfl)) (pss_one (ps_for PassesOwn.never rfl (pi_listK K (pe_ma m_Network_neighbors hr (by decide) (pv 0) (pa_cons (pv 6) pa_nil))) (pg_name (i := 7) sc_distances.nd rfl (Or.inl rfl)) (pss_one (ps_if (pt_cmp (pc_isN (pe_ix (ix_listK K) (pv 2) (pv 7) (fun _ _ => rfl)))) (pss_cons (ps_asg (pv 4) (pg_sub (pv 2) (pv 7) set_list))
      (pss_one (ps_expr (pe_bm PySem.F.plainAttrs_list PySem.F.slot_list_append PySem.F.type_list_append mt_append (pv 5) (pa_cons (pv 7) pa_nil))))) pss_nil)))))
      (pss_one (ps_set (i := 3) sc_distances.nd rfl (Or.inl rfl) (pv 5)))))))
      (pss_one (ps_ret (pv 2)))))))), ?_⟩
  try dsimp only [cxOf, Cx.nox, Cx.wish, Cx.blk]

  rintro ⟨⟨ns, nb⟩, v⟩ ⟨h1, h2, h3, h4⟩
  dsimp only at h1 h2 h3 h4
  show ES K [.val (inA c.Network (nF ns nb)), .val (nI (v : Nat)), .un, .un, .un, .un, .un, .un] _ _
  have hF0 : List.flatten (List.replicate ((ns.length : Nat) : Int).toNat [nN]) = (List.replicate nb.length (none : Option Int)).map oA := by
    rw [Int.toNat_natCast, ← h1, List.flatten_replicate_singleton, List.map_replicate]
  refine es_seq (es_asgF (EVF.is (evf_rep (l := [nN]) (n := ((ns.length : Nat) : Int)) (EVF.evl (evf_lst (eav_cons ev_non eav_nil) (by simp))) (ev_meth (C := c.Network) (fs := nF ns nb) (as := []) (ns, nb) (ev_var rfl) rfl ea_nil rfl trivial rfl) (by omega) (by simp; omega) (by omega)) hF0) ?_)
  walk_at "nx"
  refine es_seq (es_setI (i := 2) (j := v) rfl ev_int (ev_var rfl) rfl (by rw [List.length_map, List.length_replicate]; exact h3) ?_)
  walk_at "nx"
  have hset : ((List.replicate nb.length (none : Option Int)).map oA).set v (nI 0) = ((List.replicate nb.length (none : Option Int)).set v (some 0)).map oA := by rw [List.map_set]
  rw [hset]
  have hlF : ((List.replicate nb.length (none : Option Int)).set v (some 0)).length = nb.length := by rw [List.length_set, List.length_replicate]
  have hnF : nones ((List.replicate nb.length (none : Option Int)).set v (some 0)) ≤ nb.length := by
    unfold nones
    exact Nat.le_trans (List.length_filter_le _ _) (by omega)
  have hR := far_run h4 h3
  generalize (farF nb v).1 = R at hR
  generalize (List.replicate nb.length (none : Option Int)).set v (some 0) = F0 at hlF hnF hR
  refine es_seq (es_asgF (l := [nI (v : Nat)]) (evf_lst (eav_cons (ev_var rfl) eav_nil) (by simp)) ?_)
  walk_at "nx"
  refine es_seq (es_asg ev_int ?_)
  walk_at "nx"
  refine es_freeze (i := 3) rfl ?_
  walk_at "nx"
  have hin0 : InR nb.length [((v : Nat) : Int)] := fun o ho => by
    have e : o = ((v : Nat) : Int) := by simpa using ho
    rw [e]
    exact ⟨by omega, by omega⟩
  refine es_seq (es_while (fun m E => ∃ (F : List (Option Int)) (e : List Int) (d : Int) (s5 s6 s7 : Slot), E = [.val (inA c.Network (nF ns nb)), .val (nI (v : Nat)), .own (F.map oA), .val (lsA (e.map nI)), .val (nI d), s5, s6, s7] ∧ bRun nb m d F e = R ∧ F.length = nb.length ∧ InR nb.length e ∧ (e ≠ [] → nones F + 1 ≤ m)) (nb.length + 1) ⟨F0, [((v : Nat) : Int)], 0, _, _, _, rfl, hR, hlF, hin0, fun _ => by omega⟩ ?_)
  rintro m _ ⟨F, e, d, s5, s6, s7, rfl, hr, hlf, hin, hm⟩
  refine ⟨_, et_truthL (l := e.map nI) (by walk_at "evl") _ (fun _ _ _ h => h), fun hT => ?_, fun hF => ?_⟩
  · rw [emp_map] at hT
    have hne : e ≠ [] := fun z => by rw [z] at hT; cases hT
    have hm1 := hm hne
    obtain ⟨m', rfl⟩ : ∃ m', m = m' + 1 := ⟨m - 1, by omega⟩
    have hr2 : bRun nb m' (d + 1) (bLayer nb (d + 1) e (F, [])).1 (bLayer nb (d + 1) e (F, [])).2 = R := by
      have he : e.isEmpty = false := by revert hT; cases e.isEmpty <;> simp
      rw [← hr]
      show _ = if e.isEmpty = true then F else _
      rw [he]; rfl
    have hb0 : BOk nb.length (F, []) (nones F) := ⟨hlf, fun o ho => (nomatch ho), rfl⟩
    have hfin := bLayer_ok (d := d + 1) h4 hin hb0
    have hnl : nones F ≤ nb.length := by
      unfold nones
      exact Nat.le_trans (List.length_filter_le _ _) (by omega)
    refine es_seq (es_aug rfl ev_int ?_)
    walk_at "nx"
    refine es_seq (es_asgF (l := []) (evf_lst eav_nil (by simp)) ?_)
    walk_at "nx"
    refine es_seq (es_forL (l := e.map nI) (fun i E => ∃ s6 s7, E = [.val (inA c.Network (nF ns nb)), .val (nI (v : Nat)), .own ((bLayer nb (d + 1) (e.take i) (F, [])).1.map oA), .val (lsA (e.map nI)), .val (nI (d + 1)), .own ((bLayer nb (d + 1) (e.take i) (F, [])).2.map nI), s6, s7]) (ev_var rfl).evs ⟨_, _, rfl⟩ ?_ ?_)
    · rintro i r _ hi ⟨s6, s7, rfl⟩
      obtain ⟨x, hx, rfl⟩ := map_int hi
      have hxb := hin x (List.mem_of_getElem? hx)
      have hb1 := bLayer_ok (d := d + 1) (edge := e.take i) h4 (fun o ho => hin o (List.mem_of_mem_take ho)) hb0
      have hstep := layer_take (nb := nb) (d := d + 1) (s := (F, [])) hx
      rw [hstep]
      generalize bLayer nb (d + 1) (e.take i) (F, []) = s0 at hb1
      have hrow := h4 x.toNat (by omega)
      refine ⟨_, gt_name, ?_⟩
      walk_at "nx"
      refine es_forL (l := (nb.getD x.toNat []).map nI) (fun j E => ∃ s7, E = [.val (inA c.Network (nF ns nb)), .val (nI (v : Nat)), .own ((bRow (d + 1) ((nb.getD x.toNat []).take j) s0).1.map oA), .val (lsA (e.map nI)), .val (nI (d + 1)), .own ((bRow (d + 1) ((nb.getD x.toNat []).take j) s0).2.map nI), .val (nI x), s7]) (EVF.evs (evf_meth (C := c.Network) (fs := nF ns nb) (as := [.val (nI (x.toNat : Nat))]) ((ns, nb), x.toNat) (ev_var rfl) rfl (ea_val (ev_var (by show _ = some (Slot.val (nI ((x.toNat : Nat) : Int))); rw [Int.toNat_of_nonneg hxb.1]; rfl)) ea_nil) rfl (by show x.toNat < nb.length; omega) rfl)) ⟨_, rfl⟩ ?_ ?_
      · rintro j r _ hj ⟨s7, rfl⟩
        obtain ⟨o, ho, rfl⟩ := map_int hj
        have hob := hrow o (List.mem_of_getElem? ho)
        have hb2 := bRow_ok (d := d + 1) (row := (nb.getD x.toNat []).take j) (fun o ho => hrow o (List.mem_of_mem_take ho)) hb1
        rw [row_take ho]
        generalize bRow (d + 1) ((nb.getD x.toNat []).take j) s0 = s at hb2
        have hsl := hb2.len
        refine ⟨_, gt_name, ?_⟩
        walk_at "nx"
        have hat : (s.1.map oA)[o.toNat]? = some (oA (s.1.getD o.toNat none)) := by
          rw [List.getElem?_map, List.getD_eq_getElem?_getD, List.getElem?_eq_getElem (by omega)]; rfl
        refine es_if (et_test (ev_isN (b := (s.1.getD o.toNat none).isNone) (ev_ixL (i := o.toNat) (evl_own rfl) (ev_var rfl) (by omega) hat) (fun G w hw => ?_))) (fun h => ?_) (fun h => ?_)
        · cases ez : s.1.getD o.toNat none with
          | none => rw [ez] at hw; cases hw; rfl
          | some y => rw [ez] at hw; cases hw; rfl
        · have e1 : bStep (d + 1) s o = (s.1.set o.toNat (some (d + 1)), s.2 ++ [o]) := by unfold bStep; rw [if_pos h]
          refine es_seq (es_setI (i := 2) (j := o.toNat) rfl (ev_var rfl) (ev_var rfl) (by omega) (by rw [List.length_map]; omega) ?_)
          walk_at "nx"
          have hc := hb2.cnt
          refine es_app rfl (ev_var rfl) (by rw [List.length_map]; omega) ?_
          walk_at "nx"
          refine ⟨.val (nI o), ?_⟩
          rw [e1]
          dsimp only
          rw [List.map_set, List.map_append, List.map_singleton]
        · have e1 : bStep (d + 1) s o = s := by unfold bStep; rw [if_neg (by rw [h]; decide)]
          refine es_next ⟨.val (nI o), ?_⟩
          rw [e1]
      · rintro _ ⟨s7, rfl⟩
        rw [List.length_map, List.take_length]
        exact ⟨_, _, rfl⟩
    · rintro _ ⟨s6, s7, rfl⟩
      rw [List.length_map, List.take_length]
      show ES K _ _ _
      generalize bLayer nb (d + 1) e (F, []) = s at hfin hr2
      refine es_freeze (i := 5) rfl ?_
      walk_at "nx"
      refine es_asg (ev_var rfl) ?_
      refine ⟨m', by omega, s.1, s.2, d + 1, _, _, _, rfl, hr2, hfin.len, hfin.rng, fun hz => ?_⟩
      have hc := hfin.cnt
      have : 0 < s.2.length := List.length_pos_iff.mpr hz
      omega
  · rw [emp_map] at hF
    have he : e = [] := by
      cases e with
      | nil => rfl
      | cons a l => cases hF
    subst he
    have : R = F := by
      rw [← hr]
      cases m <;> rfl
    show ES _ _ _ _
    rw [this]
    exact es_retO rfl rfl
end

section
variable {P : Program} {w : World} {K : PySem.W.Frag} {mg : Str → Option Value} {base : Heap}

abbrev s__law_far : Stmt := topS 18
abbrev n__law_far : List Str := ["net", "node", "far", "line", "at", "other"]
theorem sc__law_far : FnScope n__law_far ["net", "node"] (defScope s__law_far) := ⟨rfl, rfl, rfl, by decide +kernel, rfl, by decide +kernel, by decide +kernel⟩

abbrev sp__law_far (K : PySem.W.Frag) : Sp := spX K (X := (List Int × List (List Int)) × Nat) (fun x => [.val (netA x.1.1 x.1.2), .val (nI (x.2 : Nat))]) (fun x => x.1.2.length = x.1.1.length ∧ x.1.1.length ≤ 4000 ∧ x.2 < x.1.2.length ∧ ∀ i, i < x.1.2.length → InR x.1.2.length (x.1.2.getD i [])) (fun x => .val (dcA (dcQ (farF x.1.2 x.2))))

theorem ok__law_far {c : Cs} (T : Tx K mg c) (M : Bl mg)  (d : DefAt K mg "_law_far" s__law_far ["net", "node"]) : Cal P w K mg base 1 "_law_far" (sp__law_far K) := by
  refine calA d sc__law_far (fun _ => rfl) fun f cdv A outer s H E hr => ⟨_, (pss_cons (ps_set (i := 2) sc__law_far.nd rfl (Or.inl rfl) (pe_disp (pps_cons (pv 1) pe_int pps_nil) (by rfl) (by rfl) (by intro z; cases z) (by decide)))
      (pss_cons (ps_set (i := 3) sc__law_far.nd rfl (Or.inl rfl) (pe_lst (pa_cons (pv 1) pa_nil)))
      (pss_cons (ps_for PassesOwn.never rfl (pi_range1 (by rfl) M.range (pa_cons (pe_callB (len_seqK K) (by rfl) M.len bt_len (pa_cons (pe_ix (ix_tupK K) (pv 0) pe_int (fun _ _ => rfl)) pa_nil)) pa_nil)) (pg_name (i := 4) sc__law_far.nd rfl (Or.inl rfl)) (pss_one (ps_if (pt_cmpR op_lt (pv 4) (pe_callB (len_seqK K) (by rfl) M.len bt_len (pa_cons (pv 3) pa_nil)) (nomark _)) (pss_one (ps_for PassesOwn.never rfl (pi_listK K (pe_ix (ix_listK K) (pe_ix (ix_tupK K) (pv 0) pe_int (fun _ _ => rfl)) (pe_ix (ix_listK K) (pv 3) (pv 4) (fun _ _ => rfl)) (fun _ _ => rfl))) (pg_name (i := 5) sc__law_far.nd rfl (Or.inl rfl)) (pss_one (ps_if (pt_cmp (pc_dnotin (units1 hr) (pv 5) (pv 2))) (pss_cons (ps_dput (units1 hr) (pv 2) (pv 5) (pe_op op_add (pe_dget (units1 hr) (pv 2) (pe_ix (ix_listK K) (pv 3) (pv 4) (fun _ _ => rfl)) (fun _ _ => rfl)) pe_int) rfl)
      (pss_one (ps_expr (pe_bm PySem.F.plainAttrs_list PySem.F.slot_list_append PySem.F.type_list_append mt_append (pv 3) (pa_cons (pv 5) pa_nil))))) pss_nil)))) pss_nil)))
      (pss_one (ps_ret (pv 2)))))), ?_⟩
  try dsimp only [cxOf, Cx.nox, Cx.wish, Cx.blk]

  rintro ⟨⟨ns, nb⟩, v⟩ ⟨h1, h2, h3, h4⟩
  dsimp only at h1 h2 h3 h4
  show ES K [.val (netA ns nb), .val (nI (v : Nat)), .un, .un, .un, .un] _ _
  refine es_seq (es_asgD1 (ev_var rfl) ev_int ?_)
  walk_at "nx"
  refine es_seq (es_asgF (l := [nI (v : Nat)]) (evf_lst (eav_cons (ev_var rfl) eav_nil) (by simp)) ?_)
  walk_at "nx"
  have hd0 : [((Sum.inl ((v : Nat) : Int) : Key), nI 0)] = dcQ (bStart nb.length v) := by
    unfold dcQ mapK bStart
    dsimp only [List.map_cons, List.map_nil]
    have : valQ ((List.replicate nb.length (none : Option Int)).set v (some 0)) ((v : Nat) : Int) = 0 := by
      unfold valQ
      rw [Int.toNat_natCast, List.getD_eq_getElem?_getD, List.getElem?_set_self (by simp; exact h3)]; rfl
    show _ = [((Sum.inl ((v : Nat) : Int) : Key), nI (valQ ((List.replicate nb.length (none : Option Int)).set v (some 0)) ((v : Nat) : Int)))]
    rw [this]
  rw [hd0]
  refine es_seq (es_forR (lo := 0) (n := nb.length) (fun i E => ∃ s4 s5, E = [.val (netA ns nb), .val (nI (v : Nat)), .dic (dcQ (qRun nb i 0 (bStart nb.length v))), .own ((qRun nb i 0 (bStart nb.length v)).2.map nI), s4, s5]) (fun B G0 σ G H k R z => w_range1 (a := ((ns.length : Nat) : Int)) (EV.is (ev_len (l := ns.map nI) (EV.evl (ev_ixT (i := 0) (ev_var rfl) ev_int rfl rfl))) (by rw [List.length_map])) (by omega) (by omega) B G0 σ G H k R (by rw [Int.toNat_natCast, ← h1]; exact z)) ⟨_, _, rfl⟩ ?_ ?_)
  · rintro i _ hi ⟨s4, s5, rfl⟩
    refine ⟨_, gt_name, ?_⟩
    rw [Int.zero_add]
    walk_at "nx"
    have hs : qRun nb (i + 1) 0 (bStart nb.length v) = qAt nb i (qRun nb i 0 (bStart nb.length v)) := by
      rw [qRun_add, Nat.zero_add]; rfl
    obtain ⟨hq, hb⟩ := far_ok h4 h3 i
    rw [hs]
    generalize qRun nb i 0 (bStart nb.length v) = s at hq hb
    refine es_if (et_test (ev_I0 (ev_var rfl) (ev_len (evl_own rfl)))) (fun h => ?_) (fun h => ?_)
    · rw [List.length_map] at h
      have hil : i < s.2.length := by simpa using h
      have hxe : s.2[i]? = some (s.2.getD i 0) := by rw [List.getD_eq_getElem?_getD, List.getElem?_eq_getElem hil]; rfl
      have hqa : qAt nb i s = bRow (valQ s.1 (s.2.getD i 0) + 1) (nb.getD (s.2.getD i 0).toNat []) s := by
        unfold qAt
        rw [if_pos hil]; rfl
      rw [hqa]
      generalize s.2.getD i 0 = x at hxe
      have hxm := List.mem_of_getElem? hxe
      have hxb := hq.rng x hxm
      have hrow := h4 x.toNat (by omega)
      have hnbx : (nb.map fun r => lsA (r.map nI))[x.toNat]? = some (rowA (nb.getD x.toNat [])) := by
        rw [List.getElem?_map, List.getD_eq_getElem?_getD, List.getElem?_eq_getElem (by omega)]; rfl
      obtain ⟨d, hd⟩ : ∃ d, s.1.getD x.toNat none = some d := by
        have := (hq.iff x hxb.1 hxb.2).mp hxm
        cases ez : s.1.getD x.toNat none with
        | none => rw [ez] at this; cases this
        | some d => exact ⟨d, rfl⟩
      have hv : valQ s.1 x = d := by unfold valQ; rw [hd]; rfl
      rw [hv]
      refine es_forL (l := (nb.getD x.toNat []).map nI) (fun j E => ∃ s5, E = [.val (netA ns nb), .val (nI (v : Nat)), .dic (dcQ (bRow (d + 1) ((nb.getD x.toNat []).take j) s)), .own ((bRow (d + 1) ((nb.getD x.toNat []).take j) s).2.map nI), .val (nI (i : Nat)), s5]) (EV.evs (ev_ixL (i := x.toNat) (r := rowA (nb.getD x.toNat [])) (EV.evl (ev_ixT (i := 1) (ev_var rfl) ev_int rfl rfl)) (ev_ixL (i := i) (r := nI x) (evl_own rfl) (ev_var rfl) rfl (by rw [List.getElem?_map, hxe]; rfl)) (by omega) hnbx)) ⟨_, rfl⟩ ?_ ?_
      · rintro j r _ hj ⟨s5, rfl⟩
        obtain ⟨o, ho, rfl⟩ := map_int hj
        have hob := hrow o (List.mem_of_getElem? ho)
        have hqj := bRow_q (d := d + 1) (row := (nb.getD x.toNat []).take j) (fun o ho => hrow o (List.mem_of_mem_take ho)) hq
        have hbj := bRow_ok (d := d + 1) (row := (nb.getD x.toNat []).take j) (fun o ho => hrow o (List.mem_of_mem_take ho)) hb
        have hkj := bRow_keep (d := d + 1) (row := (nb.getD x.toNat []).take j) hd
        have hpj : (bRow (d + 1) ((nb.getD x.toNat []).take j) s).2[i]? = some x := by
          have := bRow_pre (d := d + 1) (X := s.2) (row := (nb.getD x.toNat []).take j) (F := s.1) (Y := [])
          rw [List.append_nil] at this
          rw [this]
          dsimp only
          rw [List.getElem?_append_left hil]; exact hxe
        rw [row_take ho]
        generalize bRow (d + 1) ((nb.getD x.toNat []).take j) s = t at hqj hbj hkj hpj
        have hvt : valQ t.1 x = d := by unfold valQ; rw [hkj]; rfl
        have hlx : lookA (dcQ t) (Sum.inl x) = some (nI d) := by
          rw [← hvt]
          exact look_map_in (f := fun o => nI (valQ t.1 o)) (List.mem_of_getElem? hpj)
        refine ⟨_, gt_name, ?_⟩
        walk_at "nx"
        refine es_if (et_test (ev_dnotin (ev_var rfl) (evd_own rfl))) (fun h => ?_) (fun h => ?_)
        · have hno : o ∉ t.2 := fun z => by
            have := look_map_in (f := fun o => nI (valQ t.1 o)) z
            rw [show dcQ t = mapK (fun o => nI (valQ t.1 o)) t.2 from rfl, this] at h
            cases h
          have hcn := hbj.cnt
          have htl := hbj.len
          refine es_seq (es_dput rfl (ev_var rfl) (ev_I0 (ev_dget (evd_own rfl) (ev_ixL (i := i) (r := nI x) (evl_own rfl) (ev_var rfl) rfl (by rw [List.getElem?_map, hpj]; rfl)) hlx) ev_int) (by rw [dcQ_len]; omega) ?_)
          walk_at "nx"
          refine es_app rfl (ev_var rfl) (by rw [List.length_map]; omega) ?_
          walk_at "nx"
          refine ⟨.val (nI o), ?_⟩
          rw [step_out hqj hob.1 hob.2 hno, dcQ_put hqj hob.1 hob.2 hno]
          dsimp only
          rw [List.map_append, List.map_singleton]
        · have hyes : o ∈ t.2 := by
            by_cases z : o ∈ t.2
            · exact z
            · have := look_map_out (f := fun o => nI (valQ t.1 o)) z
              rw [show dcQ t = mapK (fun o => nI (valQ t.1 o)) t.2 from rfl, this] at h
              cases h
          refine es_next ⟨.val (nI o), ?_⟩
          rw [step_in hqj hob.1 hob.2 hyes]
      · rintro _ ⟨s5, rfl⟩
        rw [List.length_map, List.take_length]
        exact ⟨_, _, rfl⟩
    · rw [List.length_map] at h
      have hil : ¬ i < s.2.length := by simpa using h
      refine es_next ⟨.val (nI (i : Nat)), s5, ?_⟩
      have hqa : qAt nb i s = s := by unfold qAt; rw [if_neg hil]
      rw [hqa]
  · rintro _ ⟨s4, s5, rfl⟩
    show ES K _ _ _
    refine es_freezeD (i := 2) rfl ?_
    walk_at "nx"
    exact es_ret (ev_var rfl) rfl
end

section
variable {P : Program} {w : World} {K : PySem.W.Frag} {mg : Str → Option Value} {base : Heap}

abbrev s__law_most_degree : Stmt := topS 22
abbrev n__law_most_degree : List Str := ["net", "around"]
theorem sc__law_most_degree : FnScope n__law_most_degree ["net"] (defScope s__law_most_degree) := ⟨rfl, rfl, rfl, by decide +kernel, rfl, by decide +kernel, by decide +kernel⟩

abbrev sp__law_most_degree (K : PySem.W.Frag) : Sp := spX K (X := List Int × List (List Int)) (fun x => [.val (netA x.1 x.2)]) (fun x => x.2 ≠ [] ∧ x.2.length ≤ 4000) (fun x => .val (nI (maxOf (degs x.2))))

theorem ok__law_most_degree {c : Cs} (T : Tx K mg c) (M : Bl mg)  (d : DefAt K mg "_law_most_degree" s__law_most_degree ["net"]) : Cal P w K mg base 1 "_law_most_degree" (sp__law_most_degree K) := by
  refine calA d sc__law_most_degree (fun _ => rfl) fun f cdv A outer s H E hr => ⟨_, (pss_one (ps_ret (pe_callB (maxK K rfl) (by rfl) M.max bt_max (pa_cons (pe_op op_cat (pe_lst (pa_cons pe_int pa_nil)) (pe_lc (own := [("around", 1)]) rfl sc__law_most_degree.nd (pi_listK K (pe_ix (ix_tupK K) (pv 0) pe_int (fun _ _ => rfl))) (blkOk_by (own := [("around", 1)]) (N := n__law_most_degree) (sc := defScope s__law_most_degree) (by decide +kernel)) (fun _ _ _ _ _ => (pg_name (i := 1) sc__law_most_degree.nd rfl (Or.inl rfl))) (fun _ _ _ _ _ => pts_nil) (fun _ _ _ _ _ => (pe_callB (len_seqK K) (by rfl) M.len bt_len (pa_cons (pv 1) pa_nil))))) pa_nil)))), ?_⟩
  try dsimp only [cxOf, Cx.nox, Cx.wish, Cx.blk]

  rintro ⟨ns, nb⟩ ⟨h1, h2⟩
  dsimp only at h1 h2
  show ES K [.val (netA ns nb), .un] _ _
  have hpos : 0 < nb.length := List.length_pos_iff.mpr h1
  have hd : degs nb ≠ [] := fun z => by
    have : (degs nb).length = 0 := by rw [z]; rfl
    unfold degs at this
    rw [List.length_map, List.length_range] at this
    omega
  obtain ⟨m1, m2⟩ := maxOf_spec hd
  have hm0 : 0 ≤ maxOf (degs nb) := by
    obtain ⟨k, _, e⟩ := List.mem_map.mp m1
    rw [← e]; omega
  refine es_ret (ev_maxL (ns := 0 :: degs nb) (EVF.evl (EVF.is (evf_cat (l := [nI 0]) (m := (degs nb).map nI) (EVF.evl (evf_lst (eav_cons ev_int eav_nil) (by simp))) (EVF.evl (EVF.is (evf_lcL (l := nb.map rowA) (EV.evs (ev_ixT (i := 1) (ev_var rfl) ev_int rfl rfl)) (fun _ => true) (fun j => nI (((nb.getD j []).length : Nat))) (by rw [List.length_map]; omega) (fun _ _ _ => et_yes) (fun j r hj _ => ?_)) (by rw [List.length_map, accL_all]; unfold degs; rw [List.map_map]; rfl))) (by unfold degs; simp; omega)) rfl)) (List.mem_cons_of_mem _ m1) (fun x hx => ?_)) rfl
  · obtain ⟨_, rfl⟩ := map_row hj
    exact EV.is (ev_len (l := (nb.getD j []).map nI) (ev_var rfl).evl) (by rw [List.length_map])
  · rcases List.mem_cons.mp hx with z | z
    · rw [z]; exact hm0
    · exact m2 x z
end

section
variable {P : Program} {w : World} {K : PySem.W.Frag} {mg : Str → Option Value} {base : Heap}

abbrev s_law : Stmt := topS 23
abbrev n_law : List Str := ["script", "k", "net", "network", "node", "far", "other", "degree", "more", "bounds", "due"]
theorem sc_law : FnScope n_law ["script"] (defScope s_law) := ⟨rfl, rfl, rfl, by decide +kernel, rfl, by decide +kernel, by decide +kernel⟩

theorem maxOf_zero {l : List Int} (h : l ≠ []) (h0 : ∀ x ∈ l, 0 ≤ x) : 0 ≤ maxOf l := h0 _ (maxOf_spec h).1
abbrev sp_law (K : PySem.W.Frag) : Sp := spX K (X := List Int) (fun ns => [.scr ns]) (fun _ => True) (fun _ => .val (nB true))

theorem ok_law {f : Addr} {fd : FuncData} (F : Fun K "law" "law" s_law f fd) {c : Cs} (T : Tx K mg c) (M : Bl mg) (c_law_like : Cal P w K mg base 5 "_law_like" (sp__law_like K)) (csuits : Cal P w K mg base 3 "suits" (sp_suits K c)) (c_law_most_degree : Cal P w K mg base 1 "_law_most_degree" (sp__law_most_degree K)) (cbounds_of : Cal P w K mg base 3 "bounds_of" (sp_bounds_of K c)) (cdistances : Cal P w K mg base 2 "distances" (sp_distances K c)) (c_law_far : Cal P w K mg base 1 "_law_far" (sp__law_far K)) (c_law_made : Cal P w K mg base 4 "_law_made" (sp__law_made K c)) (c_law_drawn : Cal P w K mg base 3 "_law_drawn" (sp__law_drawn K)) : FnOk P w K mg base CX0 6 f fd ["script"] (sp_law K) := by
  refine okA F sc_law (fun _ => rfl) fun cdv A outer s H E hr => ⟨_, (pss_cons (ps_for PassesOwn.never rfl (pi_range1 (by rfl) M.range (pa_cons pe_int pa_nil)) (pg_name (i := 1) sc_law.nd rfl (Or.inl rfl)) (pss_cons (ps_set (i := 2) sc_law.nd rfl (Or.inl rfl) (pe_ca c_law_drawn hr (by decide) (by rfl) (pa_cons (pv 0) (pa_cons (pv 1) (pa_cons pe_int pa_nil)))))
      (pss_cons (ps_set (i := 3) sc_law.nd rfl (Or.inl rfl) (pe_ca c_law_made hr (by decide) (by rfl) (pa_cons (pv 2) pa_nil)))
      (pss_cons (ps_for PassesOwn.never rfl (pi_range1 (by rfl) M.range (pa_cons (pe_callB (len_seqK K) (by rfl) M.len bt_len (pa_cons (pe_ix (ix_tupK K) (pv 2) pe_int (fun _ _ => rfl)) pa_nil)) pa_nil)) (pg_name (i := 4) sc_law.nd rfl (Or.inl rfl)) (pss_cons (ps_set (i := 5) sc_law.nd rfl (Or.inr rfl) (pe_ca c_law_far hr (by decide) (by rfl) (pa_cons (pv 2) (pa_cons (pv 4) pa_nil))))
      (pss_one (ps_if (pt_not (pt_val (pe_ca c_law_like hr (by decide) (by rfl) (pa_cons (pe_ca cdistances hr (by decide) (by rfl) (pa_cons (pv 3) (pa_cons (pv 4) pa_nil))) (pa_cons (pe_lc (own := [("other", 6)]) rfl sc_law.nd (pi_range1 (by rfl) M.range (pa_cons (pe_callB (len_seqK K) (by rfl) M.len bt_len (pa_cons (pe_ix (ix_tupK K) (pv 2) pe_int (fun _ _ => rfl)) pa_nil)) pa_nil)) (blkOk_by (own := [("other", 6)]) (N := n_law) (sc := defScope s_law) (by decide +kernel)) (fun _ _ _ _ _ => (pg_name (i := 6) sc_law.nd rfl (Or.inl rfl))) (fun _ _ _ _ _ => pts_nil) (fun _ _ _ _ _ => (pe_dget2 (units1 hr) (pv 5) (pv 6) pe_non ⟨by rfl, by rfl, by rfl, by rfl⟩))) pa_nil))))) (pss_one (ps_ret pe_bl)) pss_nil))))
      (pss_cons (ps_set (i := 7) sc_law.nd rfl (Or.inl rfl) (pe_callB (call_max2 rfl) (by rfl) M.max bt_max (pa_cons pe_int (pa_cons (pe_ca c_law_most_degree hr (by decide) (by rfl) (pa_cons (pv 2) pa_nil)) pa_nil))))
      (pss_cons (ps_if (pt_not (pt_val (pe_ca c_law_like hr (by decide) (by rfl) (pa_cons (pe_ca cbounds_of hr (by decide) (by rfl) (pa_cons (pv 3) pa_nil)) (pa_cons (pe_tup (pa_cons (pv 7) (pa_cons (pe_op op_add (pe_callB (maxK K rfl) (by rfl) M.max bt_max (pa_cons (pe_ix (ix_tupK K) (pv 2) pe_int (fun _ _ => rfl)) pa_nil)) pe_int) pa_nil))) pa_nil))))) (pss_one (ps_ret pe_bl)) pss_nil)
      (pss_one (ps_for PassesOwn.never rfl (pi_range2 (by rfl) M.range (pa_cons (pe_un un_neg pe_int) (pa_cons pe_int pa_nil))) (pg_name (i := 8) sc_law.nd rfl (Or.inl rfl)) (pss_one (ps_for PassesOwn.never rfl (pi_range2 (by rfl) M.range (pa_cons (pe_un un_neg pe_int) (pa_cons pe_int pa_nil))) (pg_name (i := 6) sc_law.nd rfl (Or.inl rfl)) (pss_cons (ps_set (i := 9) sc_law.nd rfl (Or.inl rfl) (pe_tup (pa_cons (pe_callB (call_max2 rfl) (by rfl) M.max bt_max (pa_cons pe_int (pa_cons (pe_op op_add (pv 7) (pv 8)) pa_nil))) (pa_cons (pe_callB (call_max2 rfl) (by rfl) M.max bt_max (pa_cons pe_int (pa_cons (pe_op op_add (pe_callB (maxK K rfl) (by rfl) M.max bt_max (pa_cons (pe_ix (ix_tupK K) (pv 2) pe_int (fun _ _ => rfl)) pa_nil)) (pv 6)) pa_nil))) pa_nil))))
      (pss_cons (ps_set (i := 10) sc_law.nd rfl (Or.inl rfl) (pe_and (pe_cmpR op_le (pe_ca c_law_most_degree hr (by decide) (by rfl) (pa_cons (pv 2) pa_nil)) (pe_ix (ix_tupK K) (pv 9) pe_int (fun _ _ => rfl)) (nomark _)) (pe_one (pe_cmpR op_lt (pe_callB (maxK K rfl) (by rfl) M.max bt_max (pa_cons (pe_ix (ix_tupK K) (pv 2) pe_int (fun _ _ => rfl)) pa_nil)) (pe_ix (ix_tupK K) (pv 9) pe_int (fun _ _ => rfl)) (nomark _)))))
      (pss_one (ps_if (pt_not (pt_val (pe_ca c_law_like hr (by decide) (by rfl) (pa_cons (pe_ca csuits hr (by decide) (by rfl) (pa_cons (pv 3) (pa_cons (pv 9) pa_nil))) (pa_cons (pv 10) pa_nil))))) (pss_one (ps_ret pe_bl)) pss_nil))))))))))))))
      (pss_one (ps_ret pe_bl))), ?_⟩
  try dsimp only [cxOf, Cx.nox, Cx.wish, Cx.blk]

  intro sc _
  show ES K [.scr sc, .un, .un, .un, .un, .un, .un, .un, .un, .un, .un] _ _
  refine es_seq (es_forR (lo := 0) (n := 2) (fun i E => ∃ s1 s2 s3 s4 s5 s6 s7 s8 s9 s10, E = [.scr sc, s1, s2, s3, s4, s5, s6, s7, s8, s9, s10]) (w_range1 (a := 2) ev_int (by omega) (by omega)) ⟨_, _, _, _, _, _, _, _, _, _, rfl⟩ ?_ ?_)
  · rintro i _ hi ⟨s1, s2, s3, s4, s5, s6, s7, s8, s9, s10, rfl⟩
    refine ⟨_, gt_name, ?_⟩
    rw [Int.zero_add]
    walk_at "nx"
    have hab : 0 ≤ absI (sc.getD ((i : Nat) : Int).toNat 0) := by unfold absI; split <;> omega
    refine es_seq (es_asg (ev_call (sc, ((i : Nat) : Int), 8) (ea_scr rfl (ea_val (ev_var rfl) (ea_val ev_int ea_nil))) ⟨by show (0 : Int) ≤ ((i : Nat) : Int); omega, by show (3 : Int) ≤ 8; decide, by show (8 : Int) ≤ 40; decide⟩ rfl) ?_)
    walk_at "nx"
    have hok := netF_ok (most := 8) hab (by decide) (by decide)
    have hlen := netF_len (most := 8) hab (by decide)
    generalize (netF (absI (sc.getD ((i : Nat) : Int).toNat 0)) 8).1 = ns at hok hlen
    generalize (netF (absI (sc.getD ((i : Nat) : Int).toNat 0)) 8).2 = nb at hok
    have N := NetP.of hok
    have hnl := N.len
    have hrl : ∀ i, i < nb.length → (nb.getD i []).length ≤ 4000 := fun i hi => Nat.le_trans (N.row_le i) (by omega)
    have hmk : okNet ns nb = true ∧ ns.length ≤ 4000 ∧ nb.length ≤ 4000 ∧ ∀ i, i < nb.length → (nb.getD i []).length ≤ 4000 := ⟨hok, by omega, by omega, hrl⟩
    refine es_seq (es_asg (ev_call (ns, nb) (ea_val (ev_var rfl) ea_nil) hmk rfl) ?_)
    walk_at "nx"
    have evlen : ∀ {E : List Slot}, E[2]? = some (.val (netA ns nb)) → EV K E (tCB (fun xs H Q => ∃ p ys, xs = [V.ref p] ∧ (SqL K H p ys ∨ SqT K H p ys) ∧ Q (V.int ys.length) H) (tCons (tOp (rIxT K) (tVar 2) (tC (.int 0))) tNil)) (nI (ns.length : Nat)) := fun h => EV.is (ev_len (l := ns.map nI) (EV.evl (ev_ixT (i := 0) (ev_var h) ev_int rfl rfl))) (by rw [List.length_map])
    have nbne : nb ≠ [] := fun z => by (rw [z] at hnl; exact N.ne (List.length_eq_zero_iff.mp hnl.symm))
    obtain ⟨mx1, mx2⟩ := maxOf_spec N.ne
    refine es_seq (es_forR (lo := 0) (n := nb.length) (fun i' E => ∃ s4 s5 s6 s7 s8 s9 s10, E = [.scr sc, .val (nI (i : Nat)), .val (netA ns nb), .val (inA c.Network (nF ns nb)), s4, s5, s6, s7, s8, s9, s10]) (fun B G0 σ G H k R z => w_range1 (a := ((ns.length : Nat) : Int)) (evlen rfl) (by omega) (by omega) B G0 σ G H k R (by rw [Int.toNat_natCast, ← hnl]; exact z)) ⟨_, _, _, _, _, _, _, rfl⟩ ?_ ?_)
    · rintro j _ hj ⟨s4, s5, s6, s7, s8, s9, s10, rfl⟩
      refine ⟨_, gt_name, ?_⟩
      rw [Int.zero_add]
      walk_at "nx"
      have hpre : nb.length = ns.length ∧ ns.length ≤ 4000 ∧ j < nb.length ∧ ∀ i, i < nb.length → InR nb.length (nb.getD i []) := ⟨hnl, by omega, hj, N.rows⟩
      refine es_seq (es_asg (ev_call ((ns, nb), j) (ea_val (ev_var rfl) (ea_val (ev_var rfl) ea_nil)) hpre rfl) ?_)
      walk_at "nx"
      obtain ⟨hq, hb⟩ := far_ok N.rows hj nb.length
      have hfl := hq.len
      refine es_if (et_not (et_B (ev_call (PyData.list ((farF nb j).1.map oD)) (ea_val (EV.is (EVF.ev (evf_call ((ns, nb), j) (ea_val (ev_var rfl) (ea_val (ev_var rfl) ea_nil)) hpre rfl)) (like_far _)) (ea_val (EV.is (EVF.ev (evf_lcR (lo := 0) (n := nb.length) (fun B G0 σ G H k R z => w_range1 (a := ((ns.length : Nat) : Int)) (evlen rfl) (by omega) (by omega) B G0 σ G H k R (by rw [Int.toNat_natCast, ← hnl]; exact z)) (fun _ => true) (fun o => (lookA (dcQ (farF nb j)) (Sum.inl ((o : Nat) : Int))).getD nN) (by omega) (fun _ _ => et_yes) (fun o ho _ => ?_))) ?_) ea_nil)) (fit_far (by show (qRun nb nb.length 0 (bStart nb.length j)).1.length ≤ 1000; omega)) rfl))) (fun h => ?_) (fun h => ?_)
      · rw [Int.zero_add]
        exact ev_dget2 (EV.evd (ev_var rfl)) (ev_var rfl) ev_non
      · rw [accL_all, ← like_far]
        exact congrArg lsA (far_list hq)
      · cases h
      · exact es_next ⟨_, _, _, _, _, _, _, rfl⟩
    rintro _ ⟨s4, s5, s6, s7, s8, s9, s10, rfl⟩
    show ES K _ _ _
    have hp2 : nb ≠ [] ∧ nb.length ≤ 4000 := ⟨nbne, by omega⟩
    have hcall : ∀ {E : List Slot} {Ex0 : XK}, E[2]? = some (.val (netA ns nb)) → EV K E (tCall (sp__law_most_degree K) [] Ex0 (tCons (tVar 2) tNil)) (nI (maxOf (degs nb))) := fun h => ev_call (ns, nb) (ea_val (ev_var h) ea_nil) hp2 rfl
    have hmax : ∀ {E : List Slot}, E[2]? = some (.val (netA ns nb)) → EV K E (tCB (rMax K) (tCons (tOp (rIxT K) (tVar 2) (tC (.int 0))) tNil)) (nI (maxOf ns)) := fun h => ev_maxL (ns := ns) (EV.evl (ev_ixT (i := 0) (ev_var h) ev_int rfl rfl)) mx1 mx2
    have hpre3 : ns ≠ [] ∧ nb.length = ns.length ∧ ns.length ≤ 4000 := ⟨N.ne, hnl, by omega⟩
    refine es_seq (es_asg (ev_max2 ev_int (hcall rfl)) ?_)
    walk_at "nx"
    generalize hdgv : (if maxOf (degs nb) > 1 then maxOf (degs nb) else 1) = dg
    refine es_seq (es_if (et_not (et_B (ev_call (PyData.tuple [.int dg, .int (maxOf ns + 1)]) (ea_val (EV.is (ev_call (ns, nb) (ea_val (ev_var rfl) ea_nil) hpre3 rfl) (by rw [hdgv]; rfl)) (ea_val (EV.is (ev_tup (eav_cons (ev_var rfl) (eav_cons (ev_I0 (hmax rfl) ev_int) eav_nil)) (by simp)) rfl) ea_nil)) (.inr ⟨_, .inr rfl, by simp, fun x hx => ?_⟩) rfl))) (fun h => ?_) (fun h => es_next ?_))
    · rcases List.mem_cons.mp hx with rfl | hx
      · exact .inl trivial
      · rcases List.mem_cons.mp hx with rfl | hx
        · exact .inl trivial
        · cases hx
    · cases h
    walk_at "nx"
    refine es_forR (lo := -1) (n := 3) (fun i' E => ∃ s4 s5 s6 s8 s9 s10, E = [.scr sc, .val (nI (i : Nat)), .val (netA ns nb), .val (inA c.Network (nF ns nb)), s4, s5, s6, .val (nI dg), s8, s9, s10]) (w_range2 (a := -1) (b := 2) (ev_U ev_int) ev_int (by omega)) ⟨_, _, _, _, _, _, rfl⟩ ?_ ?_
    · rintro a _ ha ⟨s4, s5, s6, s8, s9, s10, rfl⟩
      refine ⟨_, gt_name, ?_⟩
      walk_at "nx"
      refine es_forR (lo := -1) (n := 4) (fun i' E => ∃ s4 s5 s6 s9 s10, E = [.scr sc, .val (nI (i : Nat)), .val (netA ns nb), .val (inA c.Network (nF ns nb)), s4, s5, s6, .val (nI dg), .val (nI (-1 + (a : Int))), s9, s10]) (w_range2 (a := -1) (b := 3) (ev_U ev_int) ev_int (by omega)) ⟨_, _, _, _, _, rfl⟩ ?_ ?_
      · rintro b _ hb ⟨s4, s5, s6, s9, s10, rfl⟩
        refine ⟨_, gt_name, ?_⟩
        walk_at "nx"
        refine es_seq (es_asg (ev_tup (eav_cons (ev_max2 ev_int (ev_I0 (ev_var rfl) (ev_var rfl))) (eav_cons (ev_max2 ev_int (ev_I0 (hmax rfl) (ev_var rfl))) eav_nil)) (by simp)) ?_)
        walk_at "nx"
        generalize (if dg + (-1 + (a : Int)) > 1 then dg + (-1 + (a : Int)) else 1) = x
        generalize (if maxOf ns + (-1 + (b : Int)) > 1 then maxOf ns + (-1 + (b : Int)) else 1) = y
        refine es_seq (es_asg (ev_andV (ev_I0 (hcall rfl) (ev_ixT (i := 0) (ev_var rfl) ev_int rfl rfl)) (fun _ => ev_I0 (hmax rfl) (ev_ixT (i := 1) (ev_var rfl) ev_int rfl rfl))) ?_)
        walk_at "nx"
        refine es_if (et_not (et_B (ev_call (PyData.bool (decide (maxOf (degs nb) ≤ x) && decide (maxOf ns < y))) (ea_val (ev_call ((ns, nb), x, y) (ea_val (ev_var rfl) (ea_val (ev_var rfl) ea_nil)) hpre3 rfl) (ea_val (ev_var rfl) ea_nil)) (.inl trivial) rfl))) (fun h => ?_) (fun h => es_next ⟨_, _, _, _, _, rfl⟩)
        cases h
      · rintro _ ⟨s4, s5, s6, s9, s10, rfl⟩
        exact ⟨_, _, _, _, _, _, rfl⟩
    · rintro _ ⟨s4, s5, s6, s8, s9, s10, rfl⟩
      exact ⟨_, _, _, _, _, _, _, _, _, _, rfl⟩
  · rintro _ ⟨s1, s2, s3, s4, s5, s6, s7, s8, s9, s10, rfl⟩
    exact es_ret ev_bl rfl
end

theorem all_mk {l : PySem.W.OpenLaw} {w : World} {K : PySem.W.Frag} {h : Heap} {mg : Str → Option Value} {fa f0 f1 f2 f3 f4 f5 f6 f7 f8 f9 f10 f11 f12 f13 f14 f15 f16 f17 f18 f19 f20 f21 f22 C_InvalidNetwork C_Network : Addr} (X : K.In h) (G : h.Ns mainGlobals mg) (hfa : mg "law" = some (.ref fa))
    {od0 an0 od1 an1 od2 an2 od3 an3 od4 an4 od5 an5 od6 an6 od7 an7 od8 an8 od9 an9 od10 an10 od11 an11 od12 an12 od13 an13 od14 an14 od15 an15 od16 an16 od17 an17 od18 an18 od19 an19 od20 an20 od21 an21 od22 an22 : Option Addr} {sl0 sl1 sl2 sl3 sl4 sl5 sl6 sl7 sl8 sl9 sl10 sl11 sl12 sl13 sl14 sl15 sl16 sl17 sl18 sl19 sl20 sl21 sl22 : Array (Option Value)} {oc0 kV0 dc0 pm0 cd0 ct0 oc1 kV1 dc1 pm1 cd1 ct1 oc2 kV2 dc2 pm2 cd2 ct2 oc3 kV3 dc3 pm3 cd3 ct3 oc4 kV4 dc4 pm4 cd4 ct4 oc5 kV5 dc5 pm5 cd5 ct5 oc6 kV6 dc6 pm6 cd6 ct6 oc7 kV7 dc7 pm7 cd7 ct7 oc8 kV8 dc8 pm8 cd8 ct8 oc9 kV9 dc9 pm9 cd9 ct9 oc10 kV10 dc10 pm10 cd10 ct10 oc11 kV11 dc11 pm11 cd11 ct11 oc12 kV12 dc12 pm12 cd12 ct12 oc13 kV13 dc13 pm13 cd13 ct13 oc14 kV14 dc14 pm14 cd14 ct14 oc15 kV15 dc15 pm15 cd15 ct15 oc16 kV16 dc16 pm16 cd16 ct16 oc17 kV17 dc17 pm17 cd17 ct17 oc18 kV18 dc18 pm18 cd18 ct18 oc19 kV19 dc19 pm19 cd19 ct19 oc20 kV20 dc20 pm20 cd20 ct20 oc21 kV21 dc21 pm21 cd21 ct21 oc22 kV22 dc22 pm22 cd22 ct22 : Value}
    (g_InvalidNetwork : PySem.W.nsIn K mainGlobals "InvalidNetwork" = some (some (.ref C_InvalidNetwork)))
    (g_Network : PySem.W.nsIn K mainGlobals "Network" = some (some (.ref C_Network)))
    (a0 : PySem.W.nsIn K mainGlobals "_check_names" = some (some (.ref f0)))
    (l0 : K.lookup f0 = some ⟨oc0, od0, .func (PySem.W.fnOf "_check_names" "_check_names" (defArgs s__check_names) (defBody s__check_names) (defScope s__check_names) .none kV0 dc0 pm0 an0 cd0 ct0), sl0⟩)
    (c0 : PySem.W.codeIn K cd0 "_check_names" = true)
    (k0 : PySem.W.keepIn K (.ref f0) = true)
    (a1 : PySem.W.nsIn K mainGlobals "_check_row" = some (some (.ref f1)))
    (l1 : K.lookup f1 = some ⟨oc1, od1, .func (PySem.W.fnOf "_check_row" "_check_row" (defArgs s__check_row) (defBody s__check_row) (defScope s__check_row) .none kV1 dc1 pm1 an1 cd1 ct1), sl1⟩)
    (c1 : PySem.W.codeIn K cd1 "_check_row" = true)
    (k1 : PySem.W.keepIn K (.ref f1) = true)
    (a2 : PySem.W.nsIn K mainGlobals "_ports_by_neighbor" = some (some (.ref f2)))
    (l2 : K.lookup f2 = some ⟨oc2, od2, .func (PySem.W.fnOf "_ports_by_neighbor" "_ports_by_neighbor" (defArgs s__ports_by_neighbor) (defBody s__ports_by_neighbor) (defScope s__ports_by_neighbor) .none kV2 dc2 pm2 an2 cd2 ct2), sl2⟩)
    (c2 : PySem.W.codeIn K cd2 "_ports_by_neighbor" = true)
    (k2 : PySem.W.keepIn K (.ref f2) = true)
    (a3 : PySem.W.findIn K (.ref C_Network) "_check_returns" = some (some (.ref f3)))
    (i3 : PySem.W.isFn K (.ref f3) = true)
    (l3 : K.lookup f3 = some ⟨oc3, od3, .func (PySem.W.fnOf "_check_returns" "Network._check_returns" (defArgs s_Network__check_returns) (defBody s_Network__check_returns) (defScope s_Network__check_returns) .none kV3 dc3 pm3 an3 cd3 ct3), sl3⟩)
    (c3 : PySem.W.codeIn K cd3 "Network._check_returns" = true)
    (k3 : PySem.W.keepIn K (.ref f3) = true)
    (a4 : PySem.W.findIn K (.ref C_Network) "__init__" = some (some (.ref f4)))
    (i4 : PySem.W.isFn K (.ref f4) = true)
    (l4 : K.lookup f4 = some ⟨oc4, od4, .func (PySem.W.fnOf "__init__" "Network.__init__" (defArgs s_Network___init__) (defBody s_Network___init__) (defScope s_Network___init__) .none kV4 dc4 pm4 an4 cd4 ct4), sl4⟩)
    (c4 : PySem.W.codeIn K cd4 "Network.__init__" = true)
    (k4 : PySem.W.keepIn K (.ref f4) = true)
    (a5 : PySem.W.findIn K (.ref C_Network) "names" = some (some (.ref f5)))
    (i5 : PySem.W.isFn K (.ref f5) = true)
    (l5 : K.lookup f5 = some ⟨oc5, od5, .func (PySem.W.fnOf "names" "Network.names" (defArgs s_Network_names) (defBody s_Network_names) (defScope s_Network_names) .none kV5 dc5 pm5 an5 cd5 ct5), sl5⟩)
    (c5 : PySem.W.codeIn K cd5 "Network.names" = true)
    (k5 : PySem.W.keepIn K (.ref f5) = true)
    (a6 : PySem.W.findIn K (.ref C_Network) "neighbors" = some (some (.ref f6)))
    (i6 : PySem.W.isFn K (.ref f6) = true)
    (l6 : K.lookup f6 = some ⟨oc6, od6, .func (PySem.W.fnOf "neighbors" "Network.neighbors" (defArgs s_Network_neighbors) (defBody s_Network_neighbors) (defScope s_Network_neighbors) .none kV6 dc6 pm6 an6 cd6 ct6), sl6⟩)
    (c6 : PySem.W.codeIn K cd6 "Network.neighbors" = true)
    (k6 : PySem.W.keepIn K (.ref f6) = true)
    (a7 : PySem.W.nsIn K mainGlobals "_law_cell" = some (some (.ref f7)))
    (l7 : K.lookup f7 = some ⟨oc7, od7, .func (PySem.W.fnOf "_law_cell" "_law_cell" (defArgs s__law_cell) (defBody s__law_cell) (defScope s__law_cell) .none kV7 dc7 pm7 an7 cd7 ct7), sl7⟩)
    (c7 : PySem.W.codeIn K cd7 "_law_cell" = true)
    (k7 : PySem.W.keepIn K (.ref f7) = true)
    (a8 : PySem.W.nsIn K mainGlobals "_law_draw_net" = some (some (.ref f8)))
    (l8 : K.lookup f8 = some ⟨oc8, od8, .func (PySem.W.fnOf "_law_draw_net" "_law_draw_net" (defArgs s__law_draw_net) (defBody s__law_draw_net) (defScope s__law_draw_net) .none kV8 dc8 pm8 an8 cd8 ct8), sl8⟩)
    (c8 : PySem.W.codeIn K cd8 "_law_draw_net" = true)
    (k8 : PySem.W.keepIn K (.ref f8) = true)
    (a9 : PySem.W.nsIn K mainGlobals "_law_shape_net" = some (some (.ref f9)))
    (l9 : K.lookup f9 = some ⟨oc9, od9, .func (PySem.W.fnOf "_law_shape_net" "_law_shape_net" (defArgs s__law_shape_net) (defBody s__law_shape_net) (defScope s__law_shape_net) .none kV9 dc9 pm9 an9 cd9 ct9), sl9⟩)
    (c9 : PySem.W.codeIn K cd9 "_law_shape_net" = true)
    (k9 : PySem.W.keepIn K (.ref f9) = true)
    (a10 : PySem.W.nsIn K mainGlobals "_law_net" = some (some (.ref f10)))
    (l10 : K.lookup f10 = some ⟨oc10, od10, .func (PySem.W.fnOf "_law_net" "_law_net" (defArgs s__law_net) (defBody s__law_net) (defScope s__law_net) .none kV10 dc10 pm10 an10 cd10 ct10), sl10⟩)
    (c10 : PySem.W.codeIn K cd10 "_law_net" = true)
    (k10 : PySem.W.keepIn K (.ref f10) = true)
    (a11 : PySem.W.nsIn K mainGlobals "_law_like" = some (some (.ref f11)))
    (l11 : K.lookup f11 = some ⟨oc11, od11, .func (PySem.W.fnOf "_law_like" "_law_like" (defArgs s__law_like) (defBody s__law_like) (defScope s__law_like) .none kV11 dc11 pm11 an11 cd11 ct11), sl11⟩)
    (c11 : PySem.W.codeIn K cd11 "_law_like" = true)
    (k11 : PySem.W.keepIn K (.ref f11) = true)
    (a12 : PySem.W.findIn K (.ref C_Network) "size" = some (some (.ref f12)))
    (i12 : PySem.W.isFn K (.ref f12) = true)
    (l12 : K.lookup f12 = some ⟨oc12, od12, .func (PySem.W.fnOf "size" "Network.size" (defArgs s_Network_size) (defBody s_Network_size) (defScope s_Network_size) .none kV12 dc12 pm12 an12 cd12 ct12), sl12⟩)
    (c12 : PySem.W.codeIn K cd12 "Network.size" = true)
    (k12 : PySem.W.keepIn K (.ref f12) = true)
    (a13 : PySem.W.findIn K (.ref C_Network) "degree" = some (some (.ref f13)))
    (i13 : PySem.W.isFn K (.ref f13) = true)
    (l13 : K.lookup f13 = some ⟨oc13, od13, .func (PySem.W.fnOf "degree" "Network.degree" (defArgs s_Network_degree) (defBody s_Network_degree) (defScope s_Network_degree) .none kV13 dc13 pm13 an13 cd13 ct13), sl13⟩)
    (c13 : PySem.W.codeIn K cd13 "Network.degree" = true)
    (k13 : PySem.W.keepIn K (.ref f13) = true)
    (a14 : PySem.W.nsIn K mainGlobals "_law_made" = some (some (.ref f14)))
    (l14 : K.lookup f14 = some ⟨oc14, od14, .func (PySem.W.fnOf "_law_made" "_law_made" (defArgs s__law_made) (defBody s__law_made) (defScope s__law_made) .none kV14 dc14 pm14 an14 cd14 ct14), sl14⟩)
    (c14 : PySem.W.codeIn K cd14 "_law_made" = true)
    (k14 : PySem.W.keepIn K (.ref f14) = true)
    (a15 : PySem.W.nsIn K mainGlobals "_law_drawn" = some (some (.ref f15)))
    (l15 : K.lookup f15 = some ⟨oc15, od15, .func (PySem.W.fnOf "_law_drawn" "_law_drawn" (defArgs s__law_drawn) (defBody s__law_drawn) (defScope s__law_drawn) .none kV15 dc15 pm15 an15 cd15 ct15), sl15⟩)
    (c15 : PySem.W.codeIn K cd15 "_law_drawn" = true)
    (k15 : PySem.W.keepIn K (.ref f15) = true)
    (a16 : PySem.W.nsIn K mainGlobals "_greatest" = some (some (.ref f16)))
    (l16 : K.lookup f16 = some ⟨oc16, od16, .func (PySem.W.fnOf "_greatest" "_greatest" (defArgs s__greatest) (defBody s__greatest) (defScope s__greatest) .none kV16 dc16 pm16 an16 cd16 ct16), sl16⟩)
    (c16 : PySem.W.codeIn K cd16 "_greatest" = true)
    (k16 : PySem.W.keepIn K (.ref f16) = true)
    (a17 : PySem.W.nsIn K mainGlobals "suits" = some (some (.ref f17)))
    (l17 : K.lookup f17 = some ⟨oc17, od17, .func (PySem.W.fnOf "suits" "suits" (defArgs s_suits) (defBody s_suits) (defScope s_suits) .none kV17 dc17 pm17 an17 cd17 ct17), sl17⟩)
    (c17 : PySem.W.codeIn K cd17 "suits" = true)
    (k17 : PySem.W.keepIn K (.ref f17) = true)
    (a18 : PySem.W.nsIn K mainGlobals "bounds_of" = some (some (.ref f18)))
    (l18 : K.lookup f18 = some ⟨oc18, od18, .func (PySem.W.fnOf "bounds_of" "bounds_of" (defArgs s_bounds_of) (defBody s_bounds_of) (defScope s_bounds_of) .none kV18 dc18 pm18 an18 cd18 ct18), sl18⟩)
    (c18 : PySem.W.codeIn K cd18 "bounds_of" = true)
    (k18 : PySem.W.keepIn K (.ref f18) = true)
    (a19 : PySem.W.nsIn K mainGlobals "distances" = some (some (.ref f19)))
    (l19 : K.lookup f19 = some ⟨oc19, od19, .func (PySem.W.fnOf "distances" "distances" (defArgs s_distances) (defBody s_distances) (defScope s_distances) .none kV19 dc19 pm19 an19 cd19 ct19), sl19⟩)
    (c19 : PySem.W.codeIn K cd19 "distances" = true)
    (k19 : PySem.W.keepIn K (.ref f19) = true)
    (a20 : PySem.W.nsIn K mainGlobals "_law_far" = some (some (.ref f20)))
    (l20 : K.lookup f20 = some ⟨oc20, od20, .func (PySem.W.fnOf "_law_far" "_law_far" (defArgs s__law_far) (defBody s__law_far) (defScope s__law_far) .none kV20 dc20 pm20 an20 cd20 ct20), sl20⟩)
    (c20 : PySem.W.codeIn K cd20 "_law_far" = true)
    (k20 : PySem.W.keepIn K (.ref f20) = true)
    (a21 : PySem.W.nsIn K mainGlobals "_law_most_degree" = some (some (.ref f21)))
    (l21 : K.lookup f21 = some ⟨oc21, od21, .func (PySem.W.fnOf "_law_most_degree" "_law_most_degree" (defArgs s__law_most_degree) (defBody s__law_most_degree) (defScope s__law_most_degree) .none kV21 dc21 pm21 an21 cd21 ct21), sl21⟩)
    (c21 : PySem.W.codeIn K cd21 "_law_most_degree" = true)
    (k21 : PySem.W.keepIn K (.ref f21) = true)
    (a22 : PySem.W.nsIn K mainGlobals "law" = some (some (.ref f22)))
    (l22 : K.lookup f22 = some ⟨oc22, od22, .func (PySem.W.fnOf "law" "law" (defArgs s_law) (defBody s_law) (defScope s_law) .none kV22 dc22 pm22 an22 cd22 ct22), sl22⟩)
    (c22 : PySem.W.codeIn K cd22 "law" = true)
    (k22 : PySem.W.keepIn K (.ref f22) = true)
    (pg_Network : PySem.W.plainGet K C_Network Str.empty = true)
    (hd_Network : PySem.W.hasDictIn K C_Network = true)
    (po_Network : PySem.W.plainOver K C_Network = true)
    (sa_Network : PySem.W.findIn K (.ref C_Network) "__setattr__" = some (some (.builtin "object.__setattr__")))
    (mk_Network : PySem.W.makesIn K C_Network = true)
    (kc_Network : PySem.W.keepIn K (.ref C_Network) = true)
    (nf_Network__names : PySem.W.findIn K (.ref C_Network) "_names" = some none)
    (nf_Network__neighbors : PySem.W.findIn K (.ref C_Network) "_neighbors" = some none)
    (nf_Network__ports : PySem.W.findIn K (.ref C_Network) "_ports" = some none)
    (xF_InvalidNetwork : PySem.W.excIn K C_InvalidNetwork [.type "ValueError", .type "Exception", .type "BaseException", .type "object"] "ValueError.__new__" = true)
    (kF_InvalidNetwork : PySem.W.keepIn K (.ref C_InvalidNetwork) = true)
    (bF_InvalidNetwork : PySem.W.subIn K (.ref C_InvalidNetwork) (.type "BaseException") = some true)
    (tF_InvalidNetwork : PySem.W.typeIn K (.ref C_InvalidNetwork) = some (.type "type"))
    (iF_InvalidNetwork : PySem.W.isClsIn K C_InvalidNetwork = true)
    (sF_InvalidNetwork : PySem.W.subIn K (.ref C_InvalidNetwork) (.ref C_InvalidNetwork) = some true)
    (z_abs : PySem.W.nsIn K mainGlobals "abs" = some none)
    (z_all : PySem.W.nsIn K mainGlobals "all" = some none)
    (z_bool : PySem.W.nsIn K mainGlobals "bool" = some none)
    (z_enumerate : PySem.W.nsIn K mainGlobals "enumerate" = some none)
    (z_int : PySem.W.nsIn K mainGlobals "int" = some none)
    (z_isinstance : PySem.W.nsIn K mainGlobals "isinstance" = some none)
    (z_len : PySem.W.nsIn K mainGlobals "len" = some none)
    (z_list : PySem.W.nsIn K mainGlobals "list" = some none)
    (z_max : PySem.W.nsIn K mainGlobals "max" = some none)
    (z_min : PySem.W.nsIn K mainGlobals "min" = some none)
    (z_range : PySem.W.nsIn K mainGlobals "range" = some none)
    (z_set : PySem.W.nsIn K mainGlobals "set" = some none)
    (z_str : PySem.W.nsIn K mainGlobals "str" = some none)
    (z_tuple : PySem.W.nsIn K mainGlobals "tuple" = some none) :
    ∃ fd : FuncData, (∀ (s : Shared) (v : Value), BindsTo s fd ⟨[v], []⟩ [("script", v)]) ∧ ∀ base : Heap, K.In base → base.Ns mainGlobals mg → FnOk l.prog w K mg base CX0 6 fa fd ["script"] (sp_law K) := by
  have e := hfa.symm.trans (PySem.W.mg_of X G a22)
  cases e
  have M : Bl mg := ⟨PySem.W.mg_none_of X G z_abs, PySem.W.mg_none_of X G z_all, PySem.W.mg_none_of X G z_bool, PySem.W.mg_none_of X G z_enumerate, PySem.W.mg_none_of X G z_int, PySem.W.mg_none_of X G z_isinstance, PySem.W.mg_none_of X G z_len, PySem.W.mg_none_of X G z_list, PySem.W.mg_none_of X G z_max, PySem.W.mg_none_of X G z_min, PySem.W.mg_none_of X G z_range, PySem.W.mg_none_of X G z_set, PySem.W.mg_none_of X G z_str, PySem.W.mg_none_of X G z_tuple⟩
  let c : Cs := ⟨C_InvalidNetwork, C_Network⟩
  have T : Tx K mg c := ⟨⟨PySem.W.mg_of X G g_InvalidNetwork, xF_InvalidNetwork, kF_InvalidNetwork, bF_InvalidNetwork, tF_InvalidNetwork, exc_self bF_InvalidNetwork iF_InvalidNetwork tF_InvalidNetwork sF_InvalidNetwork⟩, ⟨pg_Network, hd_Network, po_Network, sa_Network⟩, nf_Network__names, nf_Network__neighbors, nf_Network__ports⟩
  have D__check_names : DefAt K mg "_check_names" s__check_names ["names"] := ⟨_, _, (fun_mk (st := s__check_names) l0 c0 k0), PySem.W.mg_of X G a0, (fun_mk (st := s__check_names) l0 c0 k0).binds (ps := ["names"]) fun _ _ _ _ _ _ us hl => match us, hl with | [_], _ => rfl⟩
  have D__check_row : DefAt K mg "_check_row" s__check_row ["node", "row", "size"] := ⟨_, _, (fun_mk (st := s__check_row) l1 c1 k1), PySem.W.mg_of X G a1, (fun_mk (st := s__check_row) l1 c1 k1).binds (ps := ["node", "row", "size"]) fun _ _ _ _ _ _ us hl => match us, hl with | [_, _, _], _ => rfl⟩
  have D__ports_by_neighbor : DefAt K mg "_ports_by_neighbor" s__ports_by_neighbor ["row"] := ⟨_, _, (fun_mk (st := s__ports_by_neighbor) l2 c2 k2), PySem.W.mg_of X G a2, (fun_mk (st := s__ports_by_neighbor) l2 c2 k2).binds (ps := ["row"]) fun _ _ _ _ _ _ us hl => match us, hl with | [_], _ => rfl⟩
  have D_Network__check_returns : MetAt K c.Network "_check_returns" "Network._check_returns" s_Network__check_returns ["self"] := ⟨T.cl_Network, _, _, (fun_mk (st := s_Network__check_returns) l3 c3 k3), ⟨a3, i3, k3⟩, (fun_mk (st := s_Network__check_returns) l3 c3 k3).binds (ps := ["self"]) fun _ _ _ _ _ _ us hl => match us, hl with | [_], _ => rfl⟩
  have D_Network___init__ : MakAt K mg c.Network "Network" "Network.__init__" s_Network___init__ ["self", "names", "neighbors"] := ⟨_, _, (fun_mk (st := s_Network___init__) l4 c4 k4), ⟨mk_Network, a4, i4, kc_Network⟩, PySem.W.mg_of X G g_Network, (fun_mk (st := s_Network___init__) l4 c4 k4).binds (ps := ["self", "names", "neighbors"]) fun _ _ _ _ _ _ us hl => match us, hl with | [_, _, _], _ => rfl⟩
  have D_Network_names : MetAt K c.Network "names" "Network.names" s_Network_names ["self"] := ⟨T.cl_Network, _, _, (fun_mk (st := s_Network_names) l5 c5 k5), ⟨a5, i5, k5⟩, (fun_mk (st := s_Network_names) l5 c5 k5).binds (ps := ["self"]) fun _ _ _ _ _ _ us hl => match us, hl with | [_], _ => rfl⟩
  have D_Network_neighbors : MetAt K c.Network "neighbors" "Network.neighbors" s_Network_neighbors ["self", "node"] := ⟨T.cl_Network, _, _, (fun_mk (st := s_Network_neighbors) l6 c6 k6), ⟨a6, i6, k6⟩, (fun_mk (st := s_Network_neighbors) l6 c6 k6).binds (ps := ["self", "node"]) fun _ _ _ _ _ _ us hl => match us, hl with | [_, _], _ => rfl⟩
  have D__law_cell : DefAt K mg "_law_cell" s__law_cell ["script", "k"] := ⟨_, _, (fun_mk (st := s__law_cell) l7 c7 k7), PySem.W.mg_of X G a7, (fun_mk (st := s__law_cell) l7 c7 k7).binds (ps := ["script", "k"]) fun _ _ _ _ _ _ us hl => match us, hl with | [_, _], _ => rfl⟩
  have D__law_draw_net : DefAt K mg "_law_draw_net" s__law_draw_net ["number", "most", "degree"] := ⟨_, _, (fun_mk (st := s__law_draw_net) l8 c8 k8), PySem.W.mg_of X G a8, (fun_mk (st := s__law_draw_net) l8 c8 k8).binds (ps := ["number", "most", "degree"]) fun _ _ _ _ _ _ us hl => match us, hl with | [_, _, _], _ => rfl⟩
  have D__law_shape_net : DefAt K mg "_law_shape_net" s__law_shape_net ["number", "most"] := ⟨_, _, (fun_mk (st := s__law_shape_net) l9 c9 k9), PySem.W.mg_of X G a9, (fun_mk (st := s__law_shape_net) l9 c9 k9).binds (ps := ["number", "most"]) fun _ _ _ _ _ _ us hl => match us, hl with | [_, _], _ => rfl⟩
  have D__law_net : DefAt K mg "_law_net" s__law_net ["number", "most"] := ⟨_, _, (fun_mk (st := s__law_net) l10 c10 k10), PySem.W.mg_of X G a10, (fun_mk (st := s__law_net) l10 c10 k10).binds (ps := ["number", "most"]) fun _ _ _ _ _ _ us hl => match us, hl with | [_, _], _ => rfl⟩
  have D__law_like : DefAt K mg "_law_like" s__law_like ["actual", "due"] := ⟨_, _, (fun_mk (st := s__law_like) l11 c11 k11), PySem.W.mg_of X G a11, (fun_mk (st := s__law_like) l11 c11 k11).binds (ps := ["actual", "due"]) fun _ _ _ _ _ _ us hl => match us, hl with | [_, _], _ => rfl⟩
  have D_Network_size : MetAt K c.Network "size" "Network.size" s_Network_size ["self"] := ⟨T.cl_Network, _, _, (fun_mk (st := s_Network_size) l12 c12 k12), ⟨a12, i12, k12⟩, (fun_mk (st := s_Network_size) l12 c12 k12).binds (ps := ["self"]) fun _ _ _ _ _ _ us hl => match us, hl with | [_], _ => rfl⟩
  have D_Network_degree : MetAt K c.Network "degree" "Network.degree" s_Network_degree ["self", "node"] := ⟨T.cl_Network, _, _, (fun_mk (st := s_Network_degree) l13 c13 k13), ⟨a13, i13, k13⟩, (fun_mk (st := s_Network_degree) l13 c13 k13).binds (ps := ["self", "node"]) fun _ _ _ _ _ _ us hl => match us, hl with | [_, _], _ => rfl⟩
  have D__law_made : DefAt K mg "_law_made" s__law_made ["net"] := ⟨_, _, (fun_mk (st := s__law_made) l14 c14 k14), PySem.W.mg_of X G a14, (fun_mk (st := s__law_made) l14 c14 k14).binds (ps := ["net"]) fun _ _ _ _ _ _ us hl => match us, hl with | [_], _ => rfl⟩
  have D__law_drawn : DefAt K mg "_law_drawn" s__law_drawn ["script", "k", "most"] := ⟨_, _, (fun_mk (st := s__law_drawn) l15 c15 k15), PySem.W.mg_of X G a15, (fun_mk (st := s__law_drawn) l15 c15 k15).binds (ps := ["script", "k", "most"]) fun _ _ _ _ _ _ us hl => match us, hl with | [_, _, _], _ => rfl⟩
  have D__greatest : DefAt K mg "_greatest" s__greatest ["network"] := ⟨_, _, (fun_mk (st := s__greatest) l16 c16 k16), PySem.W.mg_of X G a16, (fun_mk (st := s__greatest) l16 c16 k16).binds (ps := ["network"]) fun _ _ _ _ _ _ us hl => match us, hl with | [_], _ => rfl⟩
  have D_suits : DefAt K mg "suits" s_suits ["network", "bounds"] := ⟨_, _, (fun_mk (st := s_suits) l17 c17 k17), PySem.W.mg_of X G a17, (fun_mk (st := s_suits) l17 c17 k17).binds (ps := ["network", "bounds"]) fun _ _ _ _ _ _ us hl => match us, hl with | [_, _], _ => rfl⟩
  have D_bounds_of : DefAt K mg "bounds_of" s_bounds_of ["network"] := ⟨_, _, (fun_mk (st := s_bounds_of) l18 c18 k18), PySem.W.mg_of X G a18, (fun_mk (st := s_bounds_of) l18 c18 k18).binds (ps := ["network"]) fun _ _ _ _ _ _ us hl => match us, hl with | [_], _ => rfl⟩
  have D_distances : DefAt K mg "distances" s_distances ["network", "node"] := ⟨_, _, (fun_mk (st := s_distances) l19 c19 k19), PySem.W.mg_of X G a19, (fun_mk (st := s_distances) l19 c19 k19).binds (ps := ["network", "node"]) fun _ _ _ _ _ _ us hl => match us, hl with | [_, _], _ => rfl⟩
  have D__law_far : DefAt K mg "_law_far" s__law_far ["net", "node"] := ⟨_, _, (fun_mk (st := s__law_far) l20 c20 k20), PySem.W.mg_of X G a20, (fun_mk (st := s__law_far) l20 c20 k20).binds (ps := ["net", "node"]) fun _ _ _ _ _ _ us hl => match us, hl with | [_, _], _ => rfl⟩
  have D__law_most_degree : DefAt K mg "_law_most_degree" s__law_most_degree ["net"] := ⟨_, _, (fun_mk (st := s__law_most_degree) l21 c21 k21), PySem.W.mg_of X G a21, (fun_mk (st := s__law_most_degree) l21 c21 k21).binds (ps := ["net"]) fun _ _ _ _ _ _ us hl => match us, hl with | [_], _ => rfl⟩
  refine ⟨PySem.W.fnOf "law" "law" (defArgs s_law) (defBody s_law) (defScope s_law) .none kV22 dc22 pm22 an22 cd22 ct22, fun s v => .of_eq rfl, fun base _ _ => ?_⟩
  have c_check_names := ok__check_names (P := l.prog) (w := w) (base := base) T M  D__check_names
  have c_check_row := ok__check_row (P := l.prog) (w := w) (base := base) T M  D__check_row
  have c_ports_by_neighbor := ok__ports_by_neighbor (P := l.prog) (w := w) (base := base) T M  D__ports_by_neighbor
  have m_Network__check_returns := ok_Network__check_returns (P := l.prog) (w := w) (base := base) T M  D_Network__check_returns
  have m_Network := ok_Network___init__ (P := l.prog) (w := w) (base := base) T M m_Network__check_returns c_ports_by_neighbor c_check_row c_check_names D_Network___init__
  have m_Network_names := ok_Network_names (P := l.prog) (w := w) (base := base) T M  D_Network_names
  have m_Network_neighbors := ok_Network_neighbors (P := l.prog) (w := w) (base := base) T M  D_Network_neighbors
  have c_law_cell := ok__law_cell (P := l.prog) (w := w) (base := base) T M  D__law_cell
  have c_law_draw_net := ok__law_draw_net (P := l.prog) (w := w) (base := base) T M  D__law_draw_net
  have c_law_shape_net := ok__law_shape_net (P := l.prog) (w := w) (base := base) T M  D__law_shape_net
  have c_law_net := ok__law_net (P := l.prog) (w := w) (base := base) T M c_law_draw_net c_law_shape_net D__law_net
  have c_law_like := ok_like (P := l.prog) (w := w) (base := base) D__law_like M 5
  have m_Network_size := ok_Network_size (P := l.prog) (w := w) (base := base) T M  D_Network_size
  have m_Network_degree := ok_Network_degree (P := l.prog) (w := w) (base := base) T M  D_Network_degree
  have c_law_made := ok__law_made (P := l.prog) (w := w) (base := base) T M m_Network D__law_made
  have c_law_drawn := ok__law_drawn (P := l.prog) (w := w) (base := base) T M c_law_net c_law_cell D__law_drawn
  have c_greatest := ok__greatest (P := l.prog) (w := w) (base := base) T M m_Network_names m_Network_size m_Network_degree D__greatest
  have csuits := ok_suits (P := l.prog) (w := w) (base := base) T M c_greatest D_suits
  have cbounds_of := ok_bounds_of (P := l.prog) (w := w) (base := base) T M c_greatest D_bounds_of
  have cdistances := ok_distances (P := l.prog) (w := w) (base := base) T M m_Network_neighbors m_Network_size D_distances
  have c_law_far := ok__law_far (P := l.prog) (w := w) (base := base) T M  D__law_far
  have c_law_most_degree := ok__law_most_degree (P := l.prog) (w := w) (base := base) T M  D__law_most_degree
  exact ok_law (fun_mk (st := s_law) l22 c22 k22) T M c_law_like csuits c_law_most_degree cbounds_of cdistances c_law_far c_law_made c_law_drawn

theorem walk {l : PySem.W.OpenLaw} {q : Program} {loose : List Str} {XP : (Str → Option Value) → Heap → Prop} {YP : World → Heap → Prop} {d : DefRec} {K : Params → PySem.W.Frag} (hn : l.most = some 63) (hdf : d.params.defaults = [])
    (hY : ∀ (w : World) (h : Heap), YP w h → (K w.params).In h)
    (F : ∀ (w : World) (mg : Str → Option Value) (fa : Addr) (h : Heap), (K w.params).In h → h.Ns mainGlobals mg → mg d.name = some (.ref fa) →
      ∃ fd : FuncData, (∀ (s : Shared) (u : Value), BindsTo s fd ⟨[u], []⟩ [("script", u)]) ∧ ∀ base : Heap, (K w.params).In base → base.Ns mainGlobals mg → FnOk l.prog w (K w.params) mg base CX0 6 fa fd ["script"] (sp_law (K w.params))) :
    PySem.W.WalkO q loose XP YP l.row.toRowW d [] (fun f vs => PySem.call f vs) :=
  L2.walk_ofK (n := 63) (k := 6) (x := "script") (CX := CX0) (sp := sp_law) hn (by decide) hdf ⟨rfl, by decide, by decide⟩ hY F (fun K H a ns hl _ hS => ⟨ns, H, by first | trivial | exact hl, Same.refl _, .cons ⟨a, rfl, hS⟩ .nil, fun v G' H' _ hv => hv⟩) fun _ _ _ _ z => z

end k02x

open PySem PySem.W PyProof.Rows
set_option maxRecDepth 100000 in
set_option maxHeartbeats 0 in
theorem PySem.Challenge.cw_nearby_k02_distances_and_bounds_holds : PySem.Challenge.rw_nearby_k02_distances_and_bounds.Holds := by
  w_on; o_law; k_head; (case hw => w_witness2)
  k_fill
  refine k02x.walk (l := PySem.Challenge.rw_nearby_k02_distances_and_bounds) rfl rfl (fun w h Y => PySem.W.kIn_of Y) ?F
  case F =>
    intro w mg fa h KX G hmg
    refine' k02x.all_mk KX G hmg ?g_InvalidNetwork ?g_Network ?a0 ?l0 ?c0 ?k0 ?a1 ?l1 ?c1 ?k1 ?a2 ?l2 ?c2 ?k2 ?a3 ?i3 ?l3 ?c3 ?k3 ?a4 ?i4 ?l4 ?c4 ?k4 ?a5 ?i5 ?l5 ?c5 ?k5 ?a6 ?i6 ?l6 ?c6 ?k6 ?a7 ?l7 ?c7 ?k7 ?a8 ?l8 ?c8 ?k8 ?a9 ?l9 ?c9 ?k9 ?a10 ?l10 ?c10 ?k10 ?a11 ?l11 ?c11 ?k11 ?a12 ?i12 ?l12 ?c12 ?k12 ?a13 ?i13 ?l13 ?c13 ?k13 ?a14 ?l14 ?c14 ?k14 ?a15 ?l15 ?c15 ?k15 ?a16 ?l16 ?c16 ?k16 ?a17 ?l17 ?c17 ?k17 ?a18 ?l18 ?c18 ?k18 ?a19 ?l19 ?c19 ?k19 ?a20 ?l20 ?c20 ?k20 ?a21 ?l21 ?c21 ?k21 ?a22 ?l22 ?c22 ?k22 ?pg_Network ?hd_Network ?po_Network ?sa_Network ?mk_Network ?kc_Network ?nf_Network__names ?nf_Network__neighbors ?nf_Network__ports ?xF_InvalidNetwork ?kF_InvalidNetwork ?bF_InvalidNetwork ?tF_InvalidNetwork ?iF_InvalidNetwork ?sF_InvalidNetwork ?z_abs ?z_all ?z_bool ?z_enumerate ?z_int ?z_isinstance ?z_len ?z_list ?z_max ?z_min ?z_range ?z_set ?z_str ?z_tuple
    (case g_InvalidNetwork => k_is)
    (case g_Network => k_is)
    (case a0 => k_is)
    (case l0 => k_is)
    (case c0 => k_is)
    (case k0 => k_is)
    (case a1 => k_is)
    (case l1 => k_is)
    (case c1 => k_is)
    (case k1 => k_is)
    (case a2 => k_is)
    (case l2 => k_is)
    (case c2 => k_is)
    (case k2 => k_is)
    (case a3 => k_is)
    (case i3 => k_is)
    (case l3 => k_is)
    (case c3 => k_is)
    (case k3 => k_is)
    (case a4 => k_is)
    (case i4 => k_is)
    (case l4 => k_is)
    (case c4 => k_is)
    (case k4 => k_is)
    (case a5 => k_is)
    (case i5 => k_is)
    (case l5 => k_is)
    (case c5 => k_is)
    (case k5 => k_is)
    (case a6 => k_is)
    (case i6 => k_is)
    (case l6 => k_is)
    (case c6 => k_is)
    (case k6 => k_is)
    (case a7 => k_is)
    (case l7 => k_is)
    (case c7 => k_is)
    (case k7 => k_is)
    (case a8 => k_is)
    (case l8 => k_is)
    (case c8 => k_is)
    (case k8 => k_is)
    (case a9 => k_is)
    (case l9 => k_is)
    (case c9 => k_is)
    (case k9 => k_is)
    (case a10 => k_is)
    (case l10 => k_is)
    (case c10 => k_is)
    (case k10 => k_is)
    (case a11 => k_is)
    (case l11 => k_is)
    (case c11 => k_is)
    (case k11 => k_is)
    (case a12 => k_is)
    (case i12 => k_is)
    (case l12 => k_is)
    (case c12 => k_is)
    (case k12 => k_is)
    (case a13 => k_is)
    (case i13 => k_is)
    (case l13 => k_is)
    (case c13 => k_is)
    (case k13 => k_is)
    (case a14 => k_is)
    (case l14 => k_is)
    (case c14 => k_is)
    (case k14 => k_is)
    (case a15 => k_is)
    (case l15 => k_is)
    (case c15 => k_is)
    (case k15 => k_is)
    (case a16 => k_is)
    (case l16 => k_is)
    (case c16 => k_is)
    (case k16 => k_is)
    (case a17 => k_is)
    (case l17 => k_is)
    (case c17 => k_is)
    (case k17 => k_is)
    (case a18 => k_is)
    (case l18 => k_is)
    (case c18 => k_is)
    (case k18 => k_is)
    (case a19 => k_is)
    (case l19 => k_is)
    (case c19 => k_is)
    (case k19 => k_is)
    (case a20 => k_is)
    (case l20 => k_is)
    (case c20 => k_is)
    (case k20 => k_is)
    (case a21 => k_is)
    (case l21 => k_is)
    (case c21 => k_is)
    (case k21 => k_is)
    (case a22 => k_is)
    (case l22 => k_is)
    (case c22 => k_is)
    (case k22 => k_is)
    (case pg_Network => k_is)
    (case hd_Network => k_is)
    (case po_Network => k_is)
    (case sa_Network => k_is)
    (case mk_Network => k_is)
    (case kc_Network => k_is)
    (case nf_Network__names => k_is)
    (case nf_Network__neighbors => k_is)
    (case nf_Network__ports => k_is)
    (case xF_InvalidNetwork => k_exc)
    (case kF_InvalidNetwork => k_is)
    (case bF_InvalidNetwork => k_is)
    (case tF_InvalidNetwork => k_is)
    (case iF_InvalidNetwork => k_is)
    (case sF_InvalidNetwork => first | rfl | k_is)
    (case z_abs => k_is)
    (case z_all => k_is)
    (case z_bool => k_is)
    (case z_enumerate => k_is)
    (case z_int => k_is)
    (case z_isinstance => k_is)
    (case z_len => k_is)
    (case z_list => k_is)
    (case z_max => k_is)
    (case z_min => k_is)
    (case z_range => k_is)
    (case z_set => k_is)
    (case z_str => k_is)
    (case z_tuple => k_is)
