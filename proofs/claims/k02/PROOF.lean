import PyProof.Rows.All
import Wide.All
import OpenK.AllK
import Wide.FinOn
import HandS.ForMost
import HandS.Deep
import HandS.Star
import HandS.SortInts
import HandS.Evl
import HandS.IsInst
import PySem.Challenge.RW_matroidpick_k02_exchanged_and_weighed
set_option Elab.async false
set_option linter.all false
set_option maxRecDepth 100000
/-! A layer of plain data over the hand layer: what a def's text gives, told over data alone. -/
namespace Z
open PySem L2
open Evl (Ex)

/-! ### data that stands in a heap, within a mask of addresses -/
/-- plain data; a dict whose keys are tuples of whole numbers; an instance with its attributes -/
inductive D where
  | none
  | bool (b : Bool)
  | int (i : Int)
  | str (s : PySem.Str)
  | list (xs : List D)
  | tuple (xs : List D)
  | dict (ks : List (List Int)) (xs : List D)
  | ins (C : Addr) (ns : List PySem.Str) (xs : List D)
mutual
inductive Dq (M : Addr → Prop) (H : Hp) : V → D → Prop
  | non : Dq M H .non .none
  | bl (b : Bool) : Dq M H (.bl b) (.bool b)
  | int (i : Int) : Dq M H (.int i) (.int i)
  | str (x : PySem.Str) : Dq M H (.str x) (.str x)
  | lst {a : Addr} {xs : List V} {ds : List D} : M a → H a = some (.lst xs) → DqAll M H xs ds → Dq M H (.ref a) (.list ds)
  | tup {a : Addr} {xs : List V} {ds : List D} : M a → H a = some (.tup xs) → DqAll M H xs ds → Dq M H (.ref a) (.tuple ds)
  | dct {a : Addr} {kvs : List (List Key × V)} {ks : List (List Int)} {ds : List D} : M a → H a = some (.dT kvs) → kvs.map (·.1) = ks.map (fun k => k.map Sum.inl) → DqAll M H (kvs.map (·.2)) ds → Dq M H (.ref a) (.dict ks ds)
  | ins {a C dx : Addr} {fs : List (PySem.Str × V)} {ns : List PySem.Str} {ds : List D} : M a → H a = some (.ins C dx fs) → fs.map (·.1) = ns → DqAll M H (fs.map (·.2)) ds → Dq M H (.ref a) (.ins C ns ds)
inductive DqAll (M : Addr → Prop) (H : Hp) : List V → List D → Prop
  | nil : DqAll M H [] []
  | cons {v : V} {vs : List V} {d : D} {ds : List D} : Dq M H v d → DqAll M H vs ds → DqAll M H (v :: vs) (d :: ds)
end

mutual
theorem Dq.mono {M M' : Addr → Prop} {H H' : Hp} (k : ∀ a o, M a → H a = some o → M' a ∧ H' a = some o) : ∀ (d : D) (v : V), Dq M H v d → Dq M' H' v d
  | .none, _, h => by cases h; exact .non
  | .bool b, _, h => by cases h; exact .bl b
  | .int i, _, h => by cases h; exact .int i
  | .str x, _, h => by cases h; exact .str x
  | .list ds, _, h => by
    cases h with
    | lst m e a => exact .lst (k _ _ m e).1 (k _ _ m e).2 (DqAll.mono k ds _ a)
  | .tuple ds, _, h => by
    cases h with
    | tup m e a => exact .tup (k _ _ m e).1 (k _ _ m e).2 (DqAll.mono k ds _ a)
  | .dict ks ds, _, h => by
    cases h with
    | dct m e q a => exact .dct (k _ _ m e).1 (k _ _ m e).2 q (DqAll.mono k ds _ a)
  | .ins C ns ds, _, h => by
    cases h with
    | ins m e q a => exact .ins (k _ _ m e).1 (k _ _ m e).2 q (DqAll.mono k ds _ a)
theorem DqAll.mono {M M' : Addr → Prop} {H H' : Hp} (k : ∀ a o, M a → H a = some o → M' a ∧ H' a = some o) : ∀ (ds : List D) (vs : List V), DqAll M H vs ds → DqAll M' H' vs ds
  | [], _, h => by cases h; exact .nil
  | d :: ds, _, h => by
    cases h with
    | cons h1 h2 => exact .cons (Dq.mono k d _ h1) (DqAll.mono k ds _ h2)
end
theorem Dq.ext {M : Addr → Prop} {H H' : Hp} {v : V} {d : D} (h : Dq M H v d) (e : Ex H H') : Dq M H' v d := h.mono (fun a o m q => ⟨m, e a o q⟩) d v
theorem DqAll.ext {M : Addr → Prop} {H H' : Hp} {v : List V} {d : List D} (h : DqAll M H v d) (e : Ex H H') : DqAll M H' v d := h.mono (fun a o m q => ⟨m, e a o q⟩) d v
theorem Dq.sub {M M' : Addr → Prop} {H : Hp} {v : V} {d : D} (h : Dq M H v d) (e : ∀ a, M a → M' a) : Dq M' H v d := h.mono (fun a o m q => ⟨e a m, q⟩) d v
theorem DqAll.sub {M M' : Addr → Prop} {H : Hp} {v : List V} {d : List D} (h : DqAll M H v d) (e : ∀ a, M a → M' a) : DqAll M' H v d := h.mono (fun a o m q => ⟨e a m, q⟩) d v
theorem DqAll.len {M : Addr → Prop} {H : Hp} : ∀ {v : List V} {d : List D}, DqAll M H v d → v.length = d.length
  | _, [], h => by cases h; rfl
  | _, d :: ds, h => by
    cases h with
    | cons h1 h2 => rw [List.length_cons, List.length_cons, DqAll.len h2]
theorem DqAll.get {M : Addr → Prop} {H : Hp} : ∀ {v : List V} {d : List D} {i : Nat} {x : D}, DqAll M H v d → d[i]? = some x → ∃ y, v[i]? = some y ∧ Dq M H y x
  | _, [], _, _, _, e => by simp at e
  | _, d :: ds, 0, x, h, e => by
    cases h with
    | cons h1 h2 =>
      have q : d = x := Option.some.inj e
      subst q
      exact ⟨_, rfl, h1⟩
  | _, d :: ds, i + 1, x, h, e => by
    cases h with
    | cons h1 h2 => exact DqAll.get h2 (i := i) e
theorem DqAll.getV {M : Addr → Prop} {H : Hp} {v : List V} {d : List D} {i : Nat} {y : V} (h : DqAll M H v d) (e : v[i]? = some y) : ∃ x, d[i]? = some x ∧ Dq M H y x := by
  have hl := h.len
  obtain ⟨hi, rfl⟩ := List.getElem?_eq_some_iff.mp e
  have hd : d[i]? = some (d[i]'(by omega)) := List.getElem?_eq_getElem (by omega)
  obtain ⟨y', e1, q⟩ := h.get hd
  rw [e] at e1
  cases e1
  exact ⟨_, hd, q⟩
theorem DqAll.app {M : Addr → Prop} {H : Hp} : ∀ {v w : List V} {d e : List D}, DqAll M H v d → DqAll M H w e → DqAll M H (v ++ w) (d ++ e)
  | _, _, [], _, h, g => by cases h; exact g
  | _, _, d :: ds, _, h, g => by
    cases h with
    | cons h1 h2 => exact .cons h1 (DqAll.app h2 g)
theorem DqAll.take {M : Addr → Prop} {H : Hp} : ∀ (n : Nat) {v : List V} {d : List D}, DqAll M H v d → DqAll M H (v.take n) (d.take n)
  | 0, _, _, _ => .nil
  | _ + 1, _, [], h => by cases h; exact .nil
  | n + 1, _, d :: ds, h => by
    cases h with
    | cons h1 h2 => exact .cons h1 (DqAll.take n h2)
theorem DqAll.drop {M : Addr → Prop} {H : Hp} : ∀ (n : Nat) {v : List V} {d : List D}, DqAll M H v d → DqAll M H (v.drop n) (d.drop n)
  | 0, _, _, h => h
  | _ + 1, _, [], h => by cases h; exact .nil
  | n + 1, _, d :: ds, h => by
    cases h with
    | cons h1 h2 => exact DqAll.drop n h2
theorem DqAll.ints {M : Addr → Prop} {H : Hp} : ∀ {v : List V} {ns : List Int}, DqAll M H v (ns.map .int) → v = ns.map V.int
  | _, [], h => by cases h; rfl
  | _, n :: ns, h => by
    cases h with
    | cons h1 h2 =>
      cases h1
      rw [DqAll.ints h2]
      rfl
theorem DqAll.ofInts {M : Addr → Prop} {H : Hp} : ∀ (ns : List Int), DqAll M H (ns.map V.int) (ns.map .int)
  | [] => .nil
  | n :: ns => .cons (.int n) (DqAll.ofInts ns)
theorem DqAll.bools {M : Addr → Prop} {H : Hp} : ∀ {v : List V} {ns : List Bool}, DqAll M H v (ns.map .bool) → v = ns.map V.bl
  | _, [], h => by cases h; rfl
  | _, n :: ns, h => by
    cases h with
    | cons h1 h2 =>
      cases h1
      rw [DqAll.bools h2]
      rfl
/-! what can be compared: plain data, no dict and no instance within -/
mutual
def D.p : D → PyData
  | .none => .none
  | .bool b => .bool b
  | .int i => .int i
  | .str s => .str s
  | .list xs => .list (D.ps xs)
  | .tuple xs => .tuple (D.ps xs)
  | .dict _ _ => .dict []
  | .ins _ _ _ => .dict []
def D.ps : List D → List PyData
  | [] => []
  | d :: ds => d.p :: D.ps ds
end
mutual
def D.flat : D → Bool
  | .list xs => D.flats xs
  | .tuple xs => D.flats xs
  | .dict _ _ => false
  | .ins _ _ _ => false
  | _ => true
def D.flats : List D → Bool
  | [] => true
  | d :: ds => d.flat && D.flats ds
end
mutual
theorem Dq.dp {K : PySem.W.Frag} {M : Addr → Prop} {H : Hp} : ∀ (d : D) (v : V), d.flat = true → Dq M H v d → Dp K H v d.p
  | .none, _, _, h => by cases h; simp only [D.p]; exact .non
  | .bool b, _, _, h => by cases h; simp only [D.p]; exact .bl b
  | .int i, _, _, h => by cases h; simp only [D.p]; exact .int i
  | .str x, _, _, h => by cases h; simp only [D.p]; exact .str x
  | .list ds, _, f, h => by
    cases h with
    | lst m e a =>
      simp only [D.p]
      exact .lst (.inl (.inl e)) (DqAll.dp ds _ (by simpa only [D.flat] using f) a)
  | .tuple ds, _, f, h => by
    cases h with
    | tup m e a =>
      simp only [D.p]
      exact .tup (.inl (.inl e)) (DqAll.dp ds _ (by simpa only [D.flat] using f) a)
  | .dict _ _, _, f, _ => by simp [D.flat] at f
  | .ins _ _ _, _, f, _ => by simp [D.flat] at f
theorem DqAll.dp {K : PySem.W.Frag} {M : Addr → Prop} {H : Hp} : ∀ (ds : List D) (vs : List V), D.flats ds = true → DqAll M H vs ds → DpAll K H vs (D.ps ds)
  | [], _, _, h => by cases h; simp only [D.ps]; exact .nil
  | d :: ds, _, f, h => by
    simp only [D.flats, Bool.and_eq_true] at f
    cases h with
    | cons h1 h2 =>
      simp only [D.ps]
      exact .cons (Dq.dp d _ f.1 h1) (DqAll.dp ds _ f.2 h2)
end

/-! ### the slots -/
/-- what a slot holds: data (fr: made since the def began), a list of one's own that is being changed, the script -/
inductive Knd
  | lst
  | ins (c : Addr) (ns : List PySem.Str)
inductive Sl
  | d (fr : Bool) (x : D)
  | obj (fr : Bool) (o : Addr) (k : Knd) (xs : List D)
  | scr (ns : List Int)
  | raw (v : V)
/-- a list of one's own; an instance that is being made -/
abbrev Sl.own (fr : Bool) (o : Addr) (xs : List D) : Sl := .obj fr o .lst xs
abbrev Stt := List (Option Sl)
def owns : Stt → List Addr
  | [] => []
  | some (.obj _ o _ _) :: r => o :: owns r
  | some (.d _ _) :: r => owns r
  | some (.scr _) :: r => owns r
  | some (.raw _) :: r => owns r
  | none :: r => owns r
structure Cfg where
  K : PySem.W.Frag
  H0 : Hp
  M : Addr → Prop
  op : ∀ a, H0 a = none → M a
  B : Hp
  bx : Ex B H0
def bm (C : Cfg) : Bool → Addr → Prop
  | true => fun a => C.H0 a = none
  | false => C.M
def msk (C : Cfg) (hs : List Addr) (st : Stt) (fr : Bool) : Addr → Prop := fun a => bm C fr a ∧ a ∉ hs ++ owns st
def SlV (C : Cfg) (os : List Addr) (H : Hp) (v : V) : Sl → Prop
  | .d fr x => Dq (fun a => bm C fr a ∧ a ∉ os) H v x
  | .obj fr o .lst xs => v = .ref o ∧ ∃ vs, H o = some (.lst vs) ∧ DqAll (fun a => bm C fr a ∧ a ∉ os) H vs xs
  | .obj fr o (.ins c ns) xs => v = .ref o ∧ ∃ dx fs, H o = some (.ins c dx fs) ∧ fs.map (·.1) = ns ∧ DqAll (fun a => bm C fr a ∧ a ∉ os) H (fs.map (·.2)) xs
  | .scr ns => ∃ a, v = .ref a ∧ C.M a ∧ SqL C.K C.H0 a (ns.map V.int)
  | .raw u => v = u
/-- hs: own things that no slot holds (a comprehension's list) -/
structure StR (C : Cfg) (hs : List Addr) (H : Hp) (σ : St) (st : Stt) : Prop where
  ex : Ex C.H0 H
  nd : (owns st).Nodup
  dj : ∀ o ∈ owns st, o ∉ hs
  nw : ∀ o ∈ hs ++ owns st, C.H0 o = none ∧ H o ≠ none
  len : σ.length = st.length
  sl : ∀ (i : Nat) (s : Sl), st[i]? = some (some s) → ∃ v, σ[i]? = some (some v) ∧ SlV C (hs ++ owns st) H v s
theorem StR.nwo {C : Cfg} {hs : List Addr} {H : Hp} {σ : St} {st : Stt} (S : StR C hs H σ st) : ∀ o ∈ owns st, C.H0 o = none ∧ H o ≠ none := fun o m => S.nw o (List.mem_append_right _ m)
theorem notin_app {hs a b : List Addr} {o : Addr} (h : ∀ o ∈ a, o ∈ b) (m : o ∉ hs ++ b) : o ∉ hs ++ a := fun z => m ((List.mem_append.mp z).elim (List.mem_append_left _) fun z => List.mem_append_right _ (h o z))

theorem owns_set_d : ∀ (st : Stt) (i : Nat) (s : Option Sl), (∀ fr o k xs, s ≠ some (.obj fr o k xs)) → (owns (st.set i s)).Sublist (owns st)
  | [], _, _, _ => .refl _
  | x :: r, 0, s, h => by
    have e : owns ((x :: r).set 0 s) = owns r := by
      show owns (s :: r) = owns r
      match s, h with
      | none, _ => rfl
      | some (.d _ _), _ => rfl
      | some (.scr _), _ => rfl
      | some (.raw _), _ => rfl
      | some (.obj fr o k xs), h => exact absurd rfl (h fr o k xs)
    rw [e]
    match x with
    | none => exact .refl _
    | some (.d _ _) => exact .refl _
    | some (.scr _) => exact .refl _
    | some (.raw _) => exact .refl _
    | some (.obj _ o _ _) => exact List.sublist_cons_self o _
  | x :: r, i + 1, s, h => by
    have ih := owns_set_d r i s h
    show (owns (x :: r.set i s)).Sublist (owns (x :: r))
    match x with
    | none => exact ih
    | some (.d _ _) => exact ih
    | some (.scr _) => exact ih
    | some (.raw _) => exact ih
    | some (.obj _ o _ _) => exact ih.cons_cons o
theorem owns_set_own : ∀ (st : Stt) (i : Nat) (fr : Bool) (p : Addr) (k : Knd) (xs : List D), p ∉ owns st → (owns st).Nodup → (owns (st.set i (some (.obj fr p k xs)))).Nodup ∧ ∀ o ∈ owns (st.set i (some (.obj fr p k xs))), o = p ∨ o ∈ owns st
  | [], _, _, _, _, _, _, _ => ⟨List.nodup_nil, fun o h => by cases h⟩
  | x :: r, 0, fr, p, k, xs, hp, hn => by
    show (p :: owns r).Nodup ∧ ∀ o ∈ p :: owns r, o = p ∨ o ∈ owns (x :: r)
    have sb : (owns r).Sublist (owns (x :: r)) := by
      match x with
      | none => exact .refl _
      | some (.d _ _) => exact .refl _
      | some (.scr _) => exact .refl _
      | some (.raw _) => exact .refl _
      | some (.obj _ o _ _) => exact List.sublist_cons_self o _
    exact ⟨List.nodup_cons.mpr ⟨fun q => hp (sb.subset q), hn.sublist sb⟩, fun o ho => (List.mem_cons.mp ho).imp id fun q => sb.subset q⟩
  | x :: r, i + 1, fr, p, k, xs, hp, hn => by
    match x with
    | none => exact owns_set_own r i fr p k xs hp hn
    | some (.d _ _) => exact owns_set_own r i fr p k xs hp hn
    | some (.scr _) => exact owns_set_own r i fr p k xs hp hn
    | some (.raw _) => exact owns_set_own r i fr p k xs hp hn
    | some (.obj _ o _ _) =>
      have hp' : p ≠ o ∧ p ∉ owns r := by
        constructor
        · intro q; exact hp (by rw [q]; exact List.mem_cons_self)
        · intro q; exact hp (List.mem_cons_of_mem _ q)
      have hn' := List.nodup_cons.mp (show (o :: owns r).Nodup from hn)
      obtain ⟨ih1, ih2⟩ := owns_set_own r i fr p k xs hp'.2 hn'.2
      show (o :: owns (r.set i (some (.obj fr p k xs)))).Nodup ∧ ∀ q ∈ o :: owns (r.set i (some (.obj fr p k xs))), q = p ∨ q ∈ o :: owns r
      refine ⟨List.nodup_cons.mpr ⟨fun q => ?_, ih1⟩, fun q hq => ?_⟩
      · rcases ih2 _ q with e | e
        · exact hp'.1 e.symm
        · exact hn'.1 e
      · rcases List.mem_cons.mp hq with e | e
        · exact .inr (by rw [e]; exact List.mem_cons_self)
        · exact (ih2 _ e).imp id fun z => List.mem_cons_of_mem _ z
theorem owns_upd : ∀ (st : Stt) (i : Nat) (fr fr' : Bool) (p : Addr) (k k' : Knd) (xs ys : List D), st[i]? = some (some (.obj fr p k xs)) → owns (st.set i (some (.obj fr' p k' ys))) = owns st
  | [], _, _, _, _, _, _, _, _, h => by simp at h
  | x :: r, 0, fr, fr', p, k, k', xs, ys, h => by
    have e : x = some (.obj fr p k xs) := Option.some.inj h
    subst e
    rfl
  | x :: r, i + 1, fr, fr', p, k, k', xs, ys, h => by
    have ih := owns_upd r i fr fr' p k k' xs ys h
    match x with
    | none => exact ih
    | some (.d _ _) => exact ih
    | some (.scr _) => exact ih
    | some (.raw _) => exact ih
    | some (.obj _ o _ _) => exact congrArg (List.cons o) ih
theorem owns_mem : ∀ {st : Stt} {i : Nat} {fr : Bool} {p : Addr} {k : Knd} {xs : List D}, st[i]? = some (some (.obj fr p k xs)) → p ∈ owns st
  | [], _, _, _, _, _, h => by simp at h
  | x :: r, 0, fr, p, k, xs, h => by
    have e : x = some (.obj fr p k xs) := Option.some.inj h
    subst e
    exact List.mem_cons_self
  | x :: r, i + 1, fr, p, k, xs, h => by
    have ih := owns_mem (st := r) (i := i) h
    match x with
    | none => exact ih
    | some (.d _ _) => exact ih
    | some (.scr _) => exact ih
    | some (.raw _) => exact ih
    | some (.obj _ o _ _) => exact List.mem_cons_of_mem _ ih

theorem SlV.mono {C : Cfg} {os os' : List Addr} {H H' : Hp} {v : V} {s : Sl} (h : SlV C os H v s) (hs : ∀ fr o k xs, s = .obj fr o k xs → H' o = H o) (k : ∀ a o, a ∉ os → H a = some o → a ∉ os' ∧ H' a = some o) : SlV C os' H' v s := by
  have kk : ∀ fr a o, (bm C fr a ∧ a ∉ os) → H a = some o → (bm C fr a ∧ a ∉ os') ∧ H' a = some o := fun fr a o m q => ⟨⟨m.1, (k a o m.2 q).1⟩, (k a o m.2 q).2⟩
  match s, h, hs with
  | .d fr x, h, _ => exact Dq.mono (kk fr) x v h
  | .obj fr o .lst xs, ⟨e, vs, h1, h2⟩, hs => exact ⟨e, vs, by rw [hs fr o _ xs rfl]; exact h1, DqAll.mono (kk fr) xs vs h2⟩
  | .obj fr o (.ins c ns) xs, ⟨e, dx, fs, h1, h2, h3⟩, hs => exact ⟨e, dx, fs, by rw [hs fr o _ xs rfl]; exact h1, h2, DqAll.mono (kk fr) xs _ h3⟩
  | .scr ns, h, _ => exact h
  | .raw u, h, _ => exact h
theorem StR.ext {C : Cfg} {hs : List Addr} {H H' : Hp} {σ : St} {st : Stt} (S : StR C hs H σ st) (e : Ex H H') : StR C hs H' σ st := by
  have up : ∀ a, H a ≠ none → H' a = H a := fun a n => by
    cases q : H a with
    | none => exact absurd q n
    | some o => exact e a o q
  refine ⟨S.ex.trans e, S.nd, S.dj, fun o m => ⟨(S.nw o m).1, by rw [up o (S.nw o m).2]; exact (S.nw o m).2⟩, S.len, fun i s h => ?_⟩
  obtain ⟨v, h1, h2⟩ := S.sl i s h
  refine ⟨v, h1, h2.mono (fun fr o k xs q => ?_) fun a o m q => ⟨m, e a o q⟩⟩
  subst q
  exact up o (S.nwo o (owns_mem h)).2
/-- what H does not know is free -/
theorem StR.fresh {C : Cfg} {hs : List Addr} {H : Hp} {σ : St} {st : Stt} (S : StR C hs H σ st) {a : Addr} (h : H a = none) (fr : Bool) : msk C hs st fr a := by
  have h0 : C.H0 a = none := Evl.fresh_back S.ex h
  refine ⟨?_, fun q => (S.nw a q).2 h⟩
  cases fr with
  | true => exact h0
  | false => exact C.op a h0
theorem set_get {α : Type} {st : List (Option α)} {i j : Nat} {s : Option α} {x : α} (h : (st.set i s)[j]? = some (some x)) : (i = j ∧ i < st.length ∧ s = some x) ∨ (i ≠ j ∧ st[j]? = some (some x)) := by
  by_cases e : i = j
  · subst e
    by_cases hl : i < st.length
    · rw [List.getElem?_set_self hl] at h
      exact .inl ⟨rfl, hl, Option.some.inj h⟩
    · rw [List.getElem?_eq_none (by rw [List.length_set]; omega)] at h
      cases h
  · rw [List.getElem?_set_ne e] at h
    exact .inr ⟨e, h⟩
theorem set_at {σ : St} {st : Stt} {i : Nat} {v : V} (hl : σ.length = st.length) (hi : i < st.length) : (σ.set i (some v))[i]? = some (some v) := List.getElem?_set_self (by omega)
theorem app_sub {hs a b : List Addr} {o : Addr} (h : ∀ o ∈ a, o ∈ b) (m : o ∈ hs ++ a) : o ∈ hs ++ b := (List.mem_append.mp m).elim (List.mem_append_left _) fun z => List.mem_append_right _ (h o z)
/-- data is put into a slot -/
theorem StR.set {C : Cfg} {hs : List Addr} {H : Hp} {σ : St} {st : Stt} {i : Nat} {v : V} {fr : Bool} {x : D} (S : StR C hs H σ st) (h : Dq (msk C hs st fr) H v x) : StR C hs H (σ.set i (some v)) (st.set i (some (.d fr x))) := by
  have sb := owns_set_d st i (some (.d fr x)) (fun _ _ _ _ q => by cases q)
  have sb' : ∀ o ∈ owns (st.set i (some (.d fr x))), o ∈ owns st := fun o m => sb.subset m
  refine ⟨S.ex, S.nd.sublist sb, fun o m => S.dj o (sb' o m), fun o m => S.nw o (app_sub sb' m), by rw [List.length_set, List.length_set]; exact S.len, fun j s hj => ?_⟩
  have up : ∀ (a : Addr) (o : HO), a ∉ hs ++ owns st → H a = some o → a ∉ hs ++ owns (st.set i (some (.d fr x))) ∧ H a = some o := fun a o m q => ⟨fun z => m (app_sub sb' z), q⟩
  rcases set_get hj with ⟨rfl, hl, e⟩ | ⟨ne, e⟩
  · cases e
    exact ⟨v, set_at S.len hl, Dq.mono (fun a o m q => ⟨⟨m.1, (up a o m.2 q).1⟩, q⟩) x v h⟩
  · obtain ⟨w, h1, h2⟩ := S.sl j s e
    exact ⟨w, by rw [List.getElem?_set_ne ne]; exact h1, h2.mono (fun _ _ _ _ _ => rfl) up⟩
/-- nothing is known of a slot any more -/
theorem StR.drop {C : Cfg} {hs : List Addr} {H : Hp} {σ : St} {st : Stt} (i : Nat) (S : StR C hs H σ st) : StR C hs H σ (st.set i none) := by
  have sb := owns_set_d st i none (fun _ _ _ _ q => by cases q)
  have sb' : ∀ o ∈ owns (st.set i none), o ∈ owns st := fun o m => sb.subset m
  refine ⟨S.ex, S.nd.sublist sb, fun o m => S.dj o (sb' o m), fun o m => S.nw o (app_sub sb' m), by rw [List.length_set]; exact S.len, fun j s hj => ?_⟩
  rcases set_get hj with ⟨rfl, hl, e⟩ | ⟨ne, e⟩
  · cases e
  · obtain ⟨w, h1, h2⟩ := S.sl j s e
    exact ⟨w, h1, h2.mono (fun _ _ _ _ _ => rfl) fun a o m q => ⟨fun z => m (app_sub sb' z), q⟩⟩
/-- one more thing is left out -/
theorem StR.hide {C : Cfg} {hs : List Addr} {Hb H : Hp} {σ : St} {st : Stt} {p : Addr} (S : StR C hs Hb σ st) (hp : Hb p = none) (e : Ex Hb H) (h : H p ≠ none) : StR C (p :: hs) H σ st := by
  have S' := S.ext e
  have up : ∀ (a : Addr) (o : HO), a ∉ hs ++ owns st → Hb a = some o → a ∉ (p :: hs) ++ owns st ∧ H a = some o := fun a o m q => ⟨fun z => by
    rcases List.mem_cons.mp (show a ∈ p :: (hs ++ owns st) from z) with z | z
    · rw [z, hp] at q; cases q
    · exact m z, e a o q⟩
  refine ⟨S'.ex, S.nd, fun o m z => ?_, fun o m => ?_, S.len, fun j s hj => ?_⟩
  · rcases List.mem_cons.mp z with z | z
    · subst z
      exact (S.nwo o m).2 hp
    · exact S.dj o m z
  · rcases List.mem_cons.mp (show o ∈ p :: (hs ++ owns st) from m) with z | z
    · subst z
      exact ⟨Evl.fresh_back S.ex hp, h⟩
    · exact S'.nw o z
  · obtain ⟨w, h1, h2⟩ := S.sl j s hj
    refine ⟨w, h1, h2.mono (fun fr' o' k' xs' z => ?_) up⟩
    subst z
    have n := (S.nwo o' (owns_mem hj)).2
    cases w0 : Hb o' with
    | none => exact absurd w0 n
    | some u => exact e _ _ w0
/-- a new list is put into a slot, to be changed -/
theorem StR.setOwn {C : Cfg} {hs : List Addr} {H Hb : Hp} {σ : St} {st : Stt} {i : Nat} {p : Addr} {fr : Bool} {vs : List V} {xs : List D} (S : StR C hs Hb σ st) (hp : Hb p = none) (e : Ex Hb H) (h : H p = some (.lst vs)) (ha : DqAll (fun a => msk C hs st fr a ∧ a ≠ p) H vs xs) :
    StR C hs H (σ.set i (some (.ref p))) (st.set i (some (.own fr p xs))) := by
  have hno : p ∉ owns st := fun q => (S.nwo p q).2 hp
  have hnh : p ∉ hs := fun q => (S.nw p (List.mem_append_left _ q)).2 hp
  obtain ⟨n1, n2⟩ := owns_set_own st i fr p .lst xs hno S.nd
  have n3 : ∀ o ∈ hs ++ owns (st.set i (some (.own fr p xs))), o = p ∨ o ∈ hs ++ owns st := fun o m => by
    rcases List.mem_append.mp m with m | m
    · exact .inr (List.mem_append_left _ m)
    · exact (n2 o m).imp id (List.mem_append_right _)
  have S' := S.ext e
  have up : ∀ (a : Addr) (o : HO), a ∉ hs ++ owns st → Hb a = some o → a ∉ hs ++ owns (st.set i (some (.own fr p xs))) ∧ H a = some o := fun a o m q => ⟨fun z => by
    rcases n3 a z with z | z
    · rw [z, hp] at q; cases q
    · exact m z, e a o q⟩
  refine ⟨S'.ex, n1, fun o m z => ?_, fun o m => ?_, by rw [List.length_set, List.length_set]; exact S.len, fun j s hj => ?_⟩
  · rcases n2 o m with q | q
    · subst q
      exact hnh z
    · exact S.dj o q z
  · rcases n3 o m with z | z
    · subst z
      exact ⟨Evl.fresh_back S.ex hp, by rw [h]; intro q; cases q⟩
    · exact S'.nw o z
  · rcases set_get hj with ⟨rfl, hl, q⟩ | ⟨ne, q⟩
    · cases q
      exact ⟨_, set_at S.len hl, rfl, vs, h, DqAll.mono (fun a o m q => ⟨⟨m.1.1, fun z => by
        rcases n3 a z with z | z
        · exact m.2 z
        · exact m.1.2 z⟩, q⟩) xs vs ha⟩
    · obtain ⟨w, h1, h2⟩ := S.sl j s q
      refine ⟨w, by rw [List.getElem?_set_ne ne]; exact h1, h2.mono (fun fr' o' k' xs' z => ?_) up⟩
      subst z
      have n := (S.nwo o' (owns_mem q)).2
      cases w0 : Hb o' with
      | none => exact absurd w0 n
      | some u => exact e _ _ w0
/-- two slots of one own list are one slot -/
theorem own_ix : ∀ {st : Stt} {i j : Nat} {fr fr' : Bool} {p : Addr} {k k' : Knd} {xs ys : List D}, (owns st).Nodup → st[i]? = some (some (.obj fr p k xs)) → st[j]? = some (some (.obj fr' p k' ys)) → i = j
  | [], _, _, _, _, _, _, _, _, _, _, h, _ => by simp at h
  | x :: r, 0, 0, _, _, _, _, _, _, _, _, _, _ => rfl
  | x :: r, 0, j + 1, fr, fr', p, k, k', xs, ys, hn, h1, h2 => by
    have e : x = some (.obj fr p k xs) := Option.some.inj h1
    subst e
    exact absurd (owns_mem (st := r) (i := j) h2) (List.nodup_cons.mp (show (p :: owns r).Nodup from hn)).1
  | x :: r, i + 1, 0, fr, fr', p, k, k', xs, ys, hn, h1, h2 => by
    have e : x = some (.obj fr' p k' ys) := Option.some.inj h2
    subst e
    exact absurd (owns_mem (st := r) (i := i) h1) (List.nodup_cons.mp (show (p :: owns r).Nodup from hn)).1
  | x :: r, i + 1, j + 1, fr, fr', p, k, k', xs, ys, hn, h1, h2 => by
    have hr : (owns r).Nodup := by
      match x, hn with
      | none, hn => exact hn
      | some (.d _ _), hn => exact hn
      | some (.scr _), hn => exact hn
      | some (.raw _), hn => exact hn
      | some (.obj _ o _ _), hn => exact (List.nodup_cons.mp (show (o :: owns r).Nodup from hn)).2
    rw [own_ix (st := r) hr h1 h2]
/-- an own list is changed -/
theorem StR.mut {C : Cfg} {hs : List Addr} {H : Hp} {σ : St} {st : Stt} {i : Nat} {p : Addr} {fr : Bool} {xs ys : List D} {ws : List V} (S : StR C hs H σ st) (hi : st[i]? = some (some (.own fr p xs))) (ha : DqAll (msk C hs st fr) H ws ys) :
    StR C hs (upd H p (.lst ws)) σ (st.set i (some (.own fr p ys))) := by
  have eo := owns_upd st i fr fr p .lst .lst xs ys hi
  have hm := owns_mem hi
  have hm' : p ∈ hs ++ owns st := List.mem_append_right _ hm
  have hup : ∀ (a : Addr) (o : HO), a ∉ hs ++ owns st → H a = some o → a ∉ hs ++ owns st ∧ upd H p (.lst ws) a = some o := fun a o m q => ⟨m, by rw [upd_ne (fun z => m (by rw [z]; exact hm'))]; exact q⟩
  refine ⟨S.ex.mut (S.nwo p hm).1, by rw [eo]; exact S.nd, by rw [eo]; exact S.dj, fun o m => ?_, by rw [List.length_set]; exact S.len, fun j s hj => ?_⟩
  · rw [eo] at m
    refine ⟨(S.nw o m).1, ?_⟩
    by_cases e : o = p
    · subst e
      rw [upd_same]
      intro q; cases q
    · rw [upd_ne e]
      exact (S.nw o m).2
  · rw [eo]
    rcases set_get hj with ⟨rfl, hl, q⟩ | ⟨ne, q⟩
    · cases q
      obtain ⟨v, h1, h2, _⟩ := S.sl i _ hi
      subst h2
      exact ⟨_, h1, rfl, ws, upd_same, DqAll.mono (fun a o m q => ⟨⟨m.1, m.2⟩, (hup a o m.2 q).2⟩) ys ws ha⟩
    · obtain ⟨w, h1, h2⟩ := S.sl j s q
      refine ⟨w, h1, h2.mono (fun fr' o' k' xs' z => ?_) hup⟩
      subst z
      exact upd_ne (fun z => by
        subst z
        exact ne (own_ix S.nd hi q))
theorem owns_still : ∀ (st : Stt) (i : Nat) {fr : Bool} {p : Addr} {xs : List D} {fr' : Bool} {x : D}, (owns st).Nodup → st[i]? = some (some (.own fr p xs)) → p ∉ owns (st.set i (some (.d fr' x)))
  | [], i, _, _, _, _, _, _, h => by simp at h
  | x :: r, 0, fr, p, xs, fr', y, hn, h => by
    have e : x = some (.own fr p xs) := Option.some.inj h
    subst e
    exact (List.nodup_cons.mp (show (p :: owns r).Nodup from hn)).1
  | x :: r, i + 1, fr, p, xs, fr', y, hn, h => by
    match x, hn with
    | none, hn => exact owns_still r i hn h
    | some (.d _ _), hn => exact owns_still r i hn h
    | some (.scr _), hn => exact owns_still r i hn h
    | some (.raw _), hn => exact owns_still r i hn h
    | some (.obj _ o _ _), hn =>
      have hn' := List.nodup_cons.mp (show (o :: owns r).Nodup from hn)
      intro q
      rcases List.mem_cons.mp (show p ∈ o :: owns (r.set i (some (.d fr' y))) from q) with e | e
      · subst e
        exact hn'.1 (owns_mem (st := r) (i := i) h)
      · exact owns_still r i hn'.2 h e
/-- an own list is from now on data -/
theorem StR.still {C : Cfg} {hs : List Addr} {H : Hp} {σ : St} {st : Stt} {i : Nat} {p : Addr} {fr : Bool} {xs : List D} (S : StR C hs H σ st) (hi : st[i]? = some (some (.own fr p xs))) : StR C hs H σ (st.set i (some (.d fr (.list xs)))) := by
  have sb := owns_set_d st i (some (.d fr (.list xs))) (fun _ _ _ _ q => by cases q)
  have sb' : ∀ o ∈ owns (st.set i (some (.d fr (.list xs)))), o ∈ owns st := fun o m => sb.subset m
  have nin : p ∉ owns (st.set i (some (.d fr (.list xs)))) := owns_still st i S.nd hi
  refine ⟨S.ex, S.nd.sublist sb, fun o m => S.dj o (sb' o m), fun o m => S.nw o (app_sub sb' m), by rw [List.length_set]; exact S.len, fun j s hj => ?_⟩
  have up : ∀ (a : Addr) (o : HO), a ∉ hs ++ owns st → H a = some o → a ∉ hs ++ owns (st.set i (some (.d fr (.list xs)))) ∧ H a = some o := fun a o m q => ⟨fun z => m (app_sub sb' z), q⟩
  rcases set_get hj with ⟨rfl, hl, e⟩ | ⟨ne, e⟩
  · cases e
    obtain ⟨v, h1, h2, vs, h3, h4⟩ := S.sl i _ hi
    subst h2
    refine ⟨_, h1, .lst ⟨?_, fun z => (List.mem_append.mp z).elim (S.dj p (owns_mem hi)) nin⟩ h3 (DqAll.mono (fun a o m q => ⟨⟨m.1, (up a o m.2 q).1⟩, q⟩) xs vs h4)⟩
    have h0 := (S.nwo p (owns_mem hi)).1
    cases fr with
    | true => exact h0
    | false => exact C.op p h0
  · obtain ⟨w, h1, h2⟩ := S.sl j s e
    exact ⟨w, h1, h2.mono (fun _ _ _ _ _ => rfl) up⟩
end Z

set_option Elab.async false
set_option linter.all false
set_option maxRecDepth 100000
/-! Expressions over plain data. -/
namespace Z
open PySem L2
open Evl (Ex)

/-! ### data with a Lean type -/
class En (α : Type) [DecidableEq α] where
  e : α → D
  fl : ∀ a, (e a).flat = true
  lay : ∀ a, (e a).p.canLay0 = true
  eq : ∀ a b, PyData.eqv (e a).p (e b).p = decide (a = b)
  dep : Nat
  dle : ∀ a, (e a).p.depth ≤ dep
theorem beq_dec {α : Type} [BEq α] [LawfulBEq α] [DecidableEq α] (a b : α) : (a == b) = decide (a = b) := by
  rw [Bool.eq_iff_iff, beq_iff_eq, decide_eq_true_eq]
instance : En Int where
  e := .int
  fl _ := by simp [D.flat]
  lay _ := by simp [D.p, PyData.canLay0]
  eq a b := by simp only [D.p, PyData.eqv]; exact beq_dec a b
  dep := 0
  dle _ := by simp [D.p, PyData.depth]
instance : En Bool where
  e := .bool
  fl _ := by simp [D.flat]
  lay _ := by simp [D.p, PyData.canLay0]
  eq a b := by simp only [D.p, PyData.eqv]; exact beq_dec a b
  dep := 0
  dle _ := by simp [D.p, PyData.depth]
section
variable {α β γ : Type} [DecidableEq α] [En α] [DecidableEq β] [En β] [DecidableEq γ] [En γ]
theorem flAll : ∀ xs : List α, D.flats (xs.map En.e) = true
  | [] => by simp [D.flats]
  | x :: xs => by simp [D.flats, En.fl x, flAll xs]
theorem layAll : ∀ xs : List α, PyData.canLayAll0 (D.ps (xs.map En.e)) = true
  | [] => by simp [D.ps, PyData.canLayAll0]
  | x :: xs => by simp [D.ps, PyData.canLayAll0, En.lay x, layAll xs]
theorem depAll : ∀ xs : List α, PyData.depthAll (D.ps (xs.map En.e)) ≤ En.dep α
  | [] => by simp [D.ps, PyData.depthAll]
  | x :: xs => by
    have h1 := En.dle x
    have h2 := depAll xs
    simp only [List.map_cons, D.ps, PyData.depthAll]
    omega
theorem eqAll : ∀ xs ys : List α, PyData.eqvAll (D.ps (xs.map En.e)) (D.ps (ys.map En.e)) = decide (xs = ys)
  | [], [] => by simp [D.ps, PyData.eqvAll]
  | [], _ :: _ => by simp [D.ps, PyData.eqvAll]
  | _ :: _, [] => by simp [D.ps, PyData.eqvAll]
  | x :: xs, y :: ys => by
    rw [List.map_cons, List.map_cons, D.ps, D.ps, PyData.eqvAll, En.eq x y, eqAll xs ys, ← Bool.decide_and]
    exact decide_eq_decide.mpr (by rw [List.cons.injEq])
instance : En (List α) where
  e xs := .list (xs.map En.e)
  fl xs := by simp only [D.flat]; exact flAll xs
  lay xs := by simp only [D.p, PyData.canLay0]; exact layAll xs
  eq xs ys := by simp only [D.p, PyData.eqv]; exact eqAll xs ys
  dep := En.dep α + 1
  dle xs := by simp only [D.p, PyData.depth]; exact Nat.succ_le_succ (depAll xs)
/-- a pair: a tuple of two -/
instance : En (α × β) where
  e p := .tuple [En.e p.1, En.e p.2]
  fl p := by simp [D.flat, D.flats, En.fl]
  lay p := by simp [D.p, D.ps, PyData.canLay0, PyData.canLayAll0, En.lay]
  eq p q := by
    simp only [D.p, D.ps, PyData.eqv, PyData.eqvAll]
    rw [En.eq, En.eq, Bool.and_true, ← Bool.decide_and]
    exact decide_eq_decide.mpr ⟨fun e => Prod.ext e.1 e.2, fun e => by rw [e]; exact ⟨rfl, rfl⟩⟩
  dep := max (En.dep α) (En.dep β) + 1
  dle p := by
    have h1 := En.dle p.1
    have h2 := En.dle p.2
    simp only [D.p, D.ps, PyData.depth, PyData.depthAll]
    omega
structure T3 (α β γ : Type) where
  a : α
  b : β
  c : γ
  deriving DecidableEq
instance : En (T3 α β γ) where
  e p := .tuple [En.e p.a, En.e p.b, En.e p.c]
  fl p := by simp [D.flat, D.flats, En.fl]
  lay p := by simp [D.p, D.ps, PyData.canLay0, PyData.canLayAll0, En.lay]
  eq p q := by
    simp only [D.p, D.ps, PyData.eqv, PyData.eqvAll]
    rw [En.eq, En.eq, En.eq, Bool.and_true, ← Bool.decide_and, ← Bool.decide_and]
    exact decide_eq_decide.mpr ⟨fun e => by cases p; cases q; simp_all, fun e => by rw [e]; exact ⟨rfl, rfl, rfl⟩⟩
  dep := max (En.dep α) (max (En.dep β) (En.dep γ)) + 1
  dle p := by
    have h1 := En.dle p.a
    have h2 := En.dle p.b
    have h3 := En.dle p.c
    simp only [D.p, D.ps, PyData.depth, PyData.depthAll]
    omega
theorem shaped_en (h : En.dep α ≤ 64) (a : α) : SeqAt.shaped (En.e a).p = true := by
  have h1 := En.dle a
  show ((En.e a).p.canLay0 && decide ((En.e a).p.depth ≤ 64)) = true
  rw [Bool.and_eq_true]
  exact ⟨En.lay a, decide_eq_true (by omega)⟩
theorem any_eq (ds : List α) (x : α) : ((D.ps (ds.map En.e)).any fun z => PyData.eqv z (En.e x).p) = decide (x ∈ ds) := by
  induction ds with
  | nil => simp [D.ps]
  | cons d ds ih =>
    rw [List.map_cons, D.ps, List.any_cons, ih, En.eq, ← Bool.decide_or]
    exact decide_eq_decide.mpr (by rw [List.mem_cons, eq_comm])
end
abbrev dI (i : Int) : D := .int i
abbrev dL (ns : List Int) : D := .list (ns.map .int)
abbrev dLL (rs : List (List Int)) : D := .list (rs.map dL)

/-! ### what an expression gives -/
def EvE (C : Cfg) (te : TE) (st : Stt) (fr : Bool) (d : D) : Prop := ∀ hs σ H, StR C hs H σ st → ∀ Q : VK, (∀ v H2, Ex H H2 → Dq (msk C hs st fr) H2 v d → Q v H2) → te σ H Q
/-- a list to be read -/
def EvL (C : Cfg) (te : TE) (st : Stt) (fr : Bool) (xs : List D) : Prop := ∀ hs σ H, StR C hs H σ st → ∀ Q : VK, (∀ o vs H2, Ex H H2 → H2 o = some (.lst vs) → DqAll (msk C hs st fr) H2 vs xs → Q (.ref o) H2) → te σ H Q
/-- a new list -/
def EvF (C : Cfg) (te : TE) (st : Stt) (fr : Bool) (xs : List D) : Prop := ∀ hs σ H, StR C hs H σ st → ∀ Q : VK, (∀ p vs H2, H p = none → Ex H H2 → H2 p = some (.lst vs) → DqAll (fun a => msk C hs st fr a ∧ a ≠ p) H2 vs xs → Q (.ref p) H2) → te σ H Q
/-- the script -/
def EvS (C : Cfg) (te : TE) (st : Stt) (ns : List Int) : Prop := ∀ hs σ H, StR C hs H σ st → ∀ Q : VK, (∀ a H2, Ex H H2 → C.M a → SqL C.K C.H0 a (ns.map V.int) → Q (.ref a) H2) → te σ H Q
def EvT (C : Cfg) (tt : TT) (st : Stt) (b : Bool) : Prop := ∀ hs σ H, StR C hs H σ st → ∀ Q : Bool → Hp → Prop, (∀ H2, Ex H H2 → Q b H2) → tt σ H Q
/-- a row of items, for a display -/
def EvD (C : Cfg) (ta : TA) (st : Stt) (fr : Bool) (ds : List D) : Prop := ∀ hs σ H, StR C hs H σ st → ∀ Q : List V → Hp → Prop, (∀ vs H2, Ex H H2 → DqAll (msk C hs st fr) H2 vs ds → Q vs H2) → ta σ H Q
section
variable {C : Cfg} {st : Stt} {te ta tb : TE} {fr fr' fr2 : Bool} {d x y : D} {xs ys : List D} {ns : List Int} {i j : Int} {b c : Bool} {t u : TT}
theorem bm_weak {C : Cfg} {fr : Bool} {a : Addr} (h : bm C fr a) : bm C false a := by
  cases fr with
  | true => exact C.op a h
  | false => exact h
theorem msk_weak {hs : List Addr} {a : Addr} (h : msk C hs st fr a) : msk C hs st false a := ⟨bm_weak h.1, h.2⟩
theorem bm_fr {C : Cfg} {fr : Bool} {a : Addr} (h : C.H0 a = none) : bm C fr a := by
  cases fr with
  | true => exact h
  | false => exact C.op a h
theorem msk_fr {hs : List Addr} {a : Addr} (h : msk C hs st true a) : msk C hs st fr a := ⟨bm_fr h.1, h.2⟩
theorem EvE.weak (h : EvE C te st fr d) : EvE C te st false d := fun hs σ H S Q q => h hs σ H S Q fun v H2 e hd => q v H2 e (hd.sub fun _ => msk_weak)
theorem EvE.any (h : EvE C te st true d) : EvE C te st fr d := fun hs σ H S Q q => h hs σ H S Q fun v H2 e hd => q v H2 e (hd.sub fun _ => msk_fr)
theorem EvE.int (h : EvE C te st fr (.int i)) : EvE C te st fr' (.int i) := fun hs σ H S Q q => h hs σ H S Q fun v H2 e hd => q v H2 e (by cases hd; exact .int i)
theorem EvE.bl (h : EvE C te st fr (.bool b)) : EvE C te st fr' (.bool b) := fun hs σ H S Q q => h hs σ H S Q fun v H2 e hd => q v H2 e (by cases hd; exact .bl b)
theorem EvE.is (h : EvE C te st fr d) (e : d = x) : EvE C te st fr x := e ▸ h
theorem EvF.is (h : EvF C te st fr xs) (e : xs = ys) : EvF C te st fr ys := e ▸ h
theorem EvT.is (h : EvT C t st b) (e : b = c) : EvT C t st c := e ▸ h
theorem EvL.ints (h : EvL C te st fr (ns.map .int)) : EvL C te st fr' (ns.map .int) := fun hs σ H S Q q => h hs σ H S Q fun o vs H2 e ho hd => q o vs H2 e ho (by rw [hd.ints]; exact .ofInts ns)
theorem EvE.ints (h : EvL C te st fr (ns.map .int)) : EvL C te st fr' (ns.map .int) := h.ints
theorem ev_var {k : Nat} (h : st[k]? = some (some (.d fr d))) : EvE C (tVar k) st fr d := fun hs σ H S Q q => by
  obtain ⟨v, h1, h2⟩ := S.sl k _ h
  exact ⟨v, h1, q v H (Evl.Ex.refl H) h2⟩
theorem el_own {k : Nat} {o : Addr} (h : st[k]? = some (some (.own fr o xs))) : EvL C (tVar k) st fr xs := fun hs σ H S Q q => by
  obtain ⟨v, h1, h2, vs, h3, h4⟩ := S.sl k _ h
  subst h2
  exact ⟨_, h1, q o vs H (Evl.Ex.refl H) h3 h4⟩
/-- a slot of which the value is known -/
theorem ev_raw {k : Nat} {v : V} (h : st[k]? = some (some (.raw v))) : ∀ hs σ H, StR C hs H σ st → ∀ Q : VK, Q v H → tVar k σ H Q := fun hs σ H S Q q => by
  obtain ⟨u, h1, h2⟩ := S.sl k _ h
  subst h2
  exact ⟨u, h1, q⟩
theorem es_var {k : Nat} (h : st[k]? = some (some (.scr ns))) : EvS C (tVar k) st ns := fun hs σ H S Q q => by
  obtain ⟨v, h1, a, h2, hm, h3⟩ := S.sl k _ h
  subst h2
  exact ⟨_, h1, q a H (Evl.Ex.refl H) hm h3⟩
theorem EvE.l (h : EvE C te st fr (.list xs)) : EvL C te st fr xs := fun hs σ H S Q q => h hs σ H S Q fun v H2 e hd => by
  cases hd with
  | lst m ho ha => exact q _ _ H2 e ho ha
theorem EvF.l (h : EvF C te st fr xs) : EvL C te st fr xs := fun hs σ H S Q q => h hs σ H S Q fun p vs H2 hp e ho ha => q _ _ H2 e ho (ha.sub fun _ z => z.1)
theorem EvF.e (h : EvF C te st fr xs) : EvE C te st fr (.list xs) := fun hs σ H S Q q => h hs σ H S Q fun p vs H2 hp e ho ha => q _ H2 e (.lst (S.fresh hp fr) ho (ha.sub fun _ z => z.1))
theorem EvF.weak (h : EvF C te st fr xs) : EvF C te st false xs := fun hs σ H S Q q => h hs σ H S Q fun p vs H2 hp e ho ha => q p vs H2 hp e ho (ha.sub fun _ z => ⟨msk_weak z.1, z.2⟩)
theorem EvF.any (h : EvF C te st true xs) : EvF C te st fr xs := fun hs σ H S Q q => h hs σ H S Q fun p vs H2 hp e ho ha => q p vs H2 hp e ho (ha.sub fun _ z => ⟨msk_fr z.1, z.2⟩)
theorem ev_int : EvE C (tC (.int i)) st true (.int i) := fun hs σ H S Q q => q _ H (Evl.Ex.refl H) (.int i)
theorem ev_bl : EvE C (tC (.bl b)) st true (.bool b) := fun hs σ H S Q q => q _ H (Evl.Ex.refl H) (.bl b)
theorem ev_non : EvE C (tC .non) st true .none := fun hs σ H S Q q => q _ H (Evl.Ex.refl H) .non

/-! operators of whole numbers -/
theorem ev_I0 {g : Int → Int → Int} (ha : EvE C ta st fr (.int i)) (hb : EvE C tb st fr2 (.int j)) : EvE C (tOp (rI0 fun i j => .int (g i j)) ta tb) st true (.int (g i j)) := fun hs σ H S Q q =>
  ha hs σ H S _ fun v H1 e1 d1 => hb hs σ H1 (S.ext e1) _ fun w H2 e2 d2 => by
    cases d1
    cases d2
    exact ⟨i, j, rfl, rfl, q _ H2 (e1.trans e2) (.int _)⟩
theorem ev_I0b {g : Int → Int → Bool} (ha : EvE C ta st fr (.int i)) (hb : EvE C tb st fr2 (.int j)) : EvE C (tOp (rI0 fun i j => .bl (g i j)) ta tb) st true (.bool (g i j)) := fun hs σ H S Q q =>
  ha hs σ H S _ fun v H1 e1 d1 => hb hs σ H1 (S.ext e1) _ fun w H2 e2 d2 => by
    cases d1
    cases d2
    exact ⟨i, j, rfl, rfl, q _ H2 (e1.trans e2) (.bl _)⟩
theorem ev_I {P : Int → Int → Prop} {g : Int → Int → Int} (ha : EvE C ta st fr (.int i)) (hb : EvE C tb st fr2 (.int j)) (hp : P i j) : EvE C (tOp (rI P fun i j => .int (g i j)) ta tb) st true (.int (g i j)) := fun hs σ H S Q q =>
  ha hs σ H S _ fun v H1 e1 d1 => hb hs σ H1 (S.ext e1) _ fun w H2 e2 d2 => by
    cases d1
    cases d2
    exact ⟨i, j, rfl, rfl, hp, q _ H2 (e1.trans e2) (.int _)⟩
theorem ev_neg (ha : EvE C ta st fr (.int i)) : EvE C (tUn (rU fun i => .int (-i)) ta) st true (.int (-i)) := fun hs σ H S Q q =>
  ha hs σ H S _ fun v H1 e1 d1 => by
    cases d1
    exact ⟨i, rfl, q _ H1 e1 (.int _)⟩
theorem ev_eqI (ha : EvE C ta st fr (.int i)) (hb : EvE C tb st fr2 (.int j)) : EvE C (tOp rEq ta tb) st true (.bool (decide (i = j))) := fun hs σ H S Q q =>
  ha hs σ H S _ fun v H1 e1 d1 => hb hs σ H1 (S.ext e1) _ fun w H2 e2 d2 => by
    cases d1
    cases d2
    refine ⟨rfl, ?_⟩
    rw [show decide (V.int i = V.int j) = decide (i = j) from decide_eq_decide.mpr ⟨fun z => by cases z; rfl, fun z => by rw [z]⟩]
    exact q _ H2 (e1.trans e2) (.bl _)
theorem ev_neI (ha : EvE C ta st fr (.int i)) (hb : EvE C tb st fr2 (.int j)) : EvE C (tOp rNe ta tb) st true (.bool (!decide (i = j))) := fun hs σ H S Q q =>
  ha hs σ H S _ fun v H1 e1 d1 => hb hs σ H1 (S.ext e1) _ fun w H2 e2 d2 => by
    cases d1
    cases d2
    refine ⟨rfl, ?_⟩
    rw [show decide (V.int i = V.int j) = decide (i = j) from decide_eq_decide.mpr ⟨fun z => by cases z; rfl, fun z => by rw [z]⟩]
    exact q _ H2 (e1.trans e2) (.bl _)
theorem ev_isN (ha : EvE C ta st fr d) (hb : EvE C tb st fr2 .none) (h : b = match d with | .none => true | _ => false) : EvE C (tOp (fun x y H Q => y = .non ∧ Q (.bl (decide (x = .non))) H) ta tb) st true (.bool b) := fun hs σ H S Q q =>
  ha hs σ H S _ fun v H1 e1 d1 => hb hs σ H1 (S.ext e1) _ fun w H2 e2 d2 => by
    cases d2
    refine ⟨rfl, ?_⟩
    have e : decide (v = V.non) = b := by
      subst h
      cases d1 <;> rfl
    rw [e]
    exact q _ H2 (e1.trans e2) (.bl _)
theorem ev_notN (ha : EvE C ta st fr d) (hb : EvE C tb st fr2 .none) (h : b = match d with | .none => false | _ => true) : EvE C (tOp (fun x y H Q => y = .non ∧ Q (.bl (!decide (x = .non))) H) ta tb) st true (.bool b) := fun hs σ H S Q q =>
  ha hs σ H S _ fun v H1 e1 d1 => hb hs σ H1 (S.ext e1) _ fun w H2 e2 d2 => by
    cases d2
    refine ⟨rfl, ?_⟩
    have e : (!decide (v = V.non)) = b := by
      subst h
      cases d1 <;> rfl
    rw [e]
    exact q _ H2 (e1.trans e2) (.bl _)

/-! lists read -/
theorem ev_ix {α : Type} {en : α → D} {as : List α} {a : α} {K : PySem.W.Frag} (ha : EvL C ta st fr (as.map en)) (hb : EvE C tb st fr2 (.int i)) (hi : 0 ≤ i) (hx : as[i.toNat]? = some a) : EvE C (tOp (rIxL K) ta tb) st fr (en a) := fun hs σ H S Q q =>
  ha hs σ H S _ fun o vs H1 e1 ho hd => hb hs σ H1 (S.ext e1) _ fun w H2 e2 d2 => by
    cases d2
    obtain ⟨y, h1, h2⟩ := (hd.ext e2).get (i := i.toNat) (x := en a) (by rw [List.getElem?_map, hx]; rfl)
    exact ⟨o, vs, i, y, rfl, rfl, .inl (.inl (e2 _ _ ho)), at_of (j := i.toNat) (by omega) h1, q y H2 (e1.trans e2) h2⟩
theorem ev_ixLast {α : Type} {en : α → D} {as : List α} {a : α} {K : PySem.W.Frag} (ha : EvL C ta st fr (as.map en)) (hb : EvE C tb st fr2 (.int (-1))) (hx : as.getLast? = some a) : EvE C (tOp (rIxL K) ta tb) st fr (en a) := fun hs σ H S Q q =>
  ha hs σ H S _ fun o vs H1 e1 ho hd => hb hs σ H1 (S.ext e1) _ fun w H2 e2 d2 => by
    cases d2
    have hx' : as[as.length - 1]? = some a := by rw [← List.getLast?_eq_getElem?]; exact hx
    obtain ⟨y, h1, h2⟩ := (hd.ext e2).get (i := as.length - 1) (x := en a) (by rw [List.getElem?_map, hx']; rfl)
    have hl := hd.len
    rw [List.length_map] at hl
    have hpos : 0 < vs.length := by
      have := (List.getElem?_eq_some_iff.mp hx').1
      omega
    refine ⟨o, vs, -1, y, rfl, rfl, .inl (.inl (e2 _ _ ho)), ?_, q y H2 (e1.trans e2) h2⟩
    unfold atI ixN
    rw [if_neg (by omega), if_pos (by omega)]
    show vs[((-1 : Int) + (vs.length : Int)).toNat]? = some y
    rw [show ((-1 : Int) + (vs.length : Int)).toNat = as.length - 1 by omega]
    exact h1
theorem ev_ixT {xs : List D} {K : PySem.W.Frag} (ha : EvE C ta st fr (.tuple xs)) (hb : EvE C tb st fr2 (.int i)) (hi : 0 ≤ i) (hx : xs[i.toNat]? = some x) : EvE C (tOp (rIxT K) ta tb) st fr x := fun hs σ H S Q q =>
  ha hs σ H S _ fun v H1 e1 d1 => hb hs σ H1 (S.ext e1) _ fun w H2 e2 d2 => by
    cases d1 with
    | tup m ho hd =>
      cases d2
      obtain ⟨y, h1, h2⟩ := (hd.ext e2).get (i := i.toNat) (x := x) hx
      exact ⟨_, _, i, y, rfl, rfl, .inl (.inl (e2 _ _ ho)), at_of (j := i.toNat) (by omega) h1, q y H2 (e1.trans e2) h2⟩
theorem ev_ixS {K : PySem.W.Frag} {n : Int} (hK : K = C.K) (ha : EvS C ta st ns) (hb : EvE C tb st fr2 (.int i)) (hi : 0 ≤ i) (hx : ns[i.toNat]? = some n) : EvE C (tOp (rIxL K) ta tb) st true (.int n) := fun hs σ H S Q q =>
  ha hs σ H S _ fun o H1 e1 _ ho => hb hs σ H1 (S.ext e1) _ fun w H2 e2 d2 => by
    cases d2
    subst hK
    exact ⟨o, ns.map V.int, i, .int n, rfl, rfl, Evl.ex_l (S.ex.trans (e1.trans e2)) ho, at_of (j := i.toNat) (by omega) (by rw [List.getElem?_map, hx]; rfl), q _ H2 (e1.trans e2) (.int n)⟩
def rLenQ (K : PySem.W.Frag) : List V → Hp → VK → Prop := fun xs H Q => ∃ p ys, xs = [.ref p] ∧ (SqL K H p ys ∨ SqT K H p ys) ∧ Q (.int ys.length) H
theorem ev_len {α : Type} {en : α → D} {as : List α} {K : PySem.W.Frag} (ha : EvL C ta st fr (as.map en)) : EvE C (tCB (rLenQ K) (tCons ta tNil)) st true (.int (as.length : Int)) := fun hs σ H S Q q =>
  ha hs σ H S _ fun o vs H1 e1 ho hd => ⟨o, vs, rfl, .inl (.inl (.inl ho)), by
    have hl := hd.len
    rw [List.length_map] at hl
    rw [hl]
    exact q _ H1 e1 (.int _)⟩
theorem ev_lenT {xs : List D} {K : PySem.W.Frag} (ha : EvE C ta st fr (.tuple xs)) : EvE C (tCB (rLenQ K) (tCons ta tNil)) st true (.int (xs.length : Int)) := fun hs σ H S Q q =>
  ha hs σ H S _ fun v H1 e1 d1 => by
    cases d1 with
    | tup m ho hd =>
      refine ⟨_, _, rfl, .inr (.inl (.inl ho)), ?_⟩
      rw [hd.len]
      exact q _ H1 e1 (.int _)
theorem ev_lenS {K : PySem.W.Frag} (hK : K = C.K) (ha : EvS C ta st ns) : EvE C (tCB (rLenQ K) (tCons ta tNil)) st true (.int (ns.length : Int)) := fun hs σ H S Q q =>
  ha hs σ H S _ fun o H1 e1 _ ho => ⟨o, ns.map V.int, rfl, .inl (by subst hK; exact Evl.ex_l (S.ex.trans e1) ho), by
    rw [List.length_map]
    exact q _ H1 e1 (.int _)⟩
theorem inV_ints (x : Int) : ∀ ns : List Int, inV (.int x) (ns.map V.int) = decide (x ∈ ns)
  | [] => by simp [inV]
  | n :: ns => by
    have ih := inV_ints x ns
    unfold inV at ih ⊢
    rw [List.map_cons, List.any_cons, ih]
    show ((n == x) || decide (x ∈ ns)) = decide (x ∈ n :: ns)
    rw [beq_dec, ← Bool.decide_or]
    exact decide_eq_decide.mpr (by rw [List.mem_cons, eq_comm])
theorem flat_ints : ∀ ns : List Int, (ns.map V.int).all flatV = true
  | [] => rfl
  | n :: ns => by
    rw [List.map_cons, List.all_cons, flat_ints ns]
    rfl
theorem ev_inI {K : PySem.W.Frag} (ha : EvE C ta st fr (.int i)) (hb : EvL C tb st fr2 (ns.map .int)) : EvE C (tOp (rIn K false) ta tb) st true (.bool (decide (i ∈ ns))) := fun hs σ H S Q q =>
  ha hs σ H S _ fun v H1 e1 d1 => hb hs σ H1 (S.ext e1) _ fun o vs H2 e2 ho d2 => by
    cases d1
    refine ⟨o, vs, rfl, .inl (.inl (.inl ho)), rfl, by rw [d2.ints]; exact flat_ints ns, ?_⟩
    rw [d2.ints, inV_ints]
    exact q _ H2 (e1.trans e2) (.bl _)
theorem ev_niI {K : PySem.W.Frag} (ha : EvE C ta st fr (.int i)) (hb : EvL C tb st fr2 (ns.map .int)) : EvE C (tOp (rIn K true) ta tb) st true (.bool (!decide (i ∈ ns))) := fun hs σ H S Q q =>
  ha hs σ H S _ fun v H1 e1 d1 => hb hs σ H1 (S.ext e1) _ fun o vs H2 e2 ho d2 => by
    cases d1
    refine ⟨o, vs, rfl, .inl (.inl (.inl ho)), rfl, by rw [d2.ints]; exact flat_ints ns, ?_⟩
    rw [d2.ints, inV_ints]
    exact q _ H2 (e1.trans e2) (.bl _)
/-! deep == and in -/
theorem dp_ints {K : PySem.W.Frag} {H : Hp} : ∀ ns : List Int, DpAll K H (ns.map V.int) (D.ps (ns.map .int))
  | [] => by simp only [List.map_nil, D.ps]; exact .nil
  | n :: ns => by
    simp only [List.map_cons, D.ps, D.p]
    exact .cons (.int n) (dp_ints ns)
theorem Dp.ext {K : PySem.W.Frag} {H H' : Hp} (e : Ex H H') : ∀ (d : PyData) (v : V), Dp K H v d → Dp K H' v d := by
  intro d v h
  refine Dp.rec (motive_1 := fun v d _ => Dp K H' v d) (motive_2 := fun vs ds _ => DpAll K H' vs ds) .non .bl .int .str (fun s _ ih => .lst (Evl.ex_l e s) ih) (fun s _ ih => .tup (Evl.ex_t e s) ih) .nil (fun _ _ h1 h2 => .cons h1 h2) h
/-- anything that can be compared -/
def EvP (C : Cfg) (te : TE) (st : Stt) (d : D) : Prop := ∀ hs σ H, StR C hs H σ st → ∀ Q : VK, (∀ v H2, Ex H H2 → Dp C.K H2 v d.p → Q v H2) → te σ H Q
theorem EvE.p' (h : EvE C te st fr d) (f : d.flat = true) : EvP C te st d := fun hs σ H S Q q => h hs σ H S Q fun v H2 e hd => q v H2 e (hd.dp d v f)
theorem EvE.p {α : Type} [DecidableEq α] [En α] {a : α} (h : EvE C te st fr (En.e a)) : EvP C te st (En.e a) := h.p' (En.fl a)
theorem EvL.p {α : Type} [DecidableEq α] [En α] {a : List α} (h : EvL C te st fr (a.map En.e)) : EvP C te st (En.e a) := fun hs σ H S Q q => h hs σ H S Q fun o vs H2 e ho hd => q _ H2 e (by
  show Dp C.K H2 (.ref o) (D.p (.list (a.map En.e)))
  simp only [D.p]
  exact .lst (.inl (.inl ho)) (hd.dp _ vs (flAll a)))
theorem EvS.p (h : EvS C te st ns) : EvP C te st (En.e ns) := fun hs σ H S Q q => h hs σ H S Q fun a H2 e _ ho => q _ H2 e (by
  show Dp C.K H2 (.ref a) (D.p (.list (ns.map .int)))
  simp only [D.p]
  exact .lst (Evl.ex_l (S.ex.trans e) ho) (dp_ints ns))
section
variable {α : Type} [DecidableEq α] [En α] {a a' : α} {as : List α} {K : PySem.W.Frag}
theorem ev_eqD (hK : K = C.K) (ha : EvP C ta st (En.e a)) (hb : EvP C tb st (En.e a')) (hd : En.dep α ≤ 64) : EvE C (tOp (rEqD K) ta tb) st true (.bool (decide (a = a'))) := fun hs σ H S Q q =>
  ha hs σ H S _ fun v H1 e1 d1 => hb hs σ H1 (S.ext e1) _ fun w H2 e2 d2 => by
    subst hK
    refine ⟨_, _, Dp.ext e2 _ _ d1, d2, shaped_en hd a, shaped_en hd a', ?_⟩
    rw [En.eq]
    exact q _ H2 (e1.trans e2) (.bl _)
theorem ev_neD (hK : K = C.K) (ha : EvP C ta st (En.e a)) (hb : EvP C tb st (En.e a')) (hd : En.dep α ≤ 64) : EvE C (tOp (rNeD K) ta tb) st true (.bool (!decide (a = a'))) := fun hs σ H S Q q =>
  ha hs σ H S _ fun v H1 e1 d1 => hb hs σ H1 (S.ext e1) _ fun w H2 e2 d2 => by
    subst hK
    refine ⟨_, _, Dp.ext e2 _ _ d1, d2, shaped_en hd a, shaped_en hd a', ?_⟩
    rw [En.eq]
    exact q _ H2 (e1.trans e2) (.bl _)
theorem dp_list {K : PySem.W.Frag} {H : Hp} {v : V} (h : Dp K H v (En.e as).p) : Dp K H v (.list (D.ps (as.map En.e))) := by
  have e : (En.e as : D).p = .list (D.ps (as.map En.e)) := by
    show D.p (.list (as.map En.e)) = _
    simp only [D.p]
  rw [e] at h
  exact h
theorem shaped_list (h : En.dep (List α) ≤ 64) : SeqAt.shaped (.list (D.ps (as.map En.e))) = true := by
  have e : (En.e as : D).p = .list (D.ps (as.map En.e)) := by
    show D.p (.list (as.map En.e)) = _
    simp only [D.p]
  rw [← e]
  exact shaped_en h as
theorem ev_inD [dm : Decidable (a ∈ as)] (hK : K = C.K) (ha : EvP C ta st (En.e a)) (hb : EvP C tb st (En.e as)) (hd : En.dep (List α) ≤ 64) : EvE C (tOp (rInD K) ta tb) st true (.bool (decide (a ∈ as))) := fun hs σ H S Q q =>
  ha hs σ H S _ fun v H1 e1 d1 => hb hs σ H1 (S.ext e1) _ fun w H2 e2 d2 => by
    subst hK
    have hd' : En.dep α ≤ 64 := Nat.le_trans (Nat.le_succ _) hd
    refine ⟨_, D.ps (as.map En.e), Dp.ext e2 _ _ d1, dp_list d2, shaped_en hd' a, shaped_list hd, ?_⟩
    rw [any_eq, decide_eq_decide.mpr (Iff.rfl : a ∈ as ↔ a ∈ as)]
    exact q _ H2 (e1.trans e2) (.bl _)
theorem ev_niD [dm : Decidable (a ∈ as)] (hK : K = C.K) (ha : EvP C ta st (En.e a)) (hb : EvP C tb st (En.e as)) (hd : En.dep (List α) ≤ 64) : EvE C (tOp (rNotInD K) ta tb) st true (.bool (!decide (a ∈ as))) := fun hs σ H S Q q =>
  ha hs σ H S _ fun v H1 e1 d1 => hb hs σ H1 (S.ext e1) _ fun w H2 e2 d2 => by
    subst hK
    have hd' : En.dep α ≤ 64 := Nat.le_trans (Nat.le_succ _) hd
    refine ⟨_, D.ps (as.map En.e), Dp.ext e2 _ _ d1, dp_list d2, shaped_en hd' a, shaped_list hd, ?_⟩
    rw [any_eq, decide_eq_decide.mpr (Iff.rfl : a ∈ as ↔ a ∈ as)]
    exact q _ H2 (e1.trans e2) (.bl _)
end

/-! tests, and or not -/
theorem et_test (h : EvE C te st fr (.bool b)) : EvT C (tTest te) st b := fun hs σ H S Q q => h hs σ H S _ fun v H2 e d => by
  cases d
  exact ⟨b, rfl, q H2 e⟩
theorem et_B (h : EvE C te st fr (.bool b)) : EvT C (tB te) st b := fun hs σ H S Q q => h hs σ H S _ fun v H2 e d => by
  cases d
  exact ⟨b, rfl, q H2 e⟩
theorem et_yes : EvT C tYes st true := fun hs σ H S Q q => q H (Evl.Ex.refl H)
theorem et_and (h1 : EvT C t st b) (h2 : b = true → EvT C u st c) : EvT C (tAnd t u) st (b && c) := fun hs σ H S Q q => h1 hs σ H S _ fun H1 e1 => by
  cases b with
  | true =>
    show u σ H1 Q
    exact h2 rfl hs σ H1 (S.ext e1) Q fun H2 e2 => q H2 (e1.trans e2)
  | false => exact q H1 e1
theorem et_or (h1 : EvT C t st b) (h2 : b = false → EvT C u st c) : EvT C (tOr t u) st (b || c) := fun hs σ H S Q q => h1 hs σ H S _ fun H1 e1 => by
  cases b with
  | true => exact q H1 e1
  | false =>
    show u σ H1 Q
    exact h2 rfl hs σ H1 (S.ext e1) Q fun H2 e2 => q H2 (e1.trans e2)
theorem et_not (h : EvT C t st b) : EvT C (tNot t) st (!b) := fun hs σ H S Q q => h hs σ H S _ fun H2 e => q H2 e
theorem ev_and (h1 : EvE C ta st fr (.bool b)) (h2 : b = true → EvE C tb st fr2 (.bool c)) : EvE C (tAndV ta tb) st true (.bool (b && c)) := fun hs σ H S Q q => h1 hs σ H S _ fun v H1 e1 d => by
  cases d
  refine ⟨b, rfl, ?_⟩
  cases b with
  | true =>
    show tb σ H1 Q
    exact h2 rfl hs σ H1 (S.ext e1) Q fun v H2 e2 d => by
      cases d
      exact q _ H2 (e1.trans e2) (.bl _)
  | false => exact q _ H1 e1 (.bl _)
theorem ev_or (h1 : EvE C ta st fr (.bool b)) (h2 : b = false → EvE C tb st fr2 (.bool c)) : EvE C (tOrV ta tb) st true (.bool (b || c)) := fun hs σ H S Q q => h1 hs σ H S _ fun v H1 e1 d => by
  cases d
  refine ⟨b, rfl, ?_⟩
  cases b with
  | true => exact q _ H1 e1 (.bl _)
  | false =>
    show tb σ H1 Q
    exact h2 rfl hs σ H1 (S.ext e1) Q fun v H2 e2 d => by
      cases d
      exact q _ H2 (e1.trans e2) (.bl _)
theorem ev_not (h : EvE C ta st fr (.bool b)) : EvE C (tNotV ta) st true (.bool (!b)) := fun hs σ H S Q q => h hs σ H S _ fun v H2 e d => by
  cases d
  exact ⟨b, rfl, q _ H2 e (.bl _)⟩
theorem ev_if (h : EvT C t st b) (h1 : b = true → EvE C ta st fr d) (h2 : b = false → EvE C tb st fr d) : EvE C (tIf t ta tb) st fr d := fun hs σ H S Q q => h hs σ H S _ fun H1 e1 => by
  cases b with
  | true => exact h1 rfl hs σ H1 (S.ext e1) Q fun v H2 e2 d => q v H2 (e1.trans e2) d
  | false => exact h2 rfl hs σ H1 (S.ext e1) Q fun v H2 e2 d => q v H2 (e1.trans e2) d

/-! displays -/
theorem ed_nil : EvD C tNil st fr [] := fun hs σ H S Q q => q [] H (Evl.Ex.refl H) .nil
theorem ed_cons {tr : TA} (h : EvE C te st fr d) (hr : EvD C tr st fr xs) : EvD C (tCons te tr) st fr (d :: xs) := fun hs σ H S Q q => h hs σ H S _ fun v H1 e1 d1 => hr hs σ H1 (S.ext e1) _ fun vs H2 e2 d2 => q _ H2 (e1.trans e2) (.cons (d1.ext e2) d2)
theorem ed_star {K : PySem.W.Frag} {tr : TA} (h : EvL C te st fr ys) (hr : EvD C tr st fr xs) : EvD C (StX.tStar K te tr) st fr (ys ++ xs) := fun hs σ H S Q q => h hs σ H S _ fun o vs H1 e1 ho d1 => ⟨o, vs, rfl, .inr (.inl (.inl ho)), hr hs σ H1 (S.ext e1) _ fun ws H2 e2 d2 => q _ H2 (e1.trans e2) ((d1.ext e2).app d2)⟩
theorem ev_tup {ta : TA} (h : EvD C ta st fr xs) (hl : xs.length ≤ sizeLine) : EvE C (tTup ta) st fr (.tuple xs) := fun hs σ H S Q q => h hs σ H S _ fun vs H1 e1 d1 => ⟨by rw [d1.len]; exact hl, fun p hp =>
  q _ _ (e1.trans (Evl.Ex.new hp)) (.tup ((S.ext e1).fresh hp fr) upd_same (d1.ext (Evl.Ex.new hp)))⟩
theorem free_ne {M : Addr → Prop} {H : Hp} {p : Addr} {vs : List V} {xs : List D} (h : DqAll M H vs xs) (hp : H p = none) : DqAll (fun a => M a ∧ a ≠ p) H vs xs := h.mono (fun a o m q => ⟨⟨m, ne_of_none q hp⟩, q⟩) xs vs
theorem ef_lst {ta : TA} (h : EvD C ta st fr xs) (hl : xs.length ≤ sizeLine) : EvF C (tLst ta) st fr xs := fun hs σ H S Q q => h hs σ H S _ fun vs H1 e1 d1 => ⟨by rw [d1.len]; exact hl, fun p hp =>
  q p vs _ (Evl.fresh_back e1 hp) (e1.trans (Evl.Ex.new hp)) upd_same ((free_ne d1 hp).ext (Evl.Ex.new hp))⟩
/-! new lists of lists -/
theorem ef_cat (ha : EvL C ta st fr xs) (hb : EvL C tb st fr ys) (hl : xs.length + ys.length ≤ sizeLine) : EvF C (tOp rCat ta tb) st fr (xs ++ ys) := fun hs σ H S Q q =>
  ha hs σ H S _ fun o vs H1 e1 ho d1 => hb hs σ H1 (S.ext e1) _ fun o2 ws H2 e2 ho2 d2 => by
    have d1' := d1.ext e2
    refine ⟨o, o2, vs, ws, rfl, rfl, e2 _ _ ho, ho2, by rw [d1.len, d2.len]; exact hl, fun p hp => ?_⟩
    exact q p _ _ (Evl.fresh_back (e1.trans e2) hp) ((e1.trans e2).trans (Evl.Ex.new hp)) upd_same ((free_ne (d1'.app d2) hp).ext (Evl.Ex.new hp))
def rLstQ (K : PySem.W.Frag) : List V → Hp → VK → Prop := fun xs H Q => ∃ p ys, xs = [.ref p] ∧ (SqL K H p ys ∨ SqT K H p ys) ∧ ∀ l, H l = none → Q (.ref l) (upd H l (.lst ys))
theorem ef_list {K : PySem.W.Frag} (ha : EvL C ta st fr xs) : EvF C (tCB (rLstQ K) (tCons ta tNil)) st fr xs := fun hs σ H S Q q =>
  ha hs σ H S _ fun o vs H1 e1 ho d1 => ⟨o, vs, rfl, .inl (.inl (.inl ho)), fun p hp => q p vs _ (Evl.fresh_back e1 hp) (e1.trans (Evl.Ex.new hp)) upd_same ((free_ne d1 hp).ext (Evl.Ex.new hp))⟩
def EvO (C : Cfg) (to : TO) (st : Stt) (o : Option Int) : Prop := ∀ hs σ H, StR C hs H σ st → ∀ Q : Option Int → Hp → Prop, (∀ H2, Ex H H2 → Q o H2) → to σ H Q
theorem eo_none : EvO C tNoPart st none := fun hs σ H S Q q => q H (Evl.Ex.refl H)
theorem eo_some (h : EvE C te st fr (.int i)) : EvO C (tPart te) st (some i) := fun hs σ H S Q q => h hs σ H S _ fun v H2 e d => by
  cases d
  exact ⟨i, rfl, q H2 e⟩
theorem cut_dq {M : Addr → Prop} {H : Hp} {vs : List V} {xs : List D} {lo hi : Option Int} (h : DqAll M H vs xs) : DqAll M H (cutV vs lo hi) ((xs.drop (HT.sIx xs.length 0 lo)).take (HT.sIx xs.length xs.length hi - HT.sIx xs.length 0 lo)) := by
  have hl := h.len
  unfold cutV
  rw [hl]
  exact (h.drop _).take _
theorem ef_sl {K : PySem.W.Frag} {tl th : TO} {lo hi : Option Int} (h : EvL C te st fr xs) (h1 : EvO C tl st lo) (h2 : EvO C th st hi) (hy : (xs.drop (HT.sIx xs.length 0 lo)).take (HT.sIx xs.length xs.length hi - HT.sIx xs.length 0 lo) = ys) : EvF C (tSl (rSlL K) te tl th) st fr ys := fun hs σ H S Q q =>
  h hs σ H S _ fun o vs H1 e1 ho d1 => h1 hs σ H1 (S.ext e1) _ fun H2 e2 => h2 hs σ H2 (S.ext (e1.trans e2)) _ fun H3 e3 => by
    have d2 := cut_dq (lo := lo) (hi := hi) (d1.ext (e2.trans e3))
    rw [hy] at d2
    exact ⟨o, vs, rfl, .inl (.inl (e3 _ _ (e2 _ _ ho))), fun p hp => q p _ _ (Evl.fresh_back ((e1.trans e2).trans e3) hp) (((e1.trans e2).trans e3).trans (Evl.Ex.new hp)) upd_same ((free_ne d2 hp).ext (Evl.Ex.new hp))⟩
theorem sl_to (n : Nat) (ys : List D) (h : n ≤ ys.length) : (ys.drop (HT.sIx ys.length 0 none)).take (HT.sIx ys.length ys.length (some (n : Int)) - HT.sIx ys.length 0 none) = ys.take n := by
  rw [HT.sIx_none, HT.sIx_nat, Nat.min_eq_left h]
  simp
theorem sl_from (n : Nat) (ys : List D) (h : n ≤ ys.length) : (ys.drop (HT.sIx ys.length 0 (some (n : Int)))).take (HT.sIx ys.length ys.length none - HT.sIx ys.length 0 (some (n : Int))) = ys.drop n := by
  rw [HT.sIx_none, HT.sIx_nat, Nat.min_eq_left h]
  exact List.take_of_length_le (by rw [List.length_drop]; exact Nat.le_refl _)
/-! sums, max, sorted, any, all -/
theorem ev_sum {K : PySem.W.Frag} (ha : EvL C ta st fr (ns.map .int)) : EvE C (tCB (rSum K) (tCons ta tNil)) st true (.int ns.sum) := fun hs σ H S Q q =>
  ha hs σ H S _ fun o vs H1 e1 ho d1 => ⟨o, ns, rfl, .inl (.inl (by rw [ho, d1.ints])), q _ H1 e1 (.int _)⟩
theorem ev_all {K : PySem.W.Frag} {bs : List Bool} (ha : EvL C ta st fr (bs.map .bool)) : EvE C (tCB (rAll K) (tCons ta tNil)) st true (.bool (bs.all id)) := fun hs σ H S Q q =>
  ha hs σ H S _ fun o vs H1 e1 ho d1 => ⟨o, bs, rfl, .inl (.inl (by rw [ho, d1.bools])), q _ H1 e1 (.bl _)⟩
theorem ev_any {K : PySem.W.Frag} {bs : List Bool} (ha : EvL C ta st fr (bs.map .bool)) : EvE C (tCB (rAny K) (tCons ta tNil)) st true (.bool (bs.any id)) := fun hs σ H S Q q =>
  ha hs σ H S _ fun o vs H1 e1 ho d1 => ⟨o, bs, rfl, .inl (.inl (by rw [ho, d1.bools])), q _ H1 e1 (.bl _)⟩
theorem ev_max {K : PySem.W.Frag} {m : Int} (ha : EvL C ta st fr (ns.map .int)) (hm : m ∈ ns) (hy : ∀ y ∈ ns, y ≤ m) : EvE C (tCB (rMax K) (tCons ta tNil)) st true (.int m) := fun hs σ H S Q q =>
  ha hs σ H S _ fun o vs H1 e1 ho d1 => ⟨o, ns, rfl, .inl (.inl (by rw [ho, d1.ints])), by cases ns with | nil => cases hm | cons => exact Nat.succ_pos _, fun m' h1 h2 => by
    have e : m' = m := Int.le_antisymm (hy m' h1) (h2 m hm)
    subst e
    exact q _ H1 e1 (.int _)⟩
end
end Z

set_option Elab.async false
set_option linter.all false
set_option maxRecDepth 100000
/-! Walks, comprehensions, statements, defs over plain data. -/
namespace Z
open PySem L2
open Evl (Ex)
def rng (lo : Int) (n : Nat) : List Int := (List.range n).map fun (i : Nat) => lo + (i : Int)
theorem rng_len (lo : Int) (n : Nat) : (rng lo n).length = n := by simp [rng]
theorem rng_get {lo : Int} {n i : Nat} (h : i < n) : (rng lo n)[i]? = some (lo + (i : Int)) := by simp [rng, h]
theorem rng_succ (lo : Int) (n : Nat) : rng lo (n + 1) = rng lo n ++ [lo + (n : Int)] := by simp [rng, List.range_succ]
theorem mem_rng {lo x : Int} {n : Nat} : x ∈ rng lo n ↔ lo ≤ x ∧ x < lo + n := by
  simp only [rng, List.mem_map, List.mem_range]
  constructor
  · rintro ⟨i, h, rfl⟩; omega
  · intro h; exact ⟨(x - lo).toNat, by omega, by omega⟩

/-! ### what is walked -/
def Keep (os : List Addr) (H H' : Hp) : Prop := ∀ a o, a ∉ os → H a = some o → H' a = some o
structure Wk (C : Cfg) (hs : List Addr) (st : Stt) (fr : Bool) (J : It) (H2 : Hp) (ds : List D) : Prop where
  go : ∀ H', Keep (hs ++ owns st) H2 H' → ∀ (i : Nat) d, ds[i]? = some d → J.go i H' ∧ ∀ x H'', J.yld i H' x H'' → Ex H' H'' ∧ Dq (fun a => (msk C hs st fr a ∧ H2 a ≠ none) ∨ H' a = none) H'' x d
  stop : ∀ H', Keep (hs ++ owns st) H2 H' → J.stop ds.length H'
def EvW (C : Cfg) (wi : TI) (st : Stt) (fr : Bool) (ds : List D) : Prop := ∀ hs σ H, StR C hs H σ st → ∀ R : It → Hp → Prop, (∀ J H2, Ex H H2 → Wk C hs st fr J H2 ds → R J H2) → wi σ H R
section
variable {C : Cfg} {st : Stt} {te ta tb : TE} {fr fr' fr2 : Bool} {d x y : D} {ds xs ys : List D} {ns : List Int} {i j : Int} {b c : Bool} {t u : TT}
theorem dq_alloc {M : Addr → Prop} {H : Hp} {v : V} {d : D} (h : Dq M H v d) : Dq (fun a => M a ∧ H a ≠ none) H v d := h.mono (fun a o m q => ⟨⟨m, by rw [q]; intro z; cases z⟩, q⟩) d v
theorem wk_list {K : PySem.W.Frag} {hs : List Addr} {st : Stt} {H2 : Hp} {o : Addr} {vs : List V} (no : o ∉ hs ++ owns st) (ho : H2 o = some (.lst vs)) (hd : DqAll (msk C hs st fr) H2 vs ds) : Wk C hs st fr (Itl K o) H2 ds := by
  refine ⟨fun H' kp i d hi => ?_, fun H' kp => ?_⟩
  · obtain ⟨y, h1, h2⟩ := hd.get hi
    have hs : SqL K H' o vs := .inl (.inl (kp o _ no ho))
    refine ⟨⟨vs, y, hs, h1⟩, fun x H'' z => ?_⟩
    obtain ⟨e, z⟩ := z
    subst e
    have e2 : x = y := Option.some.inj ((z vs hs).symm.trans h1)
    subst e2
    exact ⟨Evl.Ex.refl _, Dq.mono (fun a u m q => ⟨.inl m, kp a u m.1.2 q⟩) d _ (dq_alloc h2)⟩
  · exact ⟨vs, .inl (.inl (kp o _ no ho)), by rw [hd.len]; exact Nat.le_refl _⟩
theorem ew_list {K : PySem.W.Frag} (h : EvE C te st fr (.list ds)) : EvW C (iList K te) st fr ds := fun hs σ H S R q => h hs σ H S _ fun v H2 e hd => by
  cases hd with
  | @lst a vs _ m ho ha => exact ⟨a, rfl, ⟨vs, .inl (.inl ho)⟩, q _ H2 e (wk_list m.2 ho ha)⟩
theorem ew_tup {K : PySem.W.Frag} (h : EvE C te st fr (.tuple ds)) : EvW C (iTup K te) st fr ds := fun hs σ H S R q => h hs σ H S _ fun v H2 e hd => by
  cases hd with
  | @tup a vs _ m ho ha =>
    refine ⟨a, rfl, ⟨vs, .inl (.inl ho)⟩, q _ H2 e ⟨fun H' kp i d hi => ?_, fun H' kp => ?_⟩⟩
    · obtain ⟨y, h1, h2⟩ := ha.get hi
      have hs : SqT K H' a vs := .inl (.inl (kp a _ m.2 ho))
      refine ⟨⟨vs, y, hs, h1⟩, fun x H'' z => ?_⟩
      obtain ⟨e, z⟩ := z
      subst e
      have e2 : x = y := Option.some.inj ((z vs hs).symm.trans h1)
      subst e2
      exact ⟨Evl.Ex.refl _, Dq.mono (fun a u m q => ⟨.inl m, kp a u m.1.2 q⟩) d _ (dq_alloc h2)⟩
    · exact ⟨vs, .inl (.inl (kp a _ m.2 ho)), by rw [ha.len]; exact Nat.le_refl _⟩
theorem ew_listF {K : PySem.W.Frag} (h : EvF C te st fr ds) : EvW C (iList K te) st fr ds := ew_list h.e
theorem wk_rng {hs : List Addr} {st : Stt} {H2 : Hp} {lo : Int} {n : Nat} : Wk C hs st fr (Itr lo n) H2 ((rng lo n).map .int) := by
  refine ⟨fun H' kp i d hi => ?_, fun H' kp => ?_⟩
  · rw [List.getElem?_map] at hi
    have hlt : i < n := by
      by_cases h : i < n
      · exact h
      · rw [List.getElem?_eq_none (by rw [rng_len]; omega)] at hi
        cases hi
    rw [rng_get hlt] at hi
    have e := Option.some.inj hi
    subst e
    refine ⟨hlt, fun x H'' z => ?_⟩
    obtain ⟨e, z⟩ := z
    subst e z
    exact ⟨Evl.Ex.refl _, .int _⟩
  · show n ≤ _
    rw [List.length_map, rng_len]
    exact Nat.le_refl _
theorem ew_rng1 (h : EvE C te st fr2 (.int i)) (hi : i < 2 ^ 62 ∧ -(2 ^ 62) ≤ i) : EvW C (iRng1 (tCons te tNil)) st fr ((rng 0 i.toNat).map .int) := fun hs σ H S R q => h hs σ H S _ fun v H2 e hd => by
  cases hd
  exact ⟨i, rfl, hi.2, hi.1, q _ H2 e wk_rng⟩
theorem ew_rng2 {lo n : Int} (h1 : EvE C ta st fr2 (.int lo)) (h2 : EvE C tb st fr' (.int n)) (hi : -(2 ^ 62) ≤ lo ∧ lo < 2 ^ 62 ∧ -(2 ^ 62) ≤ n ∧ n < 2 ^ 62) : EvW C (iRng2 (tCons ta (tCons tb tNil))) st fr ((rng lo (n - lo).toNat).map .int) := fun hs σ H S R q => h1 hs σ H S _ fun v H1 e1 d1 => h2 hs σ H1 (S.ext e1) _ fun w H2 e2 d2 => by
  cases d1
  cases d2
  exact ⟨lo, n, rfl, hi, q _ H2 (e1.trans e2) wk_rng⟩

/-! ### list comprehensions -/
theorem take_one {α : Type} {as : List α} {i : Nat} {a : α} (h : as[i]? = some a) : as.take (i + 1) = as.take i ++ [a] := by
  rw [List.take_add_one, h]
  rfl
theorem owns_none (x : Sl) (hx : ∀ fr o k xs, x ≠ .obj fr o k xs) : ∀ (st : Stt) (j : Nat), owns (st.set j (some x)) = owns (st.set j none)
  | [], _ => rfl
  | s :: r, 0 => by
    match x, hx with
    | .d _ _, _ => rfl
    | .scr _, _ => rfl
    | .raw _, _ => rfl
    | .obj fr o k xs, hx => exact absurd rfl (hx fr o k xs)
  | s :: r, j + 1 => by
    have ih := owns_none x hx r j
    match s with
    | none => exact ih
    | some (.d _ _) => exact ih
    | some (.scr _) => exact ih
    | some (.raw _) => exact ih
    | some (.obj _ o _ _) => exact congrArg (List.cons o) ih
/-- [te for j in wi if tt]: items as.map en, those of p, by g -/
theorem ef_lc {α : Type} {wi : TI} {j : Nat} {en : α → D} {as : List α} (p : α → Bool) (g : α → D) (h : EvW C wi st fr2 (as.map en)) (hn : as.length ≤ 1000000)
    (ho : owns (st.set j none) = owns st)
    (ht : ∀ a, a ∈ as → EvT C t (st.set j (some (.d fr2 (en a)))) (p a)) (he : ∀ a, a ∈ as → p a = true → EvE C te (st.set j (some (.d fr2 (en a)))) fr (g a)) :
    EvF C (tLc wi (gName j) t te [j]) st fr ((as.filter p).map g) := fun hs σ H S Q q => h hs σ H S _ fun J H1 e1 W Dl hD => by
  have hnil : ∀ v : V, wipe ((wipe σ [j]).set j (some v)) [j] = wipe σ [j] := fun v => by
    show ((σ.set j none).set j (some v)).set j none = σ.set j none
    rw [List.set_set, List.set_set]
  have hset : ∀ v : V, (wipe σ [j]).set j (some v) = σ.set j (some v) := fun v => by
    show (σ.set j none).set j (some v) = σ.set j (some v)
    rw [List.set_set]
  have hown : ∀ x : D, owns (st.set j (some (.d fr2 x))) = owns st := fun x => (owns_none (.d fr2 x) (fun _ _ _ _ z => by cases z) st j).trans ho
  refine ⟨fun i m H' => m = as.length - i ∧ i ≤ as.length ∧ Ex H1 H' ∧ ∃ vs, H' Dl = some (.lst vs) ∧ DqAll (fun a => msk C hs st fr a ∧ a ≠ Dl) H' vs (((as.take i).filter p).map g),
    ⟨as.length, by simp, Nat.zero_le _, Evl.Ex.new hD, [], upd_same, .nil⟩, fun i m H' hW => ?_⟩
  obtain ⟨rfl, hi, ex, vs, hvs, hdq⟩ := hW
  have kp : Keep (hs ++ owns st) H1 H' := fun a o _ z => ex a o z
  by_cases hlt : i < as.length
  · have ha : as[i]? = some as[i] := List.getElem?_eq_getElem hlt
    have hmem : as[i] ∈ as := List.getElem_mem hlt
    obtain ⟨go, yl⟩ := W.go H' kp i (en as[i]) (by rw [List.getElem?_map, ha]; rfl)
    refine .inr ⟨go, fun H'' => i + 1 ≤ as.length ∧ Ex H1 H'' ∧ ∃ vs, H'' Dl = some (.lst vs) ∧ DqAll (fun a => msk C hs st fr a ∧ a ≠ Dl) H'' vs (((as.take (i + 1)).filter p).map g), fun H'' hN => ⟨as.length - (i + 1), by omega, rfl, hN.1, hN.2.1, hN.2.2⟩, fun v H2 yld => ?_⟩
    obtain ⟨e2, dv⟩ := yl v H2 yld
    -- the turn
    show wipe ((wipe σ [j]).set j (some v)) [j] = wipe σ [j] ∧ _
    refine ⟨hnil v, ?_⟩
    rw [hset v]
    have S1 : StR C (Dl :: hs) H' σ st := (S.ext e1).hide hD ex (by rw [hvs]; intro z; cases z)
    have S2 : StR C (Dl :: hs) H2 (σ.set j (some v)) (st.set j (some (.d fr2 (en as[i])))) := (S1.ext e2).set (dv.sub fun a z => by
      rcases z with z | z
      · refine ⟨z.1.1, fun y => ?_⟩
        rcases List.mem_cons.mp (show a ∈ Dl :: (hs ++ owns st) from y) with y | y
        · subst y; exact z.2 hD
        · exact z.1.2 y
      · exact S1.fresh z fr2)
    refine ht as[i] hmem _ _ H2 S2 _ fun H3 e3 => ?_
    cases hp : p as[i] with
    | false =>
      refine ⟨by omega, (ex.trans e2).trans e3, vs, e3 _ _ (e2 _ _ hvs), ?_⟩
      rw [take_one ha, List.filter_append, List.filter_cons, if_neg (by rw [hp]; decide)]
      simp only [List.filter_nil, List.append_nil]
      exact (hdq.ext e2).ext e3
    | true =>
      show te _ H3 _
      refine he as[i] hmem hp _ _ H3 (S2.ext e3) _ fun y H4 e4 dy => ⟨vs, e4 _ _ (e3 _ _ (e2 _ _ hvs)), ?_, by omega, ?_, vs ++ [y], upd_same, ?_⟩
      · rw [hdq.len, List.length_map]
        have h1 := List.length_filter_le p (as.take i)
        rw [List.length_take] at h1
        have h2 : (1000000 : Nat) < sizeLine := by decide
        omega
      · exact Evl.Ex.mut (((ex.trans e2).trans e3).trans e4) hD
      · rw [take_one ha, List.filter_append, List.filter_cons, if_pos hp, List.filter_nil, List.map_append]
        refine DqAll.app (M := fun a => msk C hs st fr a ∧ a ≠ Dl) ?_ (.cons ?_ .nil)
        · exact (((hdq.ext e2).ext e3).ext e4).mono (fun a o m q => ⟨m, by rw [upd_ne m.2]; exact q⟩) _ _
        · refine dy.mono (fun a o m q => ?_) _ _
          have m2 : a ∉ Dl :: (hs ++ owns st) := by
            have := m.2
            rw [hown] at this
            exact this
          have nD : a ≠ Dl := fun z => m2 (by rw [z]; exact List.mem_cons_self)
          exact ⟨⟨⟨m.1, fun z => m2 (List.mem_cons_of_mem _ z)⟩, nD⟩, by rw [upd_ne nD]; exact q⟩
  · have e : i = as.length := by omega
    subst e
    have stp := W.stop H' kp
    rw [List.length_map] at stp
    refine .inl ⟨stp, ?_⟩
    rw [List.take_length] at hdq
    exact q Dl vs H' (Evl.fresh_back e1 hD) (e1.trans ex) hvs hdq
end

/-! ### sorted -/
def ins (x : Int) : List Int → List Int
  | [] => [x]
  | y :: r => if x ≤ y then x :: y :: r else y :: ins x r
def isort : List Int → List Int
  | [] => []
  | x :: r => ins x (isort r)
theorem ins_perm (x : Int) : ∀ r, (ins x r).Perm (x :: r)
  | [] => .refl _
  | y :: r => by
    unfold ins
    split
    · exact .refl _
    · exact ((ins_perm x r).cons y).trans (.swap x y r)
theorem isort_perm : ∀ r, (isort r).Perm r
  | [] => .refl _
  | x :: r => (ins_perm x (isort r)).trans ((isort_perm r).cons x)
theorem ins_up (x : Int) : ∀ {r : List Int}, r.Pairwise (· ≤ ·) → (ins x r).Pairwise (· ≤ ·)
  | [], _ => by simp [ins]
  | y :: r, h => by
    unfold ins
    obtain ⟨h1, h2⟩ := List.pairwise_cons.mp h
    split
    · rename_i hx
      exact List.pairwise_cons.mpr ⟨fun z hz => by
        rcases List.mem_cons.mp hz with rfl | hz
        · exact hx
        · exact Int.le_trans hx (h1 z hz), h⟩
    · rename_i hx
      refine List.pairwise_cons.mpr ⟨fun z hz => ?_, ins_up x h2⟩
      rcases List.mem_cons.mp ((ins_perm x r).subset hz) with rfl | hz
      · omega
      · exact h1 z hz
theorem isort_up : ∀ r, (isort r).Pairwise (· ≤ ·)
  | [] => .nil
  | x :: r => ins_up x (isort_up r)
theorem isort_of {a b : List Int} (hp : a.Perm b) (ha : a.Pairwise (· ≤ ·)) : a = isort b := by
  refine List.Perm.eq_of_pairwise (fun x y _ _ h1 h2 => Int.le_antisymm h1 h2) ha (isort_up b) (hp.trans (isort_perm b).symm)
section
variable {C : Cfg} {st : Stt} {te ta tb : TE} {fr fr' fr2 : Bool} {d x y : D} {ds xs ys : List D} {ns : List Int} {i j : Int} {b c : Bool} {t u : TT}
theorem ef_sorted {K : PySem.W.Frag} (ha : EvL C ta st fr2 (ns.map .int)) : EvF C (tCB (rSortedI K) (tCons ta tNil)) st true ((isort ns).map .int) := fun hs σ H S Q q =>
  ha hs σ H S _ fun o vs H1 e1 ho d1 => ⟨o, ns, rfl, .inl (.inl (by rw [ho, d1.ints])), fun ns' p h1 h2 hp => by
    have e := isort_of h1 h2
    subst e
    exact q p _ _ (Evl.fresh_back e1 hp) (e1.trans (Evl.Ex.new hp)) upd_same (.ofInts _)⟩
/-! ### isinstance -/
def tyD : D → String
  | .none => "NoneType"
  | .bool _ => "bool"
  | .int _ => "int"
  | .str _ => "str"
  | .list _ => "list"
  | .tuple _ => "tuple"
  | .dict _ _ => "dict"
  | .ins _ _ _ => ""
theorem dq_ty {K : PySem.W.Frag} {M : Addr → Prop} {H : Hp} {v : V} {d : D} (h : Dq M H v d) (f : ∀ C ns xs, d ≠ .ins C ns xs) : TyX K H v (.type (tyD d)) := by
  cases h with
  | non => exact .base .non
  | bl b => exact .base (.bl b)
  | int i => exact .base (.int i)
  | str x => exact .base (.str x)
  | lst m e a => exact .base (.lst e)
  | tup m e a => exact .base (.tup e)
  | dct m e q a => exact .base (.dT e)
  | ins m e q a => exact absurd rfl (f _ _ _)
theorem ev_isi {K : PySem.W.Frag} {n : String} (ha : EvE C ta st fr d) (hk : kitB (tyD d) n = some b) (hf : ∀ C ns xs, d ≠ .ins C ns xs := by intro _ _ _ q; cases q) : EvE C (tCB (rIsi K) (tCons ta (tCons (tC (.ty n)) tNil))) st true (.bool b) := fun hs σ H S Q q =>
  ha hs σ H S _ fun v H1 e1 d1 => ⟨v, .ty n, .type (tyD d), .type n, b, rfl, .ty n, dq_ty d1 hf, kit_ty hk, q _ H1 e1 (.bl b)⟩
end

/-! ### statements -/
structure Frm (hs : List Addr) (st : Stt) (H : Hp) (st' : Stt) (H' : Hp) : Prop where
  kp : Keep (hs ++ owns st) H H'
  nw : ∀ o ∈ owns st', o ∈ owns st ∨ H o = none
  al : ∀ a, H a ≠ none → H' a ≠ none
theorem Frm.refl {hs : List Addr} {st : Stt} {H : Hp} : Frm hs st H st H := ⟨fun _ _ _ h => h, fun _ m => .inl m, fun _ h => h⟩
theorem ex_al {H H' : Hp} (e : Ex H H') (a : Addr) (h : H a ≠ none) : H' a ≠ none := by
  cases q : H a with
  | none => exact absurd q h
  | some o => rw [e a o q]; intro z; cases z
theorem Frm.ext {hs : List Addr} {st : Stt} {H H' : Hp} (e : Ex H H') : Frm hs st H st H' := ⟨fun a o _ h => e a o h, fun _ m => .inl m, ex_al e⟩
theorem Frm.extS {hs : List Addr} {st st' : Stt} {H H' : Hp} (e : Ex H H') (h : ∀ o ∈ owns st', o ∈ owns st) : Frm hs st H st' H' := ⟨fun a o _ h => e a o h, fun o m => .inl (h o m), ex_al e⟩
theorem Frm.trans {hs : List Addr} {a b c : Stt} {H H' H'' : Hp} (f : Frm hs a H b H') (g : Frm hs b H' c H'') : Frm hs a H c H'' := by
  refine ⟨fun o u m h => g.kp o u (fun z => ?_) (f.kp o u m h), fun o m => ?_, fun o h => g.al o (f.al o h)⟩
  · rcases List.mem_append.mp z with z | z
    · exact m (List.mem_append_left _ z)
    · rcases f.nw o z with q | q
      · exact m (List.mem_append_right _ q)
      · rw [q] at h; cases h
  · rcases g.nw o m with q | q
    · exact f.nw o q
    · cases w : H o with
      | none => exact .inr rfl
      | some u => exact absurd q (f.al o (by rw [w]; intro z; cases z))
/-- t, from the slots st: N what may hold behind it, B at a break, T at a continue, R what it gives back -/
def Ok (C : Cfg) (t : TS) (st : Stt) (N B T : Stt → Prop) (R : VK) : Prop := ∀ hs σ H (D : Ends), StR C hs H σ st →
  (∀ st' σ' H', N st' → StR C hs H' σ' st' → Frm hs st H st' H' → D.nx σ' H') →
  (∀ st' σ' H', B st' → StR C hs H' σ' st' → Frm hs st H st' H' → D.bk σ' H') →
  (∀ st' σ' H', T st' → StR C hs H' σ' st' → Frm hs st H st' H' → D.ct σ' H') →
  (∀ v H', Ex C.B H' → R v H' → D.rt v H') → t D σ H
def no : Stt → Prop := fun _ => False
section
variable {C : Cfg} {st st' : Stt} {te ta tb : TE} {fr fr' fr2 : Bool} {d x y : D} {ds xs ys : List D} {ns : List Int} {b c : Bool} {t u : TS} {tt : TT} {N B T M : Stt → Prop} {R : VK}
theorem ok_seq (M : Stt → Prop) (h : Ok C t st M B T R) (k : ∀ st', M st' → Ok C u st' N B T R) : Ok C (tSeq t u) st N B T R := fun hs σ H D S hN hB hT hR =>
  h hs σ H { D with nx := u D } S (fun st' σ' H' m S' f => k st' m hs σ' H' D S' (fun s2 σ2 H2 n S2 g => hN s2 σ2 H2 n S2 (f.trans g)) (fun s2 σ2 H2 n S2 g => hB s2 σ2 H2 n S2 (f.trans g)) (fun s2 σ2 H2 n S2 g => hT s2 σ2 H2 n S2 (f.trans g)) hR) hB hT hR
theorem ok_next (h : N st) : Ok C tNext st N B T R := fun hs σ H D S hN _ _ _ => hN st σ H h S .refl
theorem ok_break (h : B st) : Ok C tBreak st N B T R := fun hs σ H D S _ hB _ _ => hB st σ H h S .refl
theorem ok_cont (h : T st) : Ok C tCont st N B T R := fun hs σ H D S _ _ hT _ => hT st σ H h S .refl
theorem ok_mono {M' : Stt → Prop} (h : Ok C t st M B T R) (k : ∀ st, M st → M' st) : Ok C t st M' B T R := fun hs σ H D S hN hB hT hR => h hs σ H D S (fun s σ' H' m => hN s σ' H' (k s m)) hB hT hR
/-- x = e -/
theorem ok_asg {i : Nat} (h : EvE C te st fr d) (n : N (st.set i (some (.d fr d)))) : Ok C (tAsg te (gName i)) st N B T R := fun hs σ H D S hN _ _ _ => h hs σ H S _ fun v H1 e1 d1 =>
  hN _ _ H1 n ((S.ext e1).set d1) (.extS e1 fun o m => (owns_set_d st i _ (fun _ _ _ _ q => by cases q)).subset m)
/-- x = e, a new list that is going to be changed -/
theorem ok_own {i : Nat} (h : EvF C te st fr xs) (n : ∀ o, N (st.set i (some (.own fr o xs)))) : Ok C (tAsg te (gName i)) st N B T R := fun hs σ H D S hN _ _ _ => h hs σ H S _ fun p vs H1 hp e1 h1 d1 => by
  have hno : p ∉ owns st := fun q => (S.nwo p q).2 hp
  refine hN _ _ H1 (n p) (S.setOwn hp e1 h1 d1) ⟨fun a o _ q => e1 a o q, fun o m => ?_, ex_al e1⟩
  rcases (owns_set_own st i fr p .lst xs hno S.nd).2 o m with q | q
  · subst q; exact .inr hp
  · exact .inl q
theorem ok_still {i : Nat} {o : Addr} (hi : st[i]? = some (some (.own fr o xs))) (h : Ok C t (st.set i (some (.d fr (.list xs)))) N B T R) : Ok C t st N B T R := fun hs σ H D S hN hB hT hR => by
  have f0 : Frm hs st H (st.set i (some (.d fr (.list xs)))) H := .extS (Evl.Ex.refl H) fun o m => (owns_set_d st i _ (fun _ _ _ _ q => by cases q)).subset m
  exact h hs σ H D (S.still hi) (fun s σ' H' m S' f => hN s σ' H' m S' (f0.trans f)) (fun s σ' H' m S' f => hB s σ' H' m S' (f0.trans f)) (fun s σ' H' m S' f => hT s σ' H' m S' (f0.trans f)) hR
theorem ok_forget (i : Nat) (h : Ok C t (st.set i none) N B T R) : Ok C t st N B T R := fun hs σ H D S hN hB hT hR => by
  have f0 : Frm hs st H (st.set i none) H := .extS (Evl.Ex.refl H) fun o m => (owns_set_d st i none (fun _ _ _ _ q => by cases q)).subset m
  exact h hs σ H D (S.drop i) (fun s σ' H' m S' f => hN s σ' H' m S' (f0.trans f)) (fun s σ' H' m S' f => hB s σ' H' m S' (f0.trans f)) (fun s σ' H' m S' f => hT s σ' H' m S' (f0.trans f)) hR
/-- what is given back -/
def RD (C : Cfg) (fr : Bool) (d : D) : VK := fun v H => Dq (bm C fr) H v d
theorem ok_ret (h : EvE C te st fr d) (r : ∀ v H, Dq (bm C fr) H v d → R v H) : Ok C (tRet te) st N B T R := fun hs σ H D S _ _ _ hR => h hs σ H S _ fun v H1 e1 d1 => hR v H1 (C.bx.trans (S.ex.trans e1)) (r v H1 (d1.sub fun a m => m.1))
/-- a new list is given back -/
def RF (C : Cfg) (fr : Bool) (xs : List D) : VK := fun v H => ∃ p vs, v = .ref p ∧ C.H0 p = none ∧ H p = some (.lst vs) ∧ DqAll (fun a => bm C fr a ∧ a ≠ p) H vs xs
theorem ok_retF (h : EvF C te st fr xs) (r : ∀ v H, RF C fr xs v H → R v H) : Ok C (tRet te) st N B T R := fun hs σ H D S _ _ _ hR => h hs σ H S _ fun p vs H1 hp e1 h1 d1 =>
  hR _ H1 (C.bx.trans (S.ex.trans e1)) (r _ H1 ⟨p, vs, rfl, Evl.fresh_back S.ex hp, h1, d1.sub fun a m => ⟨m.1.1, m.2⟩⟩)
/-- an own list is given back -/
theorem ok_retO {i : Nat} {o : Addr} (hi : st[i]? = some (some (.own fr o xs))) (r : ∀ v H, RF C fr xs v H → R v H) : Ok C (tRet (tVar i)) st N B T R := fun hs σ H D S _ _ _ hR => by
  obtain ⟨v, h1, h2, vs, h3, h4⟩ := S.sl i _ hi
  subst h2
  refine ⟨_, h1, hR _ H (C.bx.trans S.ex) (r _ H ⟨o, vs, rfl, (S.nwo o (owns_mem hi)).1, h3, h4.sub fun a m => ⟨m.1, fun z => m.2 ?_⟩⟩)⟩
  rw [z]
  exact List.mem_append_right _ (owns_mem hi)
theorem rf_d {C : Cfg} {fr : Bool} {xs : List D} {v : V} {H : Hp} (h : RF C fr xs v H) : RD C fr (.list xs) v H := by
  obtain ⟨p, vs, rfl, h0, h1, h2⟩ := h
  exact .lst (bm_fr h0) h1 (h2.sub fun _ z => z.1)
theorem ok_if (h : EvT C tt st b) (h1 : b = true → Ok C t st N B T R) (h2 : b = false → Ok C u st N B T R) : Ok C (tIfS tt t u) st N B T R := fun hs σ H D S hN hB hT hR => h hs σ H S _ fun H1 e1 => by
  have f0 : Frm hs st H st H1 := .ext e1
  cases b with
  | true => exact h1 rfl hs σ H1 D (S.ext e1) (fun s σ' H' m S' f => hN s σ' H' m S' (f0.trans f)) (fun s σ' H' m S' f => hB s σ' H' m S' (f0.trans f)) (fun s σ' H' m S' f => hT s σ' H' m S' (f0.trans f)) hR
  | false => exact h2 rfl hs σ H1 D (S.ext e1) (fun s σ' H' m S' f => hN s σ' H' m S' (f0.trans f)) (fun s σ' H' m S' f => hB s σ' H' m S' (f0.trans f)) (fun s σ' H' m S' f => hT s σ' H' m S' (f0.trans f)) hR
theorem ok_drop (h : EvE C te st fr d) (n : N st) : Ok C (tDrop te) st N B T R := fun hs σ H D S hN _ _ _ => h hs σ H S _ fun v H1 e1 d1 => hN st σ H1 n (S.ext e1) (.ext e1)
/-- x.append(e) of an own list -/
theorem ok_app {K : PySem.W.Frag} {i : Nat} {o : Addr} (hi : st[i]? = some (some (.own fr o xs))) (h : EvE C te st fr d) (hz : xs.length < sizeLine) (n : N (st.set i (some (.own fr o (xs ++ [d]))))) : Ok C (tDrop (tBM K "list" rAppend (tVar i) (tCons te tNil))) st N B T R := fun hs σ H D S hN _ _ _ => by
  obtain ⟨v, h1, h2, vs, h3, h4⟩ := S.sl i _ hi
  subst h2
  refine ⟨_, h1, .inl ⟨rfl, vs, .inl (.inl h3)⟩, h hs σ H S _ fun w H1 e1 d1 => ⟨o, vs, w, rfl, rfl, e1 _ _ h3, by rw [h4.len]; exact hz, ?_⟩⟩
  have S1 := S.ext e1
  refine hN _ _ _ n (S1.mut hi ((h4.ext e1).app (.cons d1 .nil))) ⟨fun a u m q => ?_, fun p m => .inl ?_, fun a q => ?_⟩
  · rw [upd_ne (fun z => m (by rw [z]; exact List.mem_append_right _ (owns_mem hi)))]
    exact e1 a u q
  · rw [owns_upd st i fr fr o .lst .lst xs _ hi] at m
    exact m
  · by_cases z : a = o
    · subst z; rw [upd_same]; intro w; cases w
    · rw [upd_ne z]; exact ex_al e1 a q
/-- any change of an own list by a method whose arguments are whole numbers or data of the mask -/
theorem ok_met {K : PySem.W.Frag} {i : Nat} {o : Addr} {r : V → List V → Hp → VK → Prop} {ta : TA} {zs : List D} (hi : st[i]? = some (some (.own fr o xs))) (h : EvD C ta st fr zs)
    (hr : ∀ (vs : List V) (ws : List V) (H : Hp) (Q : VK), H o = some (.lst vs) → vs.length = xs.length → DqAll (fun _ => True) H ws zs → (∀ v vs', (∀ H2 M, DqAll M H2 vs xs → DqAll M H2 ws zs → DqAll M H2 vs' ys) → Q v (upd H o (.lst vs'))) → r (.ref o) ws H Q)
    (n : N (st.set i (some (.own fr o ys)))) : Ok C (tDrop (tBM K "list" r (tVar i) ta)) st N B T R := fun hs σ H D S hN _ _ _ => by
  obtain ⟨v, h1, h2, vs, h3, h4⟩ := S.sl i _ hi
  subst h2
  refine ⟨_, h1, .inl ⟨rfl, vs, .inl (.inl h3)⟩, h hs σ H S _ fun ws H1 e1 d1 => hr vs ws H1 _ (e1 _ _ h3) h4.len (d1.sub fun _ _ => True.intro) fun v vs' hv => ?_⟩
  have S1 := S.ext e1
  refine hN _ _ _ n (S1.mut hi (hv H1 _ (h4.ext e1) d1)) ⟨fun a u m q => ?_, fun p m => .inl ?_, fun a q => ?_⟩
  · rw [upd_ne (fun z => m (by rw [z]; exact List.mem_append_right _ (owns_mem hi)))]
    exact e1 a u q
  · rw [owns_upd st i fr fr o .lst .lst xs _ hi] at m
    exact m
  · by_cases z : a = o
    · subst z; rw [upd_same]; intro w; cases w
    · rw [upd_ne z]; exact ex_al e1 a q
/-- for j in wi -/
theorem ok_for {α : Type} {wi : TI} {j : Nat} {en : α → D} {as : List α} (I : Nat → Stt → Prop) (h : EvW C wi st fr2 (as.map en)) (h0 : I 0 st)
    (hs : ∀ (i : Nat) a st', as[i]? = some a → I i st' → Ok C t (st'.set j (some (.d fr2 (en a)))) (I (i + 1)) N (I (i + 1)) R) (hd : ∀ st', I as.length st' → N st') : Ok C (tFor wi (gName j) t) st N B T R := fun hds σ H D S hN hB hT hR => h hds σ H S _ fun J H1 e1 W => by
  have f1 : Frm hds st H st H1 := .ext e1
  refine ⟨fun i m σ' H' => m = as.length - i ∧ i ≤ as.length ∧ ∃ st', I i st' ∧ StR C hds H' σ' st' ∧ Frm hds st H1 st' H', ⟨as.length, by simp, Nat.zero_le _, st, h0, S.ext e1, .refl⟩, fun i m σ' H' hW => ?_⟩
  obtain ⟨rfl, hi, st', hI, S', f⟩ := hW
  by_cases hlt : i < as.length
  · have ha : as[i]? = some as[i] := List.getElem?_eq_getElem hlt
    obtain ⟨go, yl⟩ := W.go H' f.kp i (en as[i]) (by rw [List.getElem?_map, ha]; rfl)
    refine .inr ⟨go, fun σ2 H2 => i + 1 ≤ as.length ∧ ∃ st', I (i + 1) st' ∧ StR C hds H2 σ2 st' ∧ Frm hds st H1 st' H2, fun σ2 H2 hN => ⟨as.length - (i + 1), by omega, rfl, hN.1, hN.2⟩, fun v H2 yld => ?_⟩
    obtain ⟨e2, dv⟩ := yl v H2 yld
    have S2 := (S'.ext e2).set (i := j) (dv.sub (M' := msk C hds st' fr2) fun a z => by
      rcases z with z | z
      · refine ⟨z.1.1, fun y => ?_⟩
        rcases List.mem_append.mp y with y | y
        · exact z.1.2 (List.mem_append_left _ y)
        · rcases f.nw a y with y | y
          · exact z.1.2 (List.mem_append_right _ y)
          · exact z.2 y
      · exact S'.fresh z fr2)
    have f2 : Frm hds st' H' (st'.set j (some (.d fr2 (en as[i])))) H2 := .extS e2 fun o m => (owns_set_d st' j _ (fun _ _ _ _ q => by cases q)).subset m
    have f3 := f.trans f2
    exact hs i as[i] st' ha hI hds _ H2 _ S2 (fun s σ3 H3 m S3 g => ⟨by omega, s, m, S3, f3.trans g⟩) (fun s σ3 H3 m S3 g => hN s σ3 H3 m S3 (f1.trans (f3.trans g))) (fun s σ3 H3 m S3 g => ⟨by omega, s, m, S3, f3.trans g⟩) hR
  · have e : i = as.length := by omega
    subst e
    have stp := W.stop H' f.kp
    rw [List.length_map] at stp
    exact .inl ⟨stp, hN st' σ' H' (hd st' hI) S' (f1.trans f)⟩
/-- while -/
theorem ok_while (I : Nat → Stt → Prop) (m0 : Nat) (h0 : I m0 st)
    (hs : ∀ m st', I m st' → ∃ b, EvT C tt st' b ∧ (b = true → Ok C t st' (fun s => ∃ m', m' < m ∧ I m' s) N (fun s => ∃ m', m' < m ∧ I m' s) R) ∧ (b = false → N st')) : Ok C (tWhile tt t) st N B T R := fun hds σ H D S hN hB hT hR => by
  refine ⟨fun m σ' H' => ∃ st', I m st' ∧ StR C hds H' σ' st' ∧ Frm hds st H st' H', ⟨m0, st, h0, S, .refl⟩, fun m σ' H' hW => ?_⟩
  obtain ⟨st', hI, S', f⟩ := hW
  obtain ⟨b, hb, h1, h2⟩ := hs m st' hI
  refine hb hds σ' H' S' _ fun H2 e2 => ?_
  have f2 := f.trans (.ext e2)
  cases b with
  | true =>
    rw [if_pos rfl]
    refine ⟨fun σ3 H3 => ∃ st3 m', m' < m ∧ I m' st3 ∧ StR C hds H3 σ3 st3 ∧ Frm hds st H st3 H3, fun σ3 H3 ⟨s3, m', l, i3, S3, f3⟩ => ⟨m', l, s3, i3, S3, f3⟩, ?_⟩
    exact h1 rfl hds σ' H2 _ (S'.ext e2) (fun s σ3 H3 ⟨m', l, i3⟩ S3 g => ⟨s, m', l, i3, S3, f2.trans g⟩) (fun s σ3 H3 m S3 g => hN s σ3 H3 m S3 (f2.trans g)) (fun s σ3 H3 ⟨m', l, i3⟩ S3 g => ⟨s, m', l, i3, S3, f2.trans g⟩) hR
  | false =>
    rw [if_neg Bool.false_ne_true]
    exact hN st' σ' H2 (h2 rfl) (S'.ext e2) f2
end

/-! ### defs -/
/-- an argument as it is handed in: data within MA, or the script -/
inductive Arg
  | d (x : D)
  | s (ns : List Int)
def ArgR (K : PySem.W.Frag) (M : Addr → Prop) (H : Hp) (v : V) : Arg → Prop
  | .d x => Dq M H v x
  | .s ns => ∃ a, v = .ref a ∧ M a ∧ SqL K H a (ns.map V.int)
inductive ArgAll (K : PySem.W.Frag) (M : Addr → Prop) (H : Hp) : List V → List Arg → Prop
  | nil : ArgAll K M H [] []
  | cons {v vs a as} : ArgR K M H v a → ArgAll K M H vs as → ArgAll K M H (v :: vs) (a :: as)
theorem ArgAll.len {K : PySem.W.Frag} {M : Addr → Prop} {H : Hp} : ∀ {vs : List V} {as : List Arg}, ArgAll K M H vs as → vs.length = as.length
  | _, [], h => by cases h; rfl
  | _, a :: as, h => by
    cases h with
    | cons h1 h2 => rw [List.length_cons, List.length_cons, ArgAll.len h2]
def slOf : Arg → Option Sl
  | .d x => some (.d false x)
  | .s ns => some (.scr ns)
/-- what a call gives: data that may share with the arguments; all new; a new list (its items all new) -/
inductive Res
  | sh (x : D)
  | nw (x : D)
  | fl (xs : List D)
  | fs (xs : List D)
def ResR (M : Addr → Prop) (H0 : Hp) (v : V) (H : Hp) : Res → Prop
  | .sh x => Dq (fun a => M a ∨ H0 a = none) H v x
  | .nw x => Dq (fun a => H0 a = none) H v x
  | .fl xs => ∃ p vs, v = .ref p ∧ H0 p = none ∧ H p = some (.lst vs) ∧ DqAll (fun a => H0 a = none ∧ a ≠ p) H vs xs
  | .fs xs => ∃ p vs, v = .ref p ∧ H0 p = none ∧ H p = some (.lst vs) ∧ DqAll (fun a => (M a ∨ H0 a = none) ∧ a ≠ p) H vs xs
/-- the promise of a def that changes nothing -/
def spZ {α : Type} (K : PySem.W.Frag) (pre : α → Prop) (args : α → List Arg) (res : α → Res) : Sp := fun vs H Q _ => ∃ (x : α) (M : Addr → Prop), pre x ∧ ArgAll K M H vs (args x) ∧ ∀ v H2, Ex H H2 → ResR M H v H2 (res x) → Q v H2
def cfg (K : PySem.W.Frag) (M : Addr → Prop) (H : Hp) : Cfg := ⟨K, H, fun a => M a ∨ H a = none, fun _ h => .inr h, H, Evl.Ex.refl H⟩
def slots (as : List Arg) (n : Nat) : Stt := as.map slOf ++ List.replicate n none
theorem owns_args : ∀ (as : List Arg) (n : Nat), owns (slots as n) = []
  | [], 0 => rfl
  | [], n + 1 => owns_args [] n
  | .d x :: as, n => owns_args as n
  | .s ns :: as, n => owns_args as n
theorem args_get {K : PySem.W.Frag} {M : Addr → Prop} {H : Hp} : ∀ {vs : List V} {as : List Arg} {i : Nat} {a : Arg}, ArgAll K M H vs as → as[i]? = some a → ∃ v, vs[i]? = some v ∧ ArgR K M H v a
  | _, [], _, _, _, e => by simp at e
  | _, b :: as, 0, a, h, e => by
    cases h with
    | cons h1 h2 =>
      have q : b = a := Option.some.inj e
      subst q
      exact ⟨_, rfl, h1⟩
  | _, b :: as, i + 1, a, h, e => by
    cases h with
    | cons h1 h2 => exact args_get (i := i) h2 e
theorem start_str {K : PySem.W.Frag} {M : Addr → Prop} {H : Hp} {vs : List V} {as : List Arg} {n : Nat} (h : ArgAll K M H vs as) : StR (cfg K M H) [] H (vs.map some ++ List.replicate n none) (slots as n) := by
  have eo := owns_args as n
  have n1 : ∀ o, o ∉ owns (slots as n) := fun o m => by
    rw [eo] at m
    cases m
  refine ⟨Evl.Ex.refl H, (by rw [eo]; exact List.nodup_nil), fun o m => absurd m (n1 o), fun o m => absurd m (n1 o), by simp [slots, h.len], fun i s hi => ?_⟩
  rw [eo]
  unfold slots at hi
  by_cases hl : i < as.length
  · rw [List.getElem?_append_left (by rw [List.length_map]; exact hl), List.getElem?_map] at hi
    have ha : as[i]? = some as[i] := List.getElem?_eq_getElem hl
    rw [ha] at hi
    obtain ⟨v, h1, h2⟩ := args_get h ha
    refine ⟨v, by rw [List.getElem?_append_left (by rw [List.length_map]; exact (List.getElem?_eq_some_iff.mp h1).1), List.getElem?_map, h1]; rfl, ?_⟩
    have e := Option.some.inj hi
    revert e h2
    cases as[i] with
    | d x =>
      intro h2 e
      cases e
      exact Dq.sub h2 fun a m => ⟨.inl m, by simp⟩
    | s ns =>
      intro h2 e
      cases e
      obtain ⟨a, e1, m, q⟩ := h2
      exact ⟨a, e1, .inl m, q⟩
  · rw [List.getElem?_append_right (by rw [List.length_map]; omega)] at hi
    rw [List.getElem?_replicate] at hi
    split at hi
    · cases hi
    · cases hi
section
variable {P : Program} {w : World} {K : PySem.W.Frag} {mg : PySem.Str → Option Value} {base : Heap}
/-- what a body is to give back -/
def RR (C : Cfg) (M : Addr → Prop) (r : Res) : VK := fun v H => ResR M C.H0 v H r
theorem RR.sh {M : Addr → Prop} {H : Hp} {x : D} {v : V} {H2 : Hp} {fr : Bool} (h : Dq (bm (cfg K M H) fr) H2 v x) : RR (cfg K M H) M (.sh x) v H2 := h.sub fun a m => by
  cases fr with
  | true => exact .inr m
  | false => exact m
theorem RR.nw {M : Addr → Prop} {H : Hp} {x : D} {v : V} {H2 : Hp} (h : Dq (bm (cfg K M H) true) H2 v x) : RR (cfg K M H) M (.nw x) v H2 := h
theorem RR.fl {M : Addr → Prop} {H : Hp} {xs : List D} {v : V} {H2 : Hp} (h : RF (cfg K M H) true xs v H2) : RR (cfg K M H) M (.fl xs) v H2 := h
theorem RR.fs {M : Addr → Prop} {H : Hp} {xs : List D} {v : V} {H2 : Hp} (h : RF (cfg K M H) false xs v H2) : RR (cfg K M H) M (.fs xs) v H2 := h
theorem RR.int {M : Addr → Prop} {H : Hp} {i : Int} {v : V} {H2 : Hp} {fr : Bool} (h : Dq (bm (cfg K M H) fr) H2 v (.int i)) : RR (cfg K M H) M (.nw (.int i)) v H2 := by
  cases h
  exact Dq.int i
theorem RR.bl {M : Addr → Prop} {H : Hp} {i : Bool} {v : V} {H2 : Hp} {fr : Bool} (h : Dq (bm (cfg K M H) fr) H2 v (.bool i)) : RR (cfg K M H) M (.nw (.bool i)) v H2 := by
  cases h
  exact Dq.bl i
/-- a def by its body -/
theorem fn_z {α : Type} {x qual : PySem.Str} {st : Stmt} {f : Addr} {fd : FuncData} {Nm ps : List PySem.Str} {k : Nat} {pre : α → Prop} {args : α → List Arg} {res : α → Res} (F : Fun K x qual st f fd) (S : FnScope Nm ps (defScope st)) (len : ∀ x, (args x).length = ps.length)
    (hbody : ∀ (cdv : Value) (A : Around) (outer : List Env) (s : Shared) (H : Hp) (E : XK), Room k (A.deeper (PyProof.Rows.envOfC qual (defScope st) s.heap.objs.size f cdv)) →
      ∃ t, PSs (cxOf CX0 P w K mg base Nm qual (defScope st) f cdv A outer s H E).nox (defBody st) t ∧ ∀ (x : α) (M : Addr → Prop), pre x → Ok (cfg K M H) t (slots (args x) (Nm.length - ps.length)) no no no (RR (cfg K M H) M (res x))) :
    FnOk P w K mg base CX0 (k + 1) f fd ps (spZ K pre args res) := by
  refine F.ok S (fun vs H Q E h => ?_) (fun cdv A outer s H vs Q E hr h => ?_)
  · obtain ⟨x, M, _, ha, _⟩ := h
    rw [ha.len, len]
  · obtain ⟨x, M, hp, ha, q⟩ := h
    obtain ⟨t, ht, ok⟩ := hbody cdv A outer s H E hr
    refine ⟨t, ht, ?_⟩
    have hl : vs.length = ps.length := by rw [ha.len, len]
    have es : L2.start Nm vs = vs.map some ++ List.replicate (Nm.length - ps.length) none := by
      unfold L2.start
      rw [hl]
    rw [es]
    exact ok x M hp [] _ H _ (start_str ha) (fun _ _ _ z => z.elim) (fun _ _ _ z => z.elim) (fun _ _ _ z => z.elim) fun v H' e r => q v H' e r
end

/-! ### calls -/
section
variable {C : Cfg} {st : Stt} {te : TE} {tr ta : TA} {fr fr' : Bool} {d x : D} {xs : List D} {ns : List Int} {as : List Arg}
/-- arguments within the mask -/
def bmk (C : Cfg) (hs : List Addr) (st : Stt) (sh : Bool) : Addr → Prop := fun a => C.M a ∧ (sh = true → a ∉ hs ++ owns st)
def EvB (C : Cfg) (ta : TA) (st : Stt) (sh : Bool) (as : List Arg) : Prop := ∀ hs σ H, StR C hs H σ st → ∀ Q : List V → Hp → Prop, (∀ vs H2, Ex H H2 → ArgAll C.K (bmk C hs st sh) H2 vs as → Q vs H2) → ta σ H Q
theorem ArgR.ext {K : PySem.W.Frag} {M : Addr → Prop} {H H' : Hp} {v : V} {a : Arg} (h : ArgR K M H v a) (e : Ex H H') : ArgR K M H' v a := by
  match a, h with
  | .d x, h => exact Dq.ext h e
  | .s ns, ⟨b, h1, m, h2⟩ => exact ⟨b, h1, m, Evl.ex_l e h2⟩
theorem eb_nil : EvB C tNil st sh [] := fun hs σ H S Q q => q [] H (Evl.Ex.refl H) .nil
theorem eb_cons (h : EvE C te st fr d) (hr : EvB C tr st sh as) : EvB C (tCons te tr) st sh (.d d :: as) := fun hs σ H S Q q => h hs σ H S _ fun v H1 e1 d1 => hr hs σ H1 (S.ext e1) _ fun vs H2 e2 d2 => q _ H2 (e1.trans e2) (.cons ((Dq.ext d1 e2).sub fun _ m => ⟨(msk_weak m).1, fun _ => m.2⟩) d2)
/-- an own list handed on to be read -/
theorem eb_own {k : Nat} {o : Addr} (h : st[k]? = some (some (.own fr o xs))) (hr : EvB C tr st false as) : EvB C (tCons (tVar k) tr) st false (.d (.list xs) :: as) := fun hs σ H S Q q => by
  obtain ⟨v, h1, h2, vs, h3, h4⟩ := S.sl k _ h
  subst h2
  exact ⟨_, h1, hr hs σ H S _ fun ws H2 e2 d2 => q _ H2 e2 (.cons (.lst ⟨C.op _ (S.nwo o (owns_mem h)).1, fun z => by cases z⟩ (e2 _ _ h3) ((h4.ext e2).sub fun a m => ⟨bm_weak m.1, fun z => by cases z⟩)) d2)⟩
theorem eb_scr (h : EvS C te st ns) (hr : EvB C tr st false as) : EvB C (tCons te tr) st false (.s ns :: as) := fun hs σ H S Q q => h hs σ H S _ fun a H1 e1 m d1 => hr hs σ H1 (S.ext e1) _ fun vs H2 e2 d2 => q _ H2 (e1.trans e2) (.cons ⟨a, rfl, ⟨m, fun z => by cases z⟩, Evl.ex_l (S.ex.trans (e1.trans e2)) d1⟩ d2)
section
variable {α : Type} {K : PySem.W.Frag} {pre : α → Prop} {args : α → List Arg} {res : α → Res} {E : XK}
/-- f(..): the answer may share with the arguments -/
theorem ev_callS (hK : K = C.K) (a : α) (hp : pre a) (hr : res a = .sh x) (h : EvB C ta st true (args a)) : EvE C (tCall (spZ K pre args res) [] E ta) st false x := fun hs σ H S Q q => h hs σ H S _ fun vs H1 e1 d1 => by
  subst hK
  rw [List.append_nil]
  refine ⟨a, _, hp, d1, fun v H2 e2 r => ?_⟩
  rw [hr] at r
  exact q v H2 (e1.trans e2) (Dq.sub r fun b m => m.elim (fun z => ⟨z.1, z.2 rfl⟩) fun z => (S.ext e1).fresh z false)
/-- f(..): all new -/
theorem ev_callN (hK : K = C.K) (a : α) (hp : pre a) (hr : res a = .nw x) (h : EvB C ta st false (args a)) : EvE C (tCall (spZ K pre args res) [] E ta) st true x := fun hs σ H S Q q => h hs σ H S _ fun vs H1 e1 d1 => by
  subst hK
  rw [List.append_nil]
  refine ⟨a, _, hp, d1, fun v H2 e2 r => ?_⟩
  rw [hr] at r
  exact q v H2 (e1.trans e2) (Dq.sub r fun b z => (S.ext e1).fresh z true)
theorem ef_call (hK : K = C.K) (a : α) (hp : pre a) (hr : res a = .fl xs) (h : EvB C ta st false (args a)) : EvF C (tCall (spZ K pre args res) [] E ta) st true xs := fun hs σ H S Q q => h hs σ H S _ fun vs H1 e1 d1 => by
  subst hK
  rw [List.append_nil]
  refine ⟨a, _, hp, d1, fun v H2 e2 r => ?_⟩
  rw [hr] at r
  obtain ⟨p, ws, rfl, h0, h1, h2⟩ := r
  exact q p ws H2 (Evl.fresh_back e1 h0) (e1.trans e2) h1 (h2.sub fun b z => ⟨(S.ext e1).fresh z.1 true, z.2⟩)
theorem ef_callS (hK : K = C.K) (a : α) (hp : pre a) (hr : res a = .fs xs) (h : EvB C ta st true (args a)) : EvF C (tCall (spZ K pre args res) [] E ta) st false xs := fun hs σ H S Q q => h hs σ H S _ fun vs H1 e1 d1 => by
  subst hK
  rw [List.append_nil]
  refine ⟨a, _, hp, d1, fun v H2 e2 r => ?_⟩
  rw [hr] at r
  obtain ⟨p, ws, rfl, h0, h1, h2⟩ := r
  exact q p ws H2 (Evl.fresh_back e1 h0) (e1.trans e2) h1 (h2.sub fun b z => ⟨z.1.elim (fun z => ⟨z.1, z.2 rfl⟩) fun z => (S.ext e1).fresh z false, z.2⟩)
end
end
end Z

set_option Elab.async false
set_option linter.all false
set_option maxRecDepth 100000
/-! The same with what comes behind. -/
namespace Z
open PySem L2
open Evl (Ex)
section
variable {X : Cx}
theorem call_lenQ : CallR X (.builtin "len") (rLenQ X.K) := call_len_seq
theorem call_lstQ : CallR X (.type "list") (rLstQ X.K) := call_list_of
theorem r65 {k : Nat} {A : Around} (r : Room k A) : A.units + 65 < cLine := by have := r.un; omega
end
section
variable {C : Cfg} {st st' : Stt} {te ta tb : TE} {fr fr' fr2 : Bool} {d x y : D} {ds xs ys : List D} {ns : List Int} {b c : Bool} {t u : TS} {tt : TT} {N B T M : Stt → Prop} {R : VK}
theorem k_asg {i : Nat} (h : EvE C te st fr d) (e : st.set i (some (.d fr d)) = st') (k : Ok C u st' N B T R) : Ok C (tSeq (tAsg te (gName i)) u) st N B T R := ok_seq (fun s => s = st') (ok_asg h e) fun s q => q ▸ k
theorem k_own {i : Nat} {f : Addr → Stt} (h : EvF C te st fr xs) (e : ∀ o, st.set i (some (.own fr o xs)) = f o) (k : ∀ o, Ok C u (f o) N B T R) : Ok C (tSeq (tAsg te (gName i)) u) st N B T R := ok_seq (fun s => ∃ o, s = f o) (ok_own h fun o => ⟨o, e o⟩) fun s ⟨o, q⟩ => q ▸ k o
theorem k_if (h : EvT C tt st b) (h1 : b = true → Ok C t st (fun s => Ok C u s N B T R) B T R) (h2 : b = false → Ok C u st N B T R) : Ok C (tSeq (tIfS tt t tNext) u) st N B T R := ok_seq (fun s => Ok C u s N B T R) (ok_if h h1 fun e => ok_next (h2 e)) fun s k => k
/-- .. whose branch gives back -/
theorem k_ret (h : EvT C tt st b) (h1 : b = true → Ok C t st no B T R) (h2 : b = false → Ok C u st N B T R) : Ok C (tSeq (tIfS tt t tNext) u) st N B T R := k_if h (fun e => ok_mono (h1 e) fun _ z => z.elim) h2
theorem k_ife {v : TS} (M : Stt → Prop) (h : EvT C tt st b) (h1 : b = true → Ok C t st M B T R) (h2 : b = false → Ok C v st M B T R) (k : ∀ s, M s → Ok C u s N B T R) : Ok C (tSeq (tIfS tt t v) u) st N B T R := ok_seq M (ok_if h h1 h2) k
theorem k_app {K : PySem.W.Frag} {i : Nat} {o : Addr} (hi : st[i]? = some (some (.own fr o xs))) (h : EvE C te st fr d) (hz : xs.length < sizeLine) (e : st.set i (some (.own fr o (xs ++ [d]))) = st') (k : Ok C u st' N B T R) :
    Ok C (tSeq (tDrop (tBM K "list" rAppend (tVar i) (tCons te tNil))) u) st N B T R := ok_seq (fun s => s = st') (ok_app hi h hz e) fun s q => q ▸ k
theorem k_for {α : Type} {wi : TI} {j : Nat} {en : α → D} {as : List α} (I : Nat → Stt → Prop) (h : EvW C wi st fr2 (as.map en)) (h0 : I 0 st)
    (hs : ∀ (i : Nat) a st', as[i]? = some a → I i st' → Ok C t (st'.set j (some (.d fr2 (en a)))) (I (i + 1)) (fun s => Ok C u s N B T R) (I (i + 1)) R) (hd : ∀ st', I as.length st' → Ok C u st' N B T R) : Ok C (tSeq (tFor wi (gName j) t) u) st N B T R :=
  ok_seq (fun s => Ok C u s N B T R) (ok_for I h h0 hs hd) fun s k => k
theorem k_while (I : Nat → Stt → Prop) (m0 : Nat) (h0 : I m0 st)
    (hs : ∀ m st', I m st' → ∃ b, EvT C tt st' b ∧ (b = true → Ok C t st' (fun s => ∃ m', m' < m ∧ I m' s) (fun s => Ok C u s N B T R) (fun s => ∃ m', m' < m ∧ I m' s) R) ∧ (b = false → Ok C u st' N B T R)) : Ok C (tSeq (tWhile tt t) u) st N B T R :=
  ok_seq (fun s => Ok C u s N B T R) (ok_while I m0 h0 hs) fun s k => k
/-- a frame's slots read in another order of words -/
theorem ok_st (e : st = st') (h : Ok C t st' N B T R) : Ok C t st N B T R := e ▸ h
end
/-! ### defs of which only a property is told -/
def spN {α β : Type} (K : PySem.W.Frag) (pre : α → Prop) (args : α → List Arg) (post : α → β → Prop) (res : β → D) : Sp := fun vs H Q _ => ∃ (x : α) (M : Addr → Prop), pre x ∧ ArgAll K M H vs (args x) ∧ ∀ y v H2, post x y → Ex H H2 → ResR M H v H2 (.nw (res y)) → Q v H2
section
variable {P : Program} {w : World} {K : PySem.W.Frag} {mg : PySem.Str → Option Value} {base : Heap}
theorem fn_n {α β : Type} {x qual : PySem.Str} {st : Stmt} {f : Addr} {fd : FuncData} {Nm ps : List PySem.Str} {k : Nat} {pre : α → Prop} {args : α → List Arg} {post : α → β → Prop} {res : β → D} (F : Fun K x qual st f fd) (S : FnScope Nm ps (defScope st)) (len : ∀ x, (args x).length = ps.length)
    (hbody : ∀ (cdv : Value) (A : Around) (outer : List Env) (s : Shared) (H : Hp) (E : XK), Room k (A.deeper (PyProof.Rows.envOfC qual (defScope st) s.heap.objs.size f cdv)) →
      ∃ t, PSs (cxOf CX0 P w K mg base Nm qual (defScope st) f cdv A outer s H E).nox (defBody st) t ∧ ∀ (x : α) (M : Addr → Prop), pre x → Ok (cfg K M H) t (slots (args x) (Nm.length - ps.length)) no no no (fun v H2 => ∃ y, post x y ∧ RR (cfg K M H) M (.nw (res y)) v H2)) :
    FnOk P w K mg base CX0 (k + 1) f fd ps (spN K pre args post res) := by
  refine F.ok S (fun vs H Q E h => ?_) (fun cdv A outer s H vs Q E hr h => ?_)
  · obtain ⟨x, M, _, ha, _⟩ := h
    rw [ha.len, len]
  · obtain ⟨x, M, hp, ha, q⟩ := h
    obtain ⟨t, ht, ok⟩ := hbody cdv A outer s H E hr
    refine ⟨t, ht, ?_⟩
    have hl : vs.length = ps.length := by rw [ha.len, len]
    have es : L2.start Nm vs = vs.map some ++ List.replicate (Nm.length - ps.length) none := by
      unfold L2.start
      rw [hl]
    rw [es]
    exact ok x M hp [] _ H _ (start_str ha) (fun _ _ _ z => z.elim) (fun _ _ _ z => z.elim) (fun _ _ _ z => z.elim) fun v H' e ⟨y, p, r⟩ => q y v H' p e r
end
section
variable {C : Cfg} {st : Stt} {ta : TA} {u : TS} {N B T : Stt → Prop} {R : VK} {α β : Type} {K : PySem.W.Frag} {pre : α → Prop} {args : α → List Arg} {post : α → β → Prop} {res : β → D} {E : XK}
theorem k_asgN {i : Nat} {f : β → Stt} (hK : K = C.K) (a : α) (hp : pre a) (h : EvB C ta st false (args a)) (e : ∀ y, st.set i (some (.d true (res y))) = f y) (k : ∀ y, post a y → Ok C u (f y) N B T R) : Ok C (tSeq (tAsg (tCall (spN K pre args post res) [] E ta) (gName i)) u) st N B T R :=
  ok_seq (fun s => ∃ y, post a y ∧ s = f y) (fun hs σ H Dn S hN _ _ _ => h hs σ H S _ fun vs H1 e1 d1 => by
    subst hK
    rw [List.append_nil]
    refine ⟨a, _, hp, d1, fun y v H2 py e2 r => ?_⟩
    have S2 := S.ext (e1.trans e2)
    have dv : Dq (msk C hs st true) H2 v (res y) := Dq.sub r fun b z => (S.ext e1).fresh z true
    refine hN _ _ H2 ⟨y, py, rfl⟩ ?_ (.extS (e1.trans e2) fun o m => (owns_set_d st i (some (.d true (res y))) (fun _ _ _ _ q => by cases q)).subset (by rw [e y]; exact m))
    rw [← e y]
    exact S2.set dv) fun s ⟨y, py, q⟩ => q ▸ k y py
theorem ok_retN (hK : K = C.K) (a : α) (hp : pre a) (h : EvB C ta st false (args a)) (r : ∀ y, post a y → ∀ v H, Dq (bm C true) H v (res y) → R v H) : Ok C (tRet (tCall (spN K pre args post res) [] E ta)) st N B T R := fun hs σ H Dn S _ _ _ hR => h hs σ H S _ fun vs H1 e1 d1 => by
  subst hK
  rw [List.append_nil]
  refine ⟨a, _, hp, d1, fun y v H2 py e2 q => hR v H2 (C.bx.trans (S.ex.trans (e1.trans e2))) (r y py v H2 (Dq.sub q fun b z => Evl.fresh_back (S.ex.trans e1) z))⟩
end
/-! ### the same with Lean types -/
section
variable {C : Cfg} {st : Stt} {te ta tb : TE} {fr fr2 : Bool} {tt : TT} {α β : Type} {en : α → D} {en2 : β → D} {as bs : List α} {K : PySem.W.Frag}
theorem sz {n : Nat} (h : n ≤ 1000000) : n ≤ sizeLine := Nat.le_trans h (by decide)
theorem szl {n : Nat} (h : n ≤ 1000000) : n < sizeLine := Nat.lt_of_le_of_lt h (by decide)
theorem filt_yes {α : Type} (as : List α) : as.filter (fun _ => true) = as := List.filter_eq_self.mpr fun _ _ => rfl
theorem ef_catM (ha : EvL C ta st fr (as.map en)) (hb : EvL C tb st fr (bs.map en)) (hl : as.length + bs.length ≤ 1000000) : EvF C (tOp rCat ta tb) st fr ((as ++ bs).map en) :=
  EvF.is (ef_cat ha hb (sz (by rw [List.length_map, List.length_map]; exact hl))) List.map_append.symm
theorem ef_one {a : Int} (hb : EvE C tb st fr (.int a)) : EvF C (tLst (tCons tb tNil)) st fr2 ([a].map .int) := EvF.any (ef_lst (fr := true) (ed_cons (EvE.int hb) ed_nil) (show 1 ≤ sizeLine by decide))
theorem ef_snoc {r : List Int} {a : Int} (ha : EvL C ta st fr2 (r.map .int)) (hb : EvE C tb st fr (.int a)) (hl : r.length ≤ 900000) : EvF C (tOp rCat ta (tLst (tCons tb tNil))) st true ((r ++ [a]).map .int) :=
  ef_catM (EvL.ints ha) (EvF.l (ef_one hb)) (by simp only [List.length_cons, List.length_nil]; omega)
/-- [te for x in .. if tt], typed -/
theorem ef_lcT {wi : TI} {j : Nat} (p : α → Bool) (f : α → β) (h : EvW C wi st fr2 (as.map en)) (hn : as.length ≤ 1000000) (ho : owns (st.set j none) = owns st)
    (ht : ∀ a, a ∈ as → EvT C tt (st.set j (some (.d fr2 (en a)))) (p a)) (he : ∀ a, a ∈ as → p a = true → EvE C te (st.set j (some (.d fr2 (en a)))) fr (en2 (f a))) :
    EvF C (tLc wi (gName j) tt te [j]) st fr (((as.filter p).map f).map en2) := EvF.is (ef_lc p (fun a => en2 (f a)) h hn ho ht he) (by rw [List.map_map]; rfl)
/-- .. of all -/
theorem ef_lcY {wi : TI} {j : Nat} (f : α → β) (h : EvW C wi st fr2 (as.map en)) (hn : as.length ≤ 1000000) (ho : owns (st.set j none) = owns st)
    (he : ∀ a, a ∈ as → EvE C te (st.set j (some (.d fr2 (en a)))) fr (en2 (f a))) :
    EvF C (tLc wi (gName j) tYes te [j]) st fr ((as.map f).map en2) := EvF.is (ef_lcT (fun _ => true) f h hn ho (fun a _ => et_yes) (fun a ha _ => he a ha)) (by rw [filt_yes])
/-- .. the items themselves -/
theorem ef_lcI {wi : TI} {j : Nat} (p : α → Bool) (h : EvW C wi st fr2 (as.map en)) (hn : as.length ≤ 1000000) (ho : owns (st.set j none) = owns st)
    (ht : ∀ a, a ∈ as → EvT C tt (st.set j (some (.d fr2 (en a)))) (p a)) (he : ∀ a, a ∈ as → p a = true → EvE C te (st.set j (some (.d fr2 (en a)))) fr (en a)) :
    EvF C (tLc wi (gName j) tt te [j]) st fr ((as.filter p).map en) := ef_lc p en h hn ho ht he
theorem EvE.intl {ns : List Int} (h : EvE C te st fr (dL ns)) : EvL C te st fr2 (ns.map .int) := EvL.ints h.l
/-- what falls to a test by a decision -/
theorem of_and {a b : Bool} (h : (a && b) = true) : a = true ∧ b = true := Bool.and_eq_true_iff.mp h
end
end Z

set_option Elab.async false
set_option linter.all false
set_option maxRecDepth 100000
namespace Z
open PySem PySem.Spec PyProof.Rows L2
def topS (i : Nat) : Stmt := PySem.Challenge.pw_matroidpick_k02_exchanged_and_weighed.main.body.getD i (.Pass ⟨0, 0, 0, 0⟩)
abbrev s_exchanged : Stmt := topS 1
abbrev n_exchanged : List PySem.Str := ["choice", "out", "thing", "kept", "held"]
theorem sc_exchanged : FnScope n_exchanged ["choice", "out", "thing"] (defScope s_exchanged) := ⟨rfl, rfl, rfl, by decide +kernel, rfl, by decide +kernel, by decide +kernel⟩
abbrev s_weigh : Stmt := topS 2
abbrev n_weigh : List PySem.Str := ["weights", "choice", "thing"]
theorem sc_weigh : FnScope n_weigh ["weights", "choice"] (defScope s_weigh) := ⟨rfl, rfl, rfl, by decide +kernel, rfl, by decide +kernel, by decide +kernel⟩
abbrev s__law_cell_at : Stmt := topS 4
abbrev n__law_cell_at : List PySem.Str := ["_law_script", "_law_k"]
theorem sc__law_cell_at : FnScope n__law_cell_at ["_law_script", "_law_k"] (defScope s__law_cell_at) := ⟨rfl, rfl, rfl, by decide +kernel, rfl, by decide +kernel, by decide +kernel⟩
abbrev s__law_whole : Stmt := topS 5
abbrev n__law_whole : List PySem.Str := ["_law_found"]
theorem sc__law_whole : FnScope n__law_whole ["_law_found"] (defScope s__law_whole) := ⟨rfl, rfl, rfl, by decide +kernel, rfl, by decide +kernel, by decide +kernel⟩
abbrev s__law_weight : Stmt := topS 6
abbrev n__law_weight : List PySem.Str := ["_law_cell", "_law_mode", "_law_far"]
theorem sc__law_weight : FnScope n__law_weight ["_law_cell", "_law_mode"] (defScope s__law_weight) := ⟨rfl, rfl, rfl, by decide +kernel, rfl, by decide +kernel, by decide +kernel⟩
abbrev s__law_row_is : Stmt := topS 7
abbrev n__law_row_is : List PySem.Str := ["_law_found", "_law_due", "_law_k"]
theorem sc__law_row_is : FnScope n__law_row_is ["_law_found", "_law_due"] (defScope s__law_row_is) := ⟨rfl, rfl, rfl, by decide +kernel, rfl, by decide +kernel, by decide +kernel⟩
abbrev s__law_rising : Stmt := topS 8
abbrev n__law_rising : List PySem.Str := ["_law_script", "_law_count", "_law_step", "_law_row", "_law_at", "_law_k"]
theorem sc__law_rising : FnScope n__law_rising ["_law_script", "_law_count", "_law_step"] (defScope s__law_rising) := ⟨rfl, rfl, rfl, by decide +kernel, rfl, by decide +kernel, by decide +kernel⟩
abbrev s__law_put_in : Stmt := topS 9
abbrev n__law_put_in : List PySem.Str := ["_law_row", "_law_thing", "_law_place", "_law_one"]
theorem sc__law_put_in : FnScope n__law_put_in ["_law_row", "_law_thing"] (defScope s__law_put_in) := ⟨rfl, rfl, rfl, by decide +kernel, rfl, by decide +kernel, by decide +kernel⟩
abbrev s__law_mixed : Stmt := topS 10
abbrev n__law_mixed : List PySem.Str := ["_law_choice", "_law_cell", "_law_row", "_law_thing"]
theorem sc__law_mixed : FnScope n__law_mixed ["_law_choice", "_law_cell"] (defScope s__law_mixed) := ⟨rfl, rfl, rfl, by decide +kernel, rfl, by decide +kernel, by decide +kernel⟩
abbrev s_law : Stmt := topS 11
abbrev n_law : List PySem.Str := ["_law_script", "_law_count", "_law_step", "_law_choice", "_law_out", "_law_thing", "_law_mixed_here", "_law_handed", "_law_due", "_law_found", "_law_mode", "_law_weights", "_law_some", "_law_total", "_law_one", "_law_kept", "_law_none", "_law_k"]
theorem sc_law : FnScope n_law ["_law_script"] (defScope s_law) := ⟨rfl, rfl, rfl, by decide +kernel, rfl, by decide +kernel, by decide +kernel⟩
structure Txt (K : PySem.W.Frag) (mg : PySem.Str → Option Value) where
  len : mg "len" = none
  sorted : mg "sorted" = none
  sum : mg "sum" = none
  isinstance : mg "isinstance" = none
  list : mg "list" = none
  int : mg "int" = none
  bool : mg "bool" = none
  range : mg "range" = none
  a_exchanged : Addr
  d_exchanged : FuncData
  f_exchanged : Fun K "exchanged" "exchanged" s_exchanged a_exchanged d_exchanged
  m_exchanged : mg "exchanged" = some (.ref a_exchanged)
  b_exchanged : Binds K d_exchanged ["choice", "out", "thing"] []
  a_weigh : Addr
  d_weigh : FuncData
  f_weigh : Fun K "weigh" "weigh" s_weigh a_weigh d_weigh
  m_weigh : mg "weigh" = some (.ref a_weigh)
  b_weigh : Binds K d_weigh ["weights", "choice"] []
  a__law_cell_at : Addr
  d__law_cell_at : FuncData
  f__law_cell_at : Fun K "_law_cell_at" "_law_cell_at" s__law_cell_at a__law_cell_at d__law_cell_at
  m__law_cell_at : mg "_law_cell_at" = some (.ref a__law_cell_at)
  b__law_cell_at : Binds K d__law_cell_at ["_law_script", "_law_k"] []
  a__law_whole : Addr
  d__law_whole : FuncData
  f__law_whole : Fun K "_law_whole" "_law_whole" s__law_whole a__law_whole d__law_whole
  m__law_whole : mg "_law_whole" = some (.ref a__law_whole)
  b__law_whole : Binds K d__law_whole ["_law_found"] []
  a__law_weight : Addr
  d__law_weight : FuncData
  f__law_weight : Fun K "_law_weight" "_law_weight" s__law_weight a__law_weight d__law_weight
  m__law_weight : mg "_law_weight" = some (.ref a__law_weight)
  b__law_weight : Binds K d__law_weight ["_law_cell", "_law_mode"] []
  a__law_row_is : Addr
  d__law_row_is : FuncData
  f__law_row_is : Fun K "_law_row_is" "_law_row_is" s__law_row_is a__law_row_is d__law_row_is
  m__law_row_is : mg "_law_row_is" = some (.ref a__law_row_is)
  b__law_row_is : Binds K d__law_row_is ["_law_found", "_law_due"] []
  a__law_rising : Addr
  d__law_rising : FuncData
  f__law_rising : Fun K "_law_rising" "_law_rising" s__law_rising a__law_rising d__law_rising
  m__law_rising : mg "_law_rising" = some (.ref a__law_rising)
  b__law_rising : Binds K d__law_rising ["_law_script", "_law_count", "_law_step"] []
  a__law_put_in : Addr
  d__law_put_in : FuncData
  f__law_put_in : Fun K "_law_put_in" "_law_put_in" s__law_put_in a__law_put_in d__law_put_in
  m__law_put_in : mg "_law_put_in" = some (.ref a__law_put_in)
  b__law_put_in : Binds K d__law_put_in ["_law_row", "_law_thing"] []
  a__law_mixed : Addr
  d__law_mixed : FuncData
  f__law_mixed : Fun K "_law_mixed" "_law_mixed" s__law_mixed a__law_mixed d__law_mixed
  m__law_mixed : mg "_law_mixed" = some (.ref a__law_mixed)
  b__law_mixed : Binds K d__law_mixed ["_law_choice", "_law_cell"] []
section
variable {P : Program} {w : World} {K : PySem.W.Frag} {mg : PySem.Str → Option Value} {base : Heap}
/-! the script's cell at a place -/
theorem getD_some {α : Type} {l : List α} {i : Nat} {d : α} (h : i < l.length) : l[i]? = some (l.getD i d) := by
  rw [List.getD_eq_getElem?_getD, List.getElem?_eq_getElem h]
  rfl
def cellAt (s : List Int) (k : Int) : Int := if k < s.length then s.getD k.toNat 0 else if s = [] then 0 else s.getD (k % s.length).toNat 0 * 7 + k
abbrev sp__law_cell_at (K : PySem.W.Frag) : Sp := spZ (α := List Int × Int) K (fun x => 0 ≤ x.2) (fun x => [.s x.1, .d (.int x.2)]) (fun x => .nw (.int (cellAt x.1 x.2)))
theorem ok__law_cell_at (T : Txt K mg) : FnOk P w K mg base CX0 1 T.a__law_cell_at T.d__law_cell_at ["_law_script", "_law_k"] (sp__law_cell_at K) := by
  refine fn_z T.f__law_cell_at sc__law_cell_at (fun _ => rfl) (fun cdv A outer s H E hr => ⟨_, (pss_cons (ps_if (pt_cmpR op_lt (pv 1) (pe_callB (r := Z.rLenQ K) Z.call_lenQ (by rfl) T.len PySem.boot_len (pa_cons (pv 0) pa_nil)) (nomark _))
        (pss_one (ps_ret (pe_ix (r := rIxL K) ix_list (pv 0) (pv 1) (fun _ _ => rfl))))
        pss_nil)
      (pss_cons (ps_if (pt_cmpR (r := rEqD K) (op_eqD hr.units) (pv 0) (pe_lst pa_nil) (nomark _))
        (pss_one (ps_ret pe_int))
        pss_nil)
      (pss_one (ps_ret (pe_op op_add (pe_op op_mul (pe_ix (r := rIxL K) ix_list (pv 0) (pe_op op_mod (pv 1) (pe_callB (r := Z.rLenQ K) Z.call_lenQ (by rfl) T.len PySem.boot_len (pa_cons (pv 0) pa_nil))) (fun _ _ => rfl)) pe_int) (pv 1)))))), fun x M hp => ?_⟩)
  obtain ⟨ns, k⟩ := x
  have hp : 0 ≤ k := hp
  refine ok_st (st' := [some (.scr ns), some (.d false (.int k))]) rfl ?_
  refine k_ret (et_test (ev_I0b (ev_var rfl) (ev_lenS rfl (es_var rfl)))) (fun hc => ?_) (fun hc => ?_)
  · have hk : k < ns.length := of_decide_eq_true hc
    refine ok_ret (EvE.is (ev_ixS rfl (es_var rfl) (ev_var rfl) hp (getD_some (d := 0) (by omega))) ?_) (fun _ _ h => RR.int h)
    show D.int _ = D.int (cellAt ns k)
    unfold cellAt
    rw [if_pos hk]
  have hk : ¬ k < ns.length := of_decide_eq_false hc
  refine k_ret (et_test (ev_eqD (α := List Int) (a' := []) rfl (EvS.p (es_var rfl)) (EvE.p (EvF.e (ef_lst (fr := true) ed_nil (show 0 ≤ sizeLine by decide)))) (by decide))) (fun hc2 => ?_) (fun hc2 => ?_)
  · have h0 : ns = [] := of_decide_eq_true hc2
    refine ok_ret (EvE.is ev_int ?_) (fun _ _ h => RR.int h)
    show D.int _ = D.int (cellAt ns k)
    unfold cellAt
    rw [if_neg hk, if_pos h0]
  have h0 : ns ≠ [] := of_decide_eq_false hc2
  have hl : 0 < (ns.length : Int) := by
    cases ns with
    | nil => exact absurd rfl h0
    | cons a r => simp only [List.length_cons]; omega
  have h1 := Int.emod_nonneg k (Int.ne_of_gt hl)
  have h2 := Int.emod_lt_of_pos k hl
  refine ok_ret (EvE.is (ev_I0 (ev_I (ev_ixS rfl (es_var rfl) (ev_I (ev_var rfl) (ev_lenS rfl (es_var rfl)) hl) h1 (getD_some (d := 0) (by omega))) ev_int (.inr ⟨by decide, by decide⟩)) (ev_var rfl)) ?_) (fun _ _ h => RR.int h)
  show D.int _ = D.int (cellAt ns k)
  unfold cellAt
  rw [if_neg hk, if_neg h0]

abbrev sp__law_whole (K : PySem.W.Frag) : Sp := spZ (α := Int) K (fun _ => True) (fun x => [.d (.int x)]) (fun _ => .nw (.bool true))
theorem ok__law_whole (T : Txt K mg) : FnOk P w K mg base CX0 1 T.a__law_whole T.d__law_whole ["_law_found"] (sp__law_whole K) := by
  refine fn_z T.f__law_whole sc__law_whole (fun _ => rfl) (fun cdv A outer s H E hr => ⟨_, (pss_one (ps_ret (pe_and (pe_callB (r := rIsi K) call_isi (by rfl) T.isinstance boot_isinstance (pa_cons (pv 0) (pa_cons (pe_bltn (v := .ty "int") (by rfl) T.int boot_int rfl) pa_nil))) (pe_one (pe_not (pe_callB (r := rIsi K) call_isi (by rfl) T.isinstance boot_isinstance (pa_cons (pv 0) (pa_cons (pe_bltn (v := .ty "bool") (by rfl) T.bool boot_bool rfl) pa_nil)))))))), fun x M hp => ?_⟩)
  refine ok_st (st' := [some (.d false (.int x))]) rfl ?_
  exact ok_ret (EvE.is (ev_and (ev_isi (b := true) (ev_var rfl) (show kitB "int" "int" = some true by decide +kernel)) (fun hb => (ev_not (ev_isi (b := false) (ev_var rfl) (show kitB "int" "bool" = some false by decide +kernel))))) rfl) (fun _ _ h => RR.bl h)

def weightOf (c m : Int) : Int := if m = 0 then c % 5 - 2 else if m = 1 then c % 2001 - 1000 else if m = 2 ∧ c / 10 % 2 = 0 then c % (10 : Int) ^ (60 : Int).toNat else -(c % (10 : Int) ^ (60 : Int).toNat)
abbrev sp__law_weight (K : PySem.W.Frag) : Sp := spZ (α := Int × Int) K (fun _ => True) (fun x => [.d (.int x.1), .d (.int x.2)]) (fun x => .nw (.int (weightOf x.1 x.2)))
theorem ok__law_weight (T : Txt K mg) : FnOk P w K mg base CX0 1 T.a__law_weight T.d__law_weight ["_law_cell", "_law_mode"] (sp__law_weight K) := by
  refine fn_z T.f__law_weight sc__law_weight (fun _ => rfl) (fun cdv A outer s H E hr => ⟨_, (pss_cons (ps_if (pt_cmpR op_eq (pv 1) pe_int (nomark _))
        (pss_one (ps_ret (pe_op op_sub (pe_op op_mod (pv 0) pe_int) pe_int)))
        pss_nil)
      (pss_cons (ps_if (pt_cmpR op_eq (pv 1) pe_int (nomark _))
        (pss_one (ps_ret (pe_op op_sub (pe_op op_mod (pv 0) pe_int) pe_int)))
        pss_nil)
      (pss_cons (ps_set (i := 2) sc__law_weight.nd rfl (Or.inl rfl) (pe_op op_mod (pv 0) (pe_op op_pow pe_int pe_int)))
      (pss_cons (ps_if (PW.pt (pw_and (pt_cmpR op_eq (pv 1) pe_int (nomark _)) (pw_and1 (pt_cmpR op_eq (pe_op op_mod (pe_op op_fdiv (pv 0) pe_int) pe_int) pe_int (nomark _)))))
        (pss_one (ps_ret (pv 2)))
        pss_nil)
      (pss_one (ps_ret (pe_un un_neg (pv 2)))))))), fun x M hp => ?_⟩)
  obtain ⟨c, m⟩ := x
  refine ok_st (st' := [some (.d false (.int c)), some (.d false (.int m)), none]) rfl ?_
  refine k_ret (et_test (ev_eqI (ev_var rfl) ev_int)) (fun hc => ?_) (fun hc => ?_)
  · have e : m = 0 := of_decide_eq_true hc
    refine ok_ret (EvE.is (ev_I0 (ev_I (ev_var rfl) ev_int (show (0 : Int) < (5 : Int) by decide)) ev_int) ?_) (fun _ _ h => RR.int h)
    show D.int _ = D.int (weightOf c m)
    unfold weightOf
    rw [if_pos e]
  have n0 : ¬ m = 0 := of_decide_eq_false hc
  refine k_ret (et_test (ev_eqI (ev_var rfl) ev_int)) (fun hc => ?_) (fun hc => ?_)
  · have e : m = 1 := of_decide_eq_true hc
    refine ok_ret (EvE.is (ev_I0 (ev_I (ev_var rfl) ev_int (show (0 : Int) < (2001 : Int) by decide)) ev_int) ?_) (fun _ _ h => RR.int h)
    show D.int _ = D.int (weightOf c m)
    unfold weightOf
    rw [if_neg n0, if_pos e]
  have n1 : ¬ m = 1 := of_decide_eq_false hc
  refine k_asg (st' := [_, _, _]) (ev_I (ev_var rfl) (ev_I ev_int ev_int ⟨by decide, by decide, by decide⟩) (show (0 : Int) < (10 : Int) ^ (60 : Int).toNat by decide)) rfl ?_
  refine k_ret (et_and (et_test (ev_eqI (ev_var rfl) ev_int)) (fun hb => (et_test (ev_eqI (ev_I (ev_I (ev_var rfl) ev_int ⟨by decide, by decide⟩) ev_int (show (0 : Int) < (2 : Int) by decide)) ev_int)))) (fun hc => ?_) (fun hc => ?_)
  · have e : m = 2 ∧ c / 10 % 2 = 0 := by
      rw [Bool.and_eq_true] at hc
      exact ⟨of_decide_eq_true hc.1, of_decide_eq_true hc.2⟩
    refine ok_ret (EvE.is (ev_var rfl) ?_) (fun _ _ h => RR.int h)
    show D.int _ = D.int (weightOf c m)
    unfold weightOf
    rw [if_neg n0, if_neg n1, if_pos e]
  have n2 : ¬ (m = 2 ∧ c / 10 % 2 = 0) := fun e => by
    have : (decide (m = 2) && decide (c / 10 % 2 = 0)) = true := by rw [decide_eq_true e.1, decide_eq_true e.2]; rfl
    rw [this] at hc
    cases hc
  refine ok_ret (EvE.is (ev_neg (ev_var rfl)) ?_) (fun _ _ h => RR.int h)
  show D.int _ = D.int (weightOf c m)
  unfold weightOf
  rw [if_neg n0, if_neg n1, if_neg n2]

abbrev sp__law_row_is (K : PySem.W.Frag) : Sp := spZ (α := List Int × List Int) K (fun x => x.2.length ≤ 1000000) (fun x => [.d (dL x.1), .d (dL x.2)]) (fun x => .nw (.bool (decide (x.1 = x.2))))
theorem ok__law_row_is (T : Txt K mg) : FnOk P w K mg base CX0 2 T.a__law_row_is T.d__law_row_is ["_law_found", "_law_due"] (sp__law_row_is K) := by
  have G__law_whole : FnOk P w K mg base CX0 1 T.a__law_whole T.d__law_whole ["_law_found"] (sp__law_whole K) := ok__law_whole T
  refine fn_z T.f__law_row_is sc__law_row_is (fun _ => rfl) (fun cdv A outer s H E hr => ⟨_, (pss_cons (ps_if (PW.pt (pw_or (pt_not (pt_val (pe_callB (r := rIsi K) call_isi (by rfl) T.isinstance boot_isinstance (pa_cons (pv 0) (pa_cons (pe_bltn (v := .ty "list") (by rfl) T.list boot_list rfl) pa_nil))))) (pw_or1 (pt_cmpR op_ne (pe_callB (r := Z.rLenQ K) Z.call_lenQ (by rfl) T.len PySem.boot_len (pa_cons (pv 0) pa_nil)) (pe_callB (r := Z.rLenQ K) Z.call_lenQ (by rfl) T.len PySem.boot_len (pa_cons (pv 1) pa_nil)) (nomark _)))))
        (pss_one (ps_ret pe_bl))
        pss_nil)
      (pss_cons (ps_for PassesOwn.never rfl (pi_range1 (by rfl) T.range (pa_cons (pe_callB (r := Z.rLenQ K) Z.call_lenQ (by rfl) T.len PySem.boot_len (pa_cons (pv 1) pa_nil)) pa_nil)) (pg_name (i := 2) sc__law_row_is.nd rfl (Or.inl rfl))
        (pss_one (ps_if (PW.pt (pw_or (pt_not (pt_val (pe_call G__law_whole (hr.mono (by decide)) (by rfl) T.m__law_whole T.f__law_whole.kp T.b__law_whole .nil pass0 (pa_cons (pe_ix (r := rIxL K) ix_list (pv 0) (pv 2) (fun _ _ => rfl)) pa_nil)))) (pw_or1 (pt_cmpR op_ne (pe_ix (r := rIxL K) ix_list (pv 0) (pv 2) (fun _ _ => rfl)) (pe_ix (r := rIxL K) ix_list (pv 1) (pv 2) (fun _ _ => rfl)) (nomark _)))))
          (pss_one (ps_ret pe_bl))
          pss_nil)))
      (pss_one (ps_ret pe_bl)))), fun x M hp => ?_⟩)
  obtain ⟨as, bs⟩ := x
  have hp : bs.length ≤ 1000000 := hp
  refine ok_st (st' := [some (.d false (dL as)), some (.d false (dL bs)), none]) rfl ?_
  refine k_ret (et_or (et_not (et_B (ev_isi (b := true) (ev_var rfl) (show kitB "list" "list" = some true by decide +kernel)))) (fun hb => (et_test (ev_neI (ev_len (EvE.l (ev_var rfl))) (ev_len (EvE.l (ev_var rfl))))))) (fun hc => ?_) (fun hc => ?_)
  · refine ok_ret (EvE.is ev_bl ?_) (fun _ _ h => RR.bl h)
    show D.bool false = D.bool (decide (as = bs))
    have hne : ¬ as = bs := fun e => by
      subst e
      simp at hc
    rw [decide_eq_false hne]
  have hlen : as.length = bs.length := by
    simp at hc
    omega
  refine k_for (fun i st => ∃ y, st = [some (.d false (dL as)), some (.d false (dL bs)), y] ∧ as.take i = bs.take i) (ew_rng1 (fr := true) (ev_len (EvE.l (ev_var rfl))) ⟨by omega, by omega⟩) ⟨_, rfl, rfl⟩ (fun i a st ha hI => ?_) (fun st hI => ?_)
  · obtain ⟨y, rfl, he⟩ := hI
    have hi : i < bs.length := by
      have := (List.getElem?_eq_some_iff.mp ha).1
      rw [rng_len] at this
      omega
    have ea : a = (i : Int) := by
      rw [rng_get (by omega)] at ha
      have := Option.some.inj ha
      omega
    subst ea
    have g1 : as[(i : Int).toNat]? = some (as.getD i 0) := getD_some (by omega)
    have g2 : bs[(i : Int).toNat]? = some (bs.getD i 0) := getD_some (by omega)
    refine ok_if (et_or (et_not (et_B (ev_callN rfl _ True.intro rfl (eb_cons (ev_ix (EvE.l (ev_var rfl)) (ev_var rfl) (by omega) g1) eb_nil)))) (fun hb => (et_test (ev_neI (ev_ix (EvE.l (ev_var rfl)) (ev_var rfl) (by omega) g1) (ev_ix (EvE.l (ev_var rfl)) (ev_var rfl) (by omega) g2))))) (fun hc => ?_) (fun hc => ok_next ?_)
    · refine ok_ret (EvE.is ev_bl ?_) (fun _ _ h => RR.bl h)
      show D.bool false = D.bool (decide (as = bs))
      have hne : ¬ as = bs := fun e => by
        subst e
        simp at hc
      rw [decide_eq_false hne]
    · refine ⟨_, rfl, ?_⟩
      have e : as.getD i 0 = bs.getD i 0 := by simpa using hc
      have g1' : as[i]? = some (as.getD i 0) := g1
      have g2' : bs[i]? = some (bs.getD i 0) := g2
      rw [take_one g1', take_one g2', he, e]
  · obtain ⟨y, rfl, he⟩ := hI
    rw [rng_len] at he
    rw [List.take_of_length_le (by omega), List.take_of_length_le (by omega)] at he
    refine ok_ret (EvE.is ev_bl ?_) (fun _ _ h => RR.bl h)
    show D.bool true = D.bool (decide (as = bs))
    rw [decide_eq_true he]

def exch (c : List Int) (o t : Int) : List Int := isort (c.filter (fun h => !decide (h = o)) ++ [t])
abbrev sp_exchanged (K : PySem.W.Frag) : Sp := spZ (α := List Int × Int × Int) K (fun x => x.1.length ≤ 900000) (fun x => [.d (dL x.1), .d (.int x.2.1), .d (.int x.2.2)]) (fun x => .fl ((exch x.1 x.2.1 x.2.2).map .int))
theorem ok_exchanged (T : Txt K mg) : FnOk P w K mg base CX0 1 T.a_exchanged T.d_exchanged ["choice", "out", "thing"] (sp_exchanged K) := by
  refine fn_z T.f_exchanged sc_exchanged (fun _ => rfl) (fun cdv A outer s H E hr => ⟨_, (pss_cons (ps_setLc (i := 3) (own := [("held", 4)]) (g := gName 4) (by rfl) sc_exchanged.nd rfl rfl (sw_true rfl rfl rfl (by decide +kernel)) (pi_list (pv 0)) (blkOk_by (N := n_exchanged) (sc := defScope s_exchanged) (by decide +kernel)) (fun _ _ _ _ _ => pg_name (i := 4) sc_exchanged.nd rfl (Or.inl rfl)) (fun _ _ _ _ _ => (pts_one (pt_cmpR op_ne (pv 4) (pv 1) (nomark _)))) (fun _ _ _ _ _ => (pv 4)))
      (pss_one (ps_ret (pe_callB (r := rSortedI K) cr_sortedI (by rfl) T.sorted boot_sorted (pa_cons (pe_lst (StX.pa_star (pv 3) (pa_cons (pv 2) pa_nil))) pa_nil))))), fun x M hp => ?_⟩)
  obtain ⟨c, o, t⟩ := x
  have hp : c.length ≤ 900000 := hp
  refine ok_st (st' := [some (.d false (dL c)), some (.d false (.int o)), some (.d false (.int t)), none, none]) rfl ?_
  refine k_asg (st' := [_, _, _, some (.d true (dL (c.filter (fun h => !decide (h = o))))), _]) (EvF.e (ef_lc (fr := true) _ D.int (ew_list (ev_var rfl)) (by omega) rfl (fun a ha => (et_test (ev_neI (ev_var rfl) (ev_var rfl)))) (fun a ha hp => EvE.int (ev_var rfl)))) rfl ?_
  have hl := List.length_filter_le (fun h => !decide (h = o)) c
  refine ok_retF (ef_sorted (ns := c.filter (fun h => !decide (h = o)) ++ [t]) (EvF.l (EvF.is (ef_lst (fr := true) (ed_star (EvE.l (ev_var rfl)) (ed_cons (EvE.int (ev_var rfl)) ed_nil)) ?_) ?_))) (fun _ _ h => RR.fl h)
  · refine sz ?_
    rw [List.length_append, List.length_map, List.length_singleton]
    omega
  · rw [List.map_append]
    rfl

def wsum (ws c : List Int) : Int := (c.map fun t => ws.getD t.toNat 0).sum
abbrev sp_weigh (K : PySem.W.Frag) : Sp := spZ (α := List Int × List Int) K (fun x => x.2.length ≤ 900000 ∧ ∀ t ∈ x.2, 0 ≤ t ∧ t < x.1.length) (fun x => [.d (dL x.1), .d (dL x.2)]) (fun x => .nw (.int (wsum x.1 x.2)))
theorem ok_weigh (T : Txt K mg) : FnOk P w K mg base CX0 1 T.a_weigh T.d_weigh ["weights", "choice"] (sp_weigh K) := by
  refine fn_z T.f_weigh sc_weigh (fun _ => rfl) (fun cdv A outer s H E hr => ⟨_, (pss_one (ps_ret (pe_callB (r := rSum K) (cr_sum rfl) (by rfl) T.sum boot_sum (pa_cons (pe_lc (own := [("thing", 2)]) (g := gName 2) (by rfl) sc_weigh.nd (pi_list (pv 1)) (blkOk_by (N := n_weigh) (sc := defScope s_weigh) (by decide +kernel)) (fun _ _ _ _ _ => pg_name (i := 2) sc_weigh.nd rfl (Or.inl rfl)) (fun _ _ _ _ _ => pts_nil) (fun _ _ _ _ _ => (pe_ix (r := rIxL K) ix_list (pv 0) (pv 2) (fun _ _ => rfl)))) pa_nil)))), fun x M hp => ?_⟩)
  obtain ⟨ws, c⟩ := x
  obtain ⟨hl, hm⟩ : c.length ≤ 900000 ∧ ∀ t ∈ c, 0 ≤ t ∧ t < ws.length := hp
  refine ok_st (st' := [some (.d false (dL ws)), some (.d false (dL c)), none]) rfl ?_
  refine ok_ret (ev_sum (ns := c.map fun t => ws.getD t.toNat 0) (EvF.l (EvF.is (ef_lc (fr := true) _ (fun t => .int (ws.getD t.toNat 0)) (ew_list (ev_var rfl)) (by omega) rfl (fun a ha => et_yes) (fun a ha hp => EvE.int (ev_ix (EvE.l (ev_var rfl)) (ev_var rfl) (hm a ha).1 (getD_some (d := 0) (by have := hm a ha; omega))))) ?_))) (fun _ _ h => RR.int h)
  rw [List.map_map, filt_yes]
  rfl

def rAt (s : List Int) (step : Int) : Nat → Int
  | 0 => -1
  | k + 1 => rAt s step k + 1 + cellAt s (4 + (k : Int)) % step
def rising (s : List Int) (step : Int) (n : Nat) : List Int := (List.range n).map fun k => rAt s step (k + 1)
theorem rising_len (s : List Int) (step : Int) (n : Nat) : (rising s step n).length = n := by simp [rising]
theorem rising_succ (s : List Int) (step : Int) (n : Nat) : rising s step (n + 1) = rising s step n ++ [rAt s step (n + 1)] := by simp [rising, List.range_succ]
abbrev sp__law_rising (K : PySem.W.Frag) : Sp := spZ (α := List Int × Nat × Int) K (fun x => x.2.1 ≤ 900000 ∧ 0 < x.2.2) (fun x => [.s x.1, .d (.int (x.2.1 : Int)), .d (.int x.2.2)]) (fun x => .fl ((rising x.1 x.2.2 x.2.1).map .int))
theorem ok__law_rising (T : Txt K mg) : FnOk P w K mg base CX0 2 T.a__law_rising T.d__law_rising ["_law_script", "_law_count", "_law_step"] (sp__law_rising K) := by
  have G__law_cell_at : FnOk P w K mg base CX0 1 T.a__law_cell_at T.d__law_cell_at ["_law_script", "_law_k"] (sp__law_cell_at K) := ok__law_cell_at T
  refine fn_z T.f__law_rising sc__law_rising (fun _ => rfl) (fun cdv A outer s H E hr => ⟨_, (pss_cons (ps_set (i := 3) sc__law_rising.nd rfl (Or.inl rfl) (pe_lst pa_nil))
      (pss_cons (ps_set (i := 4) sc__law_rising.nd rfl (Or.inl rfl) (pe_un un_neg pe_int))
      (pss_cons (ps_for PassesOwn.never rfl (pi_range1 (by rfl) T.range (pa_cons (pv 1) pa_nil)) (pg_name (i := 5) sc__law_rising.nd rfl (Or.inl rfl))
        (pss_cons (ps_set (i := 4) sc__law_rising.nd rfl (Or.inl rfl) (pe_op op_add (pe_op op_add (pv 4) pe_int) (pe_op op_mod (pe_call G__law_cell_at (hr.mono (by decide)) (by rfl) T.m__law_cell_at T.f__law_cell_at.kp T.b__law_cell_at .nil pass0 (pa_cons (pv 0) (pa_cons (pe_op op_add pe_int (pv 5)) pa_nil))) (pv 2))))
        (pss_one (ps_expr (pe_bm PySem.F.plainAttrs_list PySem.F.slot_list_append PySem.F.type_list_append mt_append (pv 3) (pa_cons (pv 4) pa_nil))))))
      (pss_one (ps_ret (pv 3)))))), fun x M hp => ?_⟩)
  obtain ⟨ns, n, step⟩ := x
  obtain ⟨hn, hs⟩ : n ≤ 900000 ∧ 0 < step := hp
  refine ok_st (st' := [some (.scr ns), some (.d false (.int (n : Int))), some (.d false (.int step)), none, none, none]) rfl ?_
  refine k_own (f := fun o => [_, _, _, some (.own true o []), _, _]) (ef_lst (fr := true) ed_nil (show 0 ≤ sizeLine by decide)) (fun _ => rfl) (fun o => ?_)
  refine k_asg (st' := [_, _, _, _, _, _]) (ev_neg ev_int) rfl ?_
  refine k_for (fun i st => ∃ y, st = [some (.scr ns), some (.d false (.int (n : Int))), some (.d false (.int step)), some (.own true o ((rising ns step i).map .int)), some (.d true (.int (rAt ns step i))), y]) (ew_rng1 (fr := true) (ev_var rfl) ⟨by omega, by omega⟩) ⟨_, rfl⟩ (fun i a st ha hI => ?_) (fun st hI => ?_)
  · obtain ⟨y, rfl⟩ := hI
    have hi : i < n := by
      have := (List.getElem?_eq_some_iff.mp ha).1
      rw [rng_len] at this
      omega
    have ea : a = (i : Int) := by
      rw [rng_get (by omega)] at ha
      have := Option.some.inj ha
      omega
    subst ea
    refine k_asg (st' := [_, _, _, _, _, _]) (ev_I0 (ev_I0 (ev_var rfl) ev_int) (ev_I (ev_callN rfl (_, _) (show (0 : Int) ≤ 4 + (i : Int) by omega) rfl (eb_scr (es_var rfl) (eb_cons (ev_I0 ev_int (ev_var rfl)) eb_nil))) (ev_var rfl) hs)) rfl ?_
    refine ok_app rfl (EvE.int (ev_var rfl)) (szl (by rw [List.length_map, rising_len]; omega)) ?_
    rw [rising_succ, List.map_append]
    exact ⟨_, rfl⟩
  · obtain ⟨y, rfl⟩ := hI
    rw [rng_len, show ((n : Int)).toNat = n by omega]
    exact ok_retO rfl (fun _ _ h => RR.fl h)

def placeOf (row : List Int) (t : Int) : Nat := (row.filter fun a => decide (a < t)).length
def putIn (row : List Int) (t : Int) : List Int := row.take (placeOf row t) ++ [t] ++ row.drop (placeOf row t)
abbrev sp__law_put_in (K : PySem.W.Frag) : Sp := spZ (α := List Int × Int) K (fun x => x.1.length ≤ 900000) (fun x => [.d (dL x.1), .d (.int x.2)]) (fun x => .fl ((putIn x.1 x.2).map .int))
theorem ok__law_put_in (T : Txt K mg) : FnOk P w K mg base CX0 1 T.a__law_put_in T.d__law_put_in ["_law_row", "_law_thing"] (sp__law_put_in K) := by
  refine fn_z T.f__law_put_in sc__law_put_in (fun _ => rfl) (fun cdv A outer s H E hr => ⟨_, (pss_cons (ps_set (i := 2) sc__law_put_in.nd rfl (Or.inl rfl) (pe_callB (r := Z.rLenQ K) Z.call_lenQ (by rfl) T.len PySem.boot_len (pa_cons (pe_lc (own := [("_law_one", 3)]) (g := gName 3) (by rfl) sc__law_put_in.nd (pi_list (pv 0)) (blkOk_by (N := n__law_put_in) (sc := defScope s__law_put_in) (by decide +kernel)) (fun _ _ _ _ _ => pg_name (i := 3) sc__law_put_in.nd rfl (Or.inl rfl)) (fun _ _ _ _ _ => (pts_one (pt_cmpR op_lt (pv 3) (pv 1) (nomark _)))) (fun _ _ _ _ _ => (pv 3))) pa_nil)))
      (pss_one (ps_ret (pe_op op_cat (pe_op op_cat (pe_slice (r := rSlL K) sl_list (pv 0) po_none (po_some (pv 2))) (pe_lst (pa_cons (pv 1) pa_nil))) (pe_slice (r := rSlL K) sl_list (pv 0) (po_some (pv 2)) po_none))))), fun x M hp => ?_⟩)
  obtain ⟨row, t⟩ := x
  have hp : row.length ≤ 900000 := hp
  refine ok_st (st' := [some (.d false (dL row)), some (.d false (.int t)), none, none]) rfl ?_
  refine k_asg (st' := [_, _, some (.d true (.int (placeOf row t : Int))), _]) (ev_len (en := D.int) (as := row.filter fun a => decide (a < t)) (EvF.l (ef_lc (fr := true) _ D.int (ew_list (ev_var rfl)) (by omega) rfl (fun a ha => (et_test (ev_I0b (ev_var rfl) (ev_var rfl)))) (fun a ha hp => EvE.int (ev_var rfl))))) rfl ?_
  have hl : placeOf row t ≤ row.length := List.length_filter_le _ row
  have hl' : placeOf row t ≤ (row.map D.int).length := by rw [List.length_map]; exact hl
  refine ok_retF (EvF.any (EvF.is (ef_cat (fr := true) (xs := ((row.take (placeOf row t)) ++ [t]).map .int) (ys := (row.drop (placeOf row t)).map .int) (EvF.l (EvF.is (ef_cat (fr := true) (EvL.ints (ns := row.take (placeOf row t)) (EvF.l (ef_sl (EvE.l (ev_var rfl)) eo_none (eo_some (ev_var rfl)) ?_))) (EvF.l (ef_lst (fr := true) (ed_cons (EvE.int (ev_var rfl)) ed_nil) (show 1 ≤ sizeLine by decide))) ?_) ?_)) (EvL.ints (EvF.l (ef_sl (EvE.l (ev_var rfl)) (eo_some (ev_var rfl)) eo_none ?_))) ?_) ?_)) (fun _ _ h => RR.fl h)
  · exact (sl_to _ _ hl').trans List.map_take.symm
  · refine sz ?_
    simp only [List.length_map, List.length_take, List.length_cons, List.length_nil]
    omega
  · simp
  · exact (sl_from _ _ hl').trans List.map_drop.symm
  · refine sz ?_
    simp only [List.length_map, List.length_append, List.length_take, List.length_drop, List.length_cons, List.length_nil]
    omega
  · simp [putIn]

def mixStep (p : List Int × Int) (t : Int) : List Int × Int := (p.1.take (p.2 % ((p.1.length : Int) + 1)).toNat ++ [t] ++ p.1.drop (p.2 % ((p.1.length : Int) + 1)).toNat, p.2 / 3)
def mixed (c : List Int) (cell : Int) : List Int := (c.foldl mixStep ([], cell)).1
theorem mix_len : ∀ (c : List Int) (p : List Int × Int), ((c.foldl mixStep p).1).length = p.1.length + c.length
  | [], p => rfl
  | t :: c, p => by
    rw [List.foldl_cons, mix_len c]
    simp only [mixStep, List.length_append, List.length_take, List.length_drop, List.length_cons, List.length_nil]
    omega
theorem mix_perm : ∀ (c : List Int) (p : List Int × Int), ((c.foldl mixStep p).1).Perm (p.1 ++ c)
  | [], p => by simp
  | t :: c, p => by
    rw [List.foldl_cons]
    refine (mix_perm c _).trans ?_
    show ((p.1.take _ ++ [t] ++ p.1.drop _) ++ c).Perm (p.1 ++ t :: c)
    have e : (p.1.take (p.2 % ((p.1.length : Int) + 1)).toNat ++ [t] ++ p.1.drop (p.2 % ((p.1.length : Int) + 1)).toNat).Perm (p.1 ++ [t]) := by
      rw [List.append_assoc]
      refine (List.Perm.append_left _ (List.perm_append_comm (l₁ := [t]))).trans ?_
      rw [← List.append_assoc, List.take_append_drop]
    exact (e.append_right c).trans (by simp)
theorem mixed_perm (c : List Int) (cell : Int) : (mixed c cell).Perm c := (mix_perm c ([], cell)).trans (by simp)
abbrev sp__law_mixed (K : PySem.W.Frag) : Sp := spZ (α := List Int × Int) K (fun x => x.1.length ≤ 900000) (fun x => [.d (dL x.1), .d (.int x.2)]) (fun x => .fl ((mixed x.1 x.2).map .int))
theorem ok__law_mixed (T : Txt K mg) : FnOk P w K mg base CX0 1 T.a__law_mixed T.d__law_mixed ["_law_choice", "_law_cell"] (sp__law_mixed K) := by
  refine fn_z T.f__law_mixed sc__law_mixed (fun _ => rfl) (fun cdv A outer s H E hr => ⟨_, (pss_cons (ps_set (i := 2) sc__law_mixed.nd rfl (Or.inl rfl) (pe_lst pa_nil))
      (pss_cons (ps_for PassesOwn.never rfl (pi_list (pv 0)) (pg_name (i := 3) sc__law_mixed.nd rfl (Or.inl rfl))
        (pss_cons (ps_expr (pe_bm PySem.F.plainAttrs_list PySem.F.slot_list_insert PySem.F.type_list_insert mt_insert (pv 2) (pa_cons (pe_op op_mod (pv 1) (pe_op op_add (pe_callB (r := Z.rLenQ K) Z.call_lenQ (by rfl) T.len PySem.boot_len (pa_cons (pv 2) pa_nil)) pe_int)) (pa_cons (pv 3) pa_nil))))
        (pss_one (ps_set (i := 1) sc__law_mixed.nd rfl (Or.inl rfl) (pe_op op_fdiv (pv 1) pe_int)))))
      (pss_one (ps_ret (pv 2))))), fun x M hp => ?_⟩)
  obtain ⟨c, cell⟩ := x
  have hp : c.length ≤ 900000 := hp
  refine ok_st (st' := [some (.d false (dL c)), some (.d false (.int cell)), none, none]) rfl ?_
  refine k_own (f := fun o => [_, _, some (.own true o []), _]) (ef_lst (fr := true) ed_nil (show 0 ≤ sizeLine by decide)) (fun _ => rfl) (fun o => ?_)
  refine k_for (fun i st => ∃ f y, st = [some (.d false (dL c)), some (.d f (.int ((c.take i).foldl mixStep ([], cell)).2)), some (.own true o ((((c.take i).foldl mixStep ([], cell)).1).map .int)), y]) (ew_list (ev_var rfl)) ⟨_, _, rfl⟩ (fun i a st ha hI => ?_) (fun st hI => ?_)
  · obtain ⟨f, y, rfl⟩ := hI
    have hi := (List.getElem?_eq_some_iff.mp ha).1
    have hl : (((c.take i).foldl mixStep ([], cell)).1).length ≤ 900000 := by
      rw [mix_len]
      simp only [List.length_nil, List.length_take]
      omega
    have e1 : (c.take (i + 1)).foldl mixStep ([], cell) = mixStep ((c.take i).foldl mixStep ([], cell)) a := by
      rw [take_one ha, List.foldl_append]
      rfl
    rw [e1]
    generalize ((c.take i).foldl mixStep ([], cell)) = pr at hl ⊢
    obtain ⟨row, cl⟩ := pr
    have hl : row.length ≤ 900000 := hl
    have hb1 := Int.emod_nonneg cl (show (row.length : Int) + 1 ≠ 0 by omega)
    have hb2 := Int.emod_lt_of_pos cl (show (0 : Int) < (row.length : Int) + 1 by omega)
    refine ok_seq (fun s => s = [some (.d false (dL c)), some (.d f (.int cl)), some (.own true o (((mixStep (row, cl) a).1).map .int)), some (.d false (.int a))]) (ok_met (zs := [.int (cl % ((row.length : Int) + 1)), .int a]) rfl (ed_cons (EvE.int (ev_I (ev_var rfl) (ev_I0 (ev_len (el_own rfl)) ev_int) (show (0 : Int) < (row.length : Int) + 1 by omega))) (ed_cons (EvE.int (ev_var rfl)) ed_nil)) (fun vs ws H Q hv hvl hws q => ?_) rfl) (fun s e => ?_)
    · cases hws with
      | cons d1 r1 =>
        cases d1
        cases r1 with
        | cons d2 r2 =>
          cases d2
          cases r2
          rw [List.length_map] at hvl
          have hvl : vs.length = row.length := hvl
          refine ⟨o, vs, _, _, rfl, rfl, hv, szl (by omega), hb1, by omega, q _ _ fun H2 M h1 h2 => ?_⟩
          rw [h1.ints, ← List.map_take, ← List.map_drop, show [V.int a] = [a].map V.int from rfl, ← List.map_append, ← List.map_append]
          exact DqAll.ofInts _
    · subst e
      exact ok_asg (ev_I (ev_var rfl) ev_int ⟨by decide, by decide⟩) ⟨_, _, rfl⟩
  · obtain ⟨f, y, rfl⟩ := hI
    rw [List.take_length]
    exact ok_retO rfl (fun _ _ h => RR.fl h)

/-! the mathematics of the first law -/
theorem rAt_step {s : List Int} {step : Int} (h : 0 < step) (k : Nat) : rAt s step k + 1 ≤ rAt s step (k + 1) := by
  have := Int.emod_nonneg (cellAt s (4 + (k : Int))) (Int.ne_of_gt h)
  show rAt s step k + 1 ≤ rAt s step k + 1 + cellAt s (4 + (k : Int)) % step
  omega
theorem rAt_lt {s : List Int} {step : Int} (h : 0 < step) (i : Nat) : ∀ j, i < j → rAt s step i < rAt s step j
  | 0, h1 => absurd h1 (Nat.not_lt_zero i)
  | j + 1, h1 => by
    have h2 := rAt_step (s := s) h j
    by_cases e : i = j
    · subst e; omega
    · have := rAt_lt (s := s) h i j (by omega)
      omega
theorem rAt_nn {s : List Int} {step : Int} (h : 0 < step) (k : Nat) : (k : Int) - 1 ≤ rAt s step k := by
  induction k with
  | zero => show (0 : Int) - 1 ≤ -1; decide
  | succ k ih =>
    have := rAt_step (s := s) h k
    omega
theorem rising_up {s : List Int} {step : Int} (h : 0 < step) (n : Nat) : (rising s step n).Pairwise (· < ·) := by
  unfold rising
  rw [List.pairwise_map]
  exact List.Pairwise.imp (fun {a b} (q : a < b) => rAt_lt h (a + 1) (b + 1) (by omega)) List.pairwise_lt_range
theorem up_nodup {l : List Int} (h : l.Pairwise (· < ·)) : l.Nodup := h.imp fun h => Int.ne_of_lt h
theorem up_le {l : List Int} (h : l.Pairwise (· < ·)) : l.Pairwise (· ≤ ·) := h.imp fun h => Int.le_of_lt h
theorem cut_at (t : Int) : ∀ {row : List Int}, row.Pairwise (· ≤ ·) → row.take (placeOf row t) = row.filter (fun a => decide (a < t)) ∧ row.drop (placeOf row t) = row.filter (fun a => !decide (a < t))
  | [], _ => ⟨rfl, rfl⟩
  | a :: r, h => by
    obtain ⟨h1, h2⟩ := List.pairwise_cons.mp h
    obtain ⟨i1, i2⟩ := cut_at t h2
    by_cases e : a < t
    · have e1 : placeOf (a :: r) t = placeOf r t + 1 := by
        unfold placeOf
        rw [List.filter_cons, if_pos (decide_eq_true e)]
        rfl
      rw [e1]
      refine ⟨?_, ?_⟩
      · rw [List.take_succ_cons, i1, List.filter_cons, if_pos (decide_eq_true e)]
      · rw [List.drop_succ_cons, i2, List.filter_cons, if_neg (by rw [decide_eq_true e]; decide)]
    · have no : r.filter (fun a => decide (a < t)) = [] := by
        rw [List.filter_eq_nil_iff]
        intro b hb q
        have := h1 b hb
        have := of_decide_eq_true q
        omega
      have e1 : placeOf (a :: r) t = 0 := by
        unfold placeOf
        rw [List.filter_cons, if_neg (by rw [decide_eq_false e]; decide), no]
        rfl
      have all : (a :: r).filter (fun a => !decide (a < t)) = a :: r := by
        rw [List.filter_eq_self]
        intro b hb
        have : ¬ b < t := by
          rcases List.mem_cons.mp hb with rfl | hb
          · exact e
          · have := h1 b hb
            omega
        rw [decide_eq_false this]
        rfl
      rw [e1, all]
      refine ⟨?_, rfl⟩
      rw [List.filter_cons, if_neg (by rw [decide_eq_false e]; decide), no]
      rfl
theorem putIn_perm (row : List Int) (t : Int) : (putIn row t).Perm (row ++ [t]) := by
  unfold putIn
  rw [List.append_assoc]
  refine (List.Perm.append_left _ (List.perm_append_comm (l₁ := [t]))).trans ?_
  rw [← List.append_assoc, List.take_append_drop]
theorem putIn_up {row : List Int} (t : Int) (h : row.Pairwise (· ≤ ·)) : (putIn row t).Pairwise (· ≤ ·) := by
  obtain ⟨h1, h2⟩ := cut_at t h
  unfold putIn
  rw [h1, h2]
  refine List.pairwise_append.mpr ⟨List.pairwise_append.mpr ⟨h.filter _, List.pairwise_singleton _ _, fun a ha b hb => ?_⟩, h.filter _, fun a ha b hb => ?_⟩
  · rw [List.mem_singleton] at hb
    subst hb
    have := of_decide_eq_true (List.mem_filter.mp ha).2
    omega
  · have hb' : ¬ b < t := by
      have := (List.mem_filter.mp hb).2
      intro q
      rw [decide_eq_true q] at this
      cases this
    rcases List.mem_append.mp ha with ha | ha
    · have := of_decide_eq_true (List.mem_filter.mp ha).2
      omega
    · rw [List.mem_singleton] at ha
      omega
theorem exch_putIn {hd c : List Int} {o t : Int} (p : hd.Perm c) (h : c.Pairwise (· < ·)) : exch hd o t = putIn (c.filter fun a => !decide (a = o)) t := by
  unfold exch
  refine (isort_of ((putIn_perm _ t).trans (List.Perm.append_right _ (p.filter _).symm)) (putIn_up t ((up_le h).filter _))).symm
theorem exch_back {c : List Int} {o t : Int} (h : c.Pairwise (· < ·)) (ho : o ∈ c) (ht : t ∉ c) : exch (putIn (c.filter fun a => !decide (a = o)) t) t o = c := by
  unfold exch
  refine (isort_of ?_ (up_le h)).symm
  have e1 : ((putIn (c.filter fun a => !decide (a = o)) t).filter fun a => !decide (a = t)).Perm (c.filter fun a => !decide (a = o)) := by
    refine ((putIn_perm _ t).filter _).trans ?_
    rw [List.filter_append, List.filter_cons, if_neg (by simp), List.filter_nil, List.append_nil]
    have e : (c.filter fun a => !decide (a = o)).filter (fun a => !decide (a = t)) = c.filter fun a => !decide (a = o) := by
      rw [List.filter_eq_self]
      intro a ha
      have : a ≠ t := fun q => ht (by rw [← q]; exact (List.mem_filter.mp ha).1)
      rw [decide_eq_false this]
      rfl
    rw [e]
  refine List.Perm.symm ((e1.append_right [o]).trans ?_)
  have nd := up_nodup h
  clear e1 ht h
  induction c with
  | nil => cases ho
  | cons a r ih =>
    obtain ⟨n1, n2⟩ := List.nodup_cons.mp nd
    by_cases e : a = o
    · subst e
      have : r.filter (fun x => !decide (x = a)) = r := by
        rw [List.filter_eq_self]
        intro x hx
        have : x ≠ a := fun q => n1 (by rw [← q]; exact hx)
        rw [decide_eq_false this]
        rfl
      rw [List.filter_cons, if_neg (by simp), this]
      exact List.perm_append_comm.trans (.refl _)
    · have ho' : o ∈ r := by
        rcases List.mem_cons.mp ho with q | q
        · exact absurd q.symm e
        · exact q
      rw [List.filter_cons, if_pos (by simp [e])]
      exact (ih ho' n2).cons a
theorem mem_le_last {l : List Int} {z : Int} (h : l.Pairwise (· < ·)) (hz : l.getLast? = some z) : ∀ x ∈ l, x ≤ z := by
  intro x hx
  obtain ⟨ys, rfl⟩ := List.getLast?_eq_some_iff.mp hz
  rcases List.mem_append.mp hx with q | q
  · exact Int.le_of_lt ((List.pairwise_append.mp h).2.2 x q z (by simp))
  · rw [List.mem_singleton] at q
    omega
abbrev sp_law (K : PySem.W.Frag) : Sp := spZ (α := List Int) K (fun x => x.length ≤ 63) (fun x => [.s x]) (fun _ => .nw (.bool true))
theorem ok_law {f : Addr} {fd : FuncData} (F : Fun K "law" "law" s_law f fd) (T : Txt K mg) : FnOk P w K mg base CX0 3 f fd ["_law_script"] (sp_law K) := by
  have G__law_rising : FnOk P w K mg base CX0 2 T.a__law_rising T.d__law_rising ["_law_script", "_law_count", "_law_step"] (sp__law_rising K) := ok__law_rising T
  have G__law_mixed : FnOk P w K mg base CX0 1 T.a__law_mixed T.d__law_mixed ["_law_choice", "_law_cell"] (sp__law_mixed K) := ok__law_mixed T
  have G__law_put_in : FnOk P w K mg base CX0 1 T.a__law_put_in T.d__law_put_in ["_law_row", "_law_thing"] (sp__law_put_in K) := ok__law_put_in T
  have G_exchanged : FnOk P w K mg base CX0 1 T.a_exchanged T.d_exchanged ["choice", "out", "thing"] (sp_exchanged K) := ok_exchanged T
  have G_weigh : FnOk P w K mg base CX0 1 T.a_weigh T.d_weigh ["weights", "choice"] (sp_weigh K) := ok_weigh T
  have G__law_cell_at : FnOk P w K mg base CX0 1 T.a__law_cell_at T.d__law_cell_at ["_law_script", "_law_k"] (sp__law_cell_at K) := ok__law_cell_at T
  have G__law_weight : FnOk P w K mg base CX0 1 T.a__law_weight T.d__law_weight ["_law_cell", "_law_mode"] (sp__law_weight K) := ok__law_weight T
  have G__law_whole : FnOk P w K mg base CX0 1 T.a__law_whole T.d__law_whole ["_law_found"] (sp__law_whole K) := ok__law_whole T
  have G__law_row_is : FnOk P w K mg base CX0 2 T.a__law_row_is T.d__law_row_is ["_law_found", "_law_due"] (sp__law_row_is K) := ok__law_row_is T
  refine fn_z F sc_law (fun _ => rfl) (fun cdv A outer s H E hr => ⟨_, (pss_cons (ps_set (i := 1) sc_law.nd rfl (Or.inl rfl) (pe_op op_add pe_int (pe_op op_mod (pe_call G__law_cell_at (hr.mono (by decide)) (by rfl) T.m__law_cell_at T.f__law_cell_at.kp T.b__law_cell_at .nil pass0 (pa_cons (pv 0) (pa_cons pe_int pa_nil))) pe_int)))
      (pss_cons (ps_set (i := 2) sc_law.nd rfl (Or.inl rfl) (pe_ix (r := rIxL K) ix_list (pe_lst (pa_cons pe_int (pa_cons pe_int (pa_cons (pe_op op_pow pe_int pe_int) pa_nil)))) (pe_op op_mod (pe_call G__law_cell_at (hr.mono (by decide)) (by rfl) T.m__law_cell_at T.f__law_cell_at.kp T.b__law_cell_at .nil pass0 (pa_cons (pv 0) (pa_cons pe_int pa_nil))) pe_int) (fun _ _ => rfl)))
      (pss_cons (ps_set (i := 3) sc_law.nd rfl (Or.inl rfl) (pe_call G__law_rising (hr.mono (by decide)) (by rfl) T.m__law_rising T.f__law_rising.kp T.b__law_rising .nil pass0 (pa_cons (pv 0) (pa_cons (pv 1) (pa_cons (pv 2) pa_nil)))))
      (pss_cons (ps_set (i := 4) sc_law.nd rfl (Or.inr rfl) (pe_ix (r := rIxL K) ix_list (pv 3) (pe_op op_mod (pe_call G__law_cell_at (hr.mono (by decide)) (by rfl) T.m__law_cell_at T.f__law_cell_at.kp T.b__law_cell_at .nil pass0 (pa_cons (pv 0) (pa_cons pe_int pa_nil))) (pv 1)) (fun _ _ => rfl)))
      (pss_cons (ps_set (i := 5) sc_law.nd rfl (Or.inl rfl) (pe_op op_mod (pe_call G__law_cell_at (hr.mono (by decide)) (by rfl) T.m__law_cell_at T.f__law_cell_at.kp T.b__law_cell_at .nil pass0 (pa_cons (pv 0) (pa_cons pe_int pa_nil))) (pe_op op_add (pe_ix (r := rIxL K) ix_list (pv 3) (pe_un un_neg pe_int) (fun _ _ => rfl)) pe_int)))
      (pss_cons (ps_while PassesOwn.never (pt_cmpR (r := rIn K false) op_in_seq (pv 5) (pv 3) (by rfl))
        (pss_one (ps_set (i := 5) sc_law.nd rfl (Or.inl rfl) (pe_op op_add (pv 5) pe_int))))
      (pss_cons (ps_set (i := 6) sc_law.nd rfl (Or.inl rfl) (pe_call G__law_mixed (hr.mono (by decide)) (by rfl) T.m__law_mixed T.f__law_mixed.kp T.b__law_mixed .nil pass0 (pa_cons (pv 3) (pa_cons (pe_call G__law_cell_at (hr.mono (by decide)) (by rfl) T.m__law_cell_at T.f__law_cell_at.kp T.b__law_cell_at .nil pass0 (pa_cons (pv 0) (pa_cons pe_int pa_nil))) pa_nil))))
      (pss_cons (ps_set (i := 7) sc_law.nd rfl (Or.inl rfl) (pe_callTy (r := Z.rLstQ K) Z.call_lstQ (by rfl) T.list boot_list (pa_cons (pv 6) pa_nil)))
      (pss_cons (ps_set (i := 8) sc_law.nd rfl (Or.inl rfl) (pe_call G__law_put_in (hr.mono (by decide)) (by rfl) T.m__law_put_in T.f__law_put_in.kp T.b__law_put_in .nil pass0 (pa_cons (pe_lc (own := [("_law_one", 14)]) (g := gName 14) (by rfl) sc_law.nd (pi_list (pv 3)) (blkOk_by (N := n_law) (sc := defScope s_law) (by decide +kernel)) (fun _ _ _ _ _ => pg_name (i := 14) sc_law.nd rfl (Or.inl rfl)) (fun _ _ _ _ _ => (pts_one (pt_cmpR op_ne (pv 14) (pv 4) (nomark _)))) (fun _ _ _ _ _ => (pv 14))) (pa_cons (pv 5) pa_nil))))
      (pss_cons (ps_set (i := 9) sc_law.nd rfl (Or.inl rfl) (pe_call G_exchanged (hr.mono (by decide)) (by rfl) T.m_exchanged T.f_exchanged.kp T.b_exchanged .nil pass0 (pa_cons (pv 7) (pa_cons (pv 4) (pa_cons (pv 5) pa_nil)))))
      (pss_cons (ps_if (PW.pt (pw_or (pt_not (pt_val (pe_call G__law_row_is (hr.mono (by decide)) (by rfl) T.m__law_row_is T.f__law_row_is.kp T.b__law_row_is .nil pass0 (pa_cons (pv 9) (pa_cons (pv 8) pa_nil))))) (pw_or1 (pt_cmpR (r := rNeD K) (op_neD hr.units) (pv 7) (pv 6) (nomark _)))))
        (pss_one (ps_ret pe_bl))
        pss_nil)
      (pss_cons (ps_if (PW.pt (pw_or (pt_not (pt_val (pe_call G__law_row_is (hr.mono (by decide)) (by rfl) T.m__law_row_is T.f__law_row_is.kp T.b__law_row_is .nil pass0 (pa_cons (pe_call G_exchanged (hr.mono (by decide)) (by rfl) T.m_exchanged T.f_exchanged.kp T.b_exchanged .nil pass0 (pa_cons (pe_callTy (r := Z.rLstQ K) Z.call_lstQ (by rfl) T.list boot_list (pa_cons (pv 8) pa_nil)) (pa_cons (pv 5) (pa_cons (pv 4) pa_nil)))) (pa_cons (pv 3) pa_nil))))) (pw_or1 (pt_cmpR (r := rNeD K) (op_neD hr.units) (pv 9) (pv 8) (nomark _)))))
        (pss_one (ps_ret pe_bl))
        pss_nil)
      (pss_cons (ps_expr (pe_bm PySem.F.plainAttrs_list PySem.F.slot_list_append PySem.F.type_list_append mt_append (pv 9) (pa_cons (pv 5) pa_nil)))
      (pss_cons (ps_if (PW.pt (pw_or (pt_not (pt_val (pe_call G__law_row_is (hr.mono (by decide)) (by rfl) T.m__law_row_is T.f__law_row_is.kp T.b__law_row_is .nil pass0 (pa_cons (pe_call G_exchanged (hr.mono (by decide)) (by rfl) T.m_exchanged T.f_exchanged.kp T.b_exchanged .nil pass0 (pa_cons (pv 7) (pa_cons (pv 4) (pa_cons (pv 5) pa_nil)))) (pa_cons (pv 8) pa_nil))))) (pw_or1 (pt_cmpR (r := rNeD K) (op_neD hr.units) (pv 7) (pv 6) (nomark _)))))
        (pss_one (ps_ret pe_bl))
        pss_nil)
      (pss_cons (ps_set (i := 10) sc_law.nd rfl (Or.inr rfl) (pe_op op_mod (pe_op op_fdiv (pe_call G__law_cell_at (hr.mono (by decide)) (by rfl) T.m__law_cell_at T.f__law_cell_at.kp T.b__law_cell_at .nil pass0 (pa_cons (pv 0) (pa_cons pe_int pa_nil))) pe_int) pe_int))
      (pss_cons (ps_setLc (i := 11) (own := [("_law_k", 17)]) (g := gName 17) (by rfl) sc_law.nd rfl rfl (sw_true rfl rfl rfl (by decide +kernel)) (pi_range1 (by rfl) T.range (pa_cons (pv 1) pa_nil)) (blkOk_by (N := n_law) (sc := defScope s_law) (by decide +kernel)) (fun _ _ _ _ _ => pg_name (i := 17) sc_law.nd rfl (Or.inl rfl)) (fun _ _ _ _ _ => pts_nil) (fun _ _ _ _ _ => (pe_call G__law_weight (hr.mono (by decide)) (by rfl) T.m__law_weight T.f__law_weight.kp T.b__law_weight .nil pass0 (pa_cons (pe_call G__law_cell_at (hr.mono (by decide)) (by rfl) T.m__law_cell_at T.f__law_cell_at.kp T.b__law_cell_at .nil pass0 (pa_cons (pv 0) (pa_cons (pe_op op_add pe_int (pv 17)) pa_nil))) (pa_cons (pv 10) pa_nil)))))
      (pss_cons (ps_setLc (i := 12) (own := [("_law_thing", 5)]) (g := gName 5) (by rfl) sc_law.nd rfl rfl (sw_true rfl rfl rfl (by decide +kernel)) (pi_range1 (by rfl) T.range (pa_cons (pv 1) pa_nil)) (blkOk_by (N := n_law) (sc := defScope s_law) (by decide +kernel)) (fun _ _ _ _ _ => pg_name (i := 5) sc_law.nd rfl (Or.inl rfl)) (fun _ _ _ _ _ => (pts_one (pt_cmpR op_gt (pe_op op_mod (pe_call G__law_cell_at (hr.mono (by decide)) (by rfl) T.m__law_cell_at T.f__law_cell_at.kp T.b__law_cell_at .nil pass0 (pa_cons (pv 0) (pa_cons (pe_op op_add pe_int (pv 5)) pa_nil))) pe_int) pe_int (nomark _)))) (fun _ _ _ _ _ => (pv 5)))
      (pss_cons (ps_set (i := 13) sc_law.nd rfl (Or.inl rfl) pe_int)
      (pss_cons (ps_for PassesOwn.never rfl (pi_list (pv 12)) (pg_name (i := 14) sc_law.nd rfl (Or.inl rfl))
        (pss_one (ps_set (i := 13) sc_law.nd rfl (Or.inl rfl) (pe_op op_add (pv 13) (pe_ix (r := rIxL K) ix_list (pv 11) (pv 14) (fun _ _ => rfl))))))
      (pss_cons (ps_set (i := 15) sc_law.nd rfl (Or.inl rfl) (pe_lst (pa_cons (pe_callTy (r := Z.rLstQ K) Z.call_lstQ (by rfl) T.list boot_list (pa_cons (pv 11) pa_nil)) (pa_cons (pe_callTy (r := Z.rLstQ K) Z.call_lstQ (by rfl) T.list boot_list (pa_cons (pv 12) pa_nil)) pa_nil))))
      (pss_cons (ps_set (i := 9) sc_law.nd rfl (Or.inl rfl) (pe_call G_weigh (hr.mono (by decide)) (by rfl) T.m_weigh T.f_weigh.kp T.b_weigh .nil pass0 (pa_cons (pe_ix (r := rIxL K) ix_list (pv 15) pe_int (fun _ _ => rfl)) (pa_cons (pe_ix (r := rIxL K) ix_list (pv 15) pe_int (fun _ _ => rfl)) pa_nil))))
      (pss_cons (ps_set (i := 16) sc_law.nd rfl (Or.inl rfl) (pe_call G_weigh (hr.mono (by decide)) (by rfl) T.m_weigh T.f_weigh.kp T.b_weigh .nil pass0 (pa_cons (pe_ix (r := rIxL K) ix_list (pv 15) pe_int (fun _ _ => rfl)) (pa_cons (pe_lst pa_nil) pa_nil))))
      (pss_cons (ps_if (PW.pt (pw_or (pt_cmpR (r := rNeD K) (op_neD hr.units) (pe_ix (r := rIxL K) ix_list (pv 15) pe_int (fun _ _ => rfl)) (pv 11) (nomark _)) (pw_or1 (pt_cmpR (r := rNeD K) (op_neD hr.units) (pe_ix (r := rIxL K) ix_list (pv 15) pe_int (fun _ _ => rfl)) (pv 12) (nomark _)))))
        (pss_one (ps_ret pe_bl))
        pss_nil)
      (pss_one (ps_ret (pe_and (pe_call G__law_whole (hr.mono (by decide)) (by rfl) T.m__law_whole T.f__law_whole.kp T.b__law_whole .nil pass0 (pa_cons (pv 9) pa_nil)) (pe_and (pe_cmpR op_eq (pv 9) (pv 13) (nomark _)) (pe_and (pe_call G__law_whole (hr.mono (by decide)) (by rfl) T.m__law_whole T.f__law_whole.kp T.b__law_whole .nil pass0 (pa_cons (pv 16) pa_nil)) (pe_one (pe_cmpR op_eq (pv 16) pe_int (nomark _))))))))))))))))))))))))))))))), fun x M hp => ?_⟩)
  have hlen : x.length ≤ 63 := hp
  refine ok_st (st' := [some (.scr x), none, none, none, none, none, none, none, none, none, none, none, none, none, none, none, none, none]) rfl ?_
  have hc40 := Int.emod_nonneg (cellAt x 0) (show (40 : Int) ≠ 0 by decide)
  have hc40' := Int.emod_lt_of_pos (cellAt x 0) (show (0 : Int) < 40 by decide)
  obtain ⟨n, hn⟩ : ∃ n : Nat, 1 + cellAt x 0 % 40 = (n : Int) := ⟨(1 + cellAt x 0 % 40).toNat, by omega⟩
  have hn1 : 1 ≤ n := by omega
  have hn40 : n ≤ 40 := by omega
  -- the count
  refine k_asg (d := .int (n : Int)) (st' := [_, _, _, _, _, _, _, _, _, _, _, _, _, _, _, _, _, _]) (EvE.is (ev_I0 ev_int (ev_I (ev_callN (x := .int (cellAt x 0)) rfl (x, 0) (show (0 : Int) ≤ 0 by decide) rfl (eb_scr (es_var rfl) (eb_cons ev_int eb_nil))) ev_int (show (0 : Int) < (40 : Int) by decide))) (congrArg D.int hn)) rfl ?_
  -- the step
  have hs0 := Int.emod_nonneg (cellAt x 1) (show (3 : Int) ≠ 0 by decide)
  have hs1 := Int.emod_lt_of_pos (cellAt x 1) (show (0 : Int) < 3 by decide)
  obtain ⟨step, hst, hstep⟩ : ∃ z, ([1, 3, (10 : Int) ^ (12 : Int).toNat] : List Int)[(cellAt x 1 % 3).toNat]? = some z ∧ 0 < z := by
    have : (cellAt x 1 % 3).toNat = 0 ∨ (cellAt x 1 % 3).toNat = 1 ∨ (cellAt x 1 % 3).toNat = 2 := by omega
    rcases this with e | e | e <;> rw [e]
    · exact ⟨1, rfl, by decide⟩
    · exact ⟨3, rfl, by decide⟩
    · exact ⟨_, rfl, by decide⟩
  refine k_asg (st' := [_, _, _, _, _, _, _, _, _, _, _, _, _, _, _, _, _, _]) (ev_ix (as := ([1, 3, (10 : Int) ^ (12 : Int).toNat] : List Int)) (en := D.int) (EvF.l (ef_lst (fr := true) (ed_cons (EvE.int ev_int) (ed_cons (EvE.int ev_int) (ed_cons (EvE.int (ev_I ev_int ev_int ⟨by decide, by decide, by decide⟩)) ed_nil))) (show 3 ≤ sizeLine by decide))) (ev_I (ev_callN (x := .int (cellAt x 1)) rfl (x, 1) (show (0 : Int) ≤ 1 by decide) rfl (eb_scr (es_var rfl) (eb_cons ev_int eb_nil))) ev_int (show (0 : Int) < (3 : Int) by decide)) hs0 hst) rfl ?_
  -- the choice
  refine k_asg (st' := [_, _, _, _, _, _, _, _, _, _, _, _, _, _, _, _, _, _]) (EvF.e (ef_call (xs := (rising x step n).map .int) rfl (x, n, step) ⟨by show n ≤ 900000; omega, hstep⟩ rfl (eb_scr (es_var rfl) (eb_cons (ev_var rfl) (eb_cons (ev_var rfl) eb_nil))))) rfl ?_
  have cl := rising_len x step n
  have cu := rising_up (s := x) hstep n
  have clast : (rising x step n).getLast? = some (rAt x step n) := by
    obtain ⟨m, rfl⟩ : ∃ m, n = m + 1 := ⟨n - 1, by omega⟩
    rw [rising_succ]
    simp
  have lastnn : (0 : Int) ≤ rAt x step n := by
    have := rAt_nn (s := x) hstep n
    omega
  generalize hch : rising x step n = ch at cl cu clast
  -- the one that goes
  have ho0 := Int.emod_nonneg (cellAt x 2) (show (n : Int) ≠ 0 by omega)
  have ho1 := Int.emod_lt_of_pos (cellAt x 2) (show (0 : Int) < (n : Int) by omega)
  obtain ⟨o, hog⟩ : ∃ o, ch[(cellAt x 2 % (n : Int)).toNat]? = some o := ⟨_, List.getElem?_eq_getElem (by omega)⟩
  have hom : o ∈ ch := List.mem_of_getElem? hog
  refine k_asg (st' := [_, _, _, _, _, _, _, _, _, _, _, _, _, _, _, _, _, _]) (ev_ix (EvE.l (ev_var rfl)) (ev_I (ev_callN (x := .int (cellAt x 2)) rfl (x, 2) (show (0 : Int) ≤ 2 by decide) rfl (eb_scr (es_var rfl) (eb_cons ev_int eb_nil))) (ev_var rfl) (show (0 : Int) < (n : Int) by omega)) ho0 hog) rfl ?_
  -- the one that comes
  refine k_asg (st' := [_, _, _, _, _, _, _, _, _, _, _, _, _, _, _, _, _, _]) (ev_I (ev_callN (x := .int (cellAt x 3)) rfl (x, 3) (show (0 : Int) ≤ 3 by decide) rfl (eb_scr (es_var rfl) (eb_cons ev_int eb_nil))) (ev_I0 (ev_ixLast (EvE.l (ev_var rfl)) (ev_neg ev_int) clast) ev_int) (show (0 : Int) < rAt x step n + 4 by omega)) rfl ?_
  refine k_while (fun m st => ∃ t : Int, m = (rAt x step n + 1 - t).toNat ∧ st = [some (.scr x), some (.d true (.int n)), some (.d true (.int step)), some (.d true (dL ch)), some (.d true (.int o)), some (.d true (.int t)), none, none, none, none, none, none, none, none, none, none, none, none]) _ ⟨_, rfl, rfl⟩ (fun m st hI => ?_)
  obtain ⟨t, rfl, rfl⟩ := hI
  refine ⟨_, (et_test (ev_inI (ev_var rfl) (EvE.l (ev_var rfl)))), fun hc => ?_, fun hc => ?_⟩
  · have hm : t ∈ ch := of_decide_eq_true hc
    have := mem_le_last cu clast t hm
    exact ok_asg (ev_I0 (ev_var rfl) ev_int) ⟨(rAt x step n + 1 - (t + 1)).toNat, by omega, t + 1, rfl, rfl⟩
  have htn : t ∉ ch := of_decide_eq_false hc
  clear hc
  -- mixed, handed
  refine k_asg (st' := [_, _, _, _, _, _, _, _, _, _, _, _, _, _, _, _, _, _]) (EvF.e (ef_call (xs := (mixed ch (cellAt x 46)).map .int) rfl (ch, cellAt x 46) (show ch.length ≤ 900000 by omega) rfl (eb_cons (ev_var rfl) (eb_cons (ev_callN (x := .int (cellAt x 46)) rfl (x, 46) (show (0 : Int) ≤ 46 by decide) rfl (eb_scr (es_var rfl) (eb_cons ev_int eb_nil))) eb_nil)))) rfl ?_
  have pm := mixed_perm ch (cellAt x 46)
  have pml := pm.length_eq
  generalize mixed ch (cellAt x 46) = mx at pm pml
  refine k_asg (st' := [_, _, _, _, _, _, _, _, _, _, _, _, _, _, _, _, _, _]) (EvF.e (ef_list (EvE.l (ev_var rfl)))) rfl ?_
  -- due
  have hfl : (ch.filter fun a => !decide (a = o)).length ≤ ch.length := List.length_filter_le _ _
  refine k_asg (st' := [_, _, _, _, _, _, _, _, _, _, _, _, _, _, _, _, _, _]) (EvF.e (ef_call (xs := (putIn (ch.filter fun a => !decide (a = o)) t).map .int) rfl (ch.filter fun a => !decide (a = o), t) (show (ch.filter fun a => !decide (a = o)).length ≤ 900000 by omega) rfl (eb_cons (EvF.e (ef_lc (fr := true) _ D.int (ew_list (ev_var rfl)) (by omega) rfl (fun a ha => (et_test (ev_neI (ev_var rfl) (ev_var rfl)))) (fun a ha hp => EvE.int (ev_var rfl)))) (eb_cons (ev_var rfl) eb_nil)))) rfl ?_
  have hdl : (putIn (ch.filter fun a => !decide (a = o)) t).length ≤ 50 := by
    have := (putIn_perm (ch.filter fun a => !decide (a = o)) t).length_eq
    rw [List.length_append, List.length_singleton] at this
    omega
  have e1 : exch mx o t = putIn (ch.filter fun a => !decide (a = o)) t := exch_putIn pm cu
  have e2 : exch (putIn (ch.filter fun a => !decide (a = o)) t) t o = ch := exch_back cu hom htn
  generalize hdue : putIn (ch.filter fun a => !decide (a = o)) t = due at hdl e1 e2
  -- found
  refine k_own (f := fun p => [_, _, _, _, _, _, _, _, _, some (.own true p (due.map .int)), _, _, _, _, _, _, _, _]) (EvF.is (ef_call (xs := (exch mx o t).map .int) rfl (mx, o, t) (show mx.length ≤ 900000 by omega) rfl (eb_cons (ev_var rfl) (eb_cons (ev_var rfl) (eb_cons (ev_var rfl) eb_nil)))) (by rw [e1])) (fun _ => rfl) (fun p => ?_)
  refine k_ret (et_or (et_not (et_B (ev_callN (x := .bool (decide (due = due))) rfl (due, due) (show due.length ≤ 1000000 by omega) rfl (eb_own rfl (eb_cons (ev_var rfl) eb_nil))))) (fun hb => (et_test (ev_neD (α := List Int) (a := mx) (a' := mx) rfl (EvE.p (ev_var rfl)) (EvE.p (ev_var rfl)) (by decide))))) (fun hc => ?_) (fun hc => ?_)
  · simp at hc
  refine k_ret (et_or (et_not (et_B (ev_callN (x := .bool (decide (ch = ch))) rfl (ch, ch) (show ch.length ≤ 1000000 by omega) rfl (eb_cons (EvE.is (EvF.e (ef_call (xs := (exch due t o).map .int) rfl (due, t, o) (show due.length ≤ 900000 by omega) rfl (eb_cons (EvF.e (ef_list (EvE.l (ev_var rfl)))) (eb_cons (ev_var rfl) (eb_cons (ev_var rfl) eb_nil))))) (by show dL (exch due t o) = dL ch; rw [e2])) (eb_cons (ev_var rfl) eb_nil))))) (fun hb => (et_test (ev_neD (α := List Int) (a := due) (a' := due) rfl (EvL.p (el_own rfl)) (EvE.p (ev_var rfl)) (by decide))))) (fun hc => ?_) (fun hc => ?_)
  · simp at hc
  refine k_app (st' := [_, _, _, _, _, _, _, _, _, _, _, _, _, _, _, _, _, _]) rfl (EvE.int (ev_var rfl)) (szl (by rw [List.length_map]; omega)) rfl ?_
  refine k_ret (et_or (et_not (et_B (ev_callN (x := .bool (decide (due = due))) rfl (due, due) (show due.length ≤ 1000000 by omega) rfl (eb_cons (EvE.is (EvF.e (ef_call (xs := (exch mx o t).map .int) rfl (mx, o, t) (show mx.length ≤ 900000 by omega) rfl (eb_cons (ev_var rfl) (eb_cons (ev_var rfl) (eb_cons (ev_var rfl) eb_nil))))) (by show dL (exch mx o t) = dL due; rw [e1])) (eb_cons (ev_var rfl) eb_nil))))) (fun hb => (et_test (ev_neD (α := List Int) (a := mx) (a' := mx) rfl (EvE.p (ev_var rfl)) (EvE.p (ev_var rfl)) (by decide))))) (fun hc => ?_) (fun hc => ?_)
  · simp at hc
  -- the mode, the weights
  refine k_asg (st' := [_, _, _, _, _, _, _, _, _, _, _, _, _, _, _, _, _, _]) (ev_I (ev_I (ev_callN (x := .int (cellAt x 1)) rfl (x, 1) (show (0 : Int) ≤ 1 by decide) rfl (eb_scr (es_var rfl) (eb_cons ev_int eb_nil))) ev_int ⟨by decide, by decide⟩) ev_int (show (0 : Int) < (4 : Int) by decide)) rfl ?_
  generalize cellAt x 1 / 3 % 4 = mode
  refine k_asg (d := dL ((rng 0 n).map fun k => weightOf (cellAt x (5 + k)) mode)) (st' := [_, _, _, _, _, _, _, _, _, _, _, _, _, _, _, _, _, _]) (EvE.is (EvF.e (ef_lc (fr := true) (fun _ => true) (fun k => .int (weightOf (cellAt x (5 + k)) mode)) (ew_rng1 (fr := true) (ev_var rfl) ⟨by omega, by omega⟩) (by rw [rng_len]; omega) rfl (fun a ha => et_yes) (fun a ha hp => (ev_callN (x := .int (weightOf (cellAt x (5 + a)) mode)) rfl (cellAt x (5 + a), mode) True.intro rfl (eb_cons (ev_callN (x := .int (cellAt x (5 + a))) rfl (x, 5 + a) (show (0 : Int) ≤ 5 + a by have := (mem_rng.mp ha).1; omega) rfl (eb_scr (es_var rfl) (eb_cons (ev_I0 ev_int (ev_var rfl)) eb_nil))) (eb_cons (ev_var rfl) eb_nil)))))) ?_) rfl ?_
  · rw [filt_yes, show ((n : Int)).toNat = n by omega]
    show D.list _ = D.list _
    rw [List.map_map]
    rfl
  have wl : ((rng 0 n).map fun k => weightOf (cellAt x (5 + k)) mode).length = n := by rw [List.length_map, rng_len]
  generalize (rng 0 n).map (fun k => weightOf (cellAt x (5 + k)) mode) = ws at wl
  refine k_asg (d := dL ((rng 0 n).filter fun k => decide (0 < cellAt x (6 + k) % 3))) (st' := [_, _, _, _, _, _, _, _, _, _, _, _, _, _, _, _, _, _]) (EvE.is (EvF.e (ef_lc (fr := true) (fun k => decide (0 < cellAt x (6 + k) % 3)) D.int (ew_rng1 (fr := true) (ev_var rfl) ⟨by omega, by omega⟩) (by rw [rng_len]; omega) rfl (fun a ha => (et_test (ev_I0b (g := fun i j => decide (j < i)) (ev_I (ev_callN (x := .int (cellAt x (6 + a))) rfl (x, 6 + a) (show (0 : Int) ≤ 6 + a by have := (mem_rng.mp ha).1; omega) rfl (eb_scr (es_var rfl) (eb_cons (ev_I0 ev_int (ev_var rfl)) eb_nil))) ev_int (show (0 : Int) < (3 : Int) by decide)) ev_int))) (fun a ha hp => EvE.int (ev_var rfl)))) (by rw [show ((n : Int)).toNat = n by omega])) rfl ?_
  have sm : ∀ k ∈ (rng 0 n).filter (fun k => decide (0 < cellAt x (6 + k) % 3)), 0 ≤ k ∧ k < (ws.length : Int) := fun k hk => by
    have := mem_rng.mp (List.mem_filter.mp hk).1
    omega
  have sl : ((rng 0 n).filter fun k => decide (0 < cellAt x (6 + k) % 3)).length ≤ n := by
    have := List.length_filter_le (fun k => decide (0 < cellAt x (6 + k) % 3)) (rng 0 n)
    rw [rng_len] at this
    exact this
  generalize (rng 0 n).filter (fun k => decide (0 < cellAt x (6 + k) % 3)) = sm' at sm sl
  -- the total
  refine k_asg (st' := [_, _, _, _, _, _, _, _, _, _, _, _, _, _, _, _, _, _]) ev_int rfl ?_
  refine k_for (fun i st => ∃ y, st = [some (.scr x), some (.d true (.int n)), some (.d true (.int step)), some (.d true (dL ch)), some (.d true (.int o)), some (.d true (.int t)), some (.d true (dL mx)), some (.d true (dL mx)), some (.d true (dL due)), some (.own true p (due.map .int ++ [.int t])), some (.d true (.int mode)), some (.d true (dL ws)), some (.d true (dL sm')), some (.d true (.int (wsum ws (sm'.take i)))), y, none, none, none]) (ew_list (ev_var rfl)) ⟨_, rfl⟩ (fun i a st ha hI => ?_) (fun st hI => ?_)
  · obtain ⟨y, rfl⟩ := hI
    have hma := sm a (List.mem_of_getElem? ha)
    refine ok_asg (ev_I0 (ev_var rfl) (ev_ix (EvE.l (ev_var rfl)) (ev_var rfl) hma.1 (getD_some (d := 0) (by omega)))) ?_
    have e : wsum ws (sm'.take (i + 1)) = wsum ws (sm'.take i) + ws.getD a.toNat 0 := by
      unfold wsum
      rw [take_one ha, List.map_append, List.sum_append]
      simp
    rw [e]
    exact ⟨_, rfl⟩
  obtain ⟨y, rfl⟩ := hI
  rw [List.take_length]
  -- kept
  refine k_asg (d := .list ([ws, sm'].map dL)) (st' := [_, _, _, _, _, _, _, _, _, _, _, _, _, _, _, _, _, _]) (EvF.e (ef_lst (fr := true) (ed_cons (EvF.e (ef_list (EvE.l (ev_var rfl)))) (ed_cons (EvF.e (ef_list (EvE.l (ev_var rfl)))) ed_nil)) (show 2 ≤ sizeLine by decide))) rfl ?_
  refine k_asg (st' := [_, _, _, _, _, _, _, _, _, _, _, _, _, _, _, _, _, _]) (ev_callN (x := .int (wsum ws sm')) rfl (ws, sm') ⟨show sm'.length ≤ 900000 by omega, sm⟩ rfl (eb_cons (ev_ix (EvE.l (ev_var rfl)) ev_int (by decide) rfl) (eb_cons (ev_ix (EvE.l (ev_var rfl)) ev_int (by decide) rfl) eb_nil))) rfl ?_
  refine k_asg (st' := [_, _, _, _, _, _, _, _, _, _, _, _, _, _, _, _, _, _]) (ev_callN (x := .int (wsum ws [])) rfl (ws, []) ⟨by simp, by simp⟩ rfl (eb_cons (ev_ix (EvE.l (ev_var rfl)) ev_int (by decide) rfl) (eb_cons (EvF.e (ef_lst (fr := true) ed_nil (show 0 ≤ sizeLine by decide))) eb_nil))) rfl ?_
  refine k_ret (et_or (et_test (ev_neD (α := List Int) (a := ws) (a' := ws) rfl (EvE.p (ev_ix (EvE.l (ev_var rfl)) ev_int (by decide) rfl)) (EvE.p (ev_var rfl)) (by decide))) (fun hb => (et_test (ev_neD (α := List Int) (a := sm') (a' := sm') rfl (EvE.p (ev_ix (EvE.l (ev_var rfl)) ev_int (by decide) rfl)) (EvE.p (ev_var rfl)) (by decide))))) (fun hc => ?_) (fun hc => ?_)
  · simp at hc
  refine ok_ret (EvE.is (ev_and (ev_callN (x := .bool true) rfl _ True.intro rfl (eb_cons (ev_var rfl) eb_nil)) (fun hb => (ev_and (ev_eqI (ev_var rfl) (ev_var rfl)) (fun hb => (ev_and (ev_callN (x := .bool true) rfl _ True.intro rfl (eb_cons (ev_var rfl) eb_nil)) (fun hb => (ev_eqI (ev_var rfl) ev_int))))))) ?_) (fun _ _ h => RR.bl h)
  simp [wsum]

end
/-! what the top has written -/
theorem all_mk {l : PySem.W.OpenLaw} {w : World} {K : PySem.W.Frag} {h : Heap} {mg : PySem.Str → Option Value} {fa f1 f2 f3 f4 f5 f6 f7 f8 f9 f10 : Addr} (X : K.In h) (G : h.Ns mainGlobals mg) (hfa : mg "law" = some (.ref fa))
    {od1 an1 : Option Addr} {sl1 : Array (Option Value)} {oc1 kV1 dc1 pm1 cd1 ct1 : Value}
    {od2 an2 : Option Addr} {sl2 : Array (Option Value)} {oc2 kV2 dc2 pm2 cd2 ct2 : Value}
    {od3 an3 : Option Addr} {sl3 : Array (Option Value)} {oc3 kV3 dc3 pm3 cd3 ct3 : Value}
    {od4 an4 : Option Addr} {sl4 : Array (Option Value)} {oc4 kV4 dc4 pm4 cd4 ct4 : Value}
    {od5 an5 : Option Addr} {sl5 : Array (Option Value)} {oc5 kV5 dc5 pm5 cd5 ct5 : Value}
    {od6 an6 : Option Addr} {sl6 : Array (Option Value)} {oc6 kV6 dc6 pm6 cd6 ct6 : Value}
    {od7 an7 : Option Addr} {sl7 : Array (Option Value)} {oc7 kV7 dc7 pm7 cd7 ct7 : Value}
    {od8 an8 : Option Addr} {sl8 : Array (Option Value)} {oc8 kV8 dc8 pm8 cd8 ct8 : Value}
    {od9 an9 : Option Addr} {sl9 : Array (Option Value)} {oc9 kV9 dc9 pm9 cd9 ct9 : Value}
    {od10 an10 : Option Addr} {sl10 : Array (Option Value)} {oc10 kV10 dc10 pm10 cd10 ct10 : Value}
    (a1 : PySem.W.nsIn K mainGlobals "exchanged" = some (some (.ref f1))) (l1 : K.lookup f1 = some ⟨oc1, od1, .func (PySem.W.fnOf "exchanged" "exchanged" (defArgs s_exchanged) (defBody s_exchanged) (defScope s_exchanged) .none kV1 dc1 pm1 an1 cd1 ct1), sl1⟩) (c1 : PySem.W.codeIn K cd1 "exchanged" = true) (k1 : PySem.W.keepIn K (.ref f1) = true)
    (a2 : PySem.W.nsIn K mainGlobals "weigh" = some (some (.ref f2))) (l2 : K.lookup f2 = some ⟨oc2, od2, .func (PySem.W.fnOf "weigh" "weigh" (defArgs s_weigh) (defBody s_weigh) (defScope s_weigh) .none kV2 dc2 pm2 an2 cd2 ct2), sl2⟩) (c2 : PySem.W.codeIn K cd2 "weigh" = true) (k2 : PySem.W.keepIn K (.ref f2) = true)
    (a3 : PySem.W.nsIn K mainGlobals "_law_cell_at" = some (some (.ref f3))) (l3 : K.lookup f3 = some ⟨oc3, od3, .func (PySem.W.fnOf "_law_cell_at" "_law_cell_at" (defArgs s__law_cell_at) (defBody s__law_cell_at) (defScope s__law_cell_at) .none kV3 dc3 pm3 an3 cd3 ct3), sl3⟩) (c3 : PySem.W.codeIn K cd3 "_law_cell_at" = true) (k3 : PySem.W.keepIn K (.ref f3) = true)
    (a4 : PySem.W.nsIn K mainGlobals "_law_whole" = some (some (.ref f4))) (l4 : K.lookup f4 = some ⟨oc4, od4, .func (PySem.W.fnOf "_law_whole" "_law_whole" (defArgs s__law_whole) (defBody s__law_whole) (defScope s__law_whole) .none kV4 dc4 pm4 an4 cd4 ct4), sl4⟩) (c4 : PySem.W.codeIn K cd4 "_law_whole" = true) (k4 : PySem.W.keepIn K (.ref f4) = true)
    (a5 : PySem.W.nsIn K mainGlobals "_law_weight" = some (some (.ref f5))) (l5 : K.lookup f5 = some ⟨oc5, od5, .func (PySem.W.fnOf "_law_weight" "_law_weight" (defArgs s__law_weight) (defBody s__law_weight) (defScope s__law_weight) .none kV5 dc5 pm5 an5 cd5 ct5), sl5⟩) (c5 : PySem.W.codeIn K cd5 "_law_weight" = true) (k5 : PySem.W.keepIn K (.ref f5) = true)
    (a6 : PySem.W.nsIn K mainGlobals "_law_row_is" = some (some (.ref f6))) (l6 : K.lookup f6 = some ⟨oc6, od6, .func (PySem.W.fnOf "_law_row_is" "_law_row_is" (defArgs s__law_row_is) (defBody s__law_row_is) (defScope s__law_row_is) .none kV6 dc6 pm6 an6 cd6 ct6), sl6⟩) (c6 : PySem.W.codeIn K cd6 "_law_row_is" = true) (k6 : PySem.W.keepIn K (.ref f6) = true)
    (a7 : PySem.W.nsIn K mainGlobals "_law_rising" = some (some (.ref f7))) (l7 : K.lookup f7 = some ⟨oc7, od7, .func (PySem.W.fnOf "_law_rising" "_law_rising" (defArgs s__law_rising) (defBody s__law_rising) (defScope s__law_rising) .none kV7 dc7 pm7 an7 cd7 ct7), sl7⟩) (c7 : PySem.W.codeIn K cd7 "_law_rising" = true) (k7 : PySem.W.keepIn K (.ref f7) = true)
    (a8 : PySem.W.nsIn K mainGlobals "_law_put_in" = some (some (.ref f8))) (l8 : K.lookup f8 = some ⟨oc8, od8, .func (PySem.W.fnOf "_law_put_in" "_law_put_in" (defArgs s__law_put_in) (defBody s__law_put_in) (defScope s__law_put_in) .none kV8 dc8 pm8 an8 cd8 ct8), sl8⟩) (c8 : PySem.W.codeIn K cd8 "_law_put_in" = true) (k8 : PySem.W.keepIn K (.ref f8) = true)
    (a9 : PySem.W.nsIn K mainGlobals "_law_mixed" = some (some (.ref f9))) (l9 : K.lookup f9 = some ⟨oc9, od9, .func (PySem.W.fnOf "_law_mixed" "_law_mixed" (defArgs s__law_mixed) (defBody s__law_mixed) (defScope s__law_mixed) .none kV9 dc9 pm9 an9 cd9 ct9), sl9⟩) (c9 : PySem.W.codeIn K cd9 "_law_mixed" = true) (k9 : PySem.W.keepIn K (.ref f9) = true)
    (a10 : PySem.W.nsIn K mainGlobals "law" = some (some (.ref f10))) (l10 : K.lookup f10 = some ⟨oc10, od10, .func (PySem.W.fnOf "law" "law" (defArgs s_law) (defBody s_law) (defScope s_law) .none kV10 dc10 pm10 an10 cd10 ct10), sl10⟩) (c10 : PySem.W.codeIn K cd10 "law" = true) (k10 : PySem.W.keepIn K (.ref f10) = true)
    (z_len : PySem.W.nsIn K mainGlobals "len" = some none)
    (z_sorted : PySem.W.nsIn K mainGlobals "sorted" = some none)
    (z_sum : PySem.W.nsIn K mainGlobals "sum" = some none)
    (z_isinstance : PySem.W.nsIn K mainGlobals "isinstance" = some none)
    (z_list : PySem.W.nsIn K mainGlobals "list" = some none)
    (z_int : PySem.W.nsIn K mainGlobals "int" = some none)
    (z_bool : PySem.W.nsIn K mainGlobals "bool" = some none)
    (z_range : PySem.W.nsIn K mainGlobals "range" = some none) :
    ∃ fd : FuncData, (∀ (s : Shared) (v : Value), BindsTo s fd ⟨[v], []⟩ [("_law_script", v)]) ∧ ∀ base : Heap, K.In base → base.Ns mainGlobals mg → FnOk l.prog w K mg base CX0 3 fa fd ["_law_script"] (sp_law K) := by
  have e := hfa.symm.trans (PySem.W.mg_of X G a10)
  cases e
  have F1 := fun_mk (st := s_exchanged) l1 c1 k1
  have b1 := F1.binds (ps := ["choice", "out", "thing"]) fun _ _ _ _ _ _ us hl => match us, hl with | [_, _, _], _ => rfl
  have F2 := fun_mk (st := s_weigh) l2 c2 k2
  have b2 := F2.binds (ps := ["weights", "choice"]) fun _ _ _ _ _ _ us hl => match us, hl with | [_, _], _ => rfl
  have F3 := fun_mk (st := s__law_cell_at) l3 c3 k3
  have b3 := F3.binds (ps := ["_law_script", "_law_k"]) fun _ _ _ _ _ _ us hl => match us, hl with | [_, _], _ => rfl
  have F4 := fun_mk (st := s__law_whole) l4 c4 k4
  have b4 := F4.binds (ps := ["_law_found"]) fun _ _ _ _ _ _ us hl => match us, hl with | [_], _ => rfl
  have F5 := fun_mk (st := s__law_weight) l5 c5 k5
  have b5 := F5.binds (ps := ["_law_cell", "_law_mode"]) fun _ _ _ _ _ _ us hl => match us, hl with | [_, _], _ => rfl
  have F6 := fun_mk (st := s__law_row_is) l6 c6 k6
  have b6 := F6.binds (ps := ["_law_found", "_law_due"]) fun _ _ _ _ _ _ us hl => match us, hl with | [_, _], _ => rfl
  have F7 := fun_mk (st := s__law_rising) l7 c7 k7
  have b7 := F7.binds (ps := ["_law_script", "_law_count", "_law_step"]) fun _ _ _ _ _ _ us hl => match us, hl with | [_, _, _], _ => rfl
  have F8 := fun_mk (st := s__law_put_in) l8 c8 k8
  have b8 := F8.binds (ps := ["_law_row", "_law_thing"]) fun _ _ _ _ _ _ us hl => match us, hl with | [_, _], _ => rfl
  have F9 := fun_mk (st := s__law_mixed) l9 c9 k9
  have b9 := F9.binds (ps := ["_law_choice", "_law_cell"]) fun _ _ _ _ _ _ us hl => match us, hl with | [_, _], _ => rfl
  have F10 := fun_mk (st := s_law) l10 c10 k10
  let T : Txt K mg := ⟨PySem.W.mg_none_of X G z_len, PySem.W.mg_none_of X G z_sorted, PySem.W.mg_none_of X G z_sum, PySem.W.mg_none_of X G z_isinstance, PySem.W.mg_none_of X G z_list, PySem.W.mg_none_of X G z_int, PySem.W.mg_none_of X G z_bool, PySem.W.mg_none_of X G z_range, f1, (PySem.W.fnOf "exchanged" "exchanged" (defArgs s_exchanged) (defBody s_exchanged) (defScope s_exchanged) .none kV1 dc1 pm1 an1 cd1 ct1), F1, PySem.W.mg_of X G a1, b1, f2, (PySem.W.fnOf "weigh" "weigh" (defArgs s_weigh) (defBody s_weigh) (defScope s_weigh) .none kV2 dc2 pm2 an2 cd2 ct2), F2, PySem.W.mg_of X G a2, b2, f3, (PySem.W.fnOf "_law_cell_at" "_law_cell_at" (defArgs s__law_cell_at) (defBody s__law_cell_at) (defScope s__law_cell_at) .none kV3 dc3 pm3 an3 cd3 ct3), F3, PySem.W.mg_of X G a3, b3, f4, (PySem.W.fnOf "_law_whole" "_law_whole" (defArgs s__law_whole) (defBody s__law_whole) (defScope s__law_whole) .none kV4 dc4 pm4 an4 cd4 ct4), F4, PySem.W.mg_of X G a4, b4, f5, (PySem.W.fnOf "_law_weight" "_law_weight" (defArgs s__law_weight) (defBody s__law_weight) (defScope s__law_weight) .none kV5 dc5 pm5 an5 cd5 ct5), F5, PySem.W.mg_of X G a5, b5, f6, (PySem.W.fnOf "_law_row_is" "_law_row_is" (defArgs s__law_row_is) (defBody s__law_row_is) (defScope s__law_row_is) .none kV6 dc6 pm6 an6 cd6 ct6), F6, PySem.W.mg_of X G a6, b6, f7, (PySem.W.fnOf "_law_rising" "_law_rising" (defArgs s__law_rising) (defBody s__law_rising) (defScope s__law_rising) .none kV7 dc7 pm7 an7 cd7 ct7), F7, PySem.W.mg_of X G a7, b7, f8, (PySem.W.fnOf "_law_put_in" "_law_put_in" (defArgs s__law_put_in) (defBody s__law_put_in) (defScope s__law_put_in) .none kV8 dc8 pm8 an8 cd8 ct8), F8, PySem.W.mg_of X G a8, b8, f9, (PySem.W.fnOf "_law_mixed" "_law_mixed" (defArgs s__law_mixed) (defBody s__law_mixed) (defScope s__law_mixed) .none kV9 dc9 pm9 an9 cd9 ct9), F9, PySem.W.mg_of X G a9, b9⟩
  exact ⟨(PySem.W.fnOf "law" "law" (defArgs s_law) (defBody s_law) (defScope s_law) .none kV10 dc10 pm10 an10 cd10 ct10), fun s v => .of_eq rfl, fun base _ _ => ok_law F10 T⟩
end Z
open PySem PySem.W PyProof.Rows
set_option maxRecDepth 100000 in
set_option maxHeartbeats 0 in
theorem PySem.Challenge.cw_matroidpick_k02_exchanged_and_weighed_holds : PySem.Challenge.rw_matroidpick_k02_exchanged_and_weighed.Holds := by
  w_on; o_law; k_head; (case hw => w_witness2)
  k_fill
  refine L2.walk_of (l := PySem.Challenge.rw_matroidpick_k02_exchanged_and_weighed) (n := 63) (k := 3) (x := "_law_script") (CX := fun _ => L2.CX0) (sp := fun w => Z.sp_law _) rfl (by decide) rfl ⟨rfl, by decide, by decide⟩ (fun w h Y => PySem.W.kIn_of Y) ?F (fun _ _ a ns hl _ hS => ⟨ns, fun _ => True, hl, .cons ⟨a, rfl, True.intro, hS⟩ .nil, fun v H2 _ r => by cases r; rfl⟩) (fun _ _ _ _ _ h => h)
  case F =>
    intro w mg fa h KX G hmg
    refine' Z.all_mk KX G hmg ?a1 ?l1 ?c1 ?k1 ?a2 ?l2 ?c2 ?k2 ?a3 ?l3 ?c3 ?k3 ?a4 ?l4 ?c4 ?k4 ?a5 ?l5 ?c5 ?k5 ?a6 ?l6 ?c6 ?k6 ?a7 ?l7 ?c7 ?k7 ?a8 ?l8 ?c8 ?k8 ?a9 ?l9 ?c9 ?k9 ?a10 ?l10 ?c10 ?k10 ?z_len ?z_sorted ?z_sum ?z_isinstance ?z_list ?z_int ?z_bool ?z_range
    (case a1 => k_is); (case l1 => k_is); (case c1 => k_is); (case k1 => k_is); (case a2 => k_is); (case l2 => k_is); (case c2 => k_is); (case k2 => k_is); (case a3 => k_is); (case l3 => k_is); (case c3 => k_is); (case k3 => k_is); (case a4 => k_is); (case l4 => k_is); (case c4 => k_is); (case k4 => k_is); (case a5 => k_is); (case l5 => k_is); (case c5 => k_is); (case k5 => k_is); (case a6 => k_is); (case l6 => k_is); (case c6 => k_is); (case k6 => k_is); (case a7 => k_is); (case l7 => k_is); (case c7 => k_is); (case k7 => k_is); (case a8 => k_is); (case l8 => k_is); (case c8 => k_is); (case k8 => k_is); (case a9 => k_is); (case l9 => k_is); (case c9 => k_is); (case k9 => k_is); (case a10 => k_is); (case l10 => k_is); (case c10 => k_is); (case k10 => k_is); (case z_len => k_is); (case z_sorted => k_is); (case z_sum => k_is); (case z_isinstance => k_is); (case z_list => k_is); (case z_int => k_is); (case z_bool => k_is); (case z_range => k_is)
