import PyProof.Rows.All
import HandS.ForMost
import HandS.Evl
import HandS.Wide
import HandS.Gcd
import HandS.IsInst
import HandS.Star
import HandS.Style
import HandS.Conv
import PyProof.ListStr
import HandS.TupAny
import PySem.Challenge.RW_downsets_k01_whole_fractions_in_lowest_t
set_option Elab.async false
set_option linter.all false
set_option maxRecDepth 100000
set_option maxHeartbeats 2000000
namespace Iv
open PySem PySem.Spec PyProof.Rows L2
open Evl (Ex ex_l ex_t)

abbrev D := PyData
/-- the i-th thing of the store, as data -/
abbrev rf (i : Nat) : D := .dict [(.int (Int.ofNat i), .none)]
inductive SO where
  | lst (xs : List D)
  | fro (xs : List D)
  | dead
structure Wd where
  F : Hp
  ρ : List Addr
  S : List SO
  R : Hp

mutual
inductive Den (K : PySem.W.Frag) (F : Hp) (ρ : List Addr) : V → D → Prop
  | non : Den K F ρ .non .none
  | bl (b : Bool) : Den K F ρ (.bl b) (.bool b)
  | int (i : Int) : Den K F ρ (.int i) (.int i)
  | str (x : Str) : Den K F ρ (.str x) (.str x)
  | lst {a : Addr} {xs : List V} {ds : List D} : F a = some (.lst xs) → DenA K F ρ xs ds → Den K F ρ (.ref a) (.list ds)
  | tup {a : Addr} {xs : List V} {ds : List D} : SqT K F a xs → DenA K F ρ xs ds → Den K F ρ (.ref a) (.tuple ds)
  | ref {i : Nat} {a : Addr} : ρ[i]? = some a → Den K F ρ (.ref a) (.dict [(.int (Int.ofNat i), .none)])
  | dct {a : Addr} : F a = some (.dK []) → Den K F ρ (.ref a) (.dict [])
inductive DenA (K : PySem.W.Frag) (F : Hp) (ρ : List Addr) : List V → List D → Prop
  | nil : DenA K F ρ [] []
  | cons {v : V} {vs : List V} {d : D} {ds : List D} : Den K F ρ v d → DenA K F ρ vs ds → DenA K F ρ (v :: vs) (d :: ds)
end

section
variable {K : PySem.W.Frag} {F F' : Hp} {ρ ρ' : List Addr}
theorem get_pre {t : List Addr} {i : Nat} {a : Addr} (h : ρ[i]? = some a) : (ρ ++ t)[i]? = some a := by
  obtain ⟨hi, e⟩ := List.getElem?_eq_some_iff.mp h
  rw [List.getElem?_append_left hi, h]
mutual
theorem Den.mono {t : List Addr} (e : Ex F F') : ∀ {v : V} {d : D}, Den K F ρ v d → Den K F' (ρ ++ t) v d
  | _, _, .non => .non
  | _, _, .bl b => .bl b
  | _, _, .int i => .int i
  | _, _, .str x => .str x
  | _, _, .lst h r => .lst (e _ _ h) (DenA.mono e r)
  | _, _, .tup h r => .tup (ex_t e h) (DenA.mono e r)
  | _, _, .ref h => .ref (get_pre h)
  | _, _, .dct h => .dct (e _ _ h)
theorem DenA.mono {t : List Addr} (e : Ex F F') : ∀ {vs : List V} {ds : List D}, DenA K F ρ vs ds → DenA K F' (ρ ++ t) vs ds
  | _, _, .nil => .nil
  | _, _, .cons h r => .cons (Den.mono e h) (DenA.mono e r)
end
theorem DenA.length : ∀ {vs : List V} {ds : List D}, DenA K F ρ vs ds → vs.length = ds.length
  | _, _, .nil => rfl
  | _, _, .cons _ r => by rw [List.length_cons, List.length_cons, DenA.length r]
theorem DenA.get : ∀ {vs : List V} {ds : List D} {i : Nat} {d : D}, DenA K F ρ vs ds → ds[i]? = some d → ∃ v, vs[i]? = some v ∧ Den K F ρ v d
  | _, _, _, _, .nil, h => by simp at h
  | _, _, 0, _, .cons h _, e => by simp at e; subst e; exact ⟨_, rfl, h⟩
  | _, _, i + 1, _, .cons _ r, e => DenA.get (i := i) r e
theorem DenA.append : ∀ {vs : List V} {ds : List D} {ws : List V} {es : List D}, DenA K F ρ vs ds → DenA K F ρ ws es → DenA K F ρ (vs ++ ws) (ds ++ es)
  | _, _, _, _, .nil, s => s
  | _, _, _, _, .cons h r, s => .cons h (DenA.append r s)
theorem DenA.set {v : V} {d : D} (h : Den K F ρ v d) : ∀ {vs : List V} {ds : List D} (i : Nat), DenA K F ρ vs ds → DenA K F ρ (vs.set i v) (ds.set i d)
  | _, _, _, .nil => .nil
  | _, _, 0, .cons _ r => .cons h r
  | _, _, i + 1, .cons q r => .cons q (DenA.set h i r)
theorem DenA.take : ∀ {vs : List V} {ds : List D} (n : Nat), DenA K F ρ vs ds → DenA K F ρ (vs.take n) (ds.take n)
  | _, _, 0, _ => .nil
  | _, _, _ + 1, .nil => .nil
  | _, _, n + 1, .cons h r => .cons h (DenA.take n r)
theorem DenA.drop : ∀ {vs : List V} {ds : List D} (n : Nat), DenA K F ρ vs ds → DenA K F ρ (vs.drop n) (ds.drop n)
  | _, _, 0, r => r
  | _, _, _ + 1, .nil => .nil
  | _, _, n + 1, .cons _ r => DenA.drop n r
theorem DenA.replicate {v : V} {d : D} (h : Den K F ρ v d) : ∀ n : Nat, DenA K F ρ (List.replicate n v) (List.replicate n d)
  | 0 => .nil
  | n + 1 => .cons h (DenA.replicate h n)
mutual
def plain : D → Bool
  | .dict _ => false
  | .list ds => plains ds
  | .tuple ds => plains ds
  | _ => true
def plains : List D → Bool
  | [] => true
  | d :: ds => plain d && plains ds
end
mutual
theorem Den.dp {H : Hp} (e : Ex F H) : ∀ {v : V} {d : D}, Den K F ρ v d → plain d = true → Dp K H v d
  | _, _, .non, _ => .non
  | _, _, .bl b, _ => .bl b
  | _, _, .int i, _ => .int i
  | _, _, .str x, _ => .str x
  | _, _, .lst h r, p => .lst (SqL.of (e _ _ h)) (DenA.dp e r (by simpa [plain] using p))
  | _, _, .tup h r, p => .tup (ex_t e h) (DenA.dp e r (by simpa [plain] using p))
  | _, _, .ref _, p => by simp [plain] at p
  | _, _, .dct _, p => by simp [plain] at p
theorem DenA.dp {H : Hp} (e : Ex F H) : ∀ {vs : List V} {ds : List D}, DenA K F ρ vs ds → plains ds = true → DpAll K H vs ds
  | _, _, .nil, _ => .nil
  | _, _, .cons h r, p => by
    simp only [plains, Bool.and_eq_true] at p
    exact .cons (Den.dp e h p.1) (DenA.dp e r p.2)
end
end

structure Wok (K : PySem.W.Frag) (W : Wd) (H : Hp) : Prop where
  ex : Ex W.F H
  len : W.ρ.length = W.S.length
  rex : Ex W.R H
  rdis : ∀ a o, W.R a = some o → W.F a = none
  lst : ∀ (i : Nat) (ds : List D), W.S[i]? = some (SO.lst ds) → ∃ a xs, W.ρ[i]? = some a ∧ (W.F a = none ∧ W.R a = none) ∧ H a = some (.lst xs) ∧ DenA K W.F W.ρ xs ds
  fro : ∀ (i : Nat) (ds : List D), W.S[i]? = some (SO.fro ds) → ∃ a xs, W.ρ[i]? = some a ∧ SqL K W.F a xs ∧ DenA K W.F W.ρ xs ds
  inj : ∀ (i j : Nat) (ds es : List D) (a : Addr), W.S[i]? = some (SO.lst ds) → W.S[j]? = some (SO.lst es) → W.ρ[i]? = some a → W.ρ[j]? = some a → i = j
structure Le0 (W W' : Wd) : Prop where
  ex : Ex W.F W'.F
  pre : ∃ t, W'.ρ = W.ρ ++ t
theorem Le0.trans {A B C : Wd} (a : Le0 A B) (b : Le0 B C) : Le0 A C := by
  obtain ⟨t, h1⟩ := a.pre
  obtain ⟨u, h2⟩ := b.pre
  exact ⟨a.ex.trans b.ex, ⟨t ++ u, by rw [h2, h1, List.append_assoc]⟩⟩
theorem Le0.den {K : PySem.W.Frag} {W W' : Wd} (l : Le0 W W') {v : V} {d : D} (h : Den K W.F W.ρ v d) : Den K W'.F W'.ρ v d := by
  obtain ⟨t, e⟩ := l.pre
  rw [e]
  exact h.mono l.ex
theorem Le0.dena {K : PySem.W.Frag} {W W' : Wd} (l : Le0 W W') {v : List V} {d : List D} (h : DenA K W.F W.ρ v d) : DenA K W'.F W'.ρ v d := by
  obtain ⟨t, e⟩ := l.pre
  rw [e]
  exact h.mono l.ex
structure Le (W W' : Wd) : Prop where
  ex : Ex W.F W'.F
  pre : ∃ t, W'.ρ = W.ρ ++ t
  rr : W'.R = W.R
theorem Le.l0 {W W' : Wd} (l : Le W W') : Le0 W W' := ⟨l.ex, l.pre⟩
theorem Le.refl (W : Wd) : Le W W := ⟨Ex.refl _, ⟨[], by simp⟩, rfl⟩
theorem Le.trans {A B C : Wd} (a : Le A B) (b : Le B C) : Le A C := by
  obtain ⟨t, h1⟩ := a.pre
  obtain ⟨u, h2⟩ := b.pre
  exact ⟨a.ex.trans b.ex, ⟨t ++ u, by rw [h2, h1, List.append_assoc]⟩, b.rr.trans a.rr⟩
theorem Le.den {K : PySem.W.Frag} {W W' : Wd} (l : Le W W') {v : V} {d : D} (h : Den K W.F W.ρ v d) : Den K W'.F W'.ρ v d := by
  obtain ⟨t, e⟩ := l.pre
  rw [e]
  exact h.mono l.ex
theorem Le.dena {K : PySem.W.Frag} {W W' : Wd} (l : Le W W') {v : List V} {d : List D} (h : DenA K W.F W.ρ v d) : DenA K W'.F W'.ρ v d := by
  obtain ⟨t, e⟩ := l.pre
  rw [e]
  exact h.mono l.ex
abbrev En : Type := List (Option D)
structure EnvOk (K : PySem.W.Frag) (W : Wd) (η : En) (σ : L2.St) : Prop where
  len : η.length = σ.length
  get : ∀ (i : Nat) (d : D), η[i]? = some (some d) → ∃ v, σ[i]? = some (some v) ∧ Den K W.F W.ρ v d
theorem EnvOk.mono0 {K : PySem.W.Frag} {W W' : Wd} (l : Le0 W W') {η : En} {σ : L2.St} (h : EnvOk K W η σ) : EnvOk K W' η σ :=
  ⟨h.len, fun i d e => let ⟨v, h1, h2⟩ := h.get i d e; ⟨v, h1, l.den h2⟩⟩
theorem EnvOk.mono {K : PySem.W.Frag} {W W' : Wd} (l : Le W W') {η : En} {σ : L2.St} (h : EnvOk K W η σ) : EnvOk K W' η σ :=
  ⟨h.len, fun i d e => let ⟨v, h1, h2⟩ := h.get i d e; ⟨v, h1, l.den h2⟩⟩
theorem EnvOk.set {K : PySem.W.Frag} {W : Wd} {η : En} {σ : L2.St} {v : V} {d : D} (h : EnvOk K W η σ) (i : Nat) (r : Den K W.F W.ρ v d) : EnvOk K W (η.set i (some d)) (σ.set i (some v)) := by
  refine ⟨by simp [h.len], fun j c e => ?_⟩
  by_cases hj : i = j
  · subst hj
    have hi : i < η.length := by
      rcases Nat.lt_or_ge i η.length with q | q
      · exact q
      · rw [List.set_eq_of_length_le q] at e
        have := (List.getElem?_eq_some_iff.mp e).1
        omega
    rw [List.getElem?_set_self hi] at e
    cases e
    exact ⟨v, by rw [List.getElem?_set_self (by rw [← h.len]; exact hi)], r⟩
  · rw [List.getElem?_set_ne hj] at e
    obtain ⟨v', h1, h2⟩ := h.get j c e
    exact ⟨v', by rw [List.getElem?_set_ne hj]; exact h1, h2⟩
def wipeE (η : En) : List Nat → En
  | [] => η
  | v :: vs => (wipeE η vs).set v none
theorem set_none_some {α : Type} {l : List (Option α)} {i j : Nat} {x : α} (h : (l.set i none)[j]? = some (some x)) : l[j]? = some (some x) ∧ i ≠ j := by
  by_cases hj : i = j
  · subst hj
    rcases Nat.lt_or_ge i l.length with q | q
    · rw [List.getElem?_set_self q] at h; cases h
    · rw [List.set_eq_of_length_le q] at h
      have := (List.getElem?_eq_some_iff.mp h).1
      omega
  · rw [List.getElem?_set_ne hj] at h
    exact ⟨h, hj⟩
theorem EnvOk.wipe {K : PySem.W.Frag} {W : Wd} {η : En} {σ : L2.St} (h : EnvOk K W η σ) : ∀ vs : List Nat, EnvOk K W (wipeE η vs) (L2.wipe σ vs)
  | [] => h
  | v :: vs => by
    have ih := EnvOk.wipe h vs
    refine ⟨by simp [wipeE, L2.wipe, ih.len], fun i d e => ?_⟩
    obtain ⟨e1, ne⟩ := set_none_some (show ((wipeE η vs).set v none)[i]? = some (some d) from e)
    obtain ⟨w, h1, h2⟩ := ih.get i d e1
    exact ⟨w, by
      show ((L2.wipe σ vs).set v none)[i]? = some (some w)
      rw [List.getElem?_set_ne ne]; exact h1, h2⟩

section
variable {K : PySem.W.Frag} {W : Wd} {H : Hp}
theorem Wok.freeR (h : Wok K W H) {p : Addr} (hp : H p = none) : W.R p = none := by
  cases e : W.R p with
  | none => rfl
  | some o => rw [h.rex p o e] at hp; cases hp
theorem Wok.free (h : Wok K W H) {p : Addr} (hp : H p = none) : W.F p = none := by
  cases e : W.F p with
  | none => rfl
  | some o => rw [h.ex p o e] at hp; cases hp
/-- new data -/
def Wd.lay (W : Wd) (p : Addr) (o : HO) : Wd := { W with F := upd W.F p o }
theorem Wok.lay (h : Wok K W H) {p : Addr} {o : HO} (hp : H p = none) : Wok K (W.lay p o) (upd H p o) ∧ Le W (W.lay p o) ∧ (W.lay p o).S = W.S ∧ (W.lay p o).F p = some o := by
  have l : Le W (W.lay p o) := ⟨Ex.new (h.free hp), ⟨[], by simp [Wd.lay]⟩, rfl⟩
  have rne : ∀ a u, W.R a = some u → a ≠ p := fun a u e => ne_of_none (h.rex a u e) hp
  refine ⟨⟨fun a u e => ?_, h.len, fun a u e => by rw [upd_ne (rne a u e)]; exact h.rex a u e, fun a u e => by show upd W.F p o a = none; rw [upd_ne (rne a u e)]; exact h.rdis a u e, fun i ds e => ?_, fun i ds e => ?_, h.inj⟩, l, rfl, upd_same⟩
  · by_cases ha : a = p
    · subst ha
      have e' : upd W.F a o a = some u := e
      rw [upd_same] at e'
      rw [upd_same]; exact e'
    · have e' : upd W.F p o a = some u := e
      rw [upd_ne ha] at e'
      rw [upd_ne ha]; exact h.ex a u e'
  · obtain ⟨a, xs, h1, h2, h3, h4⟩ := h.lst i ds e
    have na : a ≠ p := ne_of_none h3 hp
    exact ⟨a, xs, h1, ⟨by show upd W.F p o a = none; rw [upd_ne na]; exact h2.1, h2.2⟩, by rw [upd_ne na]; exact h3, l.dena h4⟩
  · obtain ⟨a, xs, h1, h2, h4⟩ := h.fro i ds e
    exact ⟨a, xs, h1, ex_l l.ex h2, l.dena h4⟩
/-- a new list of the store -/
def Wd.push (W : Wd) (p : Addr) (ds : List D) : Wd := ⟨W.F, W.ρ ++ [p], W.S ++ [.lst ds], W.R⟩
theorem Wok.push (h : Wok K W H) {p : Addr} {xs : List V} {ds : List D} (hp : H p = none) (r : DenA K W.F W.ρ xs ds) :
    Wok K (W.push p ds) (upd H p (.lst xs)) ∧ Le W (W.push p ds) ∧ (W.push p ds).ρ[W.S.length]? = some p := by
  have l : Le W (W.push p ds) := ⟨Ex.refl _, ⟨[p], rfl⟩, rfl⟩
  have rne : ∀ a u, W.R a = some u → a ≠ p := fun a u e => ne_of_none (h.rex a u e) hp
  have last : (W.ρ ++ [p])[W.S.length]? = some p := by rw [← h.len]; simp
  have old : ∀ i o, i ≠ W.S.length → (W.S ++ [SO.lst ds])[i]? = some o → W.S[i]? = some o := fun i o ne e => by
    rcases Nat.lt_or_ge i W.S.length with q | q
    · rw [List.getElem?_append_left q] at e; exact e
    · rw [List.getElem?_append_right q] at e
      have : i - W.S.length ≠ 0 := by omega
      rw [List.getElem?_eq_none (by simp; omega)] at e
      cases e
  have oldA : ∀ i a, i ≠ W.S.length → (W.ρ ++ [p])[i]? = some a → W.ρ[i]? = some a := fun i a ne e => by
    rcases Nat.lt_or_ge i W.ρ.length with q | q
    · rw [List.getElem?_append_left q] at e; exact e
    · rw [List.getElem?_append_right q] at e
      have hl := h.len
      rw [List.getElem?_eq_none (by simp; omega)] at e
      cases e
  have pn : ∀ i ds' a, W.S[i]? = some (SO.lst ds') → W.ρ[i]? = some a → a ≠ p := fun i ds' a e1 e2 => by
    obtain ⟨a', xs', h1, h2, h3, h4⟩ := h.lst i ds' e1
    rw [h1] at e2; cases e2
    exact ne_of_none h3 hp
  refine ⟨⟨fun a u e => ?_, by simp [Wd.push, h.len], fun a u e => by rw [upd_ne (rne a u e)]; exact h.rex a u e, h.rdis, fun i es e => ?_, fun i es e => ?_, fun i j d1 d2 a e1 e2 e3 e4 => ?_⟩, l, last⟩
  · have na : a ≠ p := fun z => by
      have e' : W.F a = some u := e
      rw [z, h.free hp] at e'; cases e'
    rw [upd_ne na]; exact h.ex a u e
  · by_cases hi : i = W.S.length
    · subst hi
      have e' : (W.S ++ [SO.lst ds])[W.S.length]? = some (SO.lst es) := e
      simp at e'
      subst e'
      exact ⟨p, xs, last, ⟨h.free hp, h.freeR hp⟩, upd_same, l.dena r⟩
    · obtain ⟨a, ys, h1, h2, h3, h4⟩ := h.lst i es (old i _ hi e)
      have na : a ≠ p := ne_of_none h3 hp
      exact ⟨a, ys, get_pre h1, h2, by rw [upd_ne na]; exact h3, l.dena h4⟩
  · by_cases hi : i = W.S.length
    · subst hi
      have e' : (W.S ++ [SO.lst ds])[W.S.length]? = some (SO.fro es) := e
      simp at e'
    · obtain ⟨a, ys, h1, h2, h4⟩ := h.fro i es (old i _ hi e)
      exact ⟨a, ys, get_pre h1, h2, l.dena h4⟩
  · by_cases hi : i = W.S.length
    · by_cases hj : j = W.S.length
      · rw [hi, hj]
      · subst hi
        have e3' : (W.ρ ++ [p])[W.S.length]? = some a := e3
        rw [last] at e3'; cases e3'
        exact absurd rfl (pn j d2 p (old j _ hj e2) (oldA j _ hj e4))
    · by_cases hj : j = W.S.length
      · subst hj
        have e4' : (W.ρ ++ [p])[W.S.length]? = some a := e4
        rw [last] at e4'; cases e4'
        exact absurd rfl (pn i d1 p (old i _ hi e1) (oldA i _ hi e3))
      · exact h.inj i j d1 d2 a (old i _ hi e1) (old j _ hj e2) (oldA i _ hi e3) (oldA j _ hj e4)
/-- a list of the store changed -/
def Wd.put (W : Wd) (i : Nat) (o : SO) : Wd := { W with S := W.S.set i o }
theorem get_set_ne {l : List SO} {i j : Nat} {o : SO} (h : i ≠ j) : (l.set i o)[j]? = l[j]? := List.getElem?_set_ne h
theorem Wok.put (h : Wok K W H) {i : Nat} {a : Addr} {ds0 ds : List D} {xs : List V} (hi : W.S[i]? = some (SO.lst ds0)) (ha : W.ρ[i]? = some a) (r : DenA K W.F W.ρ xs ds) :
    Wok K (W.put i (.lst ds)) (upd H a (.lst xs)) ∧ Le W (W.put i (.lst ds)) := by
  have hlt := (List.getElem?_eq_some_iff.mp hi).1
  obtain ⟨a', xs', h1, h2, h3, h4⟩ := h.lst i ds0 hi
  rw [h1] at ha; cases ha
  have back : ∀ j es, (W.S.set i (SO.lst ds))[j]? = some (SO.lst es) → ∃ es', W.S[j]? = some (SO.lst es') := fun j es e => by
    by_cases hj : i = j
    · subst hj; exact ⟨_, hi⟩
    · rw [List.getElem?_set_ne hj] at e; exact ⟨_, e⟩
  have rne : ∀ b u, W.R b = some u → b ≠ a := fun b u e z => by
    rw [z, h2.2] at e; cases e
  refine ⟨⟨fun b u e => ?_, by simp [Wd.put, h.len], fun b u e => by rw [upd_ne (rne b u e)]; exact h.rex b u e, h.rdis, fun j es e => ?_, fun j es e => ?_, fun j k d1 d2 b e1 e2 e3 e4 => ?_⟩, ⟨Ex.refl _, ⟨[], by simp [Wd.put]⟩, rfl⟩⟩
  · have nb : b ≠ a := fun z => by
      have e' : W.F b = some u := e
      rw [z, h2.1] at e'; cases e'
    rw [upd_ne nb]; exact h.ex b u e
  · by_cases hj : i = j
    · subst hj
      have e' : (W.S.set i (SO.lst ds))[i]? = some (SO.lst es) := e
      rw [List.getElem?_set_self hlt] at e'
      cases e'
      exact ⟨a, xs, h1, h2, upd_same, r⟩
    · have e' : (W.S.set i (SO.lst ds))[j]? = some (SO.lst es) := e
      rw [List.getElem?_set_ne hj] at e'
      obtain ⟨b, ys, g1, g2, g3, g4⟩ := h.lst j es e'
      have nb : b ≠ a := fun z => by
        subst z
        exact hj (h.inj i j _ _ b hi e' h1 g1)
      exact ⟨b, ys, g1, g2, by rw [upd_ne nb]; exact g3, g4⟩
  · have e' : (W.S.set i (SO.lst ds))[j]? = some (SO.fro es) := e
    by_cases hj : i = j
    · subst hj
      rw [List.getElem?_set_self hlt] at e'; cases e'
    · rw [List.getElem?_set_ne hj] at e'
      exact h.fro j es e'
  · obtain ⟨d1', q1⟩ := back j d1 e1
    obtain ⟨d2', q2⟩ := back k d2 e2
    exact h.inj j k _ _ b q1 q2 e3 e4
/-- a list of the store becomes data -/
def Wd.frz (W : Wd) (i : Nat) (a : Addr) (xs : List V) : Wd := ⟨upd W.F a (.lst xs), W.ρ, W.S.set i .dead, W.R⟩
theorem Wok.frz (h : Wok K W H) {i : Nat} {a : Addr} {ds : List D} (hi : W.S[i]? = some (SO.lst ds)) (ha : W.ρ[i]? = some a) :
    ∃ xs, Wok K (W.frz i a xs) H ∧ Le W (W.frz i a xs) ∧ Den K (W.frz i a xs).F (W.frz i a xs).ρ (.ref a) (.list ds) := by
  have hlt := (List.getElem?_eq_some_iff.mp hi).1
  obtain ⟨a', xs, h1, h2, h3, h4⟩ := h.lst i ds hi
  rw [h1] at ha; cases ha
  have l : Le W (W.frz i a xs) := ⟨Ex.new h2.1, ⟨[], by simp [Wd.frz]⟩, rfl⟩
  have rne : ∀ b u, W.R b = some u → b ≠ a := fun b u e z => by
    rw [z, h2.2] at e; cases e
  have back : ∀ j o, o ≠ SO.dead → (W.S.set i SO.dead)[j]? = some o → i ≠ j ∧ W.S[j]? = some o := fun j o ho e => by
    by_cases hj : i = j
    · subst hj
      rw [List.getElem?_set_self hlt] at e
      exact absurd (Option.some.inj e).symm ho
    · rw [List.getElem?_set_ne hj] at e; exact ⟨hj, e⟩
  refine ⟨xs, ⟨fun b u e => ?_, by simp [Wd.frz, h.len], h.rex, fun b u e => by show upd W.F a (.lst xs) b = none; rw [upd_ne (rne b u e)]; exact h.rdis b u e, fun j es e => ?_, fun j es e => ?_, fun j k d1 d2 b e1 e2 e3 e4 => ?_⟩, l, .lst upd_same (l.dena h4)⟩
  · by_cases hb : b = a
    · subst hb
      have e' : upd W.F b (.lst xs) b = some u := e
      rw [upd_same] at e'; cases e'
      exact h3
    · have e' : upd W.F a (.lst xs) b = some u := e
      rw [upd_ne hb] at e'
      exact h.ex b u e'
  · obtain ⟨hj, e'⟩ := back j _ (by intro z; cases z) e
    obtain ⟨b, ys, g1, g2, g3, g4⟩ := h.lst j es e'
    have nb : b ≠ a := fun z => by
      subst z
      exact hj (h.inj i j _ _ b hi e' h1 g1)
    exact ⟨b, ys, g1, ⟨by show upd W.F a (.lst xs) b = none; rw [upd_ne nb]; exact g2.1, g2.2⟩, g3, l.dena g4⟩
  · obtain ⟨hj, e'⟩ := back j _ (by intro z; cases z) e
    obtain ⟨b, ys, g1, g2, g4⟩ := h.fro j es e'
    exact ⟨b, ys, g1, ex_l l.ex g2, l.dena g4⟩
  · exact h.inj j k _ _ b (back j _ (by intro z; cases z) e1).2 (back k _ (by intro z; cases z) e2).2 e3 e4
end
end Iv

set_option Elab.async false
set_option linter.all false
set_option maxRecDepth 100000
set_option maxHeartbeats 2000000
namespace Iv
open PySem PySem.Spec PyProof.Rows L2
open Evl (Ex ex_l ex_t)

inductive T where
  | nm (i : Nat)
  | tp (is : List Nat)
def setAll : En → List Nat → List D → En
  | η, i :: is, d :: ds => setAll (η.set i (some d)) is ds
  | η, _, _ => η
def bindT (t : T) (d : D) (η : En) : Option En := match t with
  | .nm i => some (η.set i (some d))
  | .tp is => match d with
    | .tuple ds => if ds.length = is.length then some (setAll η is ds) else none
    | _ => none
abbrev Prim := List D → List SO → Option (D × List SO)
inductive E where
  | nil
  | cons (a b : E)
  | loc (i : Nat)
  | prim (f : Prim) (a : E)
  | itr (f : List D → List SO → Option (List D × List SO)) (a : E)
  | call (f : Nat) (a : E)
  | and (a b : E)
  | or (a b : E)
  | ife (c a b : E)
  | lc (t : T) (it c e : E) (vs : List Nat)
  | chn (f g : Prim) (a b c : E)
abbrev CallT := Nat → List D → List SO → Option (D × List SO)
def one : List D × List SO → Option (D × List SO)
  | ([d], S) => some (d, S)
  | _ => none
abbrev Ev1 := En → List SO → Option (List D × List SO)
def lcRun (fc fe : Ev1) (t : T) (η : En) : List D → List SO → Option (List D × List SO)
  | [], S => some ([], S)
  | x :: xs, S => (bindT t x η).bind fun η1 => ((fc η1 S).bind one).bind fun r => match r.1 with
    | .bool true => ((fe η1 r.2).bind one).bind fun y => (lcRun fc fe t η xs y.2).bind fun z => some (y.1 :: z.1, z.2)
    | .bool false => lcRun fc fe t η xs r.2
    | _ => none
def ev (call : CallT) : E → Ev1
  | .nil, _, S => some ([], S)
  | .cons a b, η, S => ((ev call a η S).bind one).bind fun r => (ev call b η r.2).bind fun z => some (r.1 :: z.1, z.2)
  | .loc i, η, S => match η[i]? with
    | some (some d) => some ([d], S)
    | _ => none
  | .prim f a, η, S => (ev call a η S).bind fun r => (f r.1 r.2).bind fun z => some ([z.1], z.2)
  | .itr f a, η, S => (ev call a η S).bind fun r => f r.1 r.2
  | .call f a, η, S => (ev call a η S).bind fun r => (call f r.1 r.2).bind fun z => some ([z.1], z.2)
  | .and a b, η, S => ((ev call a η S).bind one).bind fun r => match r.1 with
    | .bool true => ((ev call b η r.2).bind one).bind fun z => match z.1 with
      | .bool k => some ([.bool k], z.2)
      | _ => none
    | .bool false => some ([.bool false], r.2)
    | _ => none
  | .or a b, η, S => ((ev call a η S).bind one).bind fun r => match r.1 with
    | .bool false => ((ev call b η r.2).bind one).bind fun z => match z.1 with
      | .bool k => some ([.bool k], z.2)
      | _ => none
    | .bool true => some ([.bool true], r.2)
    | _ => none
  | .ife c a b, η, S => ((ev call c η S).bind one).bind fun r => match r.1 with
    | .bool true => ev call a η r.2
    | .bool false => ev call b η r.2
    | _ => none
  | .lc t it c e vs, η, S => (ev call it η S).bind fun r => if r.1.length ≤ 100000 then (lcRun (ev call c) (ev call e) t (wipeE η vs) r.1 r.2).bind fun z => some ([.list z.1], z.2) else none
  | .chn f g a b c, η, S => ((ev call a η S).bind one).bind fun x => ((ev call b η x.2).bind one).bind fun y => (f [x.1, y.1] y.2).bind fun r => match r.1 with
    | .bool true => ((ev call c η r.2).bind one).bind fun z => (g [y.1, z.1] z.2).bind fun u => some ([u.1], u.2)
    | .bool false => some ([.bool false], r.2)
    | _ => none

inductive Fl where
  | nx | brk | cnt
  | ret (d : D)
inductive C where
  | skip | brk | cnt | abort | retn
  | seq (a b : C)
  | asg (t : T) (e : E)
  | par (i j : Nat) (e : E)
  | eff (f : List D → List SO → Option (List SO)) (e : E)
  | dex (e : E)
  | ite (c : E) (a b : C)
  | forr (t : T) (it : E) (b : C)
  | whl (n : Nat) (c : E) (b : C)
  | ret (e : E)
abbrev Ex1 := En → List SO → Option (Fl × En × List SO)
def loopF (f : Ex1) (t : T) : List D → Ex1
  | [], η, S => some (.nx, η, S)
  | x :: xs, η, S => (bindT t x η).bind fun η1 => (f η1 S).bind fun r => match r.1 with
    | .nx => loopF f t xs r.2.1 r.2.2
    | .cnt => loopF f t xs r.2.1 r.2.2
    | .brk => some (.nx, r.2)
    | .ret d => some (.ret d, r.2)
def loopW (c : Ev1) (f : Ex1) : Nat → Ex1
  | 0, _, _ => none
  | n + 1, η, S => ((c η S).bind one).bind fun r => match r.1 with
    | .bool true => (f η r.2).bind fun z => match z.1 with
      | .nx => loopW c f n z.2.1 z.2.2
      | .cnt => loopW c f n z.2.1 z.2.2
      | .brk => some (.nx, z.2)
      | .ret d => some (.ret d, z.2)
    | .bool false => some (.nx, η, r.2)
    | _ => none
def exc (call : CallT) : C → Ex1
  | .skip, η, S => some (.nx, η, S)
  | .brk, η, S => some (.brk, η, S)
  | .cnt, η, S => some (.cnt, η, S)
  | .abort, _, _ => none
  | .retn, η, S => some (.ret .none, η, S)
  | .seq a b, η, S => (exc call a η S).bind fun r => match r.1 with
    | .nx => exc call b r.2.1 r.2.2
    | fl => some (fl, r.2)
  | .asg t e, η, S => ((ev call e η S).bind one).bind fun r => (bindT t r.1 η).bind fun η1 => some (.nx, η1, r.2)
  | .par i j e, η, S => (ev call e η S).bind fun r => match r.1 with
    | [x, y] => some (.nx, (η.set i (some x)).set j (some y), r.2)
    | _ => none
  | .eff f e, η, S => (ev call e η S).bind fun r => (f r.1 r.2).bind fun S1 => some (.nx, η, S1)
  | .dex e, η, S => ((ev call e η S).bind one).bind fun r => some (.nx, η, r.2)
  | .ite c a b, η, S => ((ev call c η S).bind one).bind fun r => match r.1 with
    | .bool true => exc call a η r.2
    | .bool false => exc call b η r.2
    | _ => none
  | .forr t it b, η, S => (ev call it η S).bind fun r => loopF (exc call b) t r.1 η r.2
  | .whl n c b, η, S => loopW (ev call c) (exc call b) n η S
  | .ret e, η, S => ((ev call e η S).bind one).bind fun r => some (.ret r.1, η, r.2)

section
variable (K : PySem.W.Frag) (call : CallT)
abbrev FinV (W : Wd) (S' : List SO) (d : D) (Q : VK) : Prop := ∀ (W' : Wd) (v : V) (H' : Hp), Le W W' → W'.S = S' → Wok K W' H' → Den K W'.F W'.ρ v d → Q v H'
abbrev FinA (W : Wd) (S' : List SO) (ds : List D) (Q : List V → Hp → Prop) : Prop := ∀ (W' : Wd) (vs : List V) (H' : Hp), Le W W' → W'.S = S' → Wok K W' H' → DenA K W'.F W'.ρ vs ds → Q vs H'
def tE (c : E) : TE := fun σ H Q => ∃ (W : Wd) (η : En) (d : D) (S' : List SO), Wok K W H ∧ EnvOk K W η σ ∧ ev call c η W.S = some ([d], S') ∧ FinV K W S' d Q
def tA (c : E) : TA := fun σ H Q => ∃ (W : Wd) (η : En) (ds : List D) (S' : List SO), Wok K W H ∧ EnvOk K W η σ ∧ ev call c η W.S = some (ds, S') ∧ FinA K W S' ds Q
def tT (c : E) : TT := fun σ H Q => ∃ (W : Wd) (η : En) (b : Bool) (S' : List SO), Wok K W H ∧ EnvOk K W η σ ∧ ev call c η W.S = some ([.bool b], S') ∧ ∀ (W' : Wd) (H' : Hp), Le W W' → W'.S = S' → Wok K W' H' → Q b H'
/-- a walk gives these, one after the other -/
def Goes (J : It) (ds : List D) (W0 : Wd) : Prop := ∀ (i : Nat) (W : Wd) (H : Hp), Le0 W0 W → Wok K W H →
  (ds.length ≤ i → J.stop i H) ∧ (∀ d, ds[i]? = some d → J.go i H ∧ ∀ x H', J.yld i H x H' → ∃ W' : Wd, Le W W' ∧ W'.S = W.S ∧ Wok K W' H' ∧ Den K W'.F W'.ρ x d)
def tI (c : E) : TI := fun σ H R => ∃ (W : Wd) (η : En) (ds : List D) (S' : List SO), Wok K W H ∧ EnvOk K W η σ ∧ ev call c η W.S = some (ds, S') ∧
  ∀ (W' : Wd) (J : It) (H' : Hp), Le W W' → W'.S = S' → Wok K W' H' → Goes K J ds W' → R J H'
def FinS (W : Wd) (r : Fl × En × List SO) (D : Ends) : Prop := ∀ (W' : Wd) (H' : Hp), Le W W' → W'.S = r.2.2 → Wok K W' H' → match r.1 with
  | .nx => ∀ σ', EnvOk K W' r.2.1 σ' → D.nx σ' H'
  | .brk => ∀ σ', EnvOk K W' r.2.1 σ' → D.bk σ' H'
  | .cnt => ∀ σ', EnvOk K W' r.2.1 σ' → D.ct σ' H'
  | .ret d => ∀ v, Den K W'.F W'.ρ v d → D.rt v H'
def tS (c : C) : TS := fun D σ H => ∃ (W : Wd) (η : En) (r : Fl × En × List SO), Wok K W H ∧ EnvOk K W η σ ∧ exc call c η W.S = some r ∧ FinS K W r D
def tG (t : T) : TG := fun v σ H Q => ∃ (W : Wd) (η η' : En) (d : D), Wok K W H ∧ EnvOk K W η σ ∧ Den K W.F W.ρ v d ∧ bindT t d η = some η' ∧ ∀ σ', EnvOk K W η' σ' → Q σ' H
end
theorem peM {X : Cx} {e : Expr} {t t' : TE} (h : PE X e t) (m : ∀ σ H Q, t' σ H Q → t σ H Q) : PE X e t' := ⟨fun pins s σ H Q I q => h.run pins s σ H Q I (m σ H Q q)⟩
theorem ptM {X : Cx} {e : Expr} {t t' : TT} (h : PT X e t) (m : ∀ σ H Q, t' σ H Q → t σ H Q) : PT X e t' := ⟨fun pins s σ H Q I q => h.run pins s σ H Q I (m σ H Q q)⟩
theorem paM {X : Cx} {e : List Expr} {t t' : TA} (h : PA X e t) (m : ∀ σ H Q, t' σ H Q → t σ H Q) : PA X e t' := ⟨fun p pins s σ H Q I q => h.run p pins s σ H Q I (m σ H Q q)⟩
theorem psM {X : Cx} {e : Stmt} {t t' : TS} (h : PS X e t) (m : ∀ D σ H, t' D σ H → t D σ H) : PS X e t' := ⟨fun pins s σ H D I q => h.run pins s σ H D I (m D σ H q)⟩
theorem pssM {X : Cx} {e : List Stmt} {t t' : TS} (h : PSs X e t) (m : ∀ D σ H, t' D σ H → t D σ H) : PSs X e t' := ⟨fun pins s σ H D I q => h.run pins s σ H D I (m D σ H q)⟩

theorem bind_some {α β : Type} {x : Option α} {f : α → Option β} {y : β} (h : x.bind f = some y) : ∃ a, x = some a ∧ f a = some y := by
  cases x with
  | none => cases h
  | some a => exact ⟨a, rfl, h⟩
theorem one_some {r : List D × List SO} {z : D × List SO} (h : one r = some z) : r = ([z.1], z.2) := by
  obtain ⟨l, S⟩ := r
  match l, h with
  | [d], h => cases h; rfl
theorem bind_one {x : Option (List D × List SO)} {β : Type} {f : D × List SO → Option β} {y : β} (h : (x.bind one).bind f = some y) : ∃ z : D × List SO, x = some ([z.1], z.2) ∧ f z = some y := by
  obtain ⟨z, h1, h2⟩ := bind_some h
  obtain ⟨r, h3, h4⟩ := bind_some h1
  have := one_some h4
  subst this
  exact ⟨z, h3, h2⟩

section
variable {X : Cx} {call : CallT} {e a b c : Expr} {es : List Expr} {ca cb cc : E} {pos : Pos}
theorem pe_loc (i : Nat) {x : Str} {pos : Pos} (hN : X.N[i]? = some x := by rfl) (hv : Vis X.env.scope x := by first | exact Or.inl rfl | exact Or.inr (Or.inl rfl) | exact Or.inr (Or.inr rfl)) (hd : (x == ("__debug__" : Str)) = false := by decide)
    (hcd : (x == ("__classdict__" : Str)) = false := by decide) : PE X (.Name x pos) (tE X.K call (.loc i)) :=
  peM (pe_var hN hv hd hcd) fun σ H Q h => by
    obtain ⟨W, η, d, S', ok, env, he, fin⟩ := h
    unfold ev at he
    split at he
    · rename_i d' hd
      cases he
      obtain ⟨v, h1, h2⟩ := env.get i _ hd
      exact ⟨v, h1, fin W v H (Le.refl W) rfl ok h2⟩
    · cases he
theorem pa_n : PA X [] (tA X.K call .nil) := paM pa_nil fun σ H Q h => by
  obtain ⟨W, η, d, S', ok, env, he, fin⟩ := h
  cases he
  exact fin W [] H (Le.refl W) rfl ok .nil
theorem ta_cons {σ : L2.St} {H : Hp} {K : PySem.W.Frag} {Q : List V → Hp → Prop} (h : tA K call (.cons ca cb) σ H Q) : tE K call ca σ H fun x H1 => tA K call cb σ H1 fun xs H2 => Q (x :: xs) H2 := by
  obtain ⟨W, η, ds, S', ok, env, he, fin⟩ := h
  unfold ev at he
  obtain ⟨z, h1, h2⟩ := bind_one he
  obtain ⟨y, h3, h4⟩ := bind_some h2
  cases h4
  refine ⟨W, η, z.1, z.2, ok, env, h1, fun W1 v H1 l1 s1 ok1 d1 => ⟨W1, η, y.1, y.2, ok1, env.mono l1, by rw [s1]; exact h3, fun W2 vs H2 l2 s2 ok2 d2 => ?_⟩⟩
  exact fin W2 (v :: vs) H2 (l1.trans l2) s2 ok2 (.cons (l2.den d1) d2)
theorem pa_c (h : PE X e (tE X.K call ca)) (hs : PA X es (tA X.K call cb)) (hst : starEach (e :: es) X.env = (false, eval e X.env) :: starEach es X.env := by rfl) : PA X (e :: es) (tA X.K call (.cons ca cb)) := paM (pa_cons h hs hst) fun σ H Q h => ta_cons h
/-- one, two values, told as arguments -/
theorem te_args {σ : L2.St} {H : Hp} {K : PySem.W.Frag} {Q : VK} {f : Prim} (h : tE K call (.prim f ca) σ H Q) : tA K call ca σ H fun vs H1 => ∃ W ds d S', Wok K W H1 ∧ DenA K W.F W.ρ vs ds ∧ f ds W.S = some (d, S') ∧ FinV K W S' d Q := by
  obtain ⟨W, η, d, S', ok, env, he, fin⟩ := h
  unfold ev at he
  obtain ⟨z, h1, h2⟩ := bind_some he
  obtain ⟨y, h3, h4⟩ := bind_some h2
  cases h4
  refine ⟨W, η, z.1, z.2, ok, env, h1, fun W1 vs H1 l1 s1 ok1 d1 => ⟨W1, z.1, y.1, y.2, ok1, d1, by rw [s1]; exact h3, fun W2 v H2 l2 s2 ok2 d2 => fin W2 v H2 (l1.trans l2) s2 ok2 d2⟩⟩
theorem ta_nil {σ : L2.St} {H : Hp} {K : PySem.W.Frag} {Q : List V → Hp → Prop} (h : tA K call .nil σ H Q) : Q [] H := by
  obtain ⟨W, η, d, S', ok, env, he, fin⟩ := h
  cases he
  exact fin W [] H (Le.refl W) rfl ok .nil
/-- what the rules by values ask of a primitive -/
def P1 (K : PySem.W.Frag) (r : V → Hp → VK → Prop) (f : Prim) : Prop := ∀ (W : Wd) (H : Hp) (x : V) (dx d : D) (S' : List SO) (Q : VK), Wok K W H → Den K W.F W.ρ x dx → f [dx] W.S = some (d, S') → FinV K W S' d Q → r x H Q
def P2 (K : PySem.W.Frag) (r : V → V → Hp → VK → Prop) (f : Prim) : Prop := ∀ (W : Wd) (H : Hp) (x y : V) (dx dy d : D) (S' : List SO) (Q : VK), Wok K W H → Den K W.F W.ρ x dx → Den K W.F W.ρ y dy → f [dx, dy] W.S = some (d, S') → FinV K W S' d Q → r x y H Q
def PN (K : PySem.W.Frag) (r : List V → Hp → VK → Prop) (f : Prim) : Prop := ∀ (W : Wd) (H : Hp) (vs : List V) (ds : List D) (d : D) (S' : List SO) (Q : VK), Wok K W H → DenA K W.F W.ρ vs ds → f ds W.S = some (d, S') → FinV K W S' d Q → r vs H Q
theorem to_p1 {σ : L2.St} {H : Hp} {K : PySem.W.Frag} {Q : VK} {f : Prim} {r : V → Hp → VK → Prop} (p : P1 K r f) (h : tE K call (.prim f (.cons ca .nil)) σ H Q) : tE K call ca σ H fun x H1 => r x H1 Q := by
  obtain ⟨W, η, d, S', ok, env, he, fin⟩ := ta_cons (te_args h)
  refine ⟨W, η, d, S', ok, env, he, fun W1 v H1 l s o dd => ?_⟩
  obtain ⟨W2, ds, d2, S2, ok2, dn, hf, fin2⟩ := ta_nil (fin W1 v H1 l s o dd)
  cases dn with
  | cons h1 h2 =>
    cases h2
    exact p W2 H1 v _ d2 S2 Q ok2 h1 hf fin2
theorem to_p2 {σ : L2.St} {H : Hp} {K : PySem.W.Frag} {Q : VK} {f : Prim} {r : V → V → Hp → VK → Prop} (p : P2 K r f) (h : tE K call (.prim f (.cons ca (.cons cb .nil))) σ H Q) : tE K call ca σ H fun x H1 => tE K call cb σ H1 fun y H2 => r x y H2 Q := by
  obtain ⟨W, η, d, S', ok, env, he, fin⟩ := ta_cons (te_args h)
  refine ⟨W, η, d, S', ok, env, he, fun W1 v H1 l s o dd => ?_⟩
  obtain ⟨W2, η2, d2, S2, ok2, env2, he2, fin2⟩ := ta_cons (fin W1 v H1 l s o dd)
  refine ⟨W2, η2, d2, S2, ok2, env2, he2, fun W3 v3 H3 l3 s3 o3 dd3 => ?_⟩
  obtain ⟨W4, ds, d4, S4, ok4, dn, hf, fin4⟩ := ta_nil (fin2 W3 v3 H3 l3 s3 o3 dd3)
  cases dn with
  | cons h1 h2 =>
    cases h2 with
    | cons h3 h4 =>
      cases h4
      exact p W4 H3 v v3 _ _ d4 S4 Q ok4 h1 h3 hf fin4
theorem to_pn {σ : L2.St} {H : Hp} {K : PySem.W.Frag} {Q : VK} {f : Prim} {r : List V → Hp → VK → Prop} (p : PN K r f) (h : tE K call (.prim f ca) σ H Q) : tA K call ca σ H fun vs H1 => r vs H1 Q := by
  obtain ⟨W, η, d, S', ok, env, he, fin⟩ := te_args h
  refine ⟨W, η, d, S', ok, env, he, fun W1 v H1 l s o dd => ?_⟩
  obtain ⟨W2, ds, d2, S2, ok2, dn, hf, fin2⟩ := fin W1 v H1 l s o dd
  exact p W2 H1 v ds d2 S2 Q ok2 dn hf fin2
theorem pe_bin {op : Operator} {r : V → V → Hp → VK → Prop} {f : Prim} (ho : OpR X (binaryOp op) r) (p : P2 X.K r f) (ha : PE X a (tE X.K call ca)) (hb : PE X b (tE X.K call cb)) : PE X (.BinOp a op b pos) (tE X.K call (.prim f (.cons ca (.cons cb .nil)))) :=
  peM (pe_op ho ha hb) fun σ H Q h => to_p2 p h
theorem pe_c2 {op : CmpOp} {r : V → V → Hp → VK → Prop} {f : Prim} (ho : OpR X (compareOp op) r) (p : P2 X.K r f) (ha : PE X a (tE X.K call ca)) (hb : PE X b (tE X.K call cb)) (hm : behindInMarks op b = false) : PE X (.Compare a [op] [b] pos) (tE X.K call (.prim f (.cons ca (.cons cb .nil)))) :=
  peM (pe_cmpR ho ha hb hm) fun σ H Q h => to_p2 p h
theorem te_bool {σ : L2.St} {H : Hp} {K : PySem.W.Frag} {Q : Bool → Hp → Prop} (h : tT K call ca σ H Q) : tE K call ca σ H fun x H' => ∃ k, x = .bl k ∧ Q k H' := by
  obtain ⟨W, η, d, S', ok, env, he, fin⟩ := h
  refine ⟨W, η, _, S', ok, env, he, fun W1 v H1 l s o dd => ?_⟩
  cases dd
  exact ⟨d, rfl, fin W1 H1 l s o⟩
theorem pt_c2 {op : CmpOp} {r : V → V → Hp → VK → Prop} {f : Prim} (ho : OpR X (compareOp op) r) (p : P2 X.K r f) (ha : PE X a (tE X.K call ca)) (hb : PE X b (tE X.K call cb)) (hm : behindInMarks op b = false) : PT X (.Compare a [op] [b] pos) (tT X.K call (.prim f (.cons ca (.cons cb .nil)))) :=
  ptM (pt_cmpR ho ha hb hm) fun σ H Q h => to_p2 p (te_bool h)
theorem pe_u1 {op : UnaryOp} {r : V → Hp → VK → Prop} {f : Prim} (ho : UnR X (unaryOp op) r) (p : P1 X.K r f) (ha : PE X a (tE X.K call ca)) : PE X (.UnaryOp op a pos) (tE X.K call (.prim f (.cons ca .nil))) :=
  peM (pe_un ho ha) fun σ H Q h => to_p1 p h
theorem pe_i2 {r : V → V → Hp → VK → Prop} {f : Prim} (hi : IxR X r) (p : P2 X.K r f) (ha : PE X a (tE X.K call ca)) (hb : PE X b (tE X.K call cb)) (hs : PlainIx b) : PE X (.Subscript a b pos) (tE X.K call (.prim f (.cons ca (.cons cb .nil)))) :=
  peM (pe_ix hi ha hb hs) fun σ H Q h => to_p2 p h
/-- a value's truth, for data -/
def tru : D → Option Bool
  | .none => some false
  | .bool b => some b
  | .int i => some (decide (i ≠ 0))
  | .str x => some (!x.length == 0)
  | .list ds => some (!ds.isEmpty)
  | .tuple ds => some (!ds.isEmpty)
  | _ => none
end
end Iv

set_option Elab.async false
set_option linter.all false
set_option maxRecDepth 100000
set_option maxHeartbeats 2000000
namespace Iv
open PySem PySem.Spec PyProof.Rows L2
open Evl (Ex ex_l ex_t)

theorem evc {call : CallT} {a b : E} {η : En} {S S' : List SO} {ds : List D} (h : ev call (.cons a b) η S = some (ds, S')) : ∃ d S1 ds', ev call a η S = some ([d], S1) ∧ ev call b η S1 = some (ds', S') ∧ ds = d :: ds' := by
  rw [ev] at h
  obtain ⟨⟨d, S1⟩, h1, h2⟩ := bind_one h
  obtain ⟨⟨ds', S2⟩, h3, h4⟩ := bind_some h2
  cases h4
  exact ⟨d, S1, ds', h1, h3, rfl⟩
theorem evn {call : CallT} {η : En} {S S' : List SO} {ds : List D} (h : ev call .nil η S = some (ds, S')) : ds = [] ∧ S' = S := by
  rw [ev] at h
  cases h
  exact ⟨rfl, rfl⟩
section
variable {X : Cx} {call : CallT} {e a b c : Expr} {es rest : List Expr} {ca cb cc : E} {pos : Pos} {K : PySem.W.Frag} {σ : L2.St} {H : Hp}
theorem tt_of {Q : Bool → Hp → Prop} (h : tT K call ca σ H Q) : ∃ (W : Wd) (η : En) (b : Bool) (S' : List SO), Wok K W H ∧ EnvOk K W η σ ∧ ev call ca η W.S = some ([.bool b], S') ∧ ∀ (W' : Wd) (H' : Hp), Le W W' → W'.S = S' → Wok K W' H' → Q b H' := h
theorem tt_and {Q : Bool → Hp → Prop} (h : tT K call (.and ca cb) σ H Q) : tAnd (tT K call ca) (tT K call cb) σ H Q := by
  obtain ⟨W, η, b, S', ok, env, he, fin⟩ := h
  unfold ev at he
  obtain ⟨z, h1, h2⟩ := bind_one he
  obtain ⟨zd, zS⟩ := z
  dsimp only at h1 h2
  split at h2
  · obtain ⟨y, h3, h4⟩ := bind_one h2
    obtain ⟨yd, yS⟩ := y
    dsimp only at h3 h4
    split at h4
    · cases h4
      refine ⟨W, η, true, _, ok, env, h1, fun W1 H1 l1 s1 ok1 => ?_⟩
      refine iteT ?_
      exact ⟨W1, η, _, _, ok1, env.mono l1, by rw [s1]; exact h3, fun W2 H2 l2 s2 ok2 => fin W2 H2 (l1.trans l2) s2 ok2⟩
    · cases h4
  · cases h2
    refine ⟨W, η, false, _, ok, env, h1, fun W1 H1 l1 s1 ok1 => ?_⟩
    refine iteF ?_
    exact fin W1 H1 l1 s1 ok1
  · cases h2
theorem tt_or {Q : Bool → Hp → Prop} (h : tT K call (.or ca cb) σ H Q) : tOr (tT K call ca) (tT K call cb) σ H Q := by
  obtain ⟨W, η, b, S', ok, env, he, fin⟩ := h
  unfold ev at he
  obtain ⟨z, h1, h2⟩ := bind_one he
  obtain ⟨zd, zS⟩ := z
  dsimp only at h1 h2
  split at h2
  · obtain ⟨y, h3, h4⟩ := bind_one h2
    obtain ⟨yd, yS⟩ := y
    dsimp only at h3 h4
    split at h4
    · cases h4
      refine ⟨W, η, false, _, ok, env, h1, fun W1 H1 l1 s1 ok1 => ?_⟩
      refine iteF ?_
      exact ⟨W1, η, _, _, ok1, env.mono l1, by rw [s1]; exact h3, fun W2 H2 l2 s2 ok2 => fin W2 H2 (l1.trans l2) s2 ok2⟩
    · cases h4
  · cases h2
    refine ⟨W, η, true, _, ok, env, h1, fun W1 H1 l1 s1 ok1 => ?_⟩
    refine iteT ?_
    exact fin W1 H1 l1 s1 ok1
  · cases h2
theorem w1a (h : PT X a (tT X.K call ca)) : PW X (.BoolOp .And [a] pos) (tT X.K call ca) := pw_and1 h
theorem w1o (h : PT X a (tT X.K call ca)) : PW X (.BoolOp .Or [a] pos) (tT X.K call ca) := pw_or1 h
theorem wand (ha : PT X a (tT X.K call ca)) (hb : PW X (.BoolOp .And (b :: rest) pos) (tT X.K call cb)) : PW X (.BoolOp .And (a :: b :: rest) pos) (tT X.K call (.and ca cb)) :=
  ⟨fun wh pins s σ H Q I q => (pw_and ha hb).run wh pins s σ H Q I (tt_and q)⟩
theorem wor (ha : PT X a (tT X.K call ca)) (hb : PW X (.BoolOp .Or (b :: rest) pos) (tT X.K call cb)) : PW X (.BoolOp .Or (a :: b :: rest) pos) (tT X.K call (.or ca cb)) :=
  ⟨fun wh pins s σ H Q I q => (pw_or ha hb).run wh pins s σ H Q I (tt_or q)⟩
/-- not -/
def notP : Prim := fun ds S => match ds with
  | [.bool b] => some (.bool (!b), S)
  | _ => none
theorem tnot (ha : PT X a (tT X.K call ca)) : PT X (.UnaryOp .Not a pos) (tT X.K call (.prim notP (.cons ca .nil))) := ptM (pt_not ha) fun σ H Q h => by
  obtain ⟨W, η, b, S', ok, env, he, fin⟩ := h
  unfold ev at he
  obtain ⟨z, h1, h2⟩ := bind_some he
  obtain ⟨⟨yd, yS⟩, h3, h4⟩ := bind_some h2
  cases h4
  unfold ev at h1
  obtain ⟨u, h5, h6⟩ := bind_one h1
  obtain ⟨v, h7, h8⟩ := bind_some h6
  unfold ev at h7
  cases h7
  cases h8
  obtain ⟨ud, uS⟩ := u
  dsimp only at h3 h5
  unfold notP at h3
  split at h3
  · rename_i k hk
    cases hk
    cases h3
    exact ⟨W, η, k, _, ok, env, h5, fun W1 H1 l s o => fin W1 H1 l s o⟩
  · cases h3
def truS (d : D) (S : List SO) : Option Bool := match d with
  | .none => some false
  | .bool b => some b
  | .int i => some (i != 0)
  | .str x => if x.length ≤ 100000 then some ((x.length : Int) != 0) else none
  | .list ds => some (!ds.isEmpty)
  | .tuple ds => some (!ds.isEmpty)
  | .dict [(.int (Int.ofNat i), .none)] => match S[i]? with
    | some (.lst ds) => some (!ds.isEmpty)
    | _ => none
  | _ => none
def truP : Prim := fun ds S => match ds with
  | [d] => (truS d S).map fun b => (.bool b, S)
  | _ => none
theorem DenA.empty {F : Hp} {ρ : List Addr} {xs : List V} {ds : List D} (h : DenA K F ρ xs ds) : xs.isEmpty = ds.isEmpty := by
  cases h <;> rfl
theorem tru_ok {W : Wd} {x : V} {d : D} {b : Bool} (ok : Wok K W H) (h : Den K W.F W.ρ x d) (ht : truS d W.S = some b) : TruV K x H b := by
  cases h with
  | non => cases ht; rfl
  | bl k => cases ht; rfl
  | int i => cases ht; rfl
  | str y =>
    unfold truS at ht
    dsimp only at ht
    split at ht
    · rename_i hy
      cases ht
      exact ⟨Evl.sz_of hy, rfl⟩
    · cases ht
  | lst h r => cases ht; exact .inl ⟨_, SqL.of (ok.ex _ _ h), by rw [r.empty]⟩
  | tup h r => cases ht; exact .inr (.inl ⟨_, ex_t ok.ex h, by rw [r.empty]⟩)
  | @ref i a h =>
    unfold truS at ht
    dsimp only at ht
    split at ht
    · rename_i ds hs
      cases ht
      obtain ⟨a', xs, h1, h2, h3, h4⟩ := ok.lst i ds hs
      rw [h1] at h; cases h
      exact .inl ⟨xs, SqL.of h3, by rw [h4.empty]⟩
    · cases ht
  | dct h => cases ht
theorem ttru (ha : PE X a (tE X.K call ca)) (he : ∀ whole, isTrue a X.env whole = (do let v ← whole; standAt a.pos; holding [v] (truthy v)) := by intro _; rfl) : PT X a (tT X.K call (.prim truP (.cons ca .nil))) := ptM (pt_truth ha he) fun σ H Q h => by
  have h2 : tE X.K call (.prim truP (.cons ca .nil)) σ H fun x H' => ∃ k, x = .bl k ∧ Q k H' := te_bool h
  have p : P1 X.K (fun x H (R : VK) => ∃ k, TruV X.K x H k ∧ R (.bl k) H) truP := fun W H x dx d S' R ok dn hf fin => by
    unfold truP at hf
    dsimp only at hf
    cases ht : truS dx W.S with
    | none => rw [ht] at hf; cases hf
    | some k =>
      rw [ht] at hf
      cases hf
      exact ⟨k, tru_ok ok dn ht, fin W (.bl k) H (Le.refl W) rfl ok (.bl k)⟩
  obtain ⟨W, η, d, S', ok, env, he', fin⟩ := to_p1 p h2
  refine ⟨W, η, d, S', ok, env, he', fun W1 v H1 l s o dd => ?_⟩
  obtain ⟨k, h3, k2, h4, h5⟩ := fin W1 v H1 l s o dd
  cases h4
  exact ⟨k, h3, h5⟩
theorem te_tt {Q : VK} (h : tE K call ca σ H Q) (hb : ∀ η S d S', ev call ca η S = some ([d], S') → ∃ b, d = .bool b) : tT K call ca σ H fun b H1 => Q (.bl b) H1 := by
  obtain ⟨W, η, d, S', ok, env, he, fin⟩ := h
  obtain ⟨b, rfl⟩ := hb _ _ _ _ he
  exact ⟨W, η, b, S', ok, env, he, fun W1 H1 l s o => fin W1 (.bl b) H1 l s o (.bl b)⟩
theorem and_b {η : En} {S S' : List SO} {d : D} (h : ev call (.and ca cb) η S = some ([d], S')) : ∃ b, d = .bool b := by
  unfold ev at h
  obtain ⟨z, h1, h2⟩ := bind_one h
  obtain ⟨zd, zS⟩ := z
  dsimp only at h1 h2
  split at h2
  · obtain ⟨y, h3, h4⟩ := bind_one h2
    obtain ⟨yd, yS⟩ := y
    dsimp only at h3 h4
    split at h4
    · cases h4; exact ⟨_, rfl⟩
    · cases h4
  · cases h2; exact ⟨_, rfl⟩
  · cases h2
theorem or_b {η : En} {S S' : List SO} {d : D} (h : ev call (.or ca cb) η S = some ([d], S')) : ∃ b, d = .bool b := by
  unfold ev at h
  obtain ⟨z, h1, h2⟩ := bind_one h
  obtain ⟨zd, zS⟩ := z
  dsimp only at h1 h2
  split at h2
  · obtain ⟨y, h3, h4⟩ := bind_one h2
    obtain ⟨yd, yS⟩ := y
    dsimp only at h3 h4
    split at h4
    · cases h4; exact ⟨_, rfl⟩
    · cases h4
  · cases h2; exact ⟨_, rfl⟩
  · cases h2
theorem te_of_tt {Q : VK} (h : tT K call ca σ H fun b H1 => Q (.bl b) H1) : tE K call ca σ H Q := by
  obtain ⟨W, η, b, S', ok, env, he, fin⟩ := h
  refine ⟨W, η, _, S', ok, env, he, fun W1 v H1 l s o dd => ?_⟩
  cases dd
  exact fin W1 H1 l s o
theorem vand (ha : PE X a (tE X.K call ca)) (hb : PE X (.BoolOp .And (b :: rest) pos) (tE X.K call cb)) : PE X (.BoolOp .And (a :: b :: rest) pos) (tE X.K call (.and ca cb)) := peM (pe_and ha hb) fun σ H Q h => by
  have h2 := tt_and (te_tt h fun _ _ _ _ q => and_b q)
  obtain ⟨W, η, b, S', ok, env, he, fin⟩ := h2
  refine ⟨W, η, _, S', ok, env, he, fun W1 v H1 l s o dd => ?_⟩
  cases dd
  refine ⟨b, rfl, ?_⟩
  have q := fin W1 H1 l s o
  cases b with
  | true =>
    dsimp only at q
    rw [if_pos rfl] at q ⊢
    exact te_of_tt q
  | false =>
    dsimp only at q
    rw [if_neg Bool.false_ne_true] at q ⊢
    exact q
theorem vor (ha : PE X a (tE X.K call ca)) (hb : PE X (.BoolOp .Or (b :: rest) pos) (tE X.K call cb)) : PE X (.BoolOp .Or (a :: b :: rest) pos) (tE X.K call (.or ca cb)) := peM (pe_or ha hb) fun σ H Q h => by
  have h2 := tt_or (te_tt h fun _ _ _ _ q => or_b q)
  obtain ⟨W, η, b, S', ok, env, he, fin⟩ := h2
  refine ⟨W, η, _, S', ok, env, he, fun W1 v H1 l s o dd => ?_⟩
  cases dd
  refine ⟨b, rfl, ?_⟩
  have q := fin W1 H1 l s o
  cases b with
  | true =>
    dsimp only at q
    rw [if_pos rfl] at q ⊢
    exact q
  | false =>
    dsimp only at q
    rw [if_neg Bool.false_ne_true] at q ⊢
    exact te_of_tt q
theorem v1 {op : BoolOp} (ha : PE X a (tE X.K call ca)) : PE X (.BoolOp op [a] pos) (tE X.K call ca) := pe_one ha
theorem vnot (ha : PE X a (tE X.K call ca)) : PE X (.UnaryOp .Not a pos) (tE X.K call (.prim notP (.cons ca .nil))) := peM (pe_not ha) fun σ H Q h => by
  have p : P1 X.K (fun x H (R : VK) => ∃ c, x = .bl c ∧ R (.bl (!c)) H) notP := fun W H x dx d S' R ok dn hf fin => by
    unfold notP at hf
    split at hf
    · rename_i k hk
      cases hk
      cases dn
      cases hf
      exact ⟨k, rfl, fin W (.bl (!k)) H (Le.refl W) rfl ok (.bl _)⟩
    · cases hf
  exact to_p1 p h
theorem vif (hc : PT X c (tT X.K call cc)) (ha : PE X a (tE X.K call ca)) (hb : PE X b (tE X.K call cb)) : PE X (.IfExp c a b pos) (tE X.K call (.ife cc ca cb)) := peM (pe_ifExp hc ha hb) fun σ H Q h => by
  obtain ⟨W, η, d, S', ok, env, he, fin⟩ := h
  unfold ev at he
  obtain ⟨z, h1, h2⟩ := bind_one he
  obtain ⟨zd, zS⟩ := z
  dsimp only at h1 h2
  split at h2
  · refine ⟨W, η, true, _, ok, env, h1, fun W1 H1 l1 s1 ok1 => ?_⟩
    refine iteT ?_
    exact ⟨W1, η, d, S', ok1, env.mono l1, by rw [s1]; exact h2, fun W2 v H2 l2 s2 ok2 d2 => fin W2 v H2 (l1.trans l2) s2 ok2 d2⟩
  · refine ⟨W, η, false, _, ok, env, h1, fun W1 H1 l1 s1 ok1 => ?_⟩
    refine iteF ?_
    exact ⟨W1, η, d, S', ok1, env.mono l1, by rw [s1]; exact h2, fun W2 v H2 l2 s2 ok2 d2 => fin W2 v H2 (l1.trans l2) s2 ok2 d2⟩
  · cases h2
theorem tif (hc : PT X c (tT X.K call cc)) (ha : PE X a (tE X.K call ca)) (hb : PE X b (tE X.K call cb)) : PE X (.IfExp c a b pos) (tE X.K call (.ife cc ca cb)) := vif hc ha hb
def spK (K : PySem.W.Frag) (call : CallT) (j : Nat) : Sp := fun vs H Q _ => ∃ (W : Wd) (ds : List D) (d : D) (S' : List SO), Wok K W H ∧ DenA K W.F W.ρ vs ds ∧ call j ds W.S = some (d, S') ∧ FinV K W S' d Q
section
variable {k : Nat} {f : Addr} {sp : Sp} {x : Str} {p : Pos} {t : TA} {E : XK} {CX : CXT}
theorem pe_fr (F : FnR X.prog X.w X.K X.mg X.base CX k f sp) (hr : Room k X.A) (hk : PySem.W.keepIn X.K (.ref f) = true) (hg : Gl X x) (hm : X.mg x = some (.ref f)) (hx : Passes CX X E) (ha : PA X (e :: es) t) (hd : (x == ("__debug__" : Str)) = false := by decide) (h1 : starEach (e :: es) X.env = (false, eval e X.env) :: starEach es X.env := by rfl) (h2 : (backTo pos (starEach es X.env)).any (·.1) = false := by rfl) : PE X (.Call (.Name x p) (e :: es) [] pos) (fun σ H Q => t σ H fun ws J => sp ws J Q E) :=
  ⟨fun pins s σ H Q I h => wpAny_Call_Name_kw (ld_glob I hg hm (PySem.W.callWith_K (h₀ := X.base) I.ok.mod.kin hk (thn (ha.run pos pins s σ H _ I h) fun us z ⟨ws, J, I1, r, q⟩ => ⟨I1.kIn, wpAny_call (run_fnR F hr hx I1 r q)⟩) h1 h2) hd)⟩
theorem pe_fr0 (F : FnR X.prog X.w X.K X.mg X.base CX k f sp) (hr : Room k X.A) (hk : PySem.W.keepIn X.K (.ref f) = true) (hg : Gl X x) (hm : X.mg x = some (.ref f)) (hx : Passes CX X E) (hd : (x == ("__debug__" : Str)) = false := by decide) : PE X (.Call (.Name x p) [] [] pos) (fun σ H Q => sp [] H Q E) :=
  ⟨fun pins s σ H Q I h => wpAny_Call_Name_kw (ld_glob I hg hm (PySem.W.callWith_K0 I.kIn hk (wpAny_call (run_fnR (us := []) F hr hx I .nil h))) hd)⟩
theorem own {j : Nat} (F : FnR X.prog X.w X.K X.mg X.base CX0 k f (spK X.K call j)) (hr : Room k X.A) (hk : PySem.W.keepIn X.K (.ref f) = true) (hm : X.mg x = some (.ref f)) (ha : PA X (e :: es) (tA X.K call ca)) (hg : Gl X x := by rfl) (hd : (x == ("__debug__" : Str)) = false := by decide) (h1 : starEach (e :: es) X.env = (false, eval e X.env) :: starEach es X.env := by rfl) (h2 : (backTo pos (starEach es X.env)).any (·.1) = false := by rfl) :
    PE X (.Call (.Name x p) (e :: es) [] pos) (tE X.K call (.call j ca)) := peM (pe_fr F hr hk hg hm pass0 ha hd h1 h2) fun σ H Q h => by
  obtain ⟨W, η, d, S', ok, env, hev, fin⟩ := h
  unfold ev at hev
  obtain ⟨z, h1, h2⟩ := bind_some hev
  obtain ⟨y, h3, h4⟩ := bind_some h2
  cases h4
  refine ⟨W, η, z.1, z.2, ok, env, h1, fun W1 vs H1 l1 s1 ok1 d1 => ⟨W1, z.1, y.1, y.2, ok1, d1, by rw [s1]; exact h3, fun W2 v H2 l2 s2 ok2 d2 => fin W2 v H2 (l1.trans l2) s2 ok2 d2⟩⟩
theorem own0 {j : Nat} (F : FnR X.prog X.w X.K X.mg X.base CX0 k f (spK X.K call j)) (hr : Room k X.A) (hk : PySem.W.keepIn X.K (.ref f) = true) (hm : X.mg x = some (.ref f)) (hg : Gl X x := by rfl) (hd : (x == ("__debug__" : Str)) = false := by decide) :
    PE X (.Call (.Name x p) [] [] pos) (tE X.K call (.call j .nil)) := peM (pe_fr0 F hr hk hg hm pass0 hd) fun σ H Q h => by
  obtain ⟨W, η, d, S', ok, env, hev, fin⟩ := h
  unfold ev at hev
  obtain ⟨z, h1, h2⟩ := bind_some hev
  obtain ⟨y, h3, h4⟩ := bind_some h2
  cases h4
  unfold ev at h1
  cases h1
  exact ⟨W, [], y.1, y.2, ok, .nil, h3, fin⟩
end
end
end Iv

set_option Elab.async false
set_option linter.all false
set_option maxRecDepth 100000
set_option maxHeartbeats 2000000
namespace Iv
open PySem PySem.Spec PyProof.Rows L2
open Evl (Ex ex_l ex_t)

def T.inn (vs : List Nat) : T → Bool
  | .nm i => decide (i ∈ vs)
  | .tp is => is.all fun i => decide (i ∈ vs)
theorem wipe_set {σ : L2.St} {j : Nat} {y : Option V} : ∀ {vs : List Nat}, j ∈ vs → L2.wipe (σ.set j y) vs = L2.wipe σ vs
  | v :: vs, h => by
    show (L2.wipe (σ.set j y) vs).set v none = (L2.wipe σ vs).set v none
    by_cases hv : j ∈ vs
    · rw [wipe_set hv]
    · have hj : j = v := by
        rcases List.mem_cons.mp h with q | q
        · exact q
        · exact absurd q hv
      subst hj
      have g : ∀ us : List Nat, j ∉ us → L2.wipe (σ.set j y) us = (L2.wipe σ us).set j y := by
        intro us
        induction us with
        | nil => intro _; rfl
        | cons u us ih =>
          intro hu
          have h1 : u ≠ j := fun q => hu (by rw [q]; exact List.mem_cons_self)
          have h2 : j ∉ us := fun q => hu (List.mem_cons_of_mem _ q)
          show (L2.wipe (σ.set j y) us).set u none = ((L2.wipe σ us).set u none).set j y
          rw [ih h2, List.set_comm _ _ (Ne.symm h1)]
      rw [g vs hv, List.set_set]
theorem wipe_wipe {σ : L2.St} : ∀ vs us : List Nat, (∀ v ∈ vs, v ∈ us) → L2.wipe (L2.wipe σ vs) us = L2.wipe σ us
  | [], us, _ => rfl
  | v :: vs, us, h => by
    show L2.wipe ((L2.wipe σ vs).set v none) us = L2.wipe σ us
    rw [wipe_set (h v List.mem_cons_self), wipe_wipe vs us fun x hx => h x (List.mem_cons_of_mem _ hx)]
/-- what a target's rule does -/
def GOk (K : PySem.W.Frag) (g : TG) (t : T) : Prop := ∀ (W : Wd) (H : Hp) (η η' : En) (σ : L2.St) (v : V) (d : D) (Q : L2.St → Hp → Prop), Wok K W H → EnvOk K W η σ → Den K W.F W.ρ v d → bindT t d η = some η' →
  (∀ σ', EnvOk K W η' σ' → (∀ vs, t.inn vs = true → L2.wipe σ' vs = L2.wipe σ vs) → Q σ' H) → g v σ H Q
theorem g_nm {K : PySem.W.Frag} (i : Nat) : GOk K (gName i) (.nm i) := fun W H η η' σ v d Q ok env dn hb k => by
  cases hb
  exact k _ (env.set i dn) fun vs hv => wipe_set (of_decide_eq_true hv)
/-- what a row of targets does -/
def GsOk (K : PySem.W.Frag) (g : TGs) (is : List Nat) : Prop := ∀ (W : Wd) (H : Hp) (η : En) (σ : L2.St) (vs : List V) (ds : List D) (Q : L2.St → Hp → Prop), Wok K W H → EnvOk K W η σ → DenA K W.F W.ρ vs ds → ds.length = is.length →
  (∀ σ', EnvOk K W (setAll η is ds) σ' → (∀ us, (∀ i ∈ is, i ∈ us) → L2.wipe σ' us = L2.wipe σ us) → Q σ' H) → g vs σ H Q
theorem gs_nil {K : PySem.W.Frag} : GsOk K gNil [] := fun W H η σ vs ds Q ok env dn hl k => by
  cases dn with
  | nil => exact ⟨rfl, k σ env fun _ _ => rfl⟩
  | cons a b => cases hl
theorem gs_cons {K : PySem.W.Frag} {i : Nat} {is : List Nat} {u : TGs} (h : GsOk K u is) : GsOk K (gCons (gName i) u) (i :: is) := fun W H η σ vs ds Q ok env dn hl k => by
  cases dn with
  | nil => cases hl
  | @cons v vs d ds h1 h2 =>
    refine ⟨v, vs, rfl, ?_⟩
    show u vs (σ.set i (some v)) H Q
    refine h W H (η.set i (some d)) (σ.set i (some v)) vs ds Q ok (env.set i h1) h2 (Nat.succ.inj hl) fun σ' env' hw => k σ' env' fun us hu => ?_
    rw [hw us fun j hj => hu j (List.mem_cons_of_mem _ hj), wipe_set (hu i List.mem_cons_self)]
theorem g_tp {K : PySem.W.Frag} {n : Nat} {u : TGs} {is : List Nat} (h : GsOk K u is) (hn : is.length = n) : GOk K (gTup K n u) (.tp is) := fun W H η η' σ v d Q ok env dn hb k => by
  unfold bindT at hb
  dsimp only at hb
  split at hb
  · split at hb
    · rename_i hl
      cases hb
      cases dn with
      | tup ht r =>
        refine ⟨_, _, rfl, ex_t ok.ex ht, by rw [r.length, hl, hn], h W H η σ _ _ Q ok env r hl fun σ' env' hw => k σ' env' fun vs hv => hw vs fun i hi => ?_⟩
        have q : (is.all fun i => decide (i ∈ vs)) = true := hv
        exact of_decide_eq_true (List.all_eq_true.mp q i hi)
    · cases hb
  · cases hb
section
variable {X : Cx} {call : CallT} {e a b : Expr} {ca cb : E} {tg : Expr} {pos : Pos}
theorem piM {X : Cx} {tg it : Expr} {t t' : TI} (h : PI X tg it t) (m : ∀ σ H R, t' σ H R → t σ H R) : PI X tg it t' := ⟨fun pins s σ H R I q => h.run pins s σ H R I (m σ H R q)⟩
abbrev ItrP := List D → List SO → Option (List D × List SO)
theorem ti_args {K : PySem.W.Frag} {σ : L2.St} {H : Hp} {R : It → Hp → Prop} {f : ItrP} (h : tI K call (.itr f ca) σ H R) : tA K call ca σ H fun vs H1 => ∃ (W : Wd) (ds items : List D) (S' : List SO), Wok K W H1 ∧ DenA K W.F W.ρ vs ds ∧ f ds W.S = some (items, S') ∧
    ∀ (W' : Wd) (J : It) (H' : Hp), Le W W' → W'.S = S' → Wok K W' H' → Goes K J items W' → R J H' := by
  obtain ⟨W, η, ds, S', ok, env, he, fin⟩ := h
  unfold ev at he
  obtain ⟨z, h1, h2⟩ := bind_some he
  exact ⟨W, η, z.1, z.2, ok, env, h1, fun W1 vs H1 l1 s1 ok1 d1 => ⟨W1, z.1, ds, S', ok1, d1, by rw [s1]; exact h2, fun W2 J H2 l2 s2 ok2 g => fin W2 J H2 (l1.trans l2) s2 ok2 g⟩⟩
/-- over a list, a tuple -/
def itL : ItrP := fun ds S => match ds with
  | [.list xs] => some (xs, S)
  | [.dict [(.int (Int.ofNat i), .none)]] => match S[i]? with
    | some (.fro xs) => some (xs, S)
    | _ => none
  | _ => none
def itT : ItrP := fun ds S => match ds with
  | [.tuple xs] => some (xs, S)
  | _ => none
theorem goes_l {K : PySem.W.Frag} {W : Wd} {a : Addr} {xs : List V} {ds : List D} (h : SqL K W.F a xs) (r : DenA K W.F W.ρ xs ds) : Goes K (Itl K a) ds W := fun i W1 H l ok => by
  have hs : SqL K H a xs := ex_l (l.ex.trans ok.ex) h
  refine ⟨fun hi => ⟨xs, hs, by rw [r.length]; exact hi⟩, fun d hd => ?_⟩
  obtain ⟨v, h1, h2⟩ := r.get hd
  refine ⟨⟨xs, v, hs, h1⟩, fun x H' hy => ?_⟩
  obtain ⟨rfl, f⟩ := hy
  have : x = v := Option.some.inj ((f xs hs).symm.trans h1)
  subst this
  exact ⟨W1, Le.refl _, rfl, ok, l.den h2⟩
theorem goes_t {K : PySem.W.Frag} {W : Wd} {a : Addr} {xs : List V} {ds : List D} (h : SqT K W.F a xs) (r : DenA K W.F W.ρ xs ds) : Goes K (Itt K a) ds W := fun i W1 H l ok => by
  have hs : SqT K H a xs := ex_t (l.ex.trans ok.ex) h
  refine ⟨fun hi => ⟨xs, hs, by rw [r.length]; exact hi⟩, fun d hd => ?_⟩
  obtain ⟨v, h1, h2⟩ := r.get hd
  refine ⟨⟨xs, v, hs, h1⟩, fun x H' hy => ?_⟩
  obtain ⟨rfl, f⟩ := hy
  have : x = v := Option.some.inj ((f xs hs).symm.trans h1)
  subst this
  exact ⟨W1, Le.refl _, rfl, ok, l.den h2⟩
theorem i_list (h : PE X e (tE X.K call ca)) : PI X tg e (tI X.K call (.itr itL (.cons ca .nil))) := piM (pi_list h) fun σ H R q => by
  obtain ⟨W, η, d, S', ok, env, he, fin⟩ := ta_cons (ti_args q)
  refine ⟨W, η, d, S', ok, env, he, fun W1 v H1 l s o dd => ?_⟩
  obtain ⟨W2, ds, items, S2, ok2, dn, hf, fin2⟩ := ta_nil (fin W1 v H1 l s o dd)
  cases dn with
  | cons h1 h2 =>
    cases h2
    unfold itL at hf
    split at hf
    · rename_i xs hx
      cases hx
      cases hf
      cases h1 with
      | lst h3 r => exact ⟨_, rfl, ⟨_, SqL.of (ok2.ex _ _ h3)⟩, fin2 W2 _ H1 (Le.refl _) rfl ok2 (goes_l (SqL.of h3) r)⟩
    · rename_i i hx
      cases hx
      split at hf
      · rename_i xs hs
        cases hf
        cases h1 with
        | ref h3 =>
          obtain ⟨a', ys, g1, g2, g3⟩ := ok2.fro i items hs
          rw [g1] at h3
          cases h3
          exact ⟨_, rfl, ⟨_, ex_l ok2.ex g2⟩, fin2 W2 _ H1 (Le.refl _) rfl ok2 (goes_l g2 g3)⟩
      · cases hf
    · cases hf
theorem i_tup (h : PE X e (tE X.K call ca)) : PI X tg e (tI X.K call (.itr itT (.cons ca .nil))) := piM (pi_tup h) fun σ H R q => by
  obtain ⟨W, η, d, S', ok, env, he, fin⟩ := ta_cons (ti_args q)
  refine ⟨W, η, d, S', ok, env, he, fun W1 v H1 l s o dd => ?_⟩
  obtain ⟨W2, ds, items, S2, ok2, dn, hf, fin2⟩ := ta_nil (fin W1 v H1 l s o dd)
  cases dn with
  | cons h1 h2 =>
    cases h2
    unfold itT at hf
    split at hf
    · rename_i xs hx
      cases hx
      cases hf
      cases h1 with
      | tup h3 r => exact ⟨_, rfl, ⟨_, ex_t ok2.ex h3⟩, fin2 W2 _ H1 (Le.refl _) rfl ok2 (goes_t h3 r)⟩
    · cases hf
/-- over a range -/
def upto (lo : Int) (n : Nat) : List D := (List.range n).map fun (k : Nat) => .int (lo + k)
def itR1 : ItrP := fun ds S => match ds with
  | [.int j] => if j < 2 ^ 40 ∧ -(2 ^ 40) ≤ j then some (upto 0 j.toNat, S) else none
  | _ => none
def itR2 : ItrP := fun ds S => match ds with
  | [.int i, .int j] => if (i < 2 ^ 40 ∧ -(2 ^ 40) ≤ i) ∧ (j < 2 ^ 40 ∧ -(2 ^ 40) ≤ j) then some (upto i (j - i).toNat, S) else none
  | _ => none
theorem upto_get {lo : Int} {n i : Nat} {d : D} (h : (upto lo n)[i]? = some d) : i < n ∧ d = .int (lo + i) := by
  unfold upto at h
  rw [List.getElem?_map] at h
  rcases Nat.lt_or_ge i n with q | q
  · rw [List.getElem?_range q] at h
    cases h
    exact ⟨q, rfl⟩
  · rw [List.getElem?_eq_none (by simpa using q)] at h
    cases h
theorem goes_r {K : PySem.W.Frag} {W : Wd} {lo : Int} {n : Nat} : Goes K (Itr lo n) (upto lo n) W := fun i W1 H l ok => by
  refine ⟨fun hi => (show n ≤ i by simpa [upto] using hi), fun d hd => ?_⟩
  obtain ⟨h1, rfl⟩ := upto_get hd
  refine ⟨h1, fun x H' hy => ?_⟩
  obtain ⟨rfl, rfl⟩ := hy
  exact ⟨W1, Le.refl _, rfl, ok, .int _⟩
theorem i_r1 {p : Pos} (hm : X.mg "range" = none) (ha : PA X [a] (tA X.K call ca)) (hg : Gl X "range" := by rfl) (hs : starEach [a] X.env = [(false, eval a X.env)] := by rfl) : PI X tg (.Call (.Name "range" p) [a] [] pos) (tI X.K call (.itr itR1 ca)) := piM (pi_range1 hg hm ha hs) fun σ H R q => by
  obtain ⟨W, η, ds, S', ok, env, he, fin⟩ := ti_args q
  refine ⟨W, η, ds, S', ok, env, he, fun W1 vs H1 l s o dd => ?_⟩
  obtain ⟨W2, es, items, S2, ok2, dn, hf, fin2⟩ := fin W1 vs H1 l s o dd
  unfold itR1 at hf
  split at hf
  · split at hf
    · rename_i hb
      cases hf
      cases dn with
      | cons h1 h2 =>
        cases h2
        cases h1
        exact ⟨_, rfl, by omega, by omega, fin2 W2 _ H1 (Le.refl _) rfl ok2 goes_r⟩
    · cases hf
  · cases hf
theorem i_r2 {p : Pos} (hm : X.mg "range" = none) (ha : PA X [a, b] (tA X.K call ca)) (hg : Gl X "range" := by rfl) (hs : starEach [a, b] X.env = [(false, eval a X.env), (false, eval b X.env)] := by rfl) (hs2 : starEach [b] X.env = [(false, eval b X.env)] := by rfl) :
    PI X tg (.Call (.Name "range" p) [a, b] [] pos) (tI X.K call (.itr itR2 ca)) := piM (pi_range2 hg hm ha hs hs2) fun σ H R q => by
  obtain ⟨W, η, ds, S', ok, env, he, fin⟩ := ti_args q
  refine ⟨W, η, ds, S', ok, env, he, fun W1 vs H1 l s o dd => ?_⟩
  obtain ⟨W2, es, items, S2, ok2, dn, hf, fin2⟩ := fin W1 vs H1 l s o dd
  unfold itR2 at hf
  split at hf
  · split at hf
    · rename_i hb
      cases hf
      cases dn with
      | cons h1 h2 =>
        cases h2 with
        | cons h3 h4 =>
          cases h4
          cases h1
          cases h3
          exact ⟨_, _, rfl, by omega, fin2 W2 _ H1 (Le.refl _) rfl ok2 goes_r⟩
    · cases hf
  · cases hf
end
section
variable {X : Cx} {call : CallT} {K : PySem.W.Frag} {σ : L2.St} {H : Hp} {it cc ce : E}
def Wd.hide (W : Wd) (p : Addr) (xs : List V) : Wd := { W with R := upd W.R p (.lst xs) }
theorem Wok.hide {W : Wd} {p : Addr} {xs : List V} (h : Wok K W H) (hF : W.F p = none) (hS : ∀ (i : Nat) (ds : List D), W.S[i]? = some (SO.lst ds) → W.ρ[i]? ≠ some p) (hH : H p = some (.lst xs)) (hR : ∀ a o, a ≠ p → W.R a = some o → H a = some o) : Wok K (W.hide p xs) H := by
  refine ⟨h.ex, h.len, fun a u e => ?_, fun a u e => ?_, fun i ds e => ?_, h.fro, h.inj⟩
  · by_cases ha : a = p
    · subst ha
      have e' : upd W.R a (.lst xs) a = some u := e
      rw [upd_same] at e'; cases e'; exact hH
    · have e' : upd W.R p (.lst xs) a = some u := e
      rw [upd_ne ha] at e'
      exact h.rex a u e'
  · by_cases ha : a = p
    · subst ha; exact hF
    · have e' : upd W.R p (.lst xs) a = some u := e
      rw [upd_ne ha] at e'
      exact h.rdis a u e'
  · obtain ⟨a, ys, h1, h2, h3, h4⟩ := h.lst i ds e
    have na : a ≠ p := fun z => hS i ds e (by rw [h1, z])
    exact ⟨a, ys, h1, ⟨h2.1, by show upd W.R p (.lst xs) a = none; rw [upd_ne na]; exact h2.2⟩, h3, h4⟩
/-- the hidden list changes, or is shown -/
theorem Wok.hidden {W : Wd} {p : Addr} {xs ys : List V} {R0 : Hp} (h : Wok K W H) (hR : W.R = upd R0 p (.lst xs)) : Wok K { W with R := upd R0 p (.lst ys) } (upd H p (.lst ys)) := by
  have hp : W.R p = some (.lst xs) := by rw [hR]; exact upd_same
  have hF : W.F p = none := h.rdis p _ hp
  have nS : ∀ a, W.R a = none → a ≠ p := fun a e z => by rw [z, hp] at e; cases e
  have old : ∀ a, a ≠ p → upd R0 p (.lst ys) a = W.R a := fun a ha => by rw [hR, upd_ne ha, upd_ne ha]
  refine ⟨fun a u e => ?_, h.len, fun a u e => ?_, fun a u e => ?_, fun i ds e => ?_, h.fro, h.inj⟩
  · have na : a ≠ p := fun z => by
      have e' : W.F a = some u := e
      rw [z, hF] at e'; cases e'
    rw [upd_ne na]; exact h.ex a u e
  · by_cases ha : a = p
    · subst ha
      have e' : upd R0 a (.lst ys) a = some u := e
      rw [upd_same] at e' ⊢; exact e'
    · have e' : upd R0 p (.lst ys) a = some u := e
      rw [old a ha] at e'
      rw [upd_ne ha]; exact h.rex a u e'
  · by_cases ha : a = p
    · subst ha; exact hF
    · have e' : upd R0 p (.lst ys) a = some u := e
      rw [old a ha] at e'
      exact h.rdis a u e'
  · obtain ⟨a, zs, h1, h2, h3, h4⟩ := h.lst i ds e
    have na : a ≠ p := nS a h2.2
    exact ⟨a, zs, h1, ⟨h2.1, by show upd R0 p (.lst ys) a = none; rw [old a na]; exact h2.2⟩, by rw [upd_ne na]; exact h3, h4⟩
theorem Wok.shown {W : Wd} {p : Addr} {xs : List V} {R0 : Hp} (h : Wok K W H) (hR : W.R = upd R0 p (.lst xs)) (h0 : R0 p = none) : Wok K { W with R := R0, F := upd W.F p (.lst xs) } H ∧ Ex W.F (upd W.F p (.lst xs)) := by
  have hp : W.R p = some (.lst xs) := by rw [hR]; exact upd_same
  have hF : W.F p = none := h.rdis p _ hp
  have ex : Ex W.F (upd W.F p (.lst xs)) := Ex.new hF
  have old : ∀ a o, R0 a = some o → a ≠ p ∧ W.R a = some o := fun a o e => by
    have na : a ≠ p := fun z => by rw [z, h0] at e; cases e
    exact ⟨na, by rw [hR, upd_ne na]; exact e⟩
  have l : Le W { W with R := W.R, F := upd W.F p (.lst xs) } := ⟨ex, ⟨[], by simp⟩, rfl⟩
  refine ⟨⟨fun a u e => ?_, h.len, fun a u e => h.rex a u (old a u e).2, fun a u e => ?_, fun i ds e => ?_, fun i ds e => ?_, h.inj⟩, ex⟩
  · by_cases ha : a = p
    · subst ha
      have e' : upd W.F a (.lst xs) a = some u := e
      rw [upd_same] at e'; cases e'
      exact h.rex a _ hp
    · have e' : upd W.F p (.lst xs) a = some u := e
      rw [upd_ne ha] at e'
      exact h.ex a u e'
  · obtain ⟨na, e2⟩ := old a u e
    show upd W.F p (.lst xs) a = none
    rw [upd_ne na]; exact h.rdis a u e2
  · obtain ⟨a, zs, h1, h2, h3, h4⟩ := h.lst i ds e
    have na : a ≠ p := fun z => by
      have q := h2.2
      rw [z, hp] at q; cases q
    refine ⟨a, zs, h1, ⟨by show upd W.F p (.lst xs) a = none; rw [upd_ne na]; exact h2.1, ?_⟩, h3, l.dena h4⟩
    cases q : R0 a with
    | none => exact q
    | some o =>
      have e2 := (old a o q).2
      rw [h2.2] at e2; cases e2
  · obtain ⟨a, zs, h1, h2, h4⟩ := h.fro i ds e
    exact ⟨a, zs, h1, ex_l ex h2, l.dena h4⟩
theorem tlc {g : TG} {t : T} {wi : TI} {Q : VK} {vs : List Nat} (hg : GOk K g t) (hin : t.inn vs = true) (hwi : ∀ R, tI K call it σ H R → wi σ H R) (h : tE K call (.lc t it cc ce vs) σ H Q) : tLc wi g (tT K call cc) (tE K call ce) vs σ H Q := by
  obtain ⟨W, η, d, S', ok, env, he, fin⟩ := h
  unfold ev at he
  obtain ⟨⟨items, S1⟩, h1, h2⟩ := bind_some he
  dsimp only at h2
  split at h2
  rotate_left
  · cases h2
  rename_i hsz
  obtain ⟨⟨out, S2⟩, h3, h4⟩ := bind_some h2
  have hd : d = .list out := by simpa using (congrArg (fun o => o.map (·.1)) h4).symm
  have hS : S' = S2 := by simpa using (congrArg (fun o => o.map (·.2)) h4).symm
  subst hd hS
  refine hwi _ ⟨W, η, items, S1, ok, env, h1, fun W1 J H1 l1 s1 ok1 gs => fun Dl hD => ?_⟩
  have hF1 : W1.F Dl = none := ok1.free hD
  have hR1 : W1.R Dl = none := ok1.freeR hD
  have envw := (env.wipe vs).mono l1
  refine ⟨fun i m Hc => m = items.length - i ∧ i ≤ items.length ∧ ∃ (Wc : Wd) (acc : List V) (dacc rest : List D), Le0 W1 Wc ∧ Wc.R = upd W1.R Dl (.lst acc) ∧ Wok K Wc Hc ∧ DenA K Wc.F Wc.ρ acc dacc ∧ dacc.length ≤ i ∧
      lcRun (ev call cc) (ev call ce) t (wipeE η vs) (items.drop i) Wc.S = some (rest, S') ∧ out = dacc ++ rest, ⟨items.length, by simp, Nat.zero_le _, ?_⟩, ?_⟩
  · have ok2 : Wok K (W1.hide Dl []) (upd H1 Dl (.lst [])) := by
      refine ⟨fun a u e => ?_, ok1.len, fun a u e => ?_, fun a u e => ?_, fun j ds e => ?_, ok1.fro, ok1.inj⟩
      · have na : a ≠ Dl := fun z => by
          have e' : W1.F a = some u := e
          rw [z, hF1] at e'; cases e'
        rw [upd_ne na]; exact ok1.ex a u e
      · by_cases ha : a = Dl
        · subst ha
          have e' : upd W1.R a (.lst []) a = some u := e
          rw [upd_same] at e' ⊢; exact e'
        · have e' : upd W1.R Dl (.lst []) a = some u := e
          rw [upd_ne ha] at e' ⊢; exact ok1.rex a u e'
      · by_cases ha : a = Dl
        · subst ha; exact hF1
        · have e' : upd W1.R Dl (.lst []) a = some u := e
          rw [upd_ne ha] at e'; exact ok1.rdis a u e'
      · obtain ⟨a, ys, g1, g2, g3, g4⟩ := ok1.lst j ds e
        have na : a ≠ Dl := ne_of_none g3 hD
        exact ⟨a, ys, g1, ⟨g2.1, by show upd W1.R Dl (.lst []) a = none; rw [upd_ne na]; exact g2.2⟩, by rw [upd_ne na]; exact g3, g4⟩
    exact ⟨W1.hide Dl [], [], [], out, ⟨Ex.refl _, ⟨[], by simp [Wd.hide]⟩⟩, rfl, ok2, .nil, Nat.zero_le _, by
      show lcRun (ev call cc) (ev call ce) t (wipeE η vs) (items.drop 0) W1.S = some (out, S')
      rw [s1]; exact h3, rfl⟩
  · rintro i m Hc ⟨rfl, hi, Wc, acc, dacc, rest, lc, hR, okc, da, hlen, hrun, hout⟩
    obtain ⟨g1, g2⟩ := gs i Wc Hc lc okc
    rcases Nat.lt_or_ge i items.length with hlt | hge
    · -- a turn
      have hitem : items[i]? = some items[i] := by simp [hlt]
      obtain ⟨hgo, hy⟩ := g2 _ hitem
      have hdrop : items.drop i = items[i] :: items.drop (i + 1) := List.drop_eq_getElem_cons hlt
      rw [hdrop] at hrun
      unfold lcRun at hrun
      obtain ⟨η1, hb, hrun⟩ := bind_some hrun
      obtain ⟨⟨cd, cS⟩, hc, hrun⟩ := bind_one hrun
      dsimp only at hc hrun
      refine .inr ⟨hgo, fun H' => ∃ (Wn : Wd) (acc : List V) (dacc rest : List D), Le0 W1 Wn ∧ Wn.R = upd W1.R Dl (.lst acc) ∧ Wok K Wn H' ∧ DenA K Wn.F Wn.ρ acc dacc ∧ dacc.length ≤ i + 1 ∧
        lcRun (ev call cc) (ev call ce) t (wipeE η vs) (items.drop (i + 1)) Wn.S = some (rest, S') ∧ out = dacc ++ rest, fun H' hN => ⟨items.length - (i + 1), by omega, rfl, hlt, hN⟩, fun x H' hyl => ?_⟩
      obtain ⟨Wy, ly, sy, oky, dy⟩ := hy x H' hyl
      have lcy : Le0 W1 Wy := lc.trans ly.l0
      refine hg Wy H' (wipeE η vs) η1 (L2.wipe σ vs) x _ _ oky ((env.wipe vs).mono0 (l1.l0.trans lcy)) dy hb fun σ' env' hw => ⟨?_, ?_⟩
      · rw [hw vs hin, wipe_wipe vs vs fun _ h => h]
      · have hRy : Wy.R = upd W1.R Dl (.lst acc) := ly.rr.trans hR
        have day := ly.dena da
        split at hrun
        · -- the test holds
          obtain ⟨⟨yd, yS⟩, hye, hrun⟩ := bind_one hrun
          obtain ⟨⟨zs, zS⟩, hz, hrun⟩ := bind_some hrun
          dsimp only at hye hz hrun
          have hrest : rest = yd :: zs := by simpa using (congrArg (fun o => o.map (·.1)) hrun).symm
          have hzS : S' = zS := by simpa using (congrArg (fun o => o.map (·.2)) hrun).symm
          subst hrest hzS
          refine ⟨Wy, η1, true, cS, oky, env', by rw [sy]; exact hc, fun W2 H2 l2 s2 ok2 => ?_⟩
          refine iteT ?_
          refine ⟨W2, η1, yd, yS, ok2, env'.mono l2, by rw [s2]; exact hye, fun W3 v H3 l3 s3 ok3 d3 => ?_⟩
          have hR3 : W3.R = upd W1.R Dl (.lst acc) := (l2.trans l3).rr.trans hRy
          have hD3 : H3 Dl = some (.lst acc) := ok3.rex Dl _ (by rw [hR3]; exact upd_same)
          have da3 := (l2.trans l3).dena day
          refine ⟨acc, hD3, Evl.sz_lt (by rw [da3.length]; omega), ?_⟩
          have ok4 := ok3.hidden (ys := acc ++ [v]) hR3
          refine ⟨{ W3 with R := upd W1.R Dl (.lst (acc ++ [v])) }, acc ++ [v], dacc ++ [yd], zs, lcy.trans ⟨(l2.trans l3).ex, (l2.trans l3).pre⟩, rfl, ok4, da3.append (.cons d3 .nil), by rw [List.length_append]; simp; omega, by
            show lcRun (ev call cc) (ev call ce) t (wipeE η vs) (items.drop (i + 1)) W3.S = some (zs, S')
            rw [s3]; exact hz, by rw [hout, List.append_assoc]; rfl⟩
        · -- the test does not hold
          refine ⟨Wy, η1, false, cS, oky, env', by rw [sy]; exact hc, fun W2 H2 l2 s2 ok2 => ?_⟩
          refine iteF ?_
          exact ⟨W2, acc, dacc, rest, lcy.trans l2.l0, l2.rr.trans hRy, ok2, l2.dena day, by omega, by rw [s2]; exact hrun, hout⟩
        · cases hrun
    · -- the end
      refine .inl ⟨g1 hge, ?_⟩
      have e0 : items.drop i = [] := List.drop_eq_nil_of_le hge
      rw [e0] at hrun
      unfold lcRun at hrun
      have hrest : rest = [] := by simpa using (congrArg (fun o => o.map (·.1)) hrun).symm
      have hzS : S' = Wc.S := by simpa using (congrArg (fun o => o.map (·.2)) hrun).symm
      obtain ⟨oks, exs⟩ := okc.shown hR hR1
      have lx : Le0 Wc { Wc with R := W1.R, F := upd Wc.F Dl (.lst acc) } := ⟨exs, ⟨[], by simp⟩⟩
      have l2 : Le W { Wc with R := W1.R, F := upd Wc.F Dl (.lst acc) } := by
        have q := (l1.l0.trans lc).trans lx
        exact ⟨q.ex, q.pre, l1.rr⟩
      refine fin { Wc with R := W1.R, F := upd Wc.F Dl (.lst acc) } (.ref Dl) Hc l2 hzS.symm oks (.lst upd_same ?_)
      rw [hout, hrest, List.append_nil]
      exact lx.dena da
end
end Iv

set_option Elab.async false
set_option linter.all false
set_option maxRecDepth 100000
set_option maxHeartbeats 2000000
namespace Iv
open PySem PySem.Spec PyProof.Rows L2
open Evl (Ex ex_l ex_t)

section
variable {X : Cx} {call : CallT} {K : PySem.W.Frag} {σ : L2.St} {H : Hp} {ce cc it : E} {ca cb : C} {e tg iter : Expr} {st : Stmt} {rest body : List Stmt} {pos : Pos}
theorem FinS.mono {W W1 : Wd} {r : Fl × En × List SO} {D : Ends} (h : FinS K W r D) (l : Le W W1) : FinS K W1 r D := fun W' H' l' s' ok' => h W' H' (l.trans l') s' ok'
theorem FinS.bk {W : Wd} {r : Fl × En × List SO} {D : Ends} {nx' : L2.St → Hp → Prop} {fl : Fl} (h : FinS K W r D) (hf : r.1 = fl) (hne : fl ≠ .nx) : FinS K W r { D with nx := nx' } := fun W' H' l' s' ok' => by
  have q := h W' H' l' s' ok'
  obtain ⟨f, r2⟩ := r
  dsimp only at hf
  subst hf
  cases f with
  | nx => exact absurd rfl hne
  | brk => exact q
  | cnt => exact q
  | ret d => exact q
theorem s_seq (h1 : PS X st (tS X.K call ca)) (h2 : PSs X rest (tS X.K call cb)) : PSs X (st :: rest) (tS X.K call (.seq ca cb)) := pssM (pss_cons h1 h2) fun D σ H h => by
  obtain ⟨W, η, r, ok, env, he, fin⟩ := h
  unfold exc at he
  obtain ⟨⟨fl, η1, S1⟩, h1, h2⟩ := bind_some he
  dsimp only at h2
  cases fl with
  | nx => exact ⟨W, η, _, ok, env, h1, fun W1 H1 l1 s1 ok1 σ1 env1 => ⟨W1, η1, r, ok1, env1, by rw [s1]; exact h2, fin.mono l1⟩⟩
  | brk => cases h2; exact ⟨W, η, _, ok, env, h1, fin.bk rfl (by intro z; cases z)⟩
  | cnt => cases h2; exact ⟨W, η, _, ok, env, h1, fin.bk rfl (by intro z; cases z)⟩
  | ret d => cases h2; exact ⟨W, η, _, ok, env, h1, fin.bk rfl (by intro z; cases z)⟩
theorem s_one (h : PS X st (tS X.K call ca)) : PSs X [st] (tS X.K call ca) := pss_one h
theorem s_nil : PSs X [] (tS X.K call .skip) := pssM pss_nil fun D σ H h => by
  obtain ⟨W, η, r, ok, env, he, fin⟩ := h
  cases he
  exact fin W H (Le.refl _) rfl ok σ env
theorem s_pass : PS X (.Pass pos) (tS X.K call .skip) := psM ps_pass fun D σ H h => by
  obtain ⟨W, η, r, ok, env, he, fin⟩ := h
  cases he
  exact fin W H (Le.refl _) rfl ok σ env
theorem s_brk : PS X (.Break pos) (tS X.K call .brk) := psM ps_break fun D σ H h => by
  obtain ⟨W, η, r, ok, env, he, fin⟩ := h
  cases he
  exact fin W H (Le.refl _) rfl ok σ env
theorem s_cnt : PS X (.Continue pos) (tS X.K call .cnt) := psM ps_continue fun D σ H h => by
  obtain ⟨W, η, r, ok, env, he, fin⟩ := h
  cases he
  exact fin W H (Le.refl _) rfl ok σ env
theorem s_abort : PS X st (tS X.K call .abort) := psM ps_never fun D σ H h => by
  obtain ⟨W, η, r, ok, env, he, fin⟩ := h
  cases he
theorem s_retn : PS X (.Return none pos) (tS X.K call .retn) := psM ps_retN fun D σ H h => by
  obtain ⟨W, η, r, ok, env, he, fin⟩ := h
  cases he
  exact fin W H (Le.refl _) rfl ok _ .non
theorem s_ret (h : PE X e (tE X.K call ce)) : PS X (.Return (some e) pos) (tS X.K call (.ret ce)) := psM (ps_ret h) fun D σ H h => by
  obtain ⟨W, η, r, ok, env, he, fin⟩ := h
  unfold exc at he
  obtain ⟨⟨d, S1⟩, h1, h2⟩ := bind_one he
  cases h2
  exact ⟨W, η, _, _, ok, env, h1, fun W1 v H1 l1 s1 ok1 d1 => fin W1 H1 l1 s1 ok1 v d1⟩
theorem s_dex (h : PE X e (tE X.K call ce)) (hs : swapsWith e none pos.line X.env = pure false := by rfl) : PS X (.Expr e pos) (tS X.K call (.dex ce)) := psM (ps_expr h hs) fun D σ H h => by
  obtain ⟨W, η, r, ok, env, he, fin⟩ := h
  unfold exc at he
  obtain ⟨⟨d, S1⟩, h1, h2⟩ := bind_one he
  cases h2
  exact ⟨W, η, _, _, ok, env, h1, fun W1 v H1 l1 s1 ok1 d1 => fin W1 H1 l1 s1 ok1 σ (env.mono l1)⟩
theorem ta_asg {g : TG} {t : T} {D : Ends} (hg : GOk K g t) (h : tS K call (.asg t ce) D σ H) : tAsg (tE K call ce) g D σ H := by
  obtain ⟨W, η, r, ok, env, he, fin⟩ := h
  unfold exc at he
  obtain ⟨⟨d, S1⟩, h1, h2⟩ := bind_one he
  obtain ⟨η1, h3, h4⟩ := bind_some h2
  cases h4
  exact ⟨W, η, _, _, ok, env, h1, fun W1 v H1 l1 s1 ok1 d1 => hg W1 H1 η η1 σ v d _ ok1 (env.mono l1) d1 h3 fun σ' env' _ => fin W1 H1 l1 s1 ok1 σ' env'⟩
theorem s_set {i : Nat} {x : Str} {pos' : Pos} (h : PE X e (tE X.K call ce)) (hN : X.N.Nodup) (hi : X.N[i]? = some x := by rfl) (hx : Loc X.env.scope x := by first | exact Or.inl rfl | exact Or.inr rfl)
    (hs : swapsWith e (some (.Name x pos')) pos.line X.env = pure false := by rfl) (hf : X.fn x = true ∨ X.env.scope.names.lookup x = some .local := by first | exact .inl rfl | exact .inr rfl) :
    PS X (.Assign [.Name x pos'] e pos) (tS X.K call (.asg (.nm i) ce)) := psM (ps_set hN hi hx h hs hf) fun D σ H h => ta_asg (g_nm i) h
theorem s_asg {g : TG} {t : T} (hg : GOk X.K g t) (h : PE X e (tE X.K call ce)) (ht : PG X tg g) (hs : swapsWithSole [tg] e pos.line X.env = pure false := by rfl) (hw : swappedStores [tg] e X.env = pure none := by rfl)
    (ha : List.map (fun x => x.snd) (assignEach [tg] X.env) = [assign tg X.env] := by rfl) : PS X (.Assign [tg] e pos) (tS X.K call (.asg t ce)) := psM (ps_asg h ht hs hw ha) fun D σ H h => ta_asg hg h
theorem s_par {i j : Nat} {x y : Str} {a b : Expr} {px py pt pt2 : Pos} {kt k2 : Nat} (hc : X.calm = true) (hN : X.N.Nodup) (h : PA X [a, b] (tA X.K call ce)) (hi : X.N[i]? = some x := by rfl) (hj : X.N[j]? = some y := by rfl) (hij : i ≠ j := by decide)
    (hx : List.lookup x X.env.scope.names = some NameKind.local := by rfl) (hy : List.lookup y X.env.scope.names = some NameKind.local := by rfl)
    (hw : swappedStores [Expr.Tuple [Expr.Name x px, Expr.Name y py] kt pt] (Expr.Tuple [a, b] k2 pt2) X.env = pure (some [x, y]) := by rfl)
    (hs : swapsWithSole [Expr.Tuple [Expr.Name x px, Expr.Name y py] kt pt] (Expr.Tuple [a, b] k2 pt2) pos.line X.env = pure false := by rfl) :
    PS X (.Assign [.Tuple [.Name x px, .Name y py] kt pt] (.Tuple [a, b] k2 pt2) pos) (tS X.K call (.par i j ce)) := psM (ps_par hc hN hi hj hij hx hy h hw hs) fun D σ H h => by
  obtain ⟨W, η, r, ok, env, he, fin⟩ := h
  unfold exc at he
  obtain ⟨⟨ds, S1⟩, h1, h2⟩ := bind_some he
  dsimp only at h2
  split at h2
  · cases h2
    refine ⟨W, η, _, _, ok, env, h1, fun W1 vs H1 l1 s1 ok1 d1 => ?_⟩
    cases d1 with
    | cons a1 a2 =>
      cases a2 with
      | cons b1 b2 =>
        cases b2
        exact ⟨_, _, rfl, fin W1 H1 l1 s1 ok1 _ (((env.mono l1).set i a1).set j b1)⟩
  · cases h2
theorem s_if {c : Expr} {a b : List Stmt} (hc : PT X c (tT X.K call cc)) (ha : PSs X a (tS X.K call ca)) (hb : PSs X b (tS X.K call cb)) : PS X (.If c a b pos) (tS X.K call (.ite cc ca cb)) := psM (ps_if hc ha hb) fun D σ H h => by
  obtain ⟨W, η, r, ok, env, he, fin⟩ := h
  unfold exc at he
  obtain ⟨⟨d, S1⟩, h1, h2⟩ := bind_one he
  dsimp only at h1 h2
  split at h2
  · refine ⟨W, η, true, S1, ok, env, h1, fun W1 H1 l1 s1 ok1 => ?_⟩
    refine iteT ?_
    exact ⟨W1, η, r, ok1, env.mono l1, by rw [s1]; exact h2, fin.mono l1⟩
  · refine ⟨W, η, false, S1, ok, env, h1, fun W1 H1 l1 s1 ok1 => ?_⟩
    refine iteF ?_
    exact ⟨W1, η, r, ok1, env.mono l1, by rw [s1]; exact h2, fin.mono l1⟩
  · cases h2
theorem tfor {g : TG} {t : T} {wi : TI} {D : Ends} (hg : GOk K g t) (hwi : ∀ R, tI K call it σ H R → wi σ H R) (h : tS K call (.forr t it ca) D σ H) : tFor wi g (tS K call ca) D σ H := by
  obtain ⟨W, η, r, ok, env, he, fin⟩ := h
  unfold exc at he
  obtain ⟨⟨items, S1⟩, h1, h2⟩ := bind_some he
  refine hwi _ ⟨W, η, items, S1, ok, env, h1, fun W1 J H1 l1 s1 ok1 gs => ?_⟩
  refine ⟨fun i m σc Hc => m = items.length - i ∧ i ≤ items.length ∧ ∃ (Wc : Wd) (ηc : En), Le W1 Wc ∧ Wok K Wc Hc ∧ EnvOk K Wc ηc σc ∧ loopF (exc call ca) t (items.drop i) ηc Wc.S = some r, ⟨items.length, by simp, Nat.zero_le _, W1, η, Le.refl _, ok1, env.mono l1, by
    show loopF (exc call ca) t (items.drop 0) η W1.S = some r
    rw [s1]; exact h2⟩, ?_⟩
  rintro i m σc Hc ⟨rfl, hi, Wc, ηc, lc, okc, envc, hrun⟩
  obtain ⟨g1, g2⟩ := gs i Wc Hc lc.l0 okc
  rcases Nat.lt_or_ge i items.length with hlt | hge
  · have hitem : items[i]? = some items[i] := by simp [hlt]
    obtain ⟨hgo, hy⟩ := g2 _ hitem
    have hdrop : items.drop i = items[i] :: items.drop (i + 1) := List.drop_eq_getElem_cons hlt
    rw [hdrop] at hrun
    unfold loopF at hrun
    obtain ⟨η1, hb, hrun⟩ := bind_some hrun
    obtain ⟨⟨fl, η2, S2⟩, hbody, hrun⟩ := bind_some hrun
    dsimp only at hrun
    refine .inr ⟨hgo, fun σ' H' => ∃ (Wn : Wd) (ηn : En), Le W1 Wn ∧ Wok K Wn H' ∧ EnvOk K Wn ηn σ' ∧ loopF (exc call ca) t (items.drop (i + 1)) ηn Wn.S = some r, fun σ' H' hN => ⟨items.length - (i + 1), by omega, rfl, hlt, hN⟩, fun x H' hyl => ?_⟩
    obtain ⟨Wy, ly, sy, oky, dy⟩ := hy x H' hyl
    refine hg Wy H' ηc η1 σc x _ _ oky (envc.mono ly) dy hb fun σ' env' _ => ?_
    refine ⟨Wy, η1, (fl, η2, S2), oky, env', by rw [sy]; exact hbody, fun W3 H3 l3 s3 ok3 => ?_⟩
    have l13 := (lc.trans ly).trans l3
    cases fl with
    | nx => exact fun σ3 env3 => ⟨W3, η2, l13, ok3, env3, by rw [s3]; exact hrun⟩
    | cnt => exact fun σ3 env3 => ⟨W3, η2, l13, ok3, env3, by rw [s3]; exact hrun⟩
    | brk => cases hrun; exact fun σ3 env3 => fin W3 H3 (l1.trans l13) s3 ok3 σ3 env3
    | ret d => cases hrun; exact fun v dv => fin W3 H3 (l1.trans l13) s3 ok3 v dv
  · refine .inl ⟨g1 hge, ?_⟩
    have e0 : items.drop i = [] := List.drop_eq_nil_of_le hge
    rw [e0] at hrun
    unfold loopF at hrun
    cases hrun
    exact fin Wc Hc (l1.trans lc) rfl okc σc envc
theorem s_for {g : TG} {t : T} (hg : GOk X.K g t) (hp : PassesOwn (model X.prog X.w) X.A X.env X.xe) (hc : X.calm = true) (hi : PI X tg iter (tI X.K call it)) (ht : PG X tg g) (hb : PSs X body (tS X.K call ca)) (hf : ∀ (x : Value), foldedSetIterable iter X.env x = pure x := by intro _; rfl) :
    PS X (.For tg iter body [] pos) (tS X.K call (.forr t it ca)) := psM (ps_for hp hc hi ht hb hf) fun D σ H h => tfor hg (fun _ q => q) h
theorem twhile {n : Nat} {D : Ends} (h : tS K call (.whl n cc ca) D σ H) : tWhile (tT K call cc) (tS K call ca) D σ H := by
  obtain ⟨W, η, r, ok, env, he, fin⟩ := h
  unfold exc at he
  refine ⟨fun m σc Hc => ∃ (Wc : Wd) (ηc : En), Le W Wc ∧ Wok K Wc Hc ∧ EnvOk K Wc ηc σc ∧ loopW (ev call cc) (exc call ca) m ηc Wc.S = some r, ⟨n, W, η, Le.refl _, ok, env, he⟩, ?_⟩
  rintro m σc Hc ⟨Wc, ηc, lc, okc, envc, hrun⟩
  cases m with
  | zero => unfold loopW at hrun; cases hrun
  | succ m =>
    unfold loopW at hrun
    obtain ⟨⟨d, S1⟩, h1, hrun⟩ := bind_one hrun
    dsimp only at h1 hrun
    split at hrun
    · obtain ⟨⟨fl, η2, S2⟩, hbody, hrun⟩ := bind_some hrun
      dsimp only at hrun
      refine ⟨Wc, ηc, true, S1, okc, envc, h1, fun W1 H1 l1 s1 ok1 => ?_⟩
      refine iteT ?_
      refine ⟨fun σ' H' => ∃ (Wn : Wd) (ηn : En), Le W Wn ∧ Wok K Wn H' ∧ EnvOk K Wn ηn σ' ∧ loopW (ev call cc) (exc call ca) m ηn Wn.S = some r, fun σ' H' hN => ⟨m, Nat.lt_succ_self m, hN⟩, ?_⟩
      refine ⟨W1, ηc, (fl, η2, S2), ok1, envc.mono l1, by rw [s1]; exact hbody, fun W3 H3 l3 s3 ok3 => ?_⟩
      have l13 := (lc.trans l1).trans l3
      cases fl with
      | nx => exact fun σ3 env3 => ⟨W3, η2, l13, ok3, env3, by rw [s3]; exact hrun⟩
      | cnt => exact fun σ3 env3 => ⟨W3, η2, l13, ok3, env3, by rw [s3]; exact hrun⟩
      | brk => cases hrun; exact fun σ3 env3 => fin W3 H3 l13 s3 ok3 σ3 env3
      | ret d => cases hrun; exact fun v dv => fin W3 H3 l13 s3 ok3 v dv
    · cases hrun
      refine ⟨Wc, ηc, false, S1, okc, envc, h1, fun W1 H1 l1 s1 ok1 => ?_⟩
      refine iteF ?_
      exact fin W1 H1 (lc.trans l1) s1 ok1 σc (envc.mono l1)
    · cases hrun
theorem s_while {c : Expr} (n : Nat) (hp : PassesOwn (model X.prog X.w) X.A X.env X.xe) (hc : PT X c (tT X.K call cc)) (hb : PSs X body (tS X.K call ca)) : PS X (.While c body [] pos) (tS X.K call (.whl n cc ca)) := psM (ps_while hp hc hb) fun D σ H h => twhile h
end
structure Def where
  slots : Nat
  ar : Nat
  star : Bool
  body : C
def startE (n : Nat) (ds : List D) : En := ds.map some ++ List.replicate (n - ds.length) none
def runD (call : CallT) (d : Def) (ds : List D) (S : List SO) : Option (D × List SO) := (exc call d.body (startE d.slots ds) S).bind fun r => match r.1 with
  | .ret x => some (x, r.2.2)
  | .nx => some (.none, r.2.2)
  | _ => none
def callN (tab : Nat → Option Def) : Nat → CallT
  | 0, _, _, _ => none
  | k + 1, f, ds, S => match tab f with
    | some d => match d.star with
      | false => if ds.length = d.ar then runD (callN tab k) d ds S else none
      | true => if d.ar ≤ ds.length ∧ ds.length ≤ 100000 then runD (callN tab k) d (ds.take d.ar ++ [.tuple (ds.drop d.ar)]) S else none
    | none => none
theorem envOk_start {K : PySem.W.Frag} {W : Wd} {N : List Str} {vs : List V} {ds : List D} (r : DenA K W.F W.ρ vs ds) : EnvOk K W (startE N.length ds) (start N vs) := by
  have hl := r.length
  refine ⟨by simp [startE, L2.start, hl], fun i d e => ?_⟩
  unfold startE at e
  rcases Nat.lt_or_ge i ds.length with q | q
  · rw [List.getElem?_append_left (by simpa using q), List.getElem?_map] at e
    have e2 : ds[i]? = some d := by
      cases h : ds[i]? with
      | none => rw [h] at e; cases e
      | some c => rw [h] at e; simpa using e
    obtain ⟨v, h1, h2⟩ := r.get e2
    refine ⟨v, ?_, h2⟩
    unfold L2.start
    rw [List.getElem?_append_left (by simp; omega), List.getElem?_map, h1]
    rfl
  · rw [List.getElem?_append_right (by simpa using q)] at e
    rw [List.getElem?_replicate] at e
    split at e <;> cases e
section
variable {P : Program} {w : World} {K : PySem.W.Frag} {mg : Str → Option Value} {base : Heap}
theorem run_den {call : CallT} {d : Def} {ds : List D} {x : D} {S' : List SO} {W : Wd} {H : Hp} {vs : List V} {N : List Str} {Q : VK} (hslots : d.slots = N.length) (ok : Wok K W H) (dn : DenA K W.F W.ρ vs ds) (hc : runD call d ds W.S = some (x, S')) (fin : FinV K W S' x Q) :
    tS K call d.body { nx := fun _ H' => Q .non H', rt := Q } (L2.start N vs) H := by
  unfold runD at hc
  obtain ⟨⟨fl, η', S1⟩, he, hc⟩ := bind_some hc
  rw [hslots] at he
  dsimp only at hc
  refine ⟨W, _, (fl, η', S1), ok, envOk_start dn, he, fun W1 H1 l1 s1 ok1 => ?_⟩
  cases fl with
  | nx => cases hc; exact fun σ' _ => fin W1 .non H1 l1 s1 ok1 .non
  | ret y => cases hc; exact fun v dv => fin W1 v H1 l1 s1 ok1 dv
  | brk => cases hc
  | cnt => cases hc
theorem fn_ok {tab : Nat → Option Def} {j : Nat} {d : Def} {x qual : Str} {st : Stmt} {f : Addr} {fd : FuncData} {N ps : List Str} {k : Nat} (F : Fun K x qual st f fd) (S : FnScope N ps (defScope st)) (htab : tab j = some d) (hstar : d.star = false) (hslots : d.slots = N.length) (har : d.ar = ps.length)
    (hbody : ∀ (cdv : Value) (A : Around) (outer : List Env) (s : Shared) (H : Hp) (E : XK), Room k (A.deeper (envOfC qual (defScope st) s.heap.objs.size f cdv)) →
      PSs (cxOf CX0 P w K mg base N qual (defScope st) f cdv A outer s H E).nox (defBody st) (tS K (callN tab k) d.body)) : FnOk P w K mg base CX0 (k + 1) f fd ps (spK K (callN tab (k + 1)) j) := by
  have key : ∀ {ds : List D} {S : List SO} {z : D × List SO}, callN tab (k + 1) j ds S = some z → ds.length = d.ar ∧ runD (callN tab k) d ds S = some z := fun {ds S z} hc => by
    unfold callN at hc
    rw [htab] at hc
    dsimp only at hc
    rw [hstar] at hc
    dsimp only at hc
    split at hc
    · rename_i hl; exact ⟨hl, hc⟩
    · cases hc
  refine F.ok S (fun vs H Q E h => ?_) (fun cdv A outer s H vs Q E hr h => ⟨_, hbody cdv A outer s H E hr, ?_⟩)
  · obtain ⟨W, ds, x, S', ok, dn, hc, fin⟩ := h
    rw [dn.length, (key hc).1, har]
  · obtain ⟨W, ds, x, S', ok, dn, hc, fin⟩ := h
    exact run_den hslots ok dn (key hc).2 fin
theorem fn_def {tab : Nat → Option Def} {j : Nat} {d : Def} {x qual : Str} {st : Stmt} {f : Addr} {fd : FuncData} {N ps : List Str} {k : Nat} (F : Fun K x qual st f fd) (S : FnScope N ps (defScope st)) (hb : Binds K fd ps []) (htab : tab j = some d) (hstar : d.star = false) (hslots : d.slots = N.length) (har : d.ar = ps.length)
    (hbody : ∀ (cdv : Value) (A : Around) (outer : List Env) (s : Shared) (H : Hp) (E : XK), Room k (A.deeper (envOfC qual (defScope st) s.heap.objs.size f cdv)) →
      PSs (cxOf CX0 P w K mg base N qual (defScope st) f cdv A outer s H E).nox (defBody st) (tS K (callN tab k) d.body)) : FnR P w K mg base CX0 (k + 1) f (spK K (callN tab (k + 1)) j) :=
  ((fn_ok F S htab hstar hslots har hbody).raw hb (dvs := []) .nil).imp fun vs H Q E h => by
    show spK K (callN tab (k + 1)) j (vs ++ []) H Q E
    rw [List.append_nil]
    exact h
theorem DenA.split {F : Hp} {ρ : List Addr} : ∀ {vs : List V} {ds : List D} (n : Nat), DenA K F ρ vs ds → DenA K F ρ (vs.take n) (ds.take n) ∧ DenA K F ρ (vs.drop n) (ds.drop n) := fun n h => ⟨h.take n, h.drop n⟩
/-- def f(a, .., *rest) -/
theorem fn_st {tab : Nat → Option Def} {j : Nat} {d : Def} {x qual : Str} {st : Stmt} {f : Addr} {fd : FuncData} {N ps : List Str} {pv : Str} {k : Nat} (F : Fun K x qual st f fd) (S : FnScope N (ps ++ [pv]) (defScope st)) (htab : tab j = some d) (hstar : d.star = true) (hslots : d.slots = N.length) (har : d.ar = ps.length)
    (hb : ∀ (kV doc pm : Value) (an : Option Addr) (cdv ct : Value) (us rest : List Value), us.length = ps.length → bindArgs (PySem.W.fnOf x qual (defArgs st) (defBody st) (defScope st) .none kV doc pm an cdv ct) ⟨us ++ rest, []⟩ = (newTuple rest >>= fun t => pure (ps.zip us ++ [(pv, t)])))
    (hbody : ∀ (cdv : Value) (A : Around) (outer : List Env) (s : Shared) (H : Hp) (E : XK), Room k (A.deeper (envOfC qual (defScope st) s.heap.objs.size f cdv)) →
      PSs (cxOf CX0 P w K mg base N qual (defScope st) f cdv A outer s H E).nox (defBody st) (tS K (callN tab k) d.body)) : FnR P w K mg base CX0 (k + 1) f (spK K (callN tab (k + 1)) j) := by
  have key : ∀ {ds : List D} {S : List SO} {z : D × List SO}, callN tab (k + 1) j ds S = some z → (d.ar ≤ ds.length ∧ ds.length ≤ 100000) ∧ runD (callN tab k) d (ds.take d.ar ++ [.tuple (ds.drop d.ar)]) S = some z := fun {ds S z} hc => by
    unfold callN at hc
    rw [htab] at hc
    dsimp only at hc
    rw [hstar] at hc
    dsimp only at hc
    split at hc
    · rename_i hl; exact ⟨hl, hc⟩
    · cases hc
  obtain ⟨oc, od, kV, doc, pm, an, cdv, ct, osl, rfl, lk, hcd⟩ := F.ex
  let sp2 : Sp := fun vs H Q _ => ∃ (W : Wd) (ds : List D) (x : D) (S' : List SO), Wok K W H ∧ DenA K W.F W.ρ vs ds ∧ runD (callN tab k) d ds W.S = some (x, S') ∧ FinV K W S' x Q
  have G : FnR P w K mg base CX0 (k + 1) f (fun vs H Q E => ∃ ws rest, vs = ws ++ rest ∧ ws.length = ps.length ∧ rest.length ≤ sizeLine ∧ ∀ p, H p = Option.none → sp2 (ws ++ [V.ref p]) (upd H p (.tup rest)) Q E) :=
    StX.fn_star (sp := sp2) lk hcd S StX.cxUp_none (fun us rest hl => hb kV doc pm an cdv ct us rest hl) fun A outer s H vs Q E hr h => ⟨_, (hbody cdv A outer s H E hr).nox, by
      obtain ⟨W, ds, x, S', ok, dn, hc, fin⟩ := h
      exact run_den hslots ok dn hc fin⟩
  refine G.imp fun vs H Q E h => ?_
  obtain ⟨W, ds, x, S', ok, dn, hc, fin⟩ := h
  obtain ⟨hl, hrun⟩ := key hc
  refine ⟨vs.take ps.length, vs.drop ps.length, (List.take_append_drop _ _).symm, ?_, ?_, fun p hp => ?_⟩
  · rw [List.length_take, dn.length, ← har]; omega
  · exact Evl.sz_of (by rw [List.length_drop, dn.length]; omega)
  · obtain ⟨ok2, l, s2, e⟩ := ok.lay (o := .tup (vs.drop ps.length)) hp
    refine ⟨W.lay p (.tup (vs.drop ps.length)), _, x, S', ok2, ?_, hrun, fun W' v H' l' s' ok' d' => fin W' v H' (l.trans l') s' ok' d'⟩
    rw [har]
    exact (l.dena (dn.take _)).append (.cons (.tup (SqT.of e) (l.dena (dn.drop _))) .nil)
theorem fn_none {tab : Nat → Option Def} {k j : Nat} {f : Addr} (h : tab j = none) : FnR P w K mg base CX0 k f (spK K (callN tab k) j) := fun A outer s H us vs Q E hr e0 r h2 => by
  obtain ⟨W, ds, x, S', ok, dn, hc, fin⟩ := h2
  cases k with
  | zero => cases hc
  | succ k => unfold callN at hc; rw [h] at hc; cases hc
theorem fn_zero {tab : Nat → Option Def} {j : Nat} {f : Addr} : FnR P w K mg base CX0 0 f (spK K (callN tab 0) j) := fun A outer s H us vs Q E hr e0 r h => by
  obtain ⟨W, ds, x, S', ok, dn, hc, fin⟩ := h
  cases hc
end
end Iv

set_option Elab.async false
set_option linter.all false
set_option maxRecDepth 100000
set_option maxHeartbeats 2000000
namespace Iv
open PySem PySem.Spec PyProof.Rows L2
open Evl (Ex ex_l ex_t)

section
variable {X : Cx} {call : CallT} {K : PySem.W.Frag} {σ : L2.St} {H : Hp} {ca cb cc ce : E} {a b c e : Expr} {es : List Expr} {pos : Pos}
def cD (d : D) : E := .prim (fun ds S => match ds with
  | [] => some (d, S)
  | _ => none) .nil
theorem te_cD {d : D} {Q : VK} (h : tE K call (cD d) σ H Q) : ∃ W : Wd, Wok K W H ∧ FinV K W W.S d Q := by
  obtain ⟨W, ds, d', S', ok, dn, hf, fin⟩ := ta_nil (te_args h)
  cases dn with
  | nil =>
    cases hf
    exact ⟨W, ok, fin⟩
theorem k_int {i : Int} {j : Nat} : PE X (.Constant (.int i) j pos) (tE X.K call (cD (.int i))) := peM pe_int fun σ H Q h => by
  obtain ⟨W, ok, fin⟩ := te_cD h
  exact fin W _ H (Le.refl _) rfl ok (.int i)
theorem k_bl {i : Bool} {j : Nat} : PE X (.Constant (.bool i) j pos) (tE X.K call (cD (.bool i))) := peM pe_bl fun σ H Q h => by
  obtain ⟨W, ok, fin⟩ := te_cD h
  exact fin W _ H (Le.refl _) rfl ok (.bl i)
theorem k_non {j : Nat} : PE X (.Constant .none j pos) (tE X.K call (cD .none)) := peM pe_non fun σ H Q h => by
  obtain ⟨W, ok, fin⟩ := te_cD h
  exact fin W _ H (Le.refl _) rfl ok .non
theorem k_str {i : Str} {j : Nat} : PE X (.Constant (.str i) j pos) (tE X.K call (cD (.str i))) := peM pe_str fun σ H Q h => by
  obtain ⟨W, ok, fin⟩ := te_cD h
  exact fin W _ H (Le.refl _) rfl ok (.str i)
/-- a module's constant -/
theorem k_gint {x : Str} {i : Int} (hm : ∃ t, X.mg x = some (.int i t)) (hg : Gl X x := by rfl) (hd : (x == ("__debug__" : Str)) = false := by decide) : PE X (.Name x pos) (tE X.K call (cD (.int i))) := peM (pe_glob (v := .int i) hg hm.choose_spec ⟨_, rfl⟩ hd) fun σ H Q h => by
  obtain ⟨W, ok, fin⟩ := te_cD h
  exact fin W _ H (Le.refl _) rfl ok (.int i)
def i2 (g : Int → Int → Option D) : Prim := fun ds S => match ds with
  | [.int i, .int j] => (g i j).map fun d => (d, S)
  | _ => none
theorem i2_some {g : Int → Int → Option D} {dx dy d : D} {S S' : List SO} (h : i2 g [dx, dy] S = some (d, S')) : ∃ i j, dx = .int i ∧ dy = .int j ∧ g i j = some d ∧ S' = S := by
  unfold i2 at h
  split at h
  · rename_i i j hds
    cases hds
    cases hg : g i j with
    | none => rw [hg] at h; cases h
    | some d' => rw [hg] at h; cases h; exact ⟨i, j, rfl, rfl, hg, rfl⟩
  · cases h
theorem p2_rI {C : Int → Int → Prop} {g : Int → Int → Option D} {h : Int → Int → V} {hd : Int → Int → D} (hv : ∀ F ρ i j, Den K F ρ (h i j) (hd i j)) (hg : ∀ i j d, g i j = some d → C i j ∧ d = hd i j) : P2 K (rI C h) (i2 g) := fun W H x y dx dy d S' Q ok h1 h2 hf fin => by
  obtain ⟨i, j, rfl, rfl, e, rfl⟩ := i2_some hf
  obtain ⟨hc, rfl⟩ := hg i j d e
  cases h1
  cases h2
  exact ⟨i, j, rfl, rfl, hc, fin W _ H (Le.refl _) rfl ok (hv _ _ i j)⟩
theorem p2_rI0 {h : Int → Int → V} {hd : Int → Int → D} (hv : ∀ F ρ i j, Den K F ρ (h i j) (hd i j)) : P2 K (rI0 h) (i2 fun i j => some (hd i j)) := fun W H x y dx dy d S' Q ok h1 h2 hf fin => by
  obtain ⟨i, j, rfl, rfl, e, rfl⟩ := i2_some hf
  cases e
  cases h1
  cases h2
  exact ⟨i, j, rfl, rfl, fin W _ H (Le.refl _) rfl ok (hv _ _ i j)⟩
/-- one of two rules, one of two primitives -/
def orP (f g : Prim) : Prim := fun ds S => match f ds S with
  | some r => some r
  | none => g ds S
theorem p2_or {r r' : V → V → Hp → VK → Prop} {f g : Prim} (h1 : P2 K r f) (h2 : P2 K r' g) : P2 K (fun x y H Q => r x y H Q ∨ r' x y H Q) (orP f g) := fun W H x y dx dy d S' Q ok d1 d2 hf fin => by
  unfold orP at hf
  split at hf
  · rename_i r hr
    cases hf
    exact .inl (h1 W H x y dx dy d S' Q ok d1 d2 hr fin)
  · exact .inr (h2 W H x y dx dy d S' Q ok d1 d2 hf fin)
theorem pn_or {r r' : List V → Hp → VK → Prop} {f g : Prim} (h1 : PN K r f) (h2 : PN K r' g) : PN K (fun x H Q => r x H Q ∨ r' x H Q) (orP f g) := fun W H vs ds d S' Q ok d1 hf fin => by
  unfold orP at hf
  split at hf
  · rename_i r hr
    cases hf
    exact .inl (h1 W H vs ds d S' Q ok d1 hr fin)
  · exact .inr (h2 W H vs ds d S' Q ok d1 hf fin)
def addI : Prim := i2 fun i j => some (.int (i + j))
def addS : Prim := fun ds S => match ds with
  | [.str x, .str y] => if x.length + y.length ≤ 100000 then some (.str (x ++ y), S) else none
  | _ => none
def addL : Prim := fun ds S => match ds with
  | [.list xs, .list ys] => if xs.length + ys.length ≤ 100000 then some (.list (xs ++ ys), S) else none
  | _ => none
def addT : Prim := fun ds S => match ds with
  | [.tuple xs, .tuple ys] => if xs.length + ys.length ≤ 100000 ∧ xs.isEmpty = false then some (.tuple (xs ++ ys), S) else none
  | _ => none
def addP : Prim := orP addI (orP addS (orP addL addT))
theorem p2_addS : P2 K (fun x y H Q => ∃ i j, x = .str i ∧ y = .str j ∧ i.length + j.length ≤ sizeLine ∧ Q (.str (i ++ j)) H) addS := fun W H x y dx dy d S' Q ok h1 h2 hf fin => by
  unfold addS at hf
  split at hf
  · rename_i i j hds
    cases hds
    split at hf
    · rename_i hz
      cases hf
      cases h1
      cases h2
      exact ⟨_, _, rfl, rfl, Evl.sz_of hz, fin W _ H (Le.refl _) rfl ok (.str _)⟩
    · cases hf
  · cases hf
theorem p2_addL : P2 K rCat addL := fun W H x y dx dy d S' Q ok h1 h2 hf fin => by
  unfold addL at hf
  split at hf
  · rename_i i j hds
    cases hds
    split at hf
    · rename_i hz
      cases hf
      cases h1 with
      | lst a1 r1 =>
        cases h2 with
        | lst a2 r2 =>
          refine ⟨_, _, _, _, rfl, rfl, ok.ex _ _ a1, ok.ex _ _ a2, Evl.sz_of (by rw [r1.length, r2.length]; exact hz), fun p hp => ?_⟩
          obtain ⟨ok2, l, s, e⟩ := ok.lay (o := .lst _) hp
          exact fin _ _ _ l s ok2 (.lst e (l.dena (r1.append r2)))
    · cases hf
  · cases hf
theorem p2_addT : P2 K (rCatT K) addT := fun W H x y dx dy d S' Q ok h1 h2 hf fin => by
  unfold addT at hf
  split at hf
  · rename_i i j hds
    cases hds
    split at hf
    · rename_i hz
      cases hf
      cases h1 with
      | tup a1 r1 =>
        cases h2 with
        | tup a2 r2 =>
          refine ⟨_, _, _, _, rfl, rfl, ex_t ok.ex a1, ex_t ok.ex a2, ?_, Evl.sz_of (by rw [r1.length, r2.length]; exact hz.1), fun e => ?_, fun e p hp => ?_⟩
          · intro e
            subst e
            cases r1
            cases hz.2
          · subst e
            cases r2
            rw [List.append_nil] at fin
            exact fin W _ H (Le.refl _) rfl ok (.tup a1 r1)
          · obtain ⟨ok2, l, s, e⟩ := ok.lay (o := .tup _) hp
            exact fin _ _ _ l s ok2 (.tup (SqT.of e) (l.dena (r1.append r2)))
    · cases hf
  · cases hf
theorem v_add (ha : PE X a (tE X.K call ca)) (hb : PE X b (tE X.K call cb)) : PE X (.BinOp a .Add b pos) (tE X.K call (.prim addP (.cons ca (.cons cb .nil)))) :=
  pe_bin (OpR.or op_add (OpR.or op_add_str (OpR.or op_cat op_catT))) (p2_or (p2_rI0 fun _ _ _ _ => .int _) (p2_or p2_addS (p2_or p2_addL p2_addT))) ha hb
def subP : Prim := i2 fun i j => some (.int (i - j))
theorem v_sub (ha : PE X a (tE X.K call ca)) (hb : PE X b (tE X.K call cb)) : PE X (.BinOp a .Sub b pos) (tE X.K call (.prim subP (.cons ca (.cons cb .nil)))) := pe_bin op_sub (p2_rI0 fun _ _ _ _ => .int _) ha hb
def mulB (i j : Int) : Bool := decide (i.natAbs.log2 + j.natAbs.log2 < 1000000)
def mulI : Prim := i2 fun i j => if mulB i j = true then some (.int (i * j)) else none
def mulL : Prim := fun ds S => match ds with
  | [.list xs, .int k] => if -(2 ^ 63) ≤ k ∧ k < 2 ^ 63 ∧ xs.length * k.toNat ≤ 100000 then some (.list (List.replicate k.toNat xs).flatten, S) else none
  | _ => none
def mulP : Prim := orP mulI mulL
theorem DenA.flatten {F : Hp} {ρ : List Addr} {xs : List V} {ds : List D} (r : DenA K F ρ xs ds) : ∀ n, DenA K F ρ (List.replicate n xs).flatten (List.replicate n ds).flatten
  | 0 => .nil
  | n + 1 => by
    rw [List.replicate_succ, List.replicate_succ, List.flatten_cons, List.flatten_cons]
    exact r.append (DenA.flatten r n)
theorem p2_mulL : P2 K rRep mulL := fun W H x y dx dy d S' Q ok h1 h2 hf fin => by
  unfold mulL at hf
  split at hf
  · rename_i i j hds
    cases hds
    split at hf
    · rename_i hz
      cases hf
      cases h2
      cases h1 with
      | lst a1 r1 =>
        refine ⟨_, _, _, rfl, rfl, ok.ex _ _ a1, hz.1, hz.2.1, Evl.sz_of (by rw [r1.length]; exact hz.2.2), fun p hp => ?_⟩
        obtain ⟨ok2, l, s, e⟩ := ok.lay (o := .lst _) hp
        exact fin _ _ _ l s ok2 (.lst e (l.dena (r1.flatten _)))
    · cases hf
  · cases hf
theorem v_mul (ha : PE X a (tE X.K call ca)) (hb : PE X b (tE X.K call cb)) : PE X (.BinOp a .Mult b pos) (tE X.K call (.prim mulP (.cons ca (.cons cb .nil)))) :=
  pe_bin (OpR.or op_mulW op_rep) (p2_or (p2_rI (hd := fun i j => .int (i * j)) (fun _ _ _ _ => .int _) fun i j d e => by
    split at e
    · rename_i hb
      cases e
      exact ⟨(show i.natAbs.log2 + j.natAbs.log2 < 1000000 from of_decide_eq_true hb), rfl⟩
    · cases e) p2_mulL) ha hb
def divP : Prim := i2 fun i j => if 0 < j ∧ j.natAbs.log2 < 9000 then some (.int (i / j)) else none
theorem v_div (ha : PE X a (tE X.K call ca)) (hb : PE X b (tE X.K call cb)) : PE X (.BinOp a .FloorDiv b pos) (tE X.K call (.prim divP (.cons ca (.cons cb .nil)))) :=
  pe_bin op_fdivW (p2_rI (hd := fun i j => .int (i / j)) (fun _ _ _ _ => .int _) fun i j d e => by
    split at e
    · rename_i hb
      cases e
      exact ⟨hb, rfl⟩
    · cases e) ha hb
def modP : Prim := i2 fun i j => if 0 < j then some (.int (i % j)) else none
theorem v_mod (ha : PE X a (tE X.K call ca)) (hb : PE X b (tE X.K call cb)) : PE X (.BinOp a .Mod b pos) (tE X.K call (.prim modP (.cons ca (.cons cb .nil)))) :=
  pe_bin op_mod (p2_rI (hd := fun i j => .int (i % j)) (fun _ _ _ _ => .int _) fun i j d e => by
    split at e
    · rename_i hb
      cases e
      exact ⟨hb, rfl⟩
    · cases e) ha hb
theorem bits_log (x : Int) : Builtin.Int.intBits x ≤ x.natAbs.log2 + 1 := by
  unfold Builtin.Int.intBits
  split
  · omega
  · exact Nat.le_refl _
def powB (i j : Int) : Bool := decide (0 ≤ j ∧ (i.natAbs.log2 + 1) * j.toNat ≤ 2 ^ 27)
theorem op_powB : OpR X (binaryOp .Pow) (rI (fun i j => powB i j = true) fun i j => .int (i ^ j.toNat)) := opI fun i j t u s Q E hc q => by
  obtain ⟨h0, h1⟩ := of_decide_eq_true hc
  refine pow_int h0 ?_ q
  have h2 : Builtin.Int.intBits i * j.toNat ≤ (i.natAbs.log2 + 1) * j.toNat := Nat.mul_le_mul_right _ (bits_log i)
  have h3 : ((Builtin.Int.intBits i * j.toNat : Nat) : Int) ≤ 2 ^ 27 := by
    have : Builtin.Int.intBits i * j.toNat ≤ 2 ^ 27 := Nat.le_trans h2 h1
    exact_mod_cast this
  rw [Int.natCast_mul, Int.toNat_of_nonneg h0] at h3
  exact h3
def powP : Prim := i2 fun i j => if powB i j = true then some (.int (i ^ j.toNat)) else none
theorem v_pow (ha : PE X a (tE X.K call ca)) (hb : PE X b (tE X.K call cb)) : PE X (.BinOp a .Pow b pos) (tE X.K call (.prim powP (.cons ca (.cons cb .nil)))) :=
  pe_bin op_powB (p2_rI (hd := fun i j => .int (i ^ j.toNat)) (fun _ _ _ _ => .int _) fun i j d e => by
    split at e
    · rename_i hb
      cases e
      exact ⟨hb, rfl⟩
    · cases e) ha hb
def negP : Prim := fun ds S => match ds with
  | [.int i] => some (.int (-i), S)
  | _ => none
theorem v_neg (ha : PE X a (tE X.K call ca)) : PE X (.UnaryOp .USub a pos) (tE X.K call (.prim negP (.cons ca .nil))) := pe_u1 un_neg (fun W H x dx d S' Q ok h1 hf fin => by
  unfold negP at hf
  split at hf
  · rename_i i hds
    cases hds
    cases hf
    cases h1
    exact ⟨_, rfl, fin W _ H (Le.refl _) rfl ok (.int _)⟩
  · cases hf) ha
def scalD : D → D → Bool
  | .none, .none => true
  | .none, .int _ => true
  | .int _, .none => true
  | .none, .bool _ => true
  | .bool _, .none => true
  | .none, .str _ => true
  | .str _, .none => true
  | .int _, .int _ => true
  | .bool _, .bool _ => true
  | .str _, .str _ => true
  | .int _, .str _ => true
  | .str _, .int _ => true
  | .bool _, .str _ => true
  | .str _, .bool _ => true
  | _, _ => false
def scalE : D → D → Bool
  | .none, .none => true
  | .int i, .int j => decide (i = j)
  | .bool i, .bool j => decide (i = j)
  | .str i, .str j => decide (i = j)
  | _, _ => false
def eqD (d e : D) : Option Bool := if scalD d e = true then some (scalE d e) else if plain d = true ∧ plain e = true ∧ SeqAt.shaped d = true ∧ SeqAt.shaped e = true then some (PyData.eqv d e) else none
def eqP : Prim := fun ds S => match ds with
  | [x, y] => (eqD x y).map fun k => (.bool k, S)
  | _ => none
def neP : Prim := fun ds S => match ds with
  | [x, y] => (eqD x y).map fun k => (.bool (!k), S)
  | _ => none
theorem scal_den {F : Hp} {ρ : List Addr} {x y : V} {dx dy : D} (h1 : Den K F ρ x dx) (h2 : Den K F ρ y dy) (h : scalD dx dy = true) : scal x y = true ∧ decide (x = y) = scalE dx dy := by
  cases h1 <;> cases h2 <;> first | (cases h; done) | (refine ⟨rfl, ?_⟩; simp [scalE])
theorem eq_den {W : Wd} {x y : V} {dx dy : D} {k : Bool} (ok : Wok K W H) (h1 : Den K W.F W.ρ x dx) (h2 : Den K W.F W.ρ y dy) (h : eqD dx dy = some k) :
    (scal x y = true ∧ decide (x = y) = k) ∨ (Dp K H x dx ∧ Dp K H y dy ∧ SeqAt.shaped dx = true ∧ SeqAt.shaped dy = true ∧ PyData.eqv dx dy = k) := by
  unfold eqD at h
  split at h
  · rename_i hs
    cases h
    exact .inl (scal_den h1 h2 hs)
  · split at h
    · rename_i hp
      cases h
      exact .inr ⟨h1.dp ok.ex hp.1, h2.dp ok.ex hp.2.1, hp.2.2.1, hp.2.2.2, rfl⟩
    · cases h
theorem p2_eq : P2 K (fun x y H Q => rEq x y H Q ∨ rEqD K x y H Q) eqP := fun W H x y dx dy d S' Q ok h1 h2 hf fin => by
  unfold eqP at hf
  dsimp only at hf
  cases he : eqD dx dy with
  | none => rw [he] at hf; cases hf
  | some k =>
    rw [he] at hf
    cases hf
    rcases eq_den ok h1 h2 he with ⟨g1, g2⟩ | ⟨g1, g2, g3, g4, g5⟩
    · exact .inl ⟨g1, by rw [g2]; exact fin W _ H (Le.refl _) rfl ok (.bl k)⟩
    · exact .inr ⟨dx, dy, g1, g2, g3, g4, by rw [g5]; exact fin W _ H (Le.refl _) rfl ok (.bl k)⟩
theorem p2_ne : P2 K (fun x y H Q => rNe x y H Q ∨ rNeD K x y H Q) neP := fun W H x y dx dy d S' Q ok h1 h2 hf fin => by
  unfold neP at hf
  dsimp only at hf
  cases he : eqD dx dy with
  | none => rw [he] at hf; cases hf
  | some k =>
    rw [he] at hf
    cases hf
    rcases eq_den ok h1 h2 he with ⟨g1, g2⟩ | ⟨g1, g2, g3, g4, g5⟩
    · exact .inl ⟨g1, by rw [g2]; exact fin W _ H (Le.refl _) rfl ok (.bl (!k))⟩
    · exact .inr ⟨dx, dy, g1, g2, g3, g4, by rw [g5]; exact fin W _ H (Le.refl _) rfl ok (.bl (!k))⟩
theorem hu64 {A : Around} {k : Nat} (hr : Room k A) : A.units + 64 < cLine := hr.units
theorem v_eq (hu : X.A.units + 64 < cLine) (ha : PE X a (tE X.K call ca)) (hb : PE X b (tE X.K call cb)) : PE X (.Compare a [.Eq] [b] pos) (tE X.K call (.prim eqP (.cons ca (.cons cb .nil)))) := pe_c2 (OpR.or op_eq (op_eqD hu)) p2_eq ha hb (nobehind _ (by decide) (by decide))
theorem v_ne (hu : X.A.units + 64 < cLine) (ha : PE X a (tE X.K call ca)) (hb : PE X b (tE X.K call cb)) : PE X (.Compare a [.NotEq] [b] pos) (tE X.K call (.prim neP (.cons ca (.cons cb .nil)))) := pe_c2 (OpR.or op_ne (op_neD hu)) p2_ne ha hb (nobehind _ (by decide) (by decide))
theorem t_eq (hu : X.A.units + 64 < cLine) (ha : PE X a (tE X.K call ca)) (hb : PE X b (tE X.K call cb)) : PT X (.Compare a [.Eq] [b] pos) (tT X.K call (.prim eqP (.cons ca (.cons cb .nil)))) := pt_c2 (OpR.or op_eq (op_eqD hu)) p2_eq ha hb (nobehind _ (by decide) (by decide))
theorem t_ne (hu : X.A.units + 64 < cLine) (ha : PE X a (tE X.K call ca)) (hb : PE X b (tE X.K call cb)) : PT X (.Compare a [.NotEq] [b] pos) (tT X.K call (.prim neP (.cons ca (.cons cb .nil)))) := pt_c2 (OpR.or op_ne (op_neD hu)) p2_ne ha hb (nobehind _ (by decide) (by decide))
/-- order: of ints, of texts -/
def ordS (g : List Nat → List Nat → Bool) : Prim := fun ds S => match ds with
  | [.str x, .str y] => some (.bool (g x.cps.toList y.cps.toList), S)
  | _ => none
theorem p2_ordS {g : List Nat → List Nat → Bool} : P2 K (fun x y H Q => ∃ i j, x = .str i ∧ y = .str j ∧ Q (.bl (g i.cps.toList j.cps.toList)) H) (ordS g) := fun W H x y dx dy d S' Q ok h1 h2 hf fin => by
  unfold ordS at hf
  split at hf
  · rename_i i j hds
    cases hds
    cases hf
    cases h1
    cases h2
    exact ⟨_, _, rfl, rfl, fin W _ H (Le.refl _) rfl ok (.bl _)⟩
  · cases hf
def ordI (g : Int → Int → Bool) : Prim := i2 fun i j => some (.bool (g i j))
def ltP : Prim := orP (ordI fun i j => decide (i < j)) (ordS fun i j => decide (i < j))
def leP : Prim := orP (ordI fun i j => decide (i ≤ j)) (ordS fun i j => !decide (j < i))
def gtP : Prim := orP (ordI fun i j => decide (j < i)) (ordS fun i j => decide (j < i))
def geP : Prim := orP (ordI fun i j => decide (j ≤ i)) (ordS fun i j => !decide (i < j))
theorem p2_lt : P2 K (fun x y H Q => rI0 (fun i j => .bl (decide (i < j))) x y H Q ∨ (∃ i j, x = .str i ∧ y = .str j ∧ Q (.bl (decide (i.cps.toList < j.cps.toList))) H)) ltP := p2_or (p2_rI0 fun _ _ _ _ => .bl _) p2_ordS
theorem p2_le : P2 K (fun x y H Q => rI0 (fun i j => .bl (decide (i ≤ j))) x y H Q ∨ (∃ i j, x = .str i ∧ y = .str j ∧ Q (.bl (!decide (j.cps.toList < i.cps.toList))) H)) leP := p2_or (p2_rI0 fun _ _ _ _ => .bl _) p2_ordS
theorem p2_gt : P2 K (fun x y H Q => rI0 (fun i j => .bl (decide (j < i))) x y H Q ∨ (∃ i j, x = .str i ∧ y = .str j ∧ Q (.bl (decide (j.cps.toList < i.cps.toList))) H)) gtP := p2_or (p2_rI0 fun _ _ _ _ => .bl _) p2_ordS
theorem p2_ge : P2 K (fun x y H Q => rI0 (fun i j => .bl (decide (j ≤ i))) x y H Q ∨ (∃ i j, x = .str i ∧ y = .str j ∧ Q (.bl (!decide (i.cps.toList < j.cps.toList))) H)) geP := p2_or (p2_rI0 fun _ _ _ _ => .bl _) p2_ordS
theorem v_lt (ha : PE X a (tE X.K call ca)) (hb : PE X b (tE X.K call cb)) : PE X (.Compare a [.Lt] [b] pos) (tE X.K call (.prim ltP (.cons ca (.cons cb .nil)))) := pe_c2 (OpR.or op_lt op_lt_str) p2_lt ha hb (nobehind _ (by decide) (by decide))
theorem v_le (ha : PE X a (tE X.K call ca)) (hb : PE X b (tE X.K call cb)) : PE X (.Compare a [.LtE] [b] pos) (tE X.K call (.prim leP (.cons ca (.cons cb .nil)))) := pe_c2 (OpR.or op_le op_le_str) p2_le ha hb (nobehind _ (by decide) (by decide))
theorem v_gt (ha : PE X a (tE X.K call ca)) (hb : PE X b (tE X.K call cb)) : PE X (.Compare a [.Gt] [b] pos) (tE X.K call (.prim gtP (.cons ca (.cons cb .nil)))) := pe_c2 (OpR.or op_gt op_gt_str) p2_gt ha hb (nobehind _ (by decide) (by decide))
theorem v_ge (ha : PE X a (tE X.K call ca)) (hb : PE X b (tE X.K call cb)) : PE X (.Compare a [.GtE] [b] pos) (tE X.K call (.prim geP (.cons ca (.cons cb .nil)))) := pe_c2 (OpR.or op_ge op_ge_str) p2_ge ha hb (nobehind _ (by decide) (by decide))
theorem t_lt (ha : PE X a (tE X.K call ca)) (hb : PE X b (tE X.K call cb)) : PT X (.Compare a [.Lt] [b] pos) (tT X.K call (.prim ltP (.cons ca (.cons cb .nil)))) := pt_c2 (OpR.or op_lt op_lt_str) p2_lt ha hb (nobehind _ (by decide) (by decide))
theorem t_le (ha : PE X a (tE X.K call ca)) (hb : PE X b (tE X.K call cb)) : PT X (.Compare a [.LtE] [b] pos) (tT X.K call (.prim leP (.cons ca (.cons cb .nil)))) := pt_c2 (OpR.or op_le op_le_str) p2_le ha hb (nobehind _ (by decide) (by decide))
theorem t_gt (ha : PE X a (tE X.K call ca)) (hb : PE X b (tE X.K call cb)) : PT X (.Compare a [.Gt] [b] pos) (tT X.K call (.prim gtP (.cons ca (.cons cb .nil)))) := pt_c2 (OpR.or op_gt op_gt_str) p2_gt ha hb (nobehind _ (by decide) (by decide))
theorem t_ge (ha : PE X a (tE X.K call ca)) (hb : PE X b (tE X.K call cb)) : PT X (.Compare a [.GtE] [b] pos) (tT X.K call (.prim geP (.cons ca (.cons cb .nil)))) := pt_c2 (OpR.or op_ge op_ge_str) p2_ge ha hb (nobehind _ (by decide) (by decide))
/-- is None, is a bool -/
def isNone : D → Bool
  | .none => true
  | _ => false
def isP : Prim := fun ds S => match ds with
  | [d, .none] => some (.bool (isNone d), S)
  | [.bool x, .bool y] => some (.bool (decide (x = y)), S)
  | _ => none
def isntP : Prim := fun ds S => match ds with
  | [d, .none] => some (.bool (!isNone d), S)
  | [.bool x, .bool y] => some (.bool (!decide (x = y)), S)
  | _ => none
theorem none_den {F : Hp} {ρ : List Addr} {x : V} {d : D} (h : Den K F ρ x d) : decide (x = .non) = isNone d := by
  cases h <;> simp [isNone]
theorem p2_is : P2 K (fun x y H Q => (y = .non ∧ Q (.bl (decide (x = .non))) H) ∨ rIsB x y H Q) isP := fun W H x y dx dy d S' Q ok h1 h2 hf fin => by
  unfold isP at hf
  split at hf
  · rename_i d' hds
    cases hds
    cases hf
    cases h2
    exact .inl ⟨rfl, by rw [none_den h1]; exact fin W _ H (Le.refl _) rfl ok (.bl _)⟩
  · rename_i i j hds
    cases hds
    cases hf
    cases h1
    cases h2
    exact .inr ⟨_, _, rfl, rfl, fin W _ H (Le.refl _) rfl ok (.bl _)⟩
  · cases hf
theorem p2_isnt : P2 K (fun x y H Q => (y = .non ∧ Q (.bl (!decide (x = .non))) H) ∨ rNotB x y H Q) isntP := fun W H x y dx dy d S' Q ok h1 h2 hf fin => by
  unfold isntP at hf
  split at hf
  · rename_i d' hds
    cases hds
    cases hf
    cases h2
    exact .inl ⟨rfl, by rw [none_den h1]; exact fin W _ H (Le.refl _) rfl ok (.bl _)⟩
  · rename_i i j hds
    cases hds
    cases hf
    cases h1
    cases h2
    exact .inr ⟨_, _, rfl, rfl, fin W _ H (Le.refl _) rfl ok (.bl _)⟩
  · cases hf
theorem v_is (ha : PE X a (tE X.K call ca)) (hb : PE X b (tE X.K call cb)) : PE X (.Compare a [.Is] [b] pos) (tE X.K call (.prim isP (.cons ca (.cons cb .nil)))) := pe_c2 (OpR.or op_isN op_isBl) p2_is ha hb (nobehind _ (by decide) (by decide))
theorem v_isnt (ha : PE X a (tE X.K call ca)) (hb : PE X b (tE X.K call cb)) : PE X (.Compare a [.IsNot] [b] pos) (tE X.K call (.prim isntP (.cons ca (.cons cb .nil)))) := pe_c2 (OpR.or op_notN op_notBl) p2_isnt ha hb (nobehind _ (by decide) (by decide))
theorem t_is (ha : PE X a (tE X.K call ca)) (hb : PE X b (tE X.K call cb)) : PT X (.Compare a [.Is] [b] pos) (tT X.K call (.prim isP (.cons ca (.cons cb .nil)))) := pt_c2 (OpR.or op_isN op_isBl) p2_is ha hb (nobehind _ (by decide) (by decide))
theorem t_isnt (ha : PE X a (tE X.K call ca)) (hb : PE X b (tE X.K call cb)) : PT X (.Compare a [.IsNot] [b] pos) (tT X.K call (.prim isntP (.cons ca (.cons cb .nil)))) := pt_c2 (OpR.or op_notN op_notBl) p2_isnt ha hb (nobehind _ (by decide) (by decide))
end
end Iv

set_option Elab.async false
set_option linter.all false
set_option maxRecDepth 100000
set_option maxHeartbeats 2000000
namespace Iv
open PySem PySem.Spec PyProof.Rows L2
open Evl (Ex ex_l ex_t)

section
variable {X : Cx} {call : CallT} {K : PySem.W.Frag} {σ : L2.St} {H : Hp} {ca cb cc ce : E} {a b c e : Expr} {es : List Expr} {pos : Pos}
theorem tchain {r r' : V → V → Hp → VK → Prop} {f g : Prim} {Q : VK} (p : P2 K r f) (p' : P2 K r' g) (h : tE K call (.chn f g ca cb cc) σ H Q) : tChain r r' (tE K call ca) (tE K call cb) (tE K call cc) σ H Q := by
  obtain ⟨W, η, d, S', ok, env, he, fin⟩ := h
  unfold ev at he
  obtain ⟨⟨dx, S1⟩, h1, he⟩ := bind_one he
  obtain ⟨⟨dy, S2⟩, h2, he⟩ := bind_one he
  obtain ⟨⟨dk, S3⟩, h3, he⟩ := bind_some he
  dsimp only at h2 h3 he
  refine ⟨W, η, dx, S1, ok, env, h1, fun W1 x H1 l1 s1 ok1 d1 => ⟨W1, η, dy, S2, ok1, env.mono l1, by rw [s1]; exact h2, fun W2 y H2 l2 s2 ok2 d2 => ?_⟩⟩
  refine p W2 H2 x y dx dy dk S3 _ ok2 (l2.den d1) d2 (by rw [s2]; exact h3) fun W3 v H3 l3 s3 ok3 d3 => ?_
  split at he
  · cases d3
    refine ⟨true, rfl, iteT ?_⟩
    obtain ⟨⟨dz, S4⟩, h4, he⟩ := bind_one he
    obtain ⟨⟨du, S5⟩, h5, he⟩ := bind_some he
    cases he
    refine ⟨W3, η, dz, S4, ok3, env.mono ((l1.trans l2).trans l3), by rw [s3]; exact h4, fun W4 z H4 l4 s4 ok4 d4 => ?_⟩
    exact p' W4 H4 y z dy dz _ _ _ ok4 ((l3.trans l4).den d2) d4 (by rw [s4]; exact h5) fun W5 u H5 l5 s5 ok5 d5 => fin W5 u H5 ((((l1.trans l2).trans l3).trans l4).trans l5) s5 ok5 d5
  · cases d3
    cases he
    exact ⟨false, rfl, iteF (fin W3 _ H3 ((l1.trans l2).trans l3) s3 ok3 (.bl false))⟩
  · cases he
theorem v_chn {op op' : CmpOp} {r r' : V → V → Hp → VK → Prop} {f g : Prim} (ho : OpR X (compareOp op) r) (ho' : OpR X (compareOp op') r') (p : P2 X.K r f) (p' : P2 X.K r' g) (ha : PE X a (tE X.K call ca)) (hb : PE X b (tE X.K call cb)) (hc : PE X c (tE X.K call cc)) (hl : lastMarks [op, op'] [b, c] = false := by rfl) :
    PE X (.Compare a [op, op'] [b, c] pos) (tE X.K call (.chn f g ca cb cc)) := peM (pe_chain ho ho' ha hb hc hl) fun σ H Q h => tchain p p' h
theorem t_chn {op op' : CmpOp} {r r' : V → V → Hp → VK → Prop} {f g : Prim} (ho : OpR X (compareOp op) r) (ho' : OpR X (compareOp op') r') (p : P2 X.K r f) (p' : P2 X.K r' g) (ha : PE X a (tE X.K call ca)) (hb : PE X b (tE X.K call cb)) (hc : PE X c (tE X.K call cc)) (hl : lastMarks [op, op'] [b, c] = false := by rfl) :
    PT X (.Compare a [op, op'] [b, c] pos) (tT X.K call (.chn f g ca cb cc)) := ptM (pt_chain ho ho' ha hb hc hl) fun σ H Q h => tchain p p' (te_bool h)
theorem v_lele (ha : PE X a (tE X.K call ca)) (hb : PE X b (tE X.K call cb)) (hc : PE X c (tE X.K call cc)) (hl : lastMarks [.LtE, .LtE] [b, c] = false := by rfl) : PE X (.Compare a [.LtE, .LtE] [b, c] pos) (tE X.K call (.chn leP leP ca cb cc)) := v_chn (OpR.or op_le op_le_str) (OpR.or op_le op_le_str) p2_le p2_le ha hb hc hl
theorem t_lele (ha : PE X a (tE X.K call ca)) (hb : PE X b (tE X.K call cb)) (hc : PE X c (tE X.K call cc)) (hl : lastMarks [.LtE, .LtE] [b, c] = false := by rfl) : PT X (.Compare a [.LtE, .LtE] [b, c] pos) (tT X.K call (.chn leP leP ca cb cc)) := t_chn (OpR.or op_le op_le_str) (OpR.or op_le op_le_str) p2_le p2_le ha hb hc hl
def tupP : Prim := fun ds S => if ds.length ≤ 100000 then some (.tuple ds, S) else none
def lstP : Prim := fun ds S => if ds.length ≤ 100000 then some (.list ds, S) else none
def newP : Prim := fun ds S => if ds.length ≤ 100000 then some (rf S.length, S ++ [.lst ds]) else none
theorem v_tup (h : PA X es (tA X.K call ca)) : PE X (.Tuple es 0 pos) (tE X.K call (.prim tupP ca)) := peM (pe_tup h) fun σ H Q q => by
  refine to_pn (r := fun xs H1 Q => xs.length ≤ sizeLine ∧ ∀ p, H1 p = none → Q (.ref p) (upd H1 p (.tup xs))) (fun W H vs ds d S' Q ok dn hf fin => ?_) q
  unfold tupP at hf
  split at hf
  · rename_i hz
    cases hf
    refine ⟨Evl.sz_of (by rw [dn.length]; exact hz), fun p hp => ?_⟩
    obtain ⟨ok2, l, s, e⟩ := ok.lay (o := .tup _) hp
    exact fin _ _ _ l s ok2 (.tup (SqT.of e) (l.dena dn))
  · cases hf
theorem v_lst (h : PA X es (tA X.K call ca)) : PE X (.List es pos) (tE X.K call (.prim lstP ca)) := peM (pe_lst h) fun σ H Q q => by
  refine to_pn (r := fun xs H1 Q => xs.length ≤ sizeLine ∧ ∀ p, H1 p = none → Q (.ref p) (upd H1 p (.lst xs))) (fun W H vs ds d S' Q ok dn hf fin => ?_) q
  unfold lstP at hf
  split at hf
  · rename_i hz
    cases hf
    refine ⟨Evl.sz_of (by rw [dn.length]; exact hz), fun p hp => ?_⟩
    obtain ⟨ok2, l, s, e⟩ := ok.lay (o := .lst _) hp
    exact fin _ _ _ l s ok2 (.lst e (l.dena dn))
  · cases hf
theorem v_new (h : PA X es (tA X.K call ca)) : PE X (.List es pos) (tE X.K call (.prim newP ca)) := peM (pe_lst h) fun σ H Q q => by
  refine to_pn (r := fun xs H1 Q => xs.length ≤ sizeLine ∧ ∀ p, H1 p = none → Q (.ref p) (upd H1 p (.lst xs))) (fun W H vs ds d S' Q ok dn hf fin => ?_) q
  unfold newP at hf
  split at hf
  · rename_i hz
    cases hf
    refine ⟨Evl.sz_of (by rw [dn.length]; exact hz), fun p hp => ?_⟩
    obtain ⟨ok2, l, e⟩ := ok.push hp dn
    exact fin _ _ _ l rfl ok2 (.ref e)
  · cases hf
def dct0 : Prim := fun ds S => match ds with
  | [] => some (.dict [], S)
  | _ => none
theorem v_dct0 : PE X (.Dict [] [] pos) (tE X.K call (.prim dct0 .nil)) := peM pe_dnewK fun σ H Q h => by
  obtain ⟨W, ds, d, S', ok, dn, hf, fin⟩ := ta_nil (te_args h)
  cases dn
  cases hf
  intro p hp
  obtain ⟨ok2, l, s, e⟩ := ok.lay (o := .dK []) hp
  exact fin _ _ _ l s ok2 (.dct e)
def seqD (d : D) (S : List SO) : Option (List D) := match d with
  | .list xs => some xs
  | .tuple xs => some xs
  | .dict [(.int (Int.ofNat i), .none)] => match S[i]? with
    | some (.lst xs) => some xs
    | some (.fro xs) => some xs
    | _ => none
  | _ => none
theorem seq_den {W : Wd} {x : V} {d : D} {ds : List D} (ok : Wok K W H) (h : Den K W.F W.ρ x d) (hs : seqD d W.S = some ds) : ∃ p xs, x = .ref p ∧ (SqL K H p xs ∨ SqT K H p xs) ∧ DenA K W.F W.ρ xs ds := by
  cases h with
  | lst h r => cases hs; exact ⟨_, _, rfl, .inl (SqL.of (ok.ex _ _ h)), r⟩
  | tup h r => cases hs; exact ⟨_, _, rfl, .inr (ex_t ok.ex h), r⟩
  | @ref i a h =>
    unfold seqD at hs
    dsimp only at hs
    split at hs
    · rename_i xs hx
      cases hs
      obtain ⟨a', ys, h1, h2, h3, h4⟩ := ok.lst i _ hx
      rw [h1] at h; cases h
      exact ⟨_, _, rfl, .inl (SqL.of h3), h4⟩
    · rename_i xs hx
      cases hs
      obtain ⟨a', ys, h1, h2, h4⟩ := ok.fro i _ hx
      rw [h1] at h; cases h
      exact ⟨_, _, rfl, .inl (ex_l ok.ex h2), h4⟩
    · cases hs
  | non => cases hs
  | bl => cases hs
  | int => cases hs
  | str => cases hs
  | dct => cases hs
def idxP : Prim := fun ds S => match ds with
  | [.str x, .int j] => if x.length ≤ 100000 then (atI x.cps.toList j).map fun c => (.str ⟨#[c]⟩, S) else none
  | [d, .int j] => (seqD d S).bind fun xs => (atI xs j).map fun y => (y, S)
  | _ => none
theorem at_den {F : Hp} {ρ : List Addr} {xs : List V} {ds : List D} {j : Int} {y : D} (r : DenA K F ρ xs ds) (h : atI ds j = some y) : ∃ v, atI xs j = some v ∧ Den K F ρ v y := by
  unfold atI at h
  obtain ⟨n, h1, h2⟩ := bind_some h
  obtain ⟨v, h3, h4⟩ := r.get h2
  refine ⟨v, ?_, h4⟩
  unfold atI
  rw [r.length, h1]
  exact h3
theorem p2_idx : P2 K (rIx K) idxP := fun W H x y dx dy d S' Q ok h1 h2 hf fin => by
  unfold idxP at hf
  split at hf
  · rename_i z j hds
    cases hds
    split at hf
    · rename_i hz
      cases h1
      cases h2
      cases hc : atI z.cps.toList j with
      | none => rw [hc] at hf; cases hf
      | some c =>
        rw [hc] at hf
        cases hf
        exact .inr (.inr ⟨_, _, c, rfl, rfl, Evl.sz_of hz, hc, fin W _ H (Le.refl _) rfl ok (.str _)⟩)
    · cases hf
  · rename_i d' j hne hds
    cases hds
    cases h2
    obtain ⟨ys, g1, g2⟩ := bind_some hf
    cases hc : atI ys j with
    | none => rw [hc] at g2; cases g2
    | some y =>
      rw [hc] at g2
      cases g2
      obtain ⟨p, xs, rfl, hs, r⟩ := seq_den ok h1 g1
      obtain ⟨v, g3, g4⟩ := at_den r hc
      rcases hs with hs | hs
      · exact .inl ⟨p, xs, j, v, rfl, rfl, hs, g3, fin W _ H (Le.refl _) rfl ok g4⟩
      · exact .inr (.inl ⟨p, xs, j, v, rfl, rfl, hs, g3, fin W _ H (Le.refl _) rfl ok g4⟩)
  · cases hf
theorem v_idx (ha : PE X a (tE X.K call ca)) (hb : PE X b (tE X.K call cb)) (hs : PlainIx b := by exact fun _ _ => rfl) : PE X (.Subscript a b pos) (tE X.K call (.prim idxP (.cons ca (.cons cb .nil)))) := pe_i2 ix_seq p2_idx ha hb hs
/-- xs[i] = v -/
def setL : List D → List SO → Option (List SO) := fun ds S => match ds with
  | [v, .dict [(.int (Int.ofNat i), .none)], .int j] => match S[i]? with
    | some (.lst xs) => (ixN xs.length j).map fun n => S.set i (.lst (xs.set n v))
    | _ => none
  | _ => none
theorem s_setix {o i : Expr} {p : Pos} (he : PE X e (tE X.K call ce)) (ho : PE X o (tE X.K call ca)) (hi : PE X i (tE X.K call cb)) (hs : swapsWithSole [.Subscript o i p] e pos.line X.env = pure false := by rfl) (hw : swappedStores [.Subscript o i p] e X.env = pure none := by rfl)
    (ha : List.map (fun x => x.snd) (assignEach [.Subscript o i p] X.env) = [assign (.Subscript o i p) X.env] := by rfl)
    (hst : ∀ v, assign (o.Subscript i p) X.env v = (do let ov ← holding [v] (eval o X.env); let iv ← holding [v, ov] (eval i X.env); standAt p; holding [v, ov, iv] (setItem ov iv v); release [v, ov, iv] []) := by intro _; rfl) : PS X (.Assign [.Subscript o i p] e pos) (tS X.K call (.eff setL (.cons ce (.cons ca (.cons cb .nil))))) := psM (ps_asg he (pg_sub ho hi set_list hst) hs hw ha) fun D σ H h => by
  obtain ⟨W, η, r, ok, env, hev, fin⟩ := h
  unfold exc at hev
  obtain ⟨⟨ds, S4⟩, h1, h2⟩ := bind_some hev
  obtain ⟨S5, h3, h4⟩ := bind_some h2
  cases h4
  obtain ⟨dv, S1, r1, a1, q1, rfl⟩ := evc h1
  obtain ⟨dob, S2, r2, a2, q2, rfl⟩ := evc q1
  obtain ⟨di, S3, r3, a3, q3, rfl⟩ := evc q2
  obtain ⟨rfl, rfl⟩ := evn q3
  dsimp only at h3
  refine ⟨W, η, dv, S1, ok, env, a1, fun W1 v H1 l1 s1 ok1 d1 => ⟨W1, η, dob, S2, ok1, env.mono l1, by rw [s1]; exact a2, fun W2 o' H2 l2 s2 ok2 d2 => ⟨W2, η, di, _, ok2, env.mono (l1.trans l2), by rw [s2]; exact a3, fun W3 i' H3 l3 s3 ok3 d3 => ?_⟩⟩⟩
  unfold setL at h3
  split at h3
  · rename_i vv ii jj hds
    cases hds
    split at h3
    · rename_i xs hx
      cases hn : ixN xs.length jj with
      | none => rw [hn] at h3; cases h3
      | some n =>
        rw [hn] at h3
        cases h3
        cases d3
        rw [← s3] at hx
        obtain ⟨a', ys, g1, g2, g3, g4⟩ := ok3.lst ii _ hx
        cases l3.den d2 with
        | ref g5 =>
          rw [g1] at g5
          cases g5
          refine ⟨_, ys, jj, n, rfl, rfl, g3, by rw [g4.length]; exact hn, ?_⟩
          obtain ⟨ok4, l4⟩ := ok3.put hx g1 (g4.set ((l2.trans l3).den d1) n)
          exact fin _ _ (((l1.trans l2).trans l3).trans l4) (by show W3.S.set ii _ = _; rw [s3]) ok4 σ (env.mono (((l1.trans l2).trans l3).trans l4))
    · cases h3
  · cases h3
end
end Iv

set_option Elab.async false
set_option linter.all false
set_option maxRecDepth 100000
set_option maxHeartbeats 2000000
namespace Iv
open PySem PySem.Spec PyProof.Rows L2
open Evl (Ex ex_l ex_t)

section
variable {X : Cx} {call : CallT} {K : PySem.W.Frag} {σ : L2.St} {H : Hp} {ca cb cc ce : E} {a b c e : Expr} {es : List Expr} {pos : Pos}
def cutD (xs : List D) (lo hi : Option Int) : List D := (xs.drop (HT.sIx xs.length 0 lo)).take (HT.sIx xs.length xs.length hi - HT.sIx xs.length 0 lo)
theorem DenA.cut {F : Hp} {ρ : List Addr} {xs : List V} {ds : List D} (r : DenA K F ρ xs ds) (lo hi : Option Int) : DenA K F ρ (cutV xs lo hi) (cutD ds lo hi) := by
  unfold cutV cutD
  rw [r.length]
  exact (r.drop _).take _
theorem sIx_all {n : Nat} {lo hi : Option Int} {xs : List V} (hn : n = xs.length) (h : HT.sIx n 0 lo = 0 ∧ HT.sIx n n hi = n) : cutV xs lo hi = xs := by
  subst hn
  unfold cutV
  rw [h.1, h.2]
  simp
def slD (d : D) (S : List SO) (lo hi : Option Int) : Option D := match d with
  | .tuple xs => some (.tuple (cutD xs lo hi))
  | d => (seqD d S).map fun xs => .list (cutD xs lo hi)
theorem sl_den {W : Wd} {x : V} {dx d : D} {lo hi : Option Int} {Q : VK} (ok : Wok K W H) (h : Den K W.F W.ρ x dx) (hs : slD dx W.S lo hi = some d) (fin : FinV K W W.S d Q) : rSlL K x lo hi H Q ∨ rSlA K x lo hi H Q := by
  unfold slD at hs
  split at hs
  · cases hs
    cases h with
    | tup h r =>
      refine .inr ⟨_, _, rfl, ex_t ok.ex h, fun e => ?_, fun e p hp => ?_⟩
      · have e2 := sIx_all (lo := lo) (hi := hi) rfl e
        have r2 := r.cut lo hi
        rw [e2] at r2
        exact fin W _ H (Le.refl _) rfl ok (.tup h r2)
      · obtain ⟨ok2, l, s, e⟩ := ok.lay (o := .tup _) hp
        exact fin _ _ _ l s ok2 (.tup (SqT.of e) (l.dena (r.cut lo hi)))
  · rename_i hne
    cases hc : seqD dx W.S with
    | none => rw [hc] at hs; cases hs
    | some ys =>
      rw [hc] at hs
      cases hs
      obtain ⟨p, xs, rfl, hq, r⟩ := seq_den ok h hc
      rcases hq with hq | hq
      · refine .inl ⟨p, xs, rfl, hq, fun q hq => ?_⟩
        obtain ⟨ok2, l, s, e⟩ := ok.lay (o := .lst _) hq
        exact fin _ _ _ l s ok2 (.lst e (l.dena (r.cut lo hi)))
      · cases h with
        | lst h' r' => exact .inl ⟨_, _, rfl, SqL.of (ok.ex _ _ h'), fun q hq => by
            obtain ⟨ok2, l, s, e⟩ := ok.lay (o := .lst _) hq
            cases hc
            exact fin _ _ _ l s ok2 (.lst e (l.dena (r'.cut lo hi)))⟩
        | tup h' r' => exact absurd rfl (hne _)
        | dct h' => cases hc
        | @ref i a h' =>
          unfold seqD at hc
          dsimp only at hc
          split at hc
          · rename_i zs hx
            cases hc
            obtain ⟨a', zs', h1, h2, h3, h4⟩ := ok.lst i _ hx
            rw [h1] at h'; cases h'
            refine .inl ⟨_, zs', rfl, SqL.of h3, fun q hq => ?_⟩
            obtain ⟨ok2, l, s, e⟩ := ok.lay (o := .lst _) hq
            exact fin _ _ _ l s ok2 (.lst e (l.dena (h4.cut lo hi)))
          · rename_i zs hx
            cases hc
            obtain ⟨a', zs', h1, h2, h4⟩ := ok.fro i _ hx
            rw [h1] at h'; cases h'
            refine .inl ⟨_, zs', rfl, ex_l ok.ex h2, fun q hq => ?_⟩
            obtain ⟨ok2, l, s, e⟩ := ok.lay (o := .lst _) hq
            exact fin _ _ _ l s ok2 (.lst e (l.dena (h4.cut lo hi)))
          · cases hc
def slAB : Prim := fun ds S => match ds with
  | [d, .int l, .int h] => (slD d S (some l) (some h)).map fun r => (r, S)
  | _ => none
def slA : Prim := fun ds S => match ds with
  | [d, .int l] => (slD d S (some l) none).map fun r => (r, S)
  | _ => none
def slB : Prim := fun ds S => match ds with
  | [d, .int h] => (slD d S none (some h)).map fun r => (r, S)
  | _ => none
def slC : Prim := fun ds S => match ds with
  | [d] => (slD d S none none).map fun r => (r, S)
  | _ => none
theorem v_slA {p2 : Pos} (ha : PE X a (tE X.K call ca)) (hb : PE X b (tE X.K call cb)) : PE X (.Subscript a (.Slice (some b) none none p2) pos) (tE X.K call (.prim slA (.cons ca (.cons cb .nil)))) := peM (pe_slice (SlR.or sl_list sl_tupA) ha (po_some hb) po_none) fun σ H Q h => by
  have q := to_p2 (r := fun x y H Q => ∃ i, y = .int i ∧ (rSlL X.K x (some i) none H Q ∨ rSlA X.K x (some i) none H Q)) (fun W H x y dx dy d S' Q ok h1 h2 hf fin => by
    unfold slA at hf
    split at hf
    · rename_i d' l hds
      cases hds
      cases h2
      cases hc : slD dx W.S (some l) none with
      | none => rw [hc] at hf; cases hf
      | some r =>
        rw [hc] at hf
        cases hf
        exact ⟨l, rfl, sl_den ok h1 hc fin⟩
    · cases hf) h
  obtain ⟨W, η, d, S', ok, env, he, fin⟩ := q
  refine ⟨W, η, d, S', ok, env, he, fun W1 x H1 l1 s1 ok1 d1 => ?_⟩
  obtain ⟨W2, η2, d2, S2, ok2, env2, he2, fin2⟩ := fin W1 x H1 l1 s1 ok1 d1
  refine ⟨W2, η2, d2, S2, ok2, env2, he2, fun W3 y H3 l3 s3 ok3 d3 => ?_⟩
  obtain ⟨i, rfl, q⟩ := fin2 W3 y H3 l3 s3 ok3 d3
  exact ⟨i, rfl, q⟩
theorem v_slB {p2 : Pos} (ha : PE X a (tE X.K call ca)) (hb : PE X b (tE X.K call cb)) : PE X (.Subscript a (.Slice none (some b) none p2) pos) (tE X.K call (.prim slB (.cons ca (.cons cb .nil)))) := peM (pe_slice (SlR.or sl_list sl_tupA) ha po_none (po_some hb)) fun σ H Q h => by
  have q := to_p2 (r := fun x y H Q => ∃ i, y = .int i ∧ (rSlL X.K x none (some i) H Q ∨ rSlA X.K x none (some i) H Q)) (fun W H x y dx dy d S' Q ok h1 h2 hf fin => by
    unfold slB at hf
    split at hf
    · rename_i d' l hds
      cases hds
      cases h2
      cases hc : slD dx W.S none (some l) with
      | none => rw [hc] at hf; cases hf
      | some r =>
        rw [hc] at hf
        cases hf
        exact ⟨l, rfl, sl_den ok h1 hc fin⟩
    · cases hf) h
  obtain ⟨W, η, d, S', ok, env, he, fin⟩ := q
  refine ⟨W, η, d, S', ok, env, he, fun W1 x H1 l1 s1 ok1 d1 => ?_⟩
  obtain ⟨W2, η2, d2, S2, ok2, env2, he2, fin2⟩ := fin W1 x H1 l1 s1 ok1 d1
  refine ⟨W2, η2, d2, S2, ok2, env2, he2, fun W3 y H3 l3 s3 ok3 d3 => ?_⟩
  obtain ⟨i, rfl, q⟩ := fin2 W3 y H3 l3 s3 ok3 d3
  exact ⟨i, rfl, q⟩
section
variable {x : Str} {p : Pos}
theorem v_cb {id : String} {r : List V → Hp → VK → Prop} {f : Prim} (hc : CallR X (.builtin id) r) (pn : PN X.K r f) (hm : X.mg x = none) (hv : bootBuiltins x = some (.builtin id)) (ha : PA X (e :: es) (tA X.K call ca)) (hg : Gl X x := by rfl) (hn : x ≠ "__name__" := by decide) (hd : (x == ("__debug__" : Str)) = false := by decide)
    (he : starEach (e :: es) X.env = (false, eval e X.env) :: starEach es X.env := by rfl) (hpl : (backTo pos (starEach es X.env)).any (·.1) = false := by rfl) : PE X (.Call (.Name x p) (e :: es) [] pos) (tE X.K call (.prim f ca)) :=
  peM (pe_callB hc hg hm hv ha hn hd he hpl) fun σ H Q h => to_pn pn h
theorem v_ct {T : String} {r : List V → Hp → VK → Prop} {f : Prim} (hc : CallR X (.type T) r) (pn : PN X.K r f) (hm : X.mg x = none) (hv : bootBuiltins x = some (.type T)) (ha : PA X (e :: es) (tA X.K call ca)) (hg : Gl X x := by rfl) (hn : x ≠ "__name__" := by decide) (hd : (x == ("__debug__" : Str)) = false := by decide)
    (he : starEach (e :: es) X.env = (false, eval e X.env) :: starEach es X.env := by rfl) (hpl : (backTo pos (starEach es X.env)).any (·.1) = false := by rfl) : PE X (.Call (.Name x p) (e :: es) [] pos) (tE X.K call (.prim f ca)) :=
  peM (pe_callTy hc hg hm hv ha hn hd he hpl) fun σ H Q h => to_pn pn h
end
def lenP : Prim := fun ds S => match ds with
  | [.str x] => if x.length ≤ 100000 then some (.int x.length, S) else none
  | [d] => (seqD d S).map fun xs => (.int xs.length, S)
  | _ => none
theorem pn_len : PN K (fun xs H Q => ∃ x n, xs = [x] ∧ LenV K x H n ∧ Q (.int n) H) lenP := fun W H vs ds d S' Q ok dn hf fin => by
  unfold lenP at hf
  split at hf
  · split at hf
    · rename_i hz
      cases hf
      cases dn with
      | cons h1 h2 =>
        cases h2
        cases h1
        exact ⟨_, _, rfl, ⟨Evl.sz_of hz, rfl⟩, fin W _ H (Le.refl _) rfl ok (.int _)⟩
    · cases hf
  · cases dn with
    | cons h1 h2 =>
      cases h2
      rename_i d' hne v
      cases hc : seqD d' W.S with
      | none => rw [hc] at hf; cases hf
      | some ys =>
        rw [hc] at hf
        cases hf
        obtain ⟨p, xs, rfl, hq, r⟩ := seq_den ok h1 hc
        refine ⟨_, xs.length, rfl, ?_, by rw [r.length]; exact fin W _ H (Le.refl _) rfl ok (.int _)⟩
        rcases hq with hq | hq
        · exact .inl ⟨xs, hq, rfl⟩
        · exact .inr ⟨xs, hq, rfl⟩
  · cases hf
/-- built-ins of ints -/
def b1 (g : Int → Int) : Prim := fun ds S => match ds with
  | [.int i] => some (.int (g i), S)
  | _ => none
def b2 (g : Int → Int → Int) : Prim := fun ds S => match ds with
  | [.int i, .int j] => some (.int (g i j), S)
  | _ => none
theorem pn_b1 {g : Int → Int} : PN K (fun xs H Q => ∃ i, xs = [.int i] ∧ Q (.int (g i)) H) (b1 g) := fun W H vs ds d S' Q ok dn hf fin => by
  unfold b1 at hf
  split at hf
  · cases hf
    cases dn with
    | cons h1 h2 =>
      cases h2
      cases h1
      exact ⟨_, rfl, fin W _ H (Le.refl _) rfl ok (.int _)⟩
  · cases hf
theorem pn_b2 {g : Int → Int → Int} : PN K (fun xs H Q => ∃ i j, xs = [.int i, .int j] ∧ Q (.int (g i j)) H) (b2 g) := fun W H vs ds d S' Q ok dn hf fin => by
  unfold b2 at hf
  split at hf
  · cases hf
    cases dn with
    | cons h1 h2 =>
      cases h2 with
      | cons h3 h4 =>
        cases h4
        cases h1
        cases h3
        exact ⟨_, _, rfl, fin W _ H (Le.refl _) rfl ok (.int _)⟩
  · cases hf
def absP : Prim := b1 fun i => if i < 0 then -i else i
def maxP : Prim := b2 fun i j => if j > i then j else i
def minP : Prim := b2 fun i j => if j < i then j else i
def gcdP : Prim := b2 fun i j => ((Nat.gcd i.natAbs j.natAbs : Nat) : Int)
def intP : Prim := fun ds S => match ds with
  | [.int i] => some (.int i, S)
  | [.bool k] => some (.int (if k then 1 else 0), S)
  | _ => none
theorem pn_int : PN K (fun xs H Q => (∃ i, xs = [.int i] ∧ Q (.int i) H) ∨ ∃ k, xs = [.bl k] ∧ Q (.int (if k then 1 else 0)) H) intP := fun W H vs ds d S' Q ok dn hf fin => by
  unfold intP at hf
  split at hf
  · cases hf
    cases dn with
    | cons h1 h2 =>
      cases h2
      cases h1
      exact .inl ⟨_, rfl, fin W _ H (Le.refl _) rfl ok (.int _)⟩
  · cases hf
    cases dn with
    | cons h1 h2 =>
      cases h2
      cases h1
      exact .inr ⟨_, rfl, fin W _ H (Le.refl _) rfl ok (.int _)⟩
  · cases hf
def boolsD : List D → Option (List Bool)
  | [] => some []
  | .bool b :: ds => (boolsD ds).map (b :: ·)
  | _ => none
theorem bools_den {F : Hp} {ρ : List Addr} : ∀ {xs : List V} {ds : List D} {bs : List Bool}, DenA K F ρ xs ds → boolsD ds = some bs → xs = bs.map V.bl
  | _, _, _, .nil, h => by cases h; rfl
  | _, _, _, .cons (d := .bool b) (ds := ds) h r, e => by
    unfold boolsD at e
    cases hb : boolsD ds with
    | none => rw [hb] at e; cases e
    | some bs =>
      rw [hb] at e
      cases e
      cases h
      rw [bools_den r hb]
      rfl
  | _, _, _, .cons (d := .none) _ _, e => by cases e
  | _, _, _, .cons (d := .int _) _ _, e => by cases e
  | _, _, _, .cons (d := .str _) _ _, e => by cases e
  | _, _, _, .cons (d := .list _) _ _, e => by cases e
  | _, _, _, .cons (d := .tuple _) _ _, e => by cases e
  | _, _, _, .cons (d := .dict _) _ _, e => by cases e
def allP : Prim := fun ds S => match ds with
  | [.list xs] => (boolsD xs).map fun bs => (.bool (bs.all id), S)
  | _ => none
def anyP : Prim := fun ds S => match ds with
  | [.list xs] => (boolsD xs).map fun bs => (.bool (bs.any id), S)
  | _ => none
theorem pn_all : PN K (rAll K) allP := fun W H vs ds d S' Q ok dn hf fin => by
  unfold allP at hf
  split at hf
  · rename_i xs
    cases hb : boolsD xs with
    | none => rw [hb] at hf; cases hf
    | some bs =>
      rw [hb] at hf
      cases hf
      cases dn with
      | cons h1 h2 =>
        cases h2
        cases h1 with
        | lst h r => exact ⟨_, bs, rfl, by rw [← bools_den r hb]; exact SqL.of (ok.ex _ _ h), fin W _ H (Le.refl _) rfl ok (.bl _)⟩
  · cases hf
theorem pn_any : PN K (rAny K) anyP := fun W H vs ds d S' Q ok dn hf fin => by
  unfold anyP at hf
  split at hf
  · rename_i xs
    cases hb : boolsD xs with
    | none => rw [hb] at hf; cases hf
    | some bs =>
      rw [hb] at hf
      cases hf
      cases dn with
      | cons h1 h2 =>
        cases h2
        cases h1 with
        | lst h r => exact ⟨_, bs, rfl, by rw [← bools_den r hb]; exact SqL.of (ok.ex _ _ h), fin W _ H (Le.refl _) rfl ok (.bl _)⟩
  · cases hf
/-- list(xs), list(text) -/
def listP : Prim := fun ds S => match ds with
  | [d] => (seqD d S).map fun xs => (.list xs, S)
  | _ => none
theorem pn_list : PN K (fun xs H Q => ∃ p ys, xs = [.ref p] ∧ (SqL K H p ys ∨ SqT K H p ys) ∧ ∀ l, H l = none → Q (.ref l) (upd H l (.lst ys))) listP := fun W H vs ds d S' Q ok dn hf fin => by
  unfold listP at hf
  split at hf
  · cases dn with
    | cons h1 h2 =>
      cases h2
      rename_i d' v
      cases hc : seqD d' W.S with
      | none => rw [hc] at hf; cases hf
      | some ys =>
        rw [hc] at hf
        cases hf
        obtain ⟨p, xs, rfl, hq, r⟩ := seq_den ok h1 hc
        refine ⟨p, xs, rfl, hq, fun l hl => ?_⟩
        obtain ⟨ok2, l2, s, e⟩ := ok.lay (o := .lst _) hl
        exact fin _ _ _ l2 s ok2 (.lst e (l2.dena r))
  · cases hf
def signs (x : Str) : List Str := x.cps.toList.map fun c => ⟨#[c]⟩
def listS : Prim := fun ds S => match ds with
  | [.str x] => if x.cps.size ≤ 100000 then some (.list ((signs x).map .str), S) else none
  | _ => none
theorem call_listS (hc : X.calm = true) : CallR X (.type "list") (fun xs H Q => ∃ x : Str, xs = [.str x] ∧ x.cps.size ≤ 100000 ∧ ∀ l, H l = none → Q (.ref l) (upd H l (.lst ((signs x).map V.str)))) := by
  intro pins s σ H xs us Q I r h
  obtain ⟨x, rfl, hz, q⟩ := h
  obtain ⟨u, rfl, t, rfl⟩ := vals1 r
  refine call_list_str (I.ok.hd hc) x t (fun h' tk acc' c' kp e hi => ?_) (Evl.sz_of hz)
  refine ⟨.ref s.heap.objs.size, _, I.laid (t' := tk) kp (Nat.le_refl _) (show ObjOk X.prog X.w _ h' _ (.lst ((signs x).map V.str)) from ⟨?_, acc'.toList, c', ?_, by rw [Array.toArray_toList]; exact e⟩), rfl, q _ (I.hok.fresh (Nat.le_refl _))⟩
  · rw [List.length_map]; unfold signs; rw [List.length_map, Array.length_toList]; exact Evl.sz_of hz
  · have hl : acc'.toList.length = x.cps.size := by rw [Array.length_toList]; exact hi.1
    refine vals_of_at (by simp [signs, hl]) fun j v u hv hu => ?_
    have := hi.2 j u (by rw [← hu, Array.getElem?_toList])
    obtain ⟨c, tu, hc, rfl⟩ := this
    unfold signs at hv
    rw [List.map_map, List.getElem?_map, Array.getElem?_toList, hc] at hv
    cases hv
    exact ⟨tu, rfl⟩
theorem pn_listS : PN K (fun xs H Q => ∃ x : Str, xs = [.str x] ∧ x.cps.size ≤ 100000 ∧ ∀ l, H l = none → Q (.ref l) (upd H l (.lst ((signs x).map V.str)))) listS := fun W H vs ds d S' Q ok dn hf fin => by
  unfold listS at hf
  split at hf
  · split at hf
    · rename_i x hz
      cases hf
      cases dn with
      | cons h1 h2 =>
        cases h2
        cases h1
        refine ⟨_, rfl, hz, fun l hl => ?_⟩
        obtain ⟨ok2, l2, s, e⟩ := ok.lay (o := .lst _) hl
        refine fin _ _ _ l2 s ok2 (.lst e ?_)
        have g : ∀ ys : List Str, DenA K (W.lay l (.lst ((signs x).map V.str))).F (W.lay l (.lst ((signs x).map V.str))).ρ (ys.map V.str) (ys.map .str) := by
          intro ys
          induction ys with
          | nil => exact .nil
          | cons y ys ih => exact .cons (.str y) ih
        exact g _
    · cases hf
  · cases hf
/-- list(range(..)) -/
def listR2 : Prim := fun ds S => match ds with
  | [.int i, .int j] => if (i < 2 ^ 40 ∧ -(2 ^ 40) ≤ i) ∧ (j < 2 ^ 40 ∧ -(2 ^ 40) ≤ j) ∧ (j - i).toNat ≤ 100000 then some (.list (upto i (j - i).toNat), S) else none
  | _ => none
def listR1 : Prim := fun ds S => match ds with
  | [.int j] => if (j < 2 ^ 40 ∧ -(2 ^ 40) ≤ j) ∧ (j - 0).toNat ≤ 100000 then some (.list (upto 0 (j - 0).toNat), S) else none
  | _ => none
theorem rg_den {F : Hp} {ρ : List Addr} {a b : Int} : DenA K F ρ (rgV a b) (upto a (b - a).toNat) := by
  unfold rgV upto
  have g : ∀ ys : List Nat, DenA K F ρ (ys.map fun i => V.int (a + (i : Nat))) (ys.map fun (k : Nat) => .int (a + k)) := by
    intro ys
    induction ys with
    | nil => exact .nil
    | cons y ys ih => exact .cons (.int _) ih
  exact g _
theorem v_listR2 {p pr rp : Pos} (hc : X.calm = true) (hml : X.mg "list" = none) (hmr : X.mg "range" = none) (ha : PE X a (tE X.K call ca)) (hb : PE X b (tE X.K call cb)) (hgl : Gl X "list" := by rfl) (hgr : Gl X "range" := by rfl)
    (na : starEach [a, b] X.env = (false, eval a X.env) :: starEach [b] X.env := by rfl) (na2 : starEach [b] X.env = (false, eval b X.env) :: starEach [] X.env := by rfl)
    (hp : ((backTo rp (starEach [b] X.env)).any fun x => x.fst) = false := by rfl)
    (nl : starEach [.Call (.Name "range" pr) [a, b] [] rp] X.env = (false, eval (.Call (.Name "range" pr) [a, b] [] rp) X.env) :: starEach [] X.env := by rfl) :
    PE X (.Call (.Name "list" p) [.Call (.Name "range" pr) [a, b] [] rp] [] pos) (tE X.K call (.prim listR2 (.cons ca (.cons cb .nil)))) := peM (pe_listRg hc hgl hml (prg_2 hgr hmr ha hb na na2 hp) nl) fun σ H Q h => by
  have q := to_p2 (r := fun x y H Q => ∃ i j, x = .int i ∧ y = .int j ∧ RgOk i j ∧ ∀ q, H q = none → Q (.ref q) (upd H q (.lst (rgV i j)))) (fun W H x y dx dy d S' Q ok h1 h2 hf fin => by
    unfold listR2 at hf
    split at hf
    · rename_i i j hds
      cases hds
      split at hf
      · rename_i hz
        cases hf
        cases h1
        cases h2
        refine ⟨i, j, rfl, rfl, ⟨by omega, by omega, by omega, by omega, by omega⟩, fun q hq => ?_⟩
        obtain ⟨ok2, l2, s, e⟩ := ok.lay (o := .lst (rgV i j)) hq
        exact fin _ _ _ l2 s ok2 (.lst e rg_den)
      · cases hf
    · cases hf) h
  obtain ⟨W, η, d, S', ok, env, he, fin⟩ := q
  refine ⟨W, η, d, S', ok, env, he, fun W1 x H1 l1 s1 ok1 d1 => ?_⟩
  obtain ⟨W2, η2, d2, S2, ok2, env2, he2, fin2⟩ := fin W1 x H1 l1 s1 ok1 d1
  refine ⟨W2, η2, d2, S2, ok2, env2, he2, fun W3 y H3 l3 s3 ok3 d3 => ?_⟩
  obtain ⟨i, j, rfl, rfl, h1, h2⟩ := fin2 W3 y H3 l3 s3 ok3 d3
  exact ⟨i, j, rfl, rfl, h1, h2⟩
def tyD (d : D) (S : List SO) : Option String := match d with
  | .none => some "NoneType"
  | .bool _ => some "bool"
  | .int _ => some "int"
  | .str _ => some "str"
  | .list _ => some "list"
  | .tuple _ => some "tuple"
  | .dict [] => some "dict"
  | .dict [(.int (Int.ofNat i), .none)] => match S[i]? with
    | some (.lst _) => some "list"
    | _ => none
  | _ => none
theorem ty_den {W : Wd} {x : V} {d : D} {t : String} (ok : Wok K W H) (h : Den K W.F W.ρ x d) (ht : tyD d W.S = some t) : TyX K H x (.type t) := by
  cases h with
  | non => cases ht; exact .base .non
  | bl b => cases ht; exact .base (.bl b)
  | int i => cases ht; exact .base (.int i)
  | str y => cases ht; exact .base (.str y)
  | lst h r => cases ht; exact .base (.lst (ok.ex _ _ h))
  | tup h r =>
    cases ht
    rcases h with (h | ⟨o, h⟩) | ⟨o, its, n, h1, h2, _⟩
    · exact .base (.tup (ok.ex _ _ h))
    · exact .fTuple (ok.ex _ _ h)
    · exact .kTuple h1 h2
  | @ref i a h =>
    unfold tyD at ht
    dsimp only at ht
    split at ht
    · rename_i ds hs
      cases ht
      obtain ⟨a', xs, h1, h2, h3, h4⟩ := ok.lst i ds hs
      rw [h1] at h; cases h
      exact .base (.lst h3)
    · cases ht
  | dct h => cases ht; exact .base (.dK (ok.ex _ _ h))
def isiP (T : String) : Prim := fun ds S => match ds with
  | [d] => (tyD d S).bind fun t => (kitB t T).map fun b => (.bool b, S)
  | _ => none
theorem v_isi {T : String} {xt : Str} {p pt : Pos} (hm : X.mg "isinstance" = none) (hmt : X.mg xt = none) (hvt : bootBuiltins xt = some (.type T)) (ha : PE X a (tE X.K call ca)) (hg : Gl X "isinstance" := by rfl) (hgt : Gl X xt := by rfl) (hnt : xt ≠ "__name__" := by decide) (hdt : (xt == ("__debug__" : Str)) = false := by decide)
    (hv : bootBuiltins "isinstance" = some (.builtin "isinstance") := by decide +kernel)
    (he1 : starEach [a, .Name xt pt] X.env = (false, eval a X.env) :: starEach [.Name xt pt] X.env := by rfl) (he2 : starEach [.Name xt pt] X.env = (false, eval (.Name xt pt) X.env) :: starEach [] X.env := by rfl) (hpl : (backTo pos (starEach [.Name xt pt] X.env)).any (·.1) = false := by rfl) :
    PE X (.Call (.Name "isinstance" p) [a, .Name xt pt] [] pos) (tE X.K call (.prim (isiP T) (.cons ca .nil))) :=
  peM (pe_callB call_isi hg hm hv (pa_cons ha (pa_cons (pe_bltn (v := .ty T) hgt hmt hvt rfl hnt hdt) pa_nil he2) he1) (by decide) (by decide) he1 hpl) fun σ H Q h => by
    have q := to_p1 (r := fun x H Q => ∃ (t : String) (b : Bool), TyX X.K H x (.type t) ∧ kitB t T = some b ∧ Q (.bl b) H) (fun W H x dx d S' Q ok h1 hf fin => by
      unfold isiP at hf
      dsimp only at hf
      obtain ⟨t, h2, h3⟩ := bind_some hf
      cases hb : kitB t T with
      | none => rw [hb] at h3; cases h3
      | some b =>
        rw [hb] at h3
        cases h3
        exact ⟨t, b, ty_den ok h1 h2, hb, fin W _ H (Le.refl _) rfl ok (.bl b)⟩) h
    obtain ⟨W, η, d, S', ok, env, he, fin⟩ := q
    refine ⟨W, η, d, S', ok, env, he, fun W1 x H1 l1 s1 ok1 d1 => ?_⟩
    obtain ⟨t, b, h1, h2, h3⟩ := fin W1 x H1 l1 s1 ok1 d1
    exact ⟨x, .ty T, .type t, .type T, b, rfl, .ty T, h1, kit_ty h2, h3⟩
def strsD : List D → Option (List Str)
  | [] => some []
  | .str b :: ds => (strsD ds).map (b :: ·)
  | _ => none
theorem strs_den {F : Hp} {ρ : List Addr} : ∀ {xs : List V} {ds : List D} {bs : List Str}, DenA K F ρ xs ds → strsD ds = some bs → xs = bs.map V.str
  | _, _, _, .nil, h => by cases h; rfl
  | _, _, _, .cons (d := .str b) (ds := ds) h r, e => by
    unfold strsD at e
    cases hb : strsD ds with
    | none => rw [hb] at e; cases e
    | some bs =>
      rw [hb] at e
      cases e
      cases h
      rw [strs_den r hb]
      rfl
  | _, _, _, .cons (d := .none) _ _, e => by cases e
  | _, _, _, .cons (d := .int _) _ _, e => by cases e
  | _, _, _, .cons (d := .bool _) _ _, e => by cases e
  | _, _, _, .cons (d := .list _) _ _, e => by cases e
  | _, _, _, .cons (d := .tuple _) _ _, e => by cases e
  | _, _, _, .cons (d := .dict _) _ _, e => by cases e
def joinP (z : Str) : Prim := fun ds S => match ds with
  | [.list xs] => (strsD xs).bind fun ys => if (ys.map (·.length)).sum + ys.length * z.length ≤ 100000 then some (.str (Txt.join z ys), S) else none
  | _ => none
theorem v_join {z : Str} {j : Nat} {zp apos cpos : Pos} (ha : PE X a (tE X.K call ca)) (h1 : attributeBase (.Constant (.str z) j zp) "join" X.env (eval (.Constant (.str z) j zp) X.env) = eval (.Constant (.str z) j zp) X.env := by rfl)
    (h2 : (((backTo cpos (starEach [a] X.env)).all fun x => !x.fst) && (backToKw cpos (keywordEach [] X.env)).all fun x => x.fst.isSome) && decide (([a].length + ([] : List Keyword).length + if ([] : List Keyword).isEmpty = true then 0 else 1) < 30) = true := by rfl)
    (h3 : (apos.endLine == cpos.line) = true := by rfl) (h4 : starEach [a] X.env = (false, eval a X.env) :: starEach [] X.env := by rfl) (h5 : (backTo cpos (starEach [] X.env)).any (·.1) = false := by rfl) :
    PE X (.Call (.Attribute (.Constant (.str z) j zp) "join" apos) [a] [] cpos) (tE X.K call (.prim (joinP z) (.cons ca .nil))) :=
  peM (pe_bm PySem.F.plainAttrs_str PySem.F.slot_str_join PySem.F.type_str_join mt_join pe_str (pa_cons ha pa_nil h4) h1 h2 h3 h4 h5) fun σ H Q h => by
    have q := to_p1 (r := fun x H Q => ∃ (p : Addr) (ys : List Str), x = .ref p ∧ (SqL X.K H p (ys.map V.str) ∨ SqT X.K H p (ys.map V.str)) ∧ (ys.map (·.length)).sum + ys.length * z.length ≤ 16777216 ∧ Q (.str (Txt.join z ys)) H) (fun W H x dx d S' Q ok h1 hf fin => by
      unfold joinP at hf
      split at hf
      · rename_i xs hds
        cases hds
        obtain ⟨ys, h2, h3⟩ := bind_some hf
        split at h3
        · rename_i hz
          cases h3
          cases h1 with
          | lst h r => exact ⟨_, ys, rfl, .inl (by rw [← strs_den r h2]; exact SqL.of (ok.ex _ _ h)), by omega, fin W _ H (Le.refl _) rfl ok (.str _)⟩
        · cases h3
      · cases hf) h
    refine ⟨rfl, ?_⟩
    obtain ⟨W, η, d, S', ok, env, he, fin⟩ := q
    refine ⟨W, η, d, S', ok, env, he, fun W1 x H1 l1 s1 ok1 d1 => ?_⟩
    obtain ⟨p, ys, rfl, g1, g2, g3⟩ := fin W1 x H1 l1 s1 ok1 d1
    exact ⟨z, p, ys, rfl, rfl, g1, g2, g3⟩
theorem v_gcd {x : Str} {p : Pos} (hm : X.mg x = some (.builtin "math.gcd")) (ha : PA X (e :: es) (tA X.K call ca)) (hg : Gl X x := by rfl) (hd : (x == ("__debug__" : Str)) = false := by decide)
    (he : starEach (e :: es) X.env = (false, eval e X.env) :: starEach es X.env := by rfl) (hpl : (backTo pos (starEach es X.env)).any (·.1) = false := by rfl) : PE X (.Call (.Name x p) (e :: es) [] pos) (tE X.K call (.prim gcdP ca)) :=
  peM (pe_callBfun cr_gcd hg hm ha hd he hpl) fun σ H Q h => to_pn (r := rGcd) pn_b2 h
def itA : ItrP := fun ds S => match ds with
  | [.list xs] => some (xs, S)
  | [.tuple xs] => some (xs, S)
  | [.str x] => some ((signs x).map .str, S)
  | [.dict [(.int (Int.ofNat i), .none)]] => match S[i]? with
    | some (.fro xs) => some (xs, S)
    | _ => none
  | _ => none
theorem goes_s {W : Wd} {x : Str} : Goes K (Its x) ((signs x).map .str) W := fun i W1 H l ok => by
  refine ⟨fun hi => (show x.cps.size ≤ i by simpa [signs] using hi), fun d hd => ?_⟩
  unfold signs at hd
  rw [List.map_map, List.getElem?_map, Array.getElem?_toList] at hd
  cases hc : x.cps[i]? with
  | none => rw [hc] at hd; cases hd
  | some c =>
    rw [hc] at hd
    cases hd
    refine ⟨(Array.getElem?_eq_some_iff.mp hc).1, fun v H' hy => ?_⟩
    obtain ⟨rfl, c', h1, rfl⟩ := hy
    rw [hc] at h1
    cases h1
    exact ⟨W1, Le.refl _, rfl, ok, .str _⟩
theorem i_any {tg : Expr} (h : PE X e (tE X.K call ca)) : PI X tg e (tI X.K call (.itr itA (.cons ca .nil))) := by
  have h1 := i_list (tg := tg) h
  have h2 := i_tup (tg := tg) h
  refine ⟨fun pins s σ H R I q => ?_⟩
  obtain ⟨W, η, items, S', ok, env, he, fin⟩ := q
  unfold ev at he
  obtain ⟨⟨ds, S1⟩, g1, g2⟩ := bind_some he
  obtain ⟨d, S2, ds', g3, g4, rfl⟩ := evc g1
  obtain ⟨rfl, rfl⟩ := evn g4
  unfold itA at g2
  dsimp only at g2
  split at g2
  · rename_i xs hx
    cases hx
    refine h1.run pins s σ H R I ⟨W, η, items, S', ok, env, ?_, fin⟩
    unfold ev
    rw [g1]
    exact g2
  · rename_i xs hx
    cases hx
    refine h2.run pins s σ H R I ⟨W, η, items, S', ok, env, ?_, fin⟩
    unfold ev
    rw [g1]
    exact g2
  · rename_i x hx
    cases hx
    cases g2
    refine (pi_str h).run pins s σ H R I ⟨W, η, _, _, ok, env, g3, fun W1 v H1 l1 s1 ok1 d1 => ?_⟩
    cases d1
    exact ⟨x, rfl, fin W1 _ H1 l1 s1 ok1 goes_s⟩
  · rename_i i hx
    cases hx
    refine h1.run pins s σ H R I ⟨W, η, items, S', ok, env, ?_, fin⟩
    unfold ev
    rw [g1]
    exact g2
  · cases g2
theorem p_nil : PTs X [] (tT X.K call (cD (.bool true))) := ⟨fun pins s σ H Q I h => pts_nil.run pins s σ H Q I (by
  obtain ⟨W, ok, fin⟩ := te_cD (te_bool h)
  obtain ⟨k, h1, h2⟩ := fin W _ H (Le.refl _) rfl ok (.bl true)
  cases h1
  exact h2)⟩
theorem p_one {c : Expr} (h : PT X c (tT X.K call cc)) : PTs X [c] (tT X.K call cc) := pts_one h
theorem v_lc {elt tg iter : Expr} {ifs : List Expr} {scope : Scope} {g : TG} {t : T} {it : E} (own : List (Str × Nat)) (hg : GOk X.K g t) (hc : X.calm = true) (hN : X.N.Nodup) (ok : BlkOk X.N X.env.scope scope own) (hin : t.inn (own.map (·.2)) = true) (hi : PI X tg iter (tI X.K call it))
    (hgp : ∀ (s : Shared) (H : Hp) (C : Addr) (cl : List (Str × Addr)) (fp : List Addr), PG (X.blk s H scope (compEnvC scope cl C X.env) fp) tg g)
    (ht : ∀ (s : Shared) (H : Hp) (C : Addr) (cl : List (Str × Addr)) (fp : List Addr), PTs (X.blk s H scope (compEnvC scope cl C X.env) fp) ifs (tT X.K call cc))
    (he : ∀ (s : Shared) (H : Hp) (C : Addr) (cl : List (Str × Addr)) (fp : List Addr), PE (X.blk s H scope (compEnvC scope cl C X.env) fp) elt (tE X.K call ce)) (hs : ∀ x, foldedSetIterable iter X.env x = pure x := by intro _; rfl) :
    PE X (.ListComp elt [⟨tg, iter, ifs, 0⟩] scope pos) (tE X.K call (.lc t it cc ce (own.map (·.2)))) := peM (pe_lc hc hN hi ok hgp ht he hs) fun σ H Q h => tlc hg hin (fun _ q => q) h
theorem s_setLc {i : Nat} {y : Str} {py spos : Pos} {elt tg iter : Expr} {ifs : List Expr} {scope : Scope} {g : TG} {t : T} {it : E} (own : List (Str × Nat)) (hg : GOk X.K g t) (hc : X.calm = true) (hN : X.N.Nodup) (ok : BlkOk X.N X.env.scope scope own) (hin : t.inn (own.map (·.2)) = true) (hi : PI X tg iter (tI X.K call it))
    (hgp : ∀ (s : Shared) (H : Hp) (C : Addr) (cl : List (Str × Addr)) (fp : List Addr), PG (X.blk s H scope (compEnvC scope cl C X.env) fp) tg g)
    (ht : ∀ (s : Shared) (H : Hp) (C : Addr) (cl : List (Str × Addr)) (fp : List Addr), PTs (X.blk s H scope (compEnvC scope cl C X.env) fp) ifs (tT X.K call cc))
    (he : ∀ (s : Shared) (H : Hp) (C : Addr) (cl : List (Str × Addr)) (fp : List Addr), PE (X.blk s H scope (compEnvC scope cl C X.env) fp) elt (tE X.K call ce))
    (hy : X.N[i]? = some y := by rfl) (hyl : X.env.scope.names.lookup y = some .local := by rfl)
    (hsw : swapsWith (.ListComp elt [⟨tg, iter, ifs, 0⟩] scope pos) (some (.Name y py)) spos.line X.env = pure true := by exact sw_true rfl rfl rfl (by decide +kernel)) (hs : ∀ x, foldedSetIterable iter X.env x = pure x := by intro _; rfl) :
    PS X (.Assign [.Name y py] (.ListComp elt [⟨tg, iter, ifs, 0⟩] scope pos) spos) (tS X.K call (.asg (.nm i) (.lc t it cc ce (own.map (·.2))))) := psM (ps_setLc hc hN hy hyl hsw hi ok hgp ht he hs) fun D σ H h => by
  obtain ⟨W, η, r, ok', env, he', fin⟩ := h
  unfold exc at he'
  obtain ⟨⟨d, S1⟩, h1, h2⟩ := bind_one he'
  obtain ⟨η1, h3, h4⟩ := bind_some h2
  cases h4
  exact tlc (Q := fun x H1 => gName i x σ H1 D.nx) hg hin (fun _ q => q) ⟨W, η, d, S1, ok', env, h1, fun W1 v H1 l1 s1 ok1 d1 => g_nm i W1 H1 η η1 σ v d _ ok1 (env.mono l1) d1 h3 fun σ' env' _ => fin W1 H1 l1 s1 ok1 σ' env'⟩
end
def spLaw (K : PySem.W.Frag) : Sp := fun vs H Q _ => ∃ (a : Addr) (ns : List Int), vs = [.ref a] ∧ SqL K H a (ns.map V.int) ∧ ns.length ≤ 63 ∧ ∀ H', Q (.bl true) H'
theorem ints_den {K : PySem.W.Frag} {F : Hp} {ρ : List Addr} : ∀ ns : List Int, DenA K F ρ (ns.map V.int) (ns.map .int)
  | [] => .nil
  | n :: ns => .cons (.int n) (ints_den ns)
theorem law_imp {P : Program} {w : World} {K : PySem.W.Frag} {mg : Str → Option Value} {base : Heap} {k j : Nat} {f : Addr} {fd : FuncData} {ps : List Str} {call : CallT} (G : FnOk P w K mg base CX0 k f fd ps (spK K call j))
    (M : ∀ ns : List Int, ns.length ≤ 63 → ∃ S1, call j [rf 0] [.fro (ns.map .int)] = some (.bool true, S1)) : FnOk P w K mg base CX0 k f fd ps (spLaw K) := by
  have imp : ∀ vs H Q E, spLaw K vs H Q E → spK K call j vs H Q E := fun vs H Q E h => by
    obtain ⟨a, ns, rfl, hS, hl, q⟩ := h
    obtain ⟨S1, hc⟩ := M ns hl
    let F : Hp := fun b => if b = a then H b else none
    have hF : F a = H a := by show (if a = a then H a else none) = H a; rw [if_pos rfl]
    have ex : Ex F H := fun b o e => by
      have e' : (if b = a then H b else none) = some o := e
      split at e'
      · exact e'
      · cases e'
    have hS2 : SqL K F a (ns.map V.int) := by
      rcases hS with (h | ⟨o, h⟩) | h
      · exact .inl (.inl (hF.trans h))
      · exact .inl (.inr ⟨o, hF.trans h⟩)
      · exact .inr h
    refine ⟨⟨F, [a], [.fro (ns.map .int)], fun _ => none⟩, [rf 0], .bool true, S1, ⟨ex, rfl, fun b o e => (nomatch e), fun b o e => (nomatch e), fun i ds e => ?_, fun i ds e => ?_, fun i j' d1 d2 b e1 _ _ _ => ?_⟩, .cons (.ref rfl) .nil, hc, fun W' v H' l s ok d => by cases d; exact q H'⟩
    · match i, e with
      | 0, e => cases e
      | n + 1, e => cases e
    · match i, e with
      | 0, e => cases e; exact ⟨a, _, rfl, hS2, ints_den ns⟩
      | n + 1, e => cases e
    · match i, e1 with
      | 0, e => cases e
      | n + 1, e => cases e
  exact ⟨fun vs H Q E q => G.len vs H Q E (imp _ _ _ _ q), fun A outer s H args us vs Q E hr e0 hb r q => G.run A outer s H args us vs Q E hr e0 hb r (imp _ _ _ _ q)⟩
end Iv

set_option Elab.async false
set_option linter.all false
set_option maxRecDepth 100000
set_option maxHeartbeats 2000000
namespace Iv
open PySem

def WE (call : CallT) (c : E) (η : En) (S : List SO) (Q : List D → List SO → Prop) : Prop := ∃ ds S1, ev call c η S = some (ds, S1) ∧ Q ds S1
def WP (f : Prim) (ds : List D) (S : List SO) (Q : D → List SO → Prop) : Prop := ∃ d S1, f ds S = some (d, S1) ∧ Q d S1
def WI (f : List D → List SO → Option (List D × List SO)) (ds : List D) (S : List SO) (Q : List D → List SO → Prop) : Prop := ∃ es S1, f ds S = some (es, S1) ∧ Q es S1
def WC (call : CallT) (j : Nat) (ds : List D) (S : List SO) (Q : D → List SO → Prop) : Prop := ∃ d S1, call j ds S = some (d, S1) ∧ Q d S1
def WL (fc fe : Ev1) (t : T) (η : En) (xs : List D) (S : List SO) (Q : List D → List SO → Prop) : Prop := ∃ ys S1, lcRun fc fe t η xs S = some (ys, S1) ∧ Q ys S1
def WS (call : CallT) (c : C) (η : En) (S : List SO) (Q : Fl → En → List SO → Prop) : Prop := ∃ fl η1 S1, exc call c η S = some (fl, η1, S1) ∧ Q fl η1 S1
def WF (f : Ex1) (t : T) (xs : List D) (η : En) (S : List SO) (Q : Fl → En → List SO → Prop) : Prop := ∃ fl η1 S1, loopF f t xs η S = some (fl, η1, S1) ∧ Q fl η1 S1
def WW (c : Ev1) (f : Ex1) (n : Nat) (η : En) (S : List SO) (Q : Fl → En → List SO → Prop) : Prop := ∃ fl η1 S1, loopW c f n η S = some (fl, η1, S1) ∧ Q fl η1 S1
def WO (f : List D → List SO → Option (List SO)) (ds : List D) (S : List SO) (Q : List SO → Prop) : Prop := ∃ S1, f ds S = some S1 ∧ Q S1
/-- one value; a bool; a name's value; a target bound -/
def O1 (ds : List D) (k : D → Prop) : Prop := ∃ d, ds = [d] ∧ k d
def OB (ds : List D) (k : Bool → Prop) : Prop := ∃ b, ds = [.bool b] ∧ k b
def OE (o : Option (Option D)) (k : D → Prop) : Prop := ∃ d, o = some (some d) ∧ k d
def OT (t : T) (d : D) (η : En) (k : En → Prop) : Prop := ∃ η1, bindT t d η = some η1 ∧ k η1
theorem O1_one {d : D} {k : D → Prop} : O1 [d] k ↔ k d := ⟨fun ⟨_, h, q⟩ => by cases h; exact q, fun q => ⟨d, rfl, q⟩⟩
theorem OB_one {b : Bool} {k : Bool → Prop} : OB [.bool b] k ↔ k b := ⟨fun ⟨_, h, q⟩ => by cases h; exact q, fun q => ⟨b, rfl, q⟩⟩
theorem OE_some {d : D} {k : D → Prop} : OE (some (some d)) k ↔ k d := ⟨fun ⟨_, h, q⟩ => by cases h; exact q, fun q => ⟨d, rfl, q⟩⟩
theorem OT_nm {i : Nat} {d : D} {η : En} {k : En → Prop} : OT (.nm i) d η k ↔ k (η.set i (some d)) := ⟨fun ⟨_, h, q⟩ => by cases h; exact q, fun q => ⟨_, rfl, q⟩⟩
theorem OT_tp {is : List Nat} {ds : List D} {η : En} {k : En → Prop} : OT (.tp is) (.tuple ds) η k ↔ ds.length = is.length ∧ k (setAll η is ds) := by
  unfold OT bindT
  constructor
  · rintro ⟨_, h, q⟩
    dsimp only at h
    split at h
    · rename_i hl; cases h; exact ⟨hl, q⟩
    · cases h
  · rintro ⟨hl, q⟩
    exact ⟨_, by dsimp only; rw [if_pos hl], q⟩
section
variable {call : CallT} {a b c e it : E} {η : En} {S : List SO} {Q : List D → List SO → Prop} {f g : Prim}
theorem WE_nil : WE call .nil η S Q ↔ Q [] S := ⟨fun ⟨_, _, h, q⟩ => by rw [ev] at h; cases h; exact q, fun q => ⟨[], S, by rw [ev], q⟩⟩
theorem WE_cons : WE call (.cons a b) η S Q ↔ WE call a η S fun ds S1 => O1 ds fun d => WE call b η S1 fun es S2 => Q (d :: es) S2 := by
  constructor
  · rintro ⟨ds, S1, h, q⟩
    obtain ⟨d, S2, ds', h1, h2, rfl⟩ := evc h
    exact ⟨[d], S2, h1, d, rfl, ds', S1, h2, q⟩
  · rintro ⟨ds, S1, h1, d, rfl, es, S2, h2, q⟩
    refine ⟨d :: es, S2, ?_, q⟩
    rw [ev, h1]
    show (ev call b η S1).bind _ = _
    rw [h2]; rfl
theorem WE_loc {i : Nat} : WE call (.loc i) η S Q ↔ OE η[i]? fun d => Q [d] S := by
  constructor
  · rintro ⟨ds, S1, h, q⟩
    rw [ev] at h
    split at h
    · rename_i d hd; cases h; exact ⟨d, hd, q⟩
    · cases h
  · rintro ⟨d, hd, q⟩
    exact ⟨[d], S, by rw [ev, hd], q⟩
theorem WE_prim : WE call (.prim f a) η S Q ↔ WE call a η S fun ds S1 => WP f ds S1 fun d S2 => Q [d] S2 := by
  constructor
  · rintro ⟨ds, S1, h, q⟩
    rw [ev] at h
    obtain ⟨⟨es, S2⟩, h1, h2⟩ := bind_some h
    obtain ⟨⟨d, S3⟩, h3, h4⟩ := bind_some h2
    cases h4
    exact ⟨es, S2, h1, d, _, h3, q⟩
  · rintro ⟨es, S2, h1, d, S3, h3, q⟩
    exact ⟨[d], S3, by rw [ev, h1]; show (f es S2).bind _ = _; rw [h3]; rfl, q⟩
theorem WE_itr {f : List D → List SO → Option (List D × List SO)} : WE call (.itr f a) η S Q ↔ WE call a η S fun ds S1 => WI f ds S1 Q := by
  constructor
  · rintro ⟨ds, S1, h, q⟩
    rw [ev] at h
    obtain ⟨⟨es, S2⟩, h1, h2⟩ := bind_some h
    exact ⟨es, S2, h1, _, _, h2, q⟩
  · rintro ⟨es, S2, h1, ds, S3, h3, q⟩
    exact ⟨ds, S3, by rw [ev, h1]; exact h3, q⟩
theorem WE_call {j : Nat} : WE call (.call j a) η S Q ↔ WE call a η S fun ds S1 => WC call j ds S1 fun d S2 => Q [d] S2 := by
  constructor
  · rintro ⟨ds, S1, h, q⟩
    rw [ev] at h
    obtain ⟨⟨es, S2⟩, h1, h2⟩ := bind_some h
    obtain ⟨⟨d, S3⟩, h3, h4⟩ := bind_some h2
    cases h4
    exact ⟨es, S2, h1, d, _, h3, q⟩
  · rintro ⟨es, S2, h1, d, S3, h3, q⟩
    exact ⟨[d], S3, by rw [ev, h1]; show (call j es S2).bind _ = _; rw [h3]; rfl, q⟩
theorem WE_and : WE call (.and a b) η S Q ↔ WE call a η S fun ds S1 => OB ds fun k => (k = true → WE call b η S1 fun es S2 => OB es fun j => Q [.bool j] S2) ∧ (k = false → Q [.bool false] S1) := by
  constructor
  · rintro ⟨ds, S1, h, q⟩
    rw [ev] at h
    obtain ⟨⟨x, S2⟩, h1, h2⟩ := bind_one h
    dsimp only at h1 h2
    split at h2
    · obtain ⟨⟨y, S3⟩, h3, h4⟩ := bind_one h2
      dsimp only at h3 h4
      split at h4
      · cases h4; exact ⟨_, S2, h1, true, rfl, fun _ => ⟨_, _, h3, _, rfl, q⟩, fun z => by cases z⟩
      · cases h4
    · cases h2; exact ⟨_, _, h1, false, rfl, fun z => (by cases z), fun _ => q⟩
    · cases h2
  · rintro ⟨ds, S1, h1, k, rfl, q1, q2⟩
    cases k with
    | true =>
      obtain ⟨es, S2, h2, j, rfl, q⟩ := q1 rfl
      refine ⟨_, S2, ?_, q⟩
      rw [ev, h1]
      show ((ev call b η S1).bind one).bind _ = _
      rw [h2]; rfl
    | false => exact ⟨_, S1, by rw [ev, h1]; rfl, q2 rfl⟩
theorem WE_or : WE call (.or a b) η S Q ↔ WE call a η S fun ds S1 => OB ds fun k => (k = false → WE call b η S1 fun es S2 => OB es fun j => Q [.bool j] S2) ∧ (k = true → Q [.bool true] S1) := by
  constructor
  · rintro ⟨ds, S1, h, q⟩
    rw [ev] at h
    obtain ⟨⟨x, S2⟩, h1, h2⟩ := bind_one h
    dsimp only at h1 h2
    split at h2
    · obtain ⟨⟨y, S3⟩, h3, h4⟩ := bind_one h2
      dsimp only at h3 h4
      split at h4
      · cases h4; exact ⟨_, S2, h1, false, rfl, fun _ => ⟨_, _, h3, _, rfl, q⟩, fun z => by cases z⟩
      · cases h4
    · cases h2; exact ⟨_, _, h1, true, rfl, fun z => (by cases z), fun _ => q⟩
    · cases h2
  · rintro ⟨ds, S1, h1, k, rfl, q1, q2⟩
    cases k with
    | false =>
      obtain ⟨es, S2, h2, j, rfl, q⟩ := q1 rfl
      refine ⟨_, S2, ?_, q⟩
      rw [ev, h1]
      show ((ev call b η S1).bind one).bind _ = _
      rw [h2]; rfl
    | true => exact ⟨_, S1, by rw [ev, h1]; rfl, q2 rfl⟩
theorem WE_ife : WE call (.ife c a b) η S Q ↔ WE call c η S fun ds S1 => OB ds fun k => (k = true → WE call a η S1 Q) ∧ (k = false → WE call b η S1 Q) := by
  constructor
  · rintro ⟨ds, S1, h, q⟩
    rw [ev] at h
    obtain ⟨⟨x, S2⟩, h1, h2⟩ := bind_one h
    dsimp only at h1 h2
    split at h2
    · exact ⟨_, S2, h1, true, rfl, fun _ => ⟨_, _, h2, q⟩, fun z => by cases z⟩
    · exact ⟨_, S2, h1, false, rfl, fun z => (by cases z), fun _ => ⟨_, _, h2, q⟩⟩
    · cases h2
  · rintro ⟨ds, S1, h1, k, rfl, q1, q2⟩
    cases k with
    | true =>
      obtain ⟨es, S2, h2, q⟩ := q1 rfl
      exact ⟨es, S2, by rw [ev, h1]; exact h2, q⟩
    | false =>
      obtain ⟨es, S2, h2, q⟩ := q2 rfl
      exact ⟨es, S2, by rw [ev, h1]; exact h2, q⟩
theorem WE_lc {t : T} {vs : List Nat} : WE call (.lc t it c e vs) η S Q ↔ WE call it η S fun xs S1 => xs.length ≤ 100000 ∧ WL (ev call c) (ev call e) t (wipeE η vs) xs S1 fun ys S2 => Q [.list ys] S2 := by
  constructor
  · rintro ⟨ds, S1, h, q⟩
    rw [ev] at h
    obtain ⟨⟨xs, S2⟩, h1, h2⟩ := bind_some h
    dsimp only at h2
    split at h2
    · rename_i hl
      obtain ⟨⟨ys, S3⟩, h3, h4⟩ := bind_some h2
      cases h4
      exact ⟨xs, S2, h1, hl, ys, _, h3, q⟩
    · cases h2
  · rintro ⟨xs, S1, h1, hl, ys, S2, h2, q⟩
    refine ⟨[.list ys], S2, ?_, q⟩
    rw [ev, h1]
    show (if xs.length ≤ 100000 then _ else none) = _
    rw [if_pos hl, h2]; rfl
theorem WE_chn : WE call (.chn f g a b c) η S Q ↔ WE call a η S fun ds S1 => O1 ds fun x => WE call b η S1 fun es S2 => O1 es fun y => WP f [x, y] S2 fun k S3 => OB [k] fun k => (k = true → WE call c η S3 fun us S4 => O1 us fun z => WP g [y, z] S4 fun u S5 => Q [u] S5) ∧ (k = false → Q [.bool false] S3) := by
  constructor
  · rintro ⟨ds, S1, h, q⟩
    rw [ev] at h
    obtain ⟨⟨x, S2⟩, h1, h⟩ := bind_one h
    obtain ⟨⟨y, S3⟩, h2, h⟩ := bind_one h
    obtain ⟨⟨k, S4⟩, h3, h⟩ := bind_some h
    dsimp only at h1 h2 h3 h
    refine ⟨_, _, h1, x, rfl, _, _, h2, y, rfl, k, S4, h3, ?_⟩
    split at h
    · obtain ⟨⟨z, S5⟩, h4, h⟩ := bind_one h
      obtain ⟨⟨u, S6⟩, h5, h⟩ := bind_some h
      cases h
      exact ⟨true, rfl, fun _ => ⟨_, _, h4, z, rfl, u, _, h5, q⟩, fun z => by cases z⟩
    · cases h; exact ⟨false, rfl, fun z => (by cases z), fun _ => q⟩
    · cases h
  · rintro ⟨_, S1, h1, x, rfl, _, S2, h2, y, rfl, k, S3, h3, k', hk, q1, q2⟩
    cases hk
    cases k' with
    | true =>
      obtain ⟨_, S4, h4, z, rfl, u, S5, h5, q⟩ := q1 rfl
      refine ⟨[u], S5, ?_, q⟩
      rw [ev, h1]
      show ((ev call b η S1).bind one).bind _ = _
      rw [h2]
      show (f [x, y] S2).bind _ = _
      rw [h3]
      show ((ev call c η S3).bind one).bind _ = _
      rw [h4]
      show (g [y, z] S4).bind _ = _
      rw [h5]; rfl
    | false =>
      refine ⟨_, S3, ?_, q2 rfl⟩
      rw [ev, h1]
      show ((ev call b η S1).bind one).bind _ = _
      rw [h2]
      show (f [x, y] S2).bind _ = _
      rw [h3]; rfl
variable {fc fe : Ev1} {t : T} {x : D} {xs : List D}
theorem WL_nil : WL fc fe t η [] S Q ↔ Q [] S := ⟨fun ⟨_, _, h, q⟩ => by cases h; exact q, fun q => ⟨[], S, rfl, q⟩⟩
theorem WL_cons : WL (ev call c) (ev call e) t η (x :: xs) S Q ↔ OT t x η fun η1 => WE call c η1 S fun ds S1 => OB ds fun k => (k = true → WE call e η1 S1 fun es S2 => O1 es fun y => WL (ev call c) (ev call e) t η xs S2 fun ys S3 => Q (y :: ys) S3) ∧ (k = false → WL (ev call c) (ev call e) t η xs S1 Q) := by
  constructor
  · rintro ⟨ys, S1, h, q⟩
    rw [lcRun] at h
    obtain ⟨η1, h1, h⟩ := bind_some h
    obtain ⟨⟨k, S2⟩, h2, h⟩ := bind_one h
    dsimp only at h2 h
    refine ⟨η1, h1, _, _, h2, ?_⟩
    split at h
    · obtain ⟨⟨y, S3⟩, h3, h⟩ := bind_one h
      obtain ⟨⟨zs, S4⟩, h4, h⟩ := bind_some h
      cases h
      exact ⟨true, rfl, fun _ => ⟨_, _, h3, y, rfl, zs, _, h4, q⟩, fun z => by cases z⟩
    · exact ⟨false, rfl, fun z => (by cases z), fun _ => ⟨_, _, h, q⟩⟩
    · cases h
  · rintro ⟨η1, h1, _, S2, h2, k, rfl, q1, q2⟩
    cases k with
    | true =>
      obtain ⟨_, S3, h3, y, rfl, zs, S4, h4, q⟩ := q1 rfl
      refine ⟨y :: zs, S4, ?_, q⟩
      rw [lcRun, h1]
      show ((ev call c η1 S).bind one).bind _ = _
      rw [h2]
      show ((ev call e η1 S2).bind one).bind _ = _
      rw [h3]
      show (lcRun _ _ t η xs S3).bind _ = _
      rw [h4]; rfl
    | false =>
      obtain ⟨ys, S3, h3, q⟩ := q2 rfl
      refine ⟨ys, S3, ?_, q⟩
      rw [lcRun, h1]
      show ((ev call c η1 S).bind one).bind _ = _
      rw [h2]; exact h3
end
section
variable {call : CallT} {a b c : C} {e it : E} {η : En} {S : List SO} {Q : Fl → En → List SO → Prop} {t : T}
/-- what is behind a statement: more, or the way out -/
def QN (Q : Fl → En → List SO → Prop) (k : En → List SO → Prop) : Fl → En → List SO → Prop
  | .nx, η, S => k η S
  | fl, η, S => Q fl η S
theorem QN_nx {k : En → List SO → Prop} : QN Q k .nx η S ↔ k η S := Iff.rfl
theorem QN_brk {k : En → List SO → Prop} : QN Q k .brk η S ↔ Q .brk η S := Iff.rfl
theorem QN_cnt {k : En → List SO → Prop} : QN Q k .cnt η S ↔ Q .cnt η S := Iff.rfl
theorem QN_ret {k : En → List SO → Prop} {d : D} : QN Q k (.ret d) η S ↔ Q (.ret d) η S := Iff.rfl
theorem WS_skip : WS call .skip η S Q ↔ Q .nx η S := ⟨fun ⟨_, _, _, h, q⟩ => by cases h; exact q, fun q => ⟨_, _, _, rfl, q⟩⟩
theorem WS_brk : WS call .brk η S Q ↔ Q .brk η S := ⟨fun ⟨_, _, _, h, q⟩ => by cases h; exact q, fun q => ⟨_, _, _, rfl, q⟩⟩
theorem WS_cnt : WS call .cnt η S Q ↔ Q .cnt η S := ⟨fun ⟨_, _, _, h, q⟩ => by cases h; exact q, fun q => ⟨_, _, _, rfl, q⟩⟩
theorem WS_retn : WS call .retn η S Q ↔ Q (.ret .none) η S := ⟨fun ⟨_, _, _, h, q⟩ => by cases h; exact q, fun q => ⟨_, _, _, rfl, q⟩⟩
theorem WS_abort : WS call .abort η S Q ↔ False := ⟨fun ⟨_, _, _, h, q⟩ => (by cases h), fun q => q.elim⟩
theorem WS_seq : WS call (.seq a b) η S Q ↔ WS call a η S (QN Q fun η1 S1 => WS call b η1 S1 Q) := by
  constructor
  · rintro ⟨fl, η1, S1, h, q⟩
    rw [exc] at h
    obtain ⟨⟨f, η2, S2⟩, h1, h2⟩ := bind_some h
    dsimp only at h2
    cases f with
    | nx => exact ⟨_, _, _, h1, ⟨_, _, _, h2, q⟩⟩
    | brk => cases h2; exact ⟨_, _, _, h1, q⟩
    | cnt => cases h2; exact ⟨_, _, _, h1, q⟩
    | ret d => cases h2; exact ⟨_, _, _, h1, q⟩
  · rintro ⟨fl, η1, S1, h1, q⟩
    cases fl with
    | nx =>
      obtain ⟨f2, η2, S2, h2, q⟩ := q
      exact ⟨f2, η2, S2, by rw [exc, h1]; exact h2, q⟩
    | brk => exact ⟨_, _, _, by rw [exc, h1]; rfl, q⟩
    | cnt => exact ⟨_, _, _, by rw [exc, h1]; rfl, q⟩
    | ret d => exact ⟨_, _, _, by rw [exc, h1]; rfl, q⟩
theorem WS_asg : WS call (.asg t e) η S Q ↔ WE call e η S fun ds S1 => O1 ds fun d => OT t d η fun η1 => Q .nx η1 S1 := by
  constructor
  · rintro ⟨fl, η1, S1, h, q⟩
    rw [exc] at h
    obtain ⟨⟨d, S2⟩, h1, h2⟩ := bind_one h
    obtain ⟨η2, h3, h4⟩ := bind_some h2
    cases h4
    exact ⟨_, _, h1, d, rfl, _, h3, q⟩
  · rintro ⟨_, S1, h1, d, rfl, η2, h3, q⟩
    exact ⟨_, η2, S1, by rw [exc, h1]; show (bindT t d η).bind _ = _; rw [h3]; rfl, q⟩
theorem WS_par {i j : Nat} : WS call (.par i j e) η S Q ↔ WE call e η S fun ds S1 => ∃ x y, ds = [x, y] ∧ Q .nx ((η.set i (some x)).set j (some y)) S1 := by
  constructor
  · rintro ⟨fl, η1, S1, h, q⟩
    rw [exc] at h
    obtain ⟨⟨ds, S2⟩, h1, h2⟩ := bind_some h
    dsimp only at h2
    split at h2
    · cases h2; exact ⟨_, _, h1, _, _, rfl, q⟩
    · cases h2
  · rintro ⟨_, S1, h1, x, y, rfl, q⟩
    exact ⟨_, _, S1, by rw [exc, h1]; rfl, q⟩
theorem WS_eff {f : List D → List SO → Option (List SO)} : WS call (.eff f e) η S Q ↔ WE call e η S fun ds S1 => WO f ds S1 fun S2 => Q .nx η S2 := by
  constructor
  · rintro ⟨fl, η1, S1, h, q⟩
    rw [exc] at h
    obtain ⟨⟨ds, S2⟩, h1, h2⟩ := bind_some h
    obtain ⟨S3, h3, h4⟩ := bind_some h2
    cases h4
    exact ⟨_, _, h1, _, h3, q⟩
  · rintro ⟨ds, S1, h1, S2, h2, q⟩
    exact ⟨_, _, S2, by rw [exc, h1]; show (f ds S1).bind _ = _; rw [h2]; rfl, q⟩
theorem WS_dex : WS call (.dex e) η S Q ↔ WE call e η S fun ds S1 => O1 ds fun _ => Q .nx η S1 := by
  constructor
  · rintro ⟨fl, η1, S1, h, q⟩
    rw [exc] at h
    obtain ⟨⟨d, S2⟩, h1, h2⟩ := bind_one h
    cases h2
    exact ⟨_, _, h1, d, rfl, q⟩
  · rintro ⟨_, S1, h1, d, rfl, q⟩
    exact ⟨_, _, S1, by rw [exc, h1]; rfl, q⟩
theorem WS_ite : WS call (.ite e a b) η S Q ↔ WE call e η S fun ds S1 => OB ds fun k => (k = true → WS call a η S1 Q) ∧ (k = false → WS call b η S1 Q) := by
  constructor
  · rintro ⟨fl, η1, S1, h, q⟩
    rw [exc] at h
    obtain ⟨⟨d, S2⟩, h1, h2⟩ := bind_one h
    dsimp only at h1 h2
    split at h2
    · exact ⟨_, S2, h1, true, rfl, fun _ => ⟨_, _, _, h2, q⟩, fun z => by cases z⟩
    · exact ⟨_, S2, h1, false, rfl, fun z => (by cases z), fun _ => ⟨_, _, _, h2, q⟩⟩
    · cases h2
  · rintro ⟨_, S1, h1, k, rfl, q1, q2⟩
    cases k with
    | true =>
      obtain ⟨fl, η1, S2, h2, q⟩ := q1 rfl
      exact ⟨fl, η1, S2, by rw [exc, h1]; exact h2, q⟩
    | false =>
      obtain ⟨fl, η1, S2, h2, q⟩ := q2 rfl
      exact ⟨fl, η1, S2, by rw [exc, h1]; exact h2, q⟩
theorem WS_ret : WS call (.ret e) η S Q ↔ WE call e η S fun ds S1 => O1 ds fun d => Q (.ret d) η S1 := by
  constructor
  · rintro ⟨fl, η1, S1, h, q⟩
    rw [exc] at h
    obtain ⟨⟨d, S2⟩, h1, h2⟩ := bind_one h
    cases h2
    exact ⟨_, _, h1, d, rfl, q⟩
  · rintro ⟨_, S1, h1, d, rfl, q⟩
    exact ⟨_, _, S1, by rw [exc, h1]; rfl, q⟩
theorem WS_for : WS call (.forr t it b) η S Q ↔ WE call it η S fun xs S1 => WF (exc call b) t xs η S1 Q := by
  constructor
  · rintro ⟨fl, η1, S1, h, q⟩
    rw [exc] at h
    obtain ⟨⟨xs, S2⟩, h1, h2⟩ := bind_some h
    exact ⟨_, _, h1, _, _, _, h2, q⟩
  · rintro ⟨xs, S1, h1, fl, η1, S2, h2, q⟩
    exact ⟨fl, η1, S2, by rw [exc, h1]; exact h2, q⟩
theorem WS_whl {n : Nat} : WS call (.whl n e b) η S Q ↔ WW (ev call e) (exc call b) n η S Q := Iff.rfl
theorem WF_nil {f : Ex1} : WF f t [] η S Q ↔ Q .nx η S := ⟨fun ⟨_, _, _, h, q⟩ => by cases h; exact q, fun q => ⟨_, _, _, rfl, q⟩⟩
/-- behind a loop's turn -/
def QL (Q : Fl → En → List SO → Prop) (k : En → List SO → Prop) : Fl → En → List SO → Prop
  | .nx, η, S => k η S
  | .cnt, η, S => k η S
  | .brk, η, S => Q .nx η S
  | .ret d, η, S => Q (.ret d) η S
theorem QL_nx {k : En → List SO → Prop} : QL Q k .nx η S ↔ k η S := Iff.rfl
theorem QL_cnt {k : En → List SO → Prop} : QL Q k .cnt η S ↔ k η S := Iff.rfl
theorem QL_brk {k : En → List SO → Prop} : QL Q k .brk η S ↔ Q .nx η S := Iff.rfl
theorem QL_ret {k : En → List SO → Prop} {d : D} : QL Q k (.ret d) η S ↔ Q (.ret d) η S := Iff.rfl
theorem WF_cons {x : D} {xs : List D} : WF (exc call b) t (x :: xs) η S Q ↔ OT t x η fun η1 => WS call b η1 S (QL Q fun η2 S2 => WF (exc call b) t xs η2 S2 Q) := by
  constructor
  · rintro ⟨fl, η1, S1, h, q⟩
    rw [loopF] at h
    obtain ⟨η2, h1, h⟩ := bind_some h
    obtain ⟨⟨f, η3, S3⟩, h2, h⟩ := bind_some h
    dsimp only at h
    refine ⟨η2, h1, f, η3, S3, h2, ?_⟩
    cases f with
    | nx => exact ⟨_, _, _, h, q⟩
    | cnt => exact ⟨_, _, _, h, q⟩
    | brk => cases h; exact q
    | ret d => cases h; exact q
  · rintro ⟨η2, h1, f, η3, S3, h2, q⟩
    cases f with
    | nx =>
      obtain ⟨fl, η4, S4, h3, q⟩ := q
      exact ⟨fl, η4, S4, by rw [loopF, h1]; show (exc call b η2 S).bind _ = _; rw [h2]; exact h3, q⟩
    | cnt =>
      obtain ⟨fl, η4, S4, h3, q⟩ := q
      exact ⟨fl, η4, S4, by rw [loopF, h1]; show (exc call b η2 S).bind _ = _; rw [h2]; exact h3, q⟩
    | brk => exact ⟨_, _, _, by rw [loopF, h1]; show (exc call b η2 S).bind _ = _; rw [h2]; rfl, q⟩
    | ret d => exact ⟨_, _, _, by rw [loopF, h1]; show (exc call b η2 S).bind _ = _; rw [h2]; rfl, q⟩
theorem WW_succ {n : Nat} : WW (ev call e) (exc call b) (n + 1) η S Q ↔ WE call e η S fun ds S1 => OB ds fun k => (k = true → WS call b η S1 (QL Q fun η2 S2 => WW (ev call e) (exc call b) n η2 S2 Q)) ∧ (k = false → Q .nx η S1) := by
  constructor
  · rintro ⟨fl, η1, S1, h, q⟩
    rw [loopW] at h
    obtain ⟨⟨d, S2⟩, h1, h⟩ := bind_one h
    dsimp only at h1 h
    refine ⟨_, _, h1, ?_⟩
    split at h
    · obtain ⟨⟨f, η3, S3⟩, h2, h⟩ := bind_some h
      dsimp only at h
      refine ⟨true, rfl, fun _ => ⟨f, η3, S3, h2, ?_⟩, fun z => by cases z⟩
      cases f with
      | nx => exact ⟨_, _, _, h, q⟩
      | cnt => exact ⟨_, _, _, h, q⟩
      | brk => cases h; exact q
      | ret d => cases h; exact q
    · cases h; exact ⟨false, rfl, fun z => (by cases z), fun _ => q⟩
    · cases h
  · rintro ⟨_, S1, h1, k, rfl, q1, q2⟩
    cases k with
    | true =>
      obtain ⟨f, η3, S3, h2, q⟩ := q1 rfl
      cases f with
      | nx =>
        obtain ⟨fl, η4, S4, h3, q⟩ := q
        exact ⟨fl, η4, S4, by rw [loopW, h1]; show (exc call b η S1).bind _ = _; rw [h2]; exact h3, q⟩
      | cnt =>
        obtain ⟨fl, η4, S4, h3, q⟩ := q
        exact ⟨fl, η4, S4, by rw [loopW, h1]; show (exc call b η S1).bind _ = _; rw [h2]; exact h3, q⟩
      | brk => exact ⟨_, _, _, by rw [loopW, h1]; show (exc call b η S1).bind _ = _; rw [h2]; rfl, q⟩
      | ret d => exact ⟨_, _, _, by rw [loopW, h1]; show (exc call b η S1).bind _ = _; rw [h2]; rfl, q⟩
    | false => exact ⟨_, _, _, by rw [loopW, h1]; rfl, q2 rfl⟩
end
/-- what is behind a def's body -/
def QR (Q : D → List SO → Prop) : Fl → En → List SO → Prop
  | .ret d, _, S => Q d S
  | .nx, _, S => Q .none S
  | _, _, _ => False
section
variable {Q : D → List SO → Prop} {η : En} {S : List SO} {tab : Nat → Option Def} {k j : Nat} {ds : List D}
theorem QR_ret {d : D} : QR Q (.ret d) η S ↔ Q d S := Iff.rfl
theorem QR_nx : QR Q .nx η S ↔ Q .none S := Iff.rfl
theorem wc_run {call : CallT} {d : Def} (h : WS call d.body (startE d.slots ds) S (QR Q)) : ∃ x S1, runD call d ds S = some (x, S1) ∧ Q x S1 := by
  obtain ⟨fl, η1, S1, h1, q⟩ := h
  unfold runD
  rw [h1]
  cases fl with
  | nx => exact ⟨_, _, rfl, q⟩
  | ret d => exact ⟨_, _, rfl, q⟩
  | brk => exact q.elim
  | cnt => exact q.elim
theorem wc_def {n ar : Nat} {c : C} (h : tab j = some ⟨n, ar, false, c⟩) (hl : ds.length = ar) (w : WS (callN tab k) c (startE n ds) S (QR Q)) : WC (callN tab (k + 1)) j ds S Q := by
  obtain ⟨x, S1, h1, q⟩ := wc_run (d := ⟨n, ar, false, c⟩) w
  refine ⟨x, S1, ?_, q⟩
  rw [callN, h]
  show (if ds.length = ar then _ else none) = _
  rw [if_pos hl]
  exact h1
theorem wc_star {n ar : Nat} {c : C} (h : tab j = some ⟨n, ar, true, c⟩) (hl : ar ≤ ds.length) (hm : ds.length ≤ 100000) (w : WS (callN tab k) c (startE n (ds.take ar ++ [.tuple (ds.drop ar)])) S (QR Q)) : WC (callN tab (k + 1)) j ds S Q := by
  obtain ⟨x, S1, h1, q⟩ := wc_run (d := ⟨n, ar, true, c⟩) w
  refine ⟨x, S1, ?_, q⟩
  rw [callN, h]
  show (if ar ≤ ds.length ∧ ds.length ≤ 100000 then _ else none) = _
  rw [if_pos ⟨hl, hm⟩]
  exact h1
theorem WC.mono {call : CallT} {Q' : D → List SO → Prop} (h : WC call j ds S Q) (m : ∀ d S1, Q d S1 → Q' d S1) : WC call j ds S Q' := by
  obtain ⟨d, S1, h1, q⟩ := h
  exact ⟨d, S1, h1, m d S1 q⟩
theorem WS.mono {call : CallT} {c : C} {R R' : Fl → En → List SO → Prop} (h : WS call c η S R) (m : ∀ f e s, R f e s → R' f e s) : WS call c η S R' := by
  obtain ⟨f, e, s, h1, q⟩ := h
  exact ⟨f, e, s, h1, m f e s q⟩
theorem WE.mono {call : CallT} {c : E} {R R' : List D → List SO → Prop} (h : WE call c η S R) (m : ∀ d s, R d s → R' d s) : WE call c η S R' := by
  obtain ⟨d, s, h1, q⟩ := h
  exact ⟨d, s, h1, m d s q⟩
theorem WF.mono {f : Ex1} {t : T} {xs : List D} {R R' : Fl → En → List SO → Prop} (h : WF f t xs η S R) (m : ∀ f e s, R f e s → R' f e s) : WF f t xs η S R' := by
  obtain ⟨f, e, s, h1, q⟩ := h
  exact ⟨f, e, s, h1, m f e s q⟩
theorem WL.mono {fc fe : Ev1} {t : T} {xs : List D} {R R' : List D → List SO → Prop} (h : WL fc fe t η xs S R) (m : ∀ d s, R d s → R' d s) : WL fc fe t η xs S R' := by
  obtain ⟨d, s, h1, q⟩ := h
  exact ⟨d, s, h1, m d s q⟩
theorem WW.mono {fc : Ev1} {f : Ex1} {n : Nat} {R R' : Fl → En → List SO → Prop} (h : WW fc f n η S R) (m : ∀ f e s, R f e s → R' f e s) : WW fc f n η S R' := by
  obtain ⟨f, e, s, h1, q⟩ := h
  exact ⟨f, e, s, h1, m f e s q⟩
theorem WC_of {call : CallT} {d : D} {S1 : List SO} (h : call j ds S = some (d, S1)) : WC call j ds S Q ↔ Q d S1 := ⟨fun ⟨_, _, h1, q⟩ => by rw [h] at h1; cases h1; exact q, fun q => ⟨_, _, h, q⟩⟩
theorem WC.eq {call : CallT} {x : D} (h : WC call j ds S fun d S1 => d = x ∧ S1 = S) : call j ds S = some (x, S) := by
  obtain ⟨d, S1, h1, rfl, rfl⟩ := h
  exact h1
theorem WE.eq {call : CallT} {c : E} {xs : List D} (h : WE call c η S fun d S1 => d = xs ∧ S1 = S) : ev call c η S = some (xs, S) := by
  obtain ⟨d, S1, h1, rfl, rfl⟩ := h
  exact h1
/-- a comprehension whose turns change nothing -/
theorem WL_pure {fc fe : Ev1} {t : T} {xs : List D} (p : D → Bool) (f : D → D) (h : ∀ x ∈ xs, ∃ η1, bindT t x η = some η1 ∧ fc η1 S = some ([.bool (p x)], S) ∧ (p x = true → fe η1 S = some ([f x], S))) : lcRun fc fe t η xs S = some ((xs.filter p).map f, S) := by
  induction xs with
  | nil => rfl
  | cons x xs ih =>
    obtain ⟨η1, h1, h2, h3⟩ := h x List.mem_cons_self
    have ih' := ih fun y hy => h y (List.mem_cons_of_mem _ hy)
    rw [lcRun, h1]
    show ((fc η1 S).bind one).bind _ = _
    rw [h2]
    cases hp : p x with
    | true =>
      show ((fe η1 S).bind one).bind _ = _
      rw [h3 hp]
      show (lcRun fc fe t η xs S).bind _ = _
      rw [ih', List.filter_cons, hp]
      rfl
    | false =>
      show lcRun fc fe t η xs S = _
      rw [ih', List.filter_cons, hp]
      rfl
theorem eqD_self {d : D} (h1 : plain d = true) (h2 : SeqAt.shaped d = true) : eqD d d = some true := by
  unfold eqD
  split
  · rename_i hs
    cases d <;> first | (cases hs; done) | simp [scalE]
  · rw [if_pos ⟨h1, h1, h2, h2⟩, SeqAt.eqv_refl _ (SeqAt.canLay_of_shaped h2)]
theorem WP_of {f : Prim} {d : D} {S1 : List SO} (h : f ds S = some (d, S1)) : WP f ds S Q ↔ Q d S1 := ⟨fun ⟨_, _, h1, q⟩ => by rw [h] at h1; cases h1; exact q, fun q => ⟨_, _, h, q⟩⟩
theorem WP_if {f : Prim} {d : D} {S1 : List SO} {p : Prop} [Decidable p] (h : f ds S = if p then some (d, S1) else none) : WP f ds S Q ↔ p ∧ Q d S1 := by
  unfold WP
  rw [h]
  constructor
  · rintro ⟨_, _, h1, q⟩
    split at h1
    · rename_i hp; cases h1; exact ⟨hp, q⟩
    · cases h1
  · rintro ⟨hp, q⟩
    exact ⟨d, S1, by rw [if_pos hp], q⟩
theorem map_if {α β : Type} {p : Prop} [Decidable p] {x : α} {g : α → β} : (if p then some x else none).map g = if p then some (g x) else none := by split <;> rfl
section
variable {i j : Int} {x y : Str} {xs ys : List D} {b b' : Bool} {d : D}
theorem wE_cD {call : CallT} {Q : List D → List SO → Prop} : WE call (cD d) η S Q ↔ Q [d] S := by
  unfold cD
  rw [WE_prim, WE_nil]
  exact WP_of rfl
theorem w_add : WP addP [.int i, .int j] S Q ↔ Q (.int (i + j)) S := WP_of rfl
theorem orP_some {f g : Prim} {r : D × List SO} (h : f ds S = some r) : orP f g ds S = some r := by unfold orP; rw [h]
theorem orP_none {f g : Prim} (h : f ds S = none) : orP f g ds S = g ds S := by unfold orP; rw [h]
theorem w_addS : WP addP [.str x, .str y] S Q ↔ x.length + y.length ≤ 100000 ∧ Q (.str (x ++ y)) S := WP_if (by
  unfold addP
  rw [orP_none rfl]
  by_cases hc : x.length + y.length ≤ 100000
  · rw [if_pos hc]
    exact orP_some (by show (if x.length + y.length ≤ 100000 then _ else _) = _; rw [if_pos hc])
  · rw [if_neg hc, orP_none (by show (if x.length + y.length ≤ 100000 then _ else _) = _; rw [if_neg hc])]
    rfl)
theorem w_addL : WP addP [.list xs, .list ys] S Q ↔ xs.length + ys.length ≤ 100000 ∧ Q (.list (xs ++ ys)) S := WP_if (by
  unfold addP
  rw [orP_none rfl, orP_none rfl]
  by_cases hc : xs.length + ys.length ≤ 100000
  · rw [if_pos hc]
    exact orP_some (by show (if xs.length + ys.length ≤ 100000 then _ else _) = _; rw [if_pos hc])
  · rw [if_neg hc, orP_none (by show (if xs.length + ys.length ≤ 100000 then _ else _) = _; rw [if_neg hc])]
    rfl)
theorem w_addT : WP addP [.tuple xs, .tuple ys] S Q ↔ (xs.length + ys.length ≤ 100000 ∧ xs.isEmpty = false) ∧ Q (.tuple (xs ++ ys)) S := WP_if rfl
theorem w_sub : WP subP [.int i, .int j] S Q ↔ Q (.int (i - j)) S := WP_of rfl
theorem w_mul : WP mulP [.int i, .int j] S Q ↔ mulB i j = true ∧ Q (.int (i * j)) S := WP_if (by
  unfold mulP
  by_cases hc : mulB i j = true
  · rw [if_pos hc]
    exact orP_some (by show (if mulB i j = true then some (PyData.int (i * j)) else none).map _ = _; rw [if_pos hc]; rfl)
  · rw [if_neg hc, orP_none (by show (if mulB i j = true then some (PyData.int (i * j)) else none).map _ = _; rw [if_neg hc]; rfl)]
    rfl)
theorem w_div : WP divP [.int i, .int j] S Q ↔ (0 < j ∧ j.natAbs.log2 < 9000) ∧ Q (.int (i / j)) S := WP_if map_if
theorem w_mod : WP modP [.int i, .int j] S Q ↔ 0 < j ∧ Q (.int (i % j)) S := WP_if map_if
theorem w_pow : WP powP [.int i, .int j] S Q ↔ powB i j = true ∧ Q (.int (i ^ j.toNat)) S := WP_if map_if
theorem w_neg : WP negP [.int i] S Q ↔ Q (.int (-i)) S := WP_of rfl
theorem w_not : WP notP [.bool b] S Q ↔ Q (.bool (!b)) S := WP_of rfl
theorem w_eqI : WP eqP [.int i, .int j] S Q ↔ Q (.bool (decide (i = j))) S := WP_of rfl
theorem w_neI : WP neP [.int i, .int j] S Q ↔ Q (.bool (!decide (i = j))) S := WP_of rfl
theorem w_eqS : WP eqP [.str x, .str y] S Q ↔ Q (.bool (decide (x = y))) S := WP_of rfl
theorem w_eqB : WP eqP [.bool b, .bool b'] S Q ↔ Q (.bool (decide (b = b'))) S := WP_of rfl
theorem w_ltI : WP ltP [.int i, .int j] S Q ↔ Q (.bool (decide (i < j))) S := WP_of rfl
theorem w_leI : WP leP [.int i, .int j] S Q ↔ Q (.bool (decide (i ≤ j))) S := WP_of rfl
theorem w_gtI : WP gtP [.int i, .int j] S Q ↔ Q (.bool (decide (j < i))) S := WP_of rfl
theorem w_geI : WP geP [.int i, .int j] S Q ↔ Q (.bool (decide (j ≤ i))) S := WP_of rfl
theorem w_leS : WP leP [.str x, .str y] S Q ↔ Q (.bool (!decide (y.cps.toList < x.cps.toList))) S := WP_of rfl
theorem w_isB : WP isP [.bool b, .bool b'] S Q ↔ Q (.bool (decide (b = b'))) S := WP_of rfl
theorem w_isN : WP isP [d, .none] S Q ↔ Q (.bool (isNone d)) S := WP_of (by cases d <;> rfl)
theorem w_tup : WP tupP xs S Q ↔ xs.length ≤ 100000 ∧ Q (.tuple xs) S := WP_if rfl
theorem w_lst : WP lstP xs S Q ↔ xs.length ≤ 100000 ∧ Q (.list xs) S := WP_if rfl
theorem w_new : WP newP xs S Q ↔ xs.length ≤ 100000 ∧ Q (rf S.length) (S ++ [.lst xs]) := WP_if rfl
theorem w_abs : WP absP [.int i] S Q ↔ Q (.int (if i < 0 then -i else i)) S := WP_of rfl
theorem w_max : WP maxP [.int i, .int j] S Q ↔ Q (.int (if j > i then j else i)) S := WP_of rfl
theorem w_min : WP minP [.int i, .int j] S Q ↔ Q (.int (if j < i then j else i)) S := WP_of rfl
theorem w_gcd : WP gcdP [.int i, .int j] S Q ↔ Q (.int ((Nat.gcd i.natAbs j.natAbs : Nat) : Int)) S := WP_of rfl
theorem w_int : WP intP [.int i] S Q ↔ Q (.int i) S := WP_of rfl
theorem w_intB : WP intP [.bool b] S Q ↔ Q (.int (if b then 1 else 0)) S := WP_of rfl
theorem w_truB : WP truP [.bool b] S Q ↔ Q (.bool b) S := WP_of rfl
theorem w_truL : WP truP [.list xs] S Q ↔ Q (.bool (!xs.isEmpty)) S := WP_of rfl
theorem w_truT : WP truP [.tuple xs] S Q ↔ Q (.bool (!xs.isEmpty)) S := WP_of rfl
theorem w_lenL : WP lenP [.list xs] S Q ↔ Q (.int xs.length) S := WP_of rfl
theorem w_lenT : WP lenP [.tuple xs] S Q ↔ Q (.int xs.length) S := WP_of rfl
theorem w_lenS : WP lenP [.str x] S Q ↔ x.length ≤ 100000 ∧ Q (.int x.length) S := WP_if rfl
theorem w_lenF {n : Nat} (h : S[n]? = some (.fro xs)) : WP lenP [.dict [(.int (Int.ofNat n), .none)]] S Q ↔ Q (.int xs.length) S := WP_of (by
  show (seqD _ S).map _ = _
  unfold seqD
  dsimp only
  rw [h]; rfl)
theorem w_idxL {d : D} (h : L2.atI xs j = some d) : WP idxP [.list xs, .int j] S Q ↔ Q d S := WP_of (by show (L2.atI xs j).map _ = _; rw [h]; rfl)
theorem w_idxT {d : D} (h : L2.atI xs j = some d) : WP idxP [.tuple xs, .int j] S Q ↔ Q d S := WP_of (by show (L2.atI xs j).map _ = _; rw [h]; rfl)
theorem w_idxF {n : Nat} {d : D} (hs : S[n]? = some (.fro xs)) (h : L2.atI xs j = some d) : WP idxP [.dict [(.int (Int.ofNat n), .none)], .int j] S Q ↔ Q d S := WP_of (by
  show (seqD _ S).bind _ = _
  unfold seqD
  dsimp only
  rw [hs]
  show (L2.atI xs j).map _ = _
  rw [h]; rfl)
theorem w_idxR {n : Nat} {d : D} (hs : S[n]? = some (.lst xs)) (h : L2.atI xs j = some d) : WP idxP [.dict [(.int (Int.ofNat n), .none)], .int j] S Q ↔ Q d S := WP_of (by
  show (seqD _ S).bind _ = _
  unfold seqD
  dsimp only
  rw [hs]
  show (L2.atI xs j).map _ = _
  rw [h]; rfl)
theorem w_set {n m : Nat} {v : D} {R : List SO → Prop} (hs : S[n]? = some (.lst xs)) (h : L2.ixN xs.length j = some m) : WO setL [v, .dict [(.int (Int.ofNat n), .none)], .int j] S R ↔ R (S.set n (.lst (xs.set m v))) := by
  have e : setL [v, .dict [(.int (Int.ofNat n), .none)], .int j] S = some (S.set n (.lst (xs.set m v))) := by
    unfold setL
    dsimp only
    rw [hs]
    show (L2.ixN xs.length j).map _ = _
    rw [h]; rfl
  unfold WO
  rw [e]
  exact ⟨fun ⟨_, h1, q⟩ => by cases h1; exact q, fun q => ⟨_, rfl, q⟩⟩
theorem WI_of {f : List D → List SO → Option (List D × List SO)} {R : List D → List SO → Prop} {es : List D} {S1 : List SO} (h : f ds S = some (es, S1)) : WI f ds S R ↔ R es S1 := ⟨fun ⟨_, _, h1, q⟩ => by rw [h] at h1; cases h1; exact q, fun q => ⟨_, _, h, q⟩⟩
theorem WI_if {f : List D → List SO → Option (List D × List SO)} {R : List D → List SO → Prop} {es : List D} {S1 : List SO} {p : Prop} [Decidable p] (h : f ds S = if p then some (es, S1) else none) : WI f ds S R ↔ p ∧ R es S1 := by
  unfold WI
  rw [h]
  constructor
  · rintro ⟨_, _, h1, q⟩
    split at h1
    · rename_i hp; cases h1; exact ⟨hp, q⟩
    · cases h1
  · rintro ⟨hp, q⟩
    exact ⟨es, S1, by rw [if_pos hp], q⟩
section
variable {R : List D → List SO → Prop}
theorem w_itAL : WI itA [.list xs] S R ↔ R xs S := WI_of rfl
theorem w_itAT : WI itA [.tuple xs] S R ↔ R xs S := WI_of rfl
theorem w_itAS : WI itA [.str x] S R ↔ R ((signs x).map .str) S := WI_of rfl
theorem w_itR1 : WI itR1 [.int j] S R ↔ (j < 2 ^ 40 ∧ -(2 ^ 40) ≤ j) ∧ R (upto 0 j.toNat) S := WI_if rfl
theorem w_itR2 : WI itR2 [.int i, .int j] S R ↔ ((i < 2 ^ 40 ∧ -(2 ^ 40) ≤ i) ∧ (j < 2 ^ 40 ∧ -(2 ^ 40) ≤ j)) ∧ R (upto i (j - i).toNat) S := WI_if rfl
end
theorem w_listR2 : WP listR2 [.int i, .int j] S Q ↔ ((i < 2 ^ 40 ∧ -(2 ^ 40) ≤ i) ∧ (j < 2 ^ 40 ∧ -(2 ^ 40) ≤ j) ∧ (j - i).toNat ≤ 100000) ∧ Q (.list (upto i (j - i).toNat)) S := WP_if rfl
theorem w_listL : WP listP [.list xs] S Q ↔ Q (.list xs) S := WP_of rfl
theorem w_listT : WP listP [.tuple xs] S Q ↔ Q (.list xs) S := WP_of rfl
theorem w_listS : WP listS [.str x] S Q ↔ x.cps.size ≤ 100000 ∧ Q (.list ((signs x).map .str)) S := WP_if rfl
theorem w_mulL : WP mulP [.list xs, .int j] S Q ↔ (-(2 ^ 63) ≤ j ∧ j < 2 ^ 63 ∧ xs.length * j.toNat ≤ 100000) ∧ Q (.list (List.replicate j.toNat xs).flatten) S := WP_if (by unfold mulP; rw [orP_none rfl]; rfl)
theorem w_dct0 : WP dct0 [] S Q ↔ Q (.dict []) S := WP_of rfl
theorem w_isiT {z : String} {b : Bool} (h : ((tyD d S).bind fun t => (L2.kitB t z)) = some b) : WP (isiP z) [d] S Q ↔ Q (.bool b) S := WP_of (by
  show ((tyD d S).bind fun t => (L2.kitB t z).map fun b => (PyData.bool b, S)) = _
  obtain ⟨t, h1, h2⟩ := bind_some h
  rw [h1]
  show (L2.kitB t z).map _ = _
  rw [h2]; rfl)
theorem w_neq {d : D} (h1 : plain d = true) (h2 : SeqAt.shaped d = true) : WP neP [d, d] S Q ↔ Q (.bool false) S := WP_of (by
  show (eqD d d).map _ = _
  rw [eqD_self h1 h2]; rfl)
theorem w_eqq {d : D} (h1 : plain d = true) (h2 : SeqAt.shaped d = true) : WP eqP [d, d] S Q ↔ Q (.bool true) S := WP_of (by
  show (eqD d d).map _ = _
  rw [eqD_self h1 h2]; rfl)
end
end
end Iv

set_option Elab.async false
set_option linter.all false
set_option maxRecDepth 100000
set_option maxHeartbeats 4000000
namespace Iv
open PySem
local macro_rules | `(tactic| walk_at "iv") => `(tactic| simp only [WE_nil, WE_cons, WE_loc, WE_prim, WE_itr, WE_call, WE_and, WE_or, WE_ife, WE_lc, WE_chn, WL_nil, WL_cons, WS_skip, WS_brk, WS_cnt, WS_retn, WS_abort, WS_seq, WS_asg, WS_par, WS_eff, WS_dex, WS_ite, WS_ret, WS_for, WS_whl, WF_nil, WF_cons, QN_nx, QN_brk, QN_cnt, QN_ret, QL_nx, QL_cnt, QL_brk, QL_ret, QR_ret, QR_nx, O1_one, OB_one, OE_some, OT_nm, OT_tp, wE_cD,
  w_add, w_addS, w_addL, w_addT, w_sub, w_mul, w_div, w_mod, w_pow, w_neg, w_not, w_eqI, w_neI, w_eqS, w_eqB, w_ltI, w_leI, w_gtI, w_geI, w_leS, w_isB, w_isN, w_tup, w_lst, w_new, w_abs, w_max, w_min, w_gcd, w_int, w_intB, w_truB, w_truL, w_truT, w_lenL, w_lenT, w_lenS,
  startE, setAll, wipeE, List.map_cons, List.map_nil, List.length_cons, List.length_nil, List.reduceReplicate, List.nil_append, List.cons_append, List.getElem?_cons_zero, List.getElem?_cons_succ, List.set_cons_zero, List.set_cons_succ, Nat.reduceAdd, Nat.reduceSub, Nat.reduceLeDiff, true_and, and_true, decide_eq_true_eq, decide_eq_false_iff_not])
theorem log_lt {i : Int} (h : -(2 ^ 100) < i ∧ i < 2 ^ 100) : i.natAbs.log2 < 101 := PySem.Flt.log2_lt_of (by decide) (show i.natAbs < 2 ^ 101 by omega)
theorem mulB_of {i j : Int} (h1 : -(2 ^ 100) < i ∧ i < 2 ^ 100) (h2 : -(2 ^ 100) < j ∧ j < 2 ^ 100) : mulB i j = true := by
  have a := log_lt h1
  have b := log_lt h2
  unfold mulB
  exact decide_eq_true (by omega)
theorem div_of {j : Int} (h : 0 < j) (h2 : j < 2 ^ 100) : 0 < j ∧ j.natAbs.log2 < 9000 := ⟨h, Nat.lt_trans (log_lt ⟨by omega, h2⟩) (by decide)⟩
theorem pw : powB 10 60 = true ∧ powB (10 ^ Int.toNat 60) 10 = true ∧ powB 10 18 = true := by decide +kernel
theorem pq : (0 : Int) < (10 ^ Int.toNat 60) ^ Int.toNat 10 ∧ ((10 : Int) ^ Int.toNat 60) ^ Int.toNat 10 < 2 ^ 2000 ∧ (0 : Int) < 10 ^ Int.toNat 18 ∧ (10 : Int) ^ Int.toNat 18 < 2 ^ 100 := by decide +kernel
def cDiceT : C := (.seq (.asg (.nm 3) (.prim modP (.cons (.prim intP (.cons (.prim absP (.cons (.loc 2) .nil)) .nil)) (.cons (.prim powP (.cons (.prim powP (.cons (cD (.int 10)) (.cons (cD (.int 60)) .nil))) (.cons (cD (.int 10)) .nil))) .nil))))
    (.seq (.asg (.nm 4) (.prim divP (.cons (.loc 3) (.cons (.prim powP (.cons (cD (.int 10)) (.cons (cD (.int 18)) .nil))) .nil))))
    (.seq (.asg (.nm 5) (.prim addP (.cons (.prim addP (.cons (.prim addP (.cons (.prim mulP (.cons (.prim modP (.cons (.loc 3) (.cons (cD (.int 2147482873)) .nil))) (.cons (cD (.int 60493)) .nil))) (.cons (.prim mulP (.cons (cD (.int 3491)) (.cons (.loc 1) .nil))) .nil))) (.cons (.prim mulP (.cons (cD (.int 67)) (.cons (.prim intP (.cons (.prim ltP (.cons (.loc 2) (.cons (cD (.int 0)) .nil))) .nil)) .nil))) .nil))) (.cons (cD (.int 97)) .nil))))
    (.ret (.prim newP (.cons (.loc 4) (.cons (.prim modP (.cons (.loc 5) (.cons (cD (.int 2147482867)) .nil))) (.cons (cD (.int 0)) .nil))))))))
def cDice : C := (.seq (.asg (.nm 2) (.prim addP (.cons (.prim mulP (.cons (cD (.int 89)) (.cons (.loc 1) .nil))) (.cons (cD (.int 61)) .nil))))
    (.seq (.ite (.prim ltP (.cons (.loc 1) (.cons (.prim lenP (.cons (.loc 0) .nil)) .nil))) (.asg (.nm 2) (.prim idxP (.cons (.loc 0) (.cons (.loc 1) .nil)))) .skip)
    cDiceT))
def cRoll : C := (.seq (.asg (.nm 2) (.prim intP (.cons (.loc 1) .nil)))
    (.seq (.ite (.prim gtP (.cons (.prim idxP (.cons (.loc 0) (.cons (cD (.int 0)) .nil))) (.cons (cD (.int 0)) .nil))) (.seq (.asg (.nm 3) (.prim modP (.cons (.prim idxP (.cons (.loc 0) (.cons (cD (.int 0)) .nil))) (.cons (.loc 2) .nil))))
    (.seq (.eff setL (.cons (.prim divP (.cons (.prim idxP (.cons (.loc 0) (.cons (cD (.int 0)) .nil))) (.cons (.loc 2) .nil))) (.cons (.loc 0) (.cons (cD (.int 0)) .nil))))
    (.ret (.prim intP (.cons (.loc 3) .nil))))) .skip)
    (.seq (.eff setL (.cons (.prim addP (.cons (.prim idxP (.cons (.loc 0) (.cons (cD (.int 2)) .nil))) (.cons (cD (.int 1)) .nil))) (.cons (.loc 0) (.cons (cD (.int 2)) .nil))))
    (.seq (.asg (.nm 4) (.prim modP (.cons (.prim addP (.cons (.prim idxP (.cons (.loc 0) (.cons (cD (.int 1)) .nil))) (.cons (.prim mulP (.cons (cD (.int 1000303)) (.cons (.prim idxP (.cons (.loc 0) (.cons (cD (.int 2)) .nil))) .nil))) .nil))) (.cons (cD (.int 2305843009213693951)) .nil))))
    (.seq (.asg (.nm 5) (.prim addP (.cons (.prim mulP (.cons (.prim modP (.cons (.prim mulP (.cons (.loc 4) (.cons (.loc 4) .nil))) (.cons (cD (.int 2305843009213693921)) .nil))) (.cons (.loc 4) .nil))) (.cons (.prim mulP (.cons (cD (.int 9461)) (.cons (.prim idxP (.cons (.loc 0) (.cons (cD (.int 2)) .nil))) .nil))) .nil))))
    (.seq (.asg (.nm 5) (.prim modP (.cons (.loc 5) (.cons (cD (.int 2305843009213693907)) .nil))))
    (.ret (.prim intP (.cons (.prim modP (.cons (.prim divP (.cons (.loc 5) (.cons (cD (.int 4096)) .nil))) (.cons (.loc 2) .nil))) .nil)))))))))
def cOneOf (r : Nat) : C := (.ret (.prim idxP (.cons (.loc 1) (.cons (.call r (.cons (.loc 0) (.cons (.prim lenP (.cons (.loc 1) .nil)) .nil))) .nil))))
/-- dice at i: at most n draws of the second kind made -/
def Dc (n : Nat) (S : List SO) (i : Nat) : Prop := ∃ l m c : Int, S[i]? = some (.lst [.int l, .int m, .int c]) ∧ (0 ≤ l ∧ l < 2 ^ 2000) ∧ (0 ≤ m ∧ m < 2 ^ 31) ∧ 0 ≤ c ∧ c ≤ n
/-- the dice at i have been rolled, all else stands -/
structure Nx (n : Nat) (S : List SO) (i : Nat) (S1 : List SO) : Prop where
  dc : Dc n S1 i
  oth : ∀ j, j ≠ i → S1[j]? = S[j]?
  len : S1.length = S.length
theorem Nx.trans {n m i : Nat} {S S1 S2 : List SO} (a : Nx n S i S1) (b : Nx m S1 i S2) : Nx m S i S2 := ⟨b.dc, fun j h => (b.oth j h).trans (a.oth j h), b.len.trans a.len⟩
section
variable {tab : Nat → Option Def} {k j : Nat}
theorem diceT_ok {call : CallT} {at_ : Nat} {z : Int} {S : List SO} (hat : at_ < 64) : WS call cDiceT [some (rf 0), some (.int at_), some (.int z), none, none, none] S (QR fun d S1 => ∃ l m : Int, d = rf S.length ∧ S1 = S ++ [.lst [.int l, .int m, .int 0]] ∧ (0 ≤ l ∧ l < 2 ^ 2000) ∧ (0 ≤ m ∧ m < 2 ^ 31)) := by
  unfold cDiceT
  walk_at "iv"
  obtain ⟨p1, p2, p3⟩ := pw
  obtain ⟨p4, p5, p6, p7⟩ := pq
  have g1 := Int.emod_nonneg (if z < 0 then -z else z) (show ((10 : Int) ^ Int.toNat 60) ^ Int.toNat 10 ≠ 0 by omega)
  have g2 := Int.emod_lt_of_pos (if z < 0 then -z else z) p4
  generalize hgr : (if z < 0 then -z else z) % (10 ^ Int.toNat 60) ^ Int.toNat 10 = gr at *
  have g3 : 0 ≤ gr / 10 ^ Int.toNat 18 := Int.ediv_nonneg g1 (by omega)
  have g4 : gr / 10 ^ Int.toNat 18 ≤ gr := Int.ediv_le_self _ g1
  have g5 := Int.emod_nonneg gr (show (2147482873 : Int) ≠ 0 by decide)
  have g6 := Int.emod_lt_of_pos gr (show (0 : Int) < 2147482873 by decide)
  have b : ∀ p : Prop, ∀ [Decidable p], (0 : Int) ≤ (if p then 1 else 0) ∧ (if p then (1 : Int) else 0) ≤ 1 := fun p _ => by split <;> omega
  refine ⟨p1, p2, p4, p3, div_of p6 p7, by decide, mulB_of (by omega) (by omega), mulB_of (by omega) (by omega), mulB_of (by omega) ?_, by decide, ?_⟩
  · split <;> omega
  · refine ⟨_, _, rfl, ⟨g3, by omega⟩, ?_, ?_⟩
    · exact Int.emod_nonneg _ (by decide)
    · exact Int.lt_trans (Int.emod_lt_of_pos _ (by decide)) (by decide)
theorem dice_ok (ht : tab j = some ⟨6, 2, false, cDice⟩) {ns : List Int} {at_ : Nat} {S : List SO} (h0 : S[0]? = some (.fro (ns.map .int))) (hat : at_ < 64) :
    WC (callN tab (k + 1)) j [rf 0, .int at_] S fun d S1 => ∃ l m : Int, d = rf S.length ∧ S1 = S ++ [.lst [.int l, .int m, .int 0]] ∧ (0 ≤ l ∧ l < 2 ^ 2000) ∧ (0 ≤ m ∧ m < 2 ^ 31) := by
  refine wc_def ht rfl ?_
  unfold cDice
  walk_at "iv"
  refine ⟨mulB_of (by omega) (by omega), (w_lenF h0).mpr ?_⟩
  walk_at "iv"
  refine ⟨fun h => ?_, fun h => diceT_ok hat⟩
  have hlt : at_ < ns.length := by
    have : (at_ : Int) < ((ns.map PyData.int).length : Nat) := h
    rw [List.length_map] at this
    omega
  refine (w_idxF (d := .int ns[at_]) h0 ?_).mpr (diceT_ok hat)
  exact L2.atI_nat (by rw [List.getElem?_map, List.getElem?_eq_getElem hlt]; rfl)
theorem Dc.set {n i : Nat} {S : List SO} {l m c : Int} (h : S[i]? ≠ none) (h1 : 0 ≤ l ∧ l < 2 ^ 2000) (h2 : 0 ≤ m ∧ m < 2 ^ 31) (h3 : 0 ≤ c ∧ c ≤ n) : Nx n S i (S.set i (.lst [.int l, .int m, .int c])) := by
  have hi : i < S.length := by
    rcases Nat.lt_or_ge i S.length with q | q
    · exact q
    · exact absurd (List.getElem?_eq_none q) h
  exact ⟨⟨l, m, c, by rw [List.getElem?_set_self hi], h1, h2, h3⟩, fun j hj => List.getElem?_set_ne (Ne.symm hj), by simp⟩
theorem roll_ok (ht : tab j = some ⟨6, 2, false, cRoll⟩) {n i : Nat} {t : Int} {S : List SO} (h : Dc n S i) (hn : n ≤ 2 ^ 30) (h1 : 1 ≤ t) (h2 : t ≤ 2 ^ 30) :
    WC (callN tab (k + 1)) j [rf i, .int t] S fun d S1 => ∃ r : Int, d = .int r ∧ (0 ≤ r ∧ r < t) ∧ Nx (n + 1) S i S1 := by
  obtain ⟨l, m, c, hs, hl, hm, hc⟩ := h
  have hne : S[i]? ≠ none := by rw [hs]; exact fun z => nomatch z
  have i0 : ∀ xs : List D, L2.atI (.int l :: xs) 0 = some (.int l) := fun xs => L2.atI_nat (j := 0) rfl
  refine wc_def ht rfl ?_
  unfold cRoll
  walk_at "iv"
  refine (w_idxR hs (i0 _)).mpr ?_
  walk_at "iv"
  refine ⟨fun hp => ?_, fun hp => ?_⟩
  · refine (w_idxR hs (i0 _)).mpr ?_
    walk_at "iv"
    refine ⟨by omega, (w_idxR hs (i0 _)).mpr ?_⟩
    walk_at "iv"
    refine ⟨div_of (by omega) (by omega), (w_set hs (m := 0) rfl).mpr ?_⟩
    walk_at "iv"
    have g1 := Int.ediv_nonneg hl.1 (show 0 ≤ t by omega)
    have g2 := Int.ediv_le_self t hl.1
    exact ⟨_, rfl, ⟨Int.emod_nonneg _ (by omega), Int.emod_lt_of_pos _ (by omega)⟩, Dc.set hne ⟨g1, by omega⟩ hm ⟨hc.1, by omega⟩⟩
  · refine (w_idxR hs (d := .int c) rfl).mpr ?_
    walk_at "iv"
    refine (w_set hs (m := 2) rfl).mpr ?_
    have nx1 := Dc.set (n := n + 1) hne hl hm (c := c + 1) ⟨by omega, by omega⟩
    have hs1 : (S.set i (.lst [.int l, .int m, .int (c + 1)]))[i]? = some (.lst [.int l, .int m, .int (c + 1)]) := List.getElem?_set_self (List.getElem?_eq_some_iff.mp hs).1
    show WP idxP _ (S.set i (.lst [.int l, .int m, .int (c + 1)])) _
    generalize S.set i (.lst [.int l, .int m, .int (c + 1)]) = S1 at *
    refine (w_idxR hs1 (d := .int m) rfl).mpr ((w_idxR hs1 (d := .int (c + 1)) rfl).mpr ?_)
    walk_at "iv"
    refine ⟨mulB_of (by omega) (by omega), by decide, ?_⟩
    have a1 := Int.emod_nonneg (m + 1000303 * (c + 1)) (show (2305843009213693951 : Int) ≠ 0 by decide)
    have a2 := Int.emod_lt_of_pos (m + 1000303 * (c + 1)) (show (0 : Int) < 2305843009213693951 by decide)
    generalize (m + 1000303 * (c + 1)) % 2305843009213693951 = one at *
    refine ⟨mulB_of (by omega) (by omega), by decide, ?_⟩
    have b1 := Int.emod_nonneg (one * one) (show (2305843009213693921 : Int) ≠ 0 by decide)
    have b2 := Int.emod_lt_of_pos (one * one) (show (0 : Int) < 2305843009213693921 by decide)
    generalize one * one % 2305843009213693921 = two at *
    refine ⟨mulB_of (by omega) (by omega), (w_idxR hs1 (d := .int (c + 1)) rfl).mpr ?_⟩
    walk_at "iv"
    refine ⟨mulB_of (by omega) (by omega), by decide, div_of (by decide) (by decide), by omega, ?_⟩
    exact ⟨_, rfl, ⟨Int.emod_nonneg _ (by omega), Int.emod_lt_of_pos _ (by omega)⟩, nx1⟩
theorem oneOf_ok {r : Nat} (ht : tab j = some ⟨2, 2, false, cOneOf r⟩) (hr : tab r = some ⟨6, 2, false, cRoll⟩) {n i : Nat} {xs : List D} {S : List SO} (h : Dc n S i) (hn : n ≤ 2 ^ 30) (h1 : 1 ≤ xs.length) (h2 : xs.length ≤ 2 ^ 30) :
    WC (callN tab (k + 2)) j [rf i, .list xs] S fun d S1 => ∃ m : Nat, xs[m]? = some d ∧ Nx (n + 1) S i S1 := by
  refine wc_def ht rfl ?_
  unfold cOneOf
  walk_at "iv"
  refine (roll_ok hr h hn (by omega) (by omega)).mono fun d S1 ⟨q, hd, hq, nx⟩ => ?_
  subst hd
  obtain ⟨m, rfl⟩ := Int.eq_ofNat_of_zero_le hq.1
  have hm : m < xs.length := by omega
  refine (w_idxL (L2.atI_nat (List.getElem?_eq_getElem hm))).mpr ?_
  exact ⟨m, List.getElem?_eq_getElem hm, nx⟩
end
end Iv

set_option Elab.async false
set_option linter.all false
set_option maxRecDepth 100000
set_option maxHeartbeats 4000000
namespace K01
open PySem L2 Iv
open PySem.Spec PyProof.Rows
def topS (i : Nat) : Stmt := PySem.Challenge.pw_downsets_k01_whole_fractions_in_lowest_t.main.body.getD i (.Pass ⟨0, 0, 0, 0⟩)
abbrev s_0 : Stmt := topS 7
abbrev n_0 : List Str := ["value", "letter"]
theorem sc_0 : FnScope n_0 ["value"] (defScope s_0) := ⟨rfl, rfl, rfl, by decide +kernel, rfl, by decide +kernel, by decide +kernel⟩
/-- is_place -/
def c_0 : C := (.seq (.ite (.or (.prim notP (.cons (.prim truP (.cons (.prim (isiP "str") (.cons (.loc 0) .nil)) .nil)) .nil)) (.prim notP (.cons (.chn leP leP (cD (.int 1)) (.prim lenP (.cons (.loc 0) .nil)) (cD (.int (8)))) .nil))) (.ret (cD (.bool false))) .skip)
    (.ret (.prim allP (.cons (.lc (.nm 1) (.itr itA (.cons (.loc 0) .nil)) (cD (.bool true)) (.chn leP leP (cD (.str ("a" : PySem.Str))) (.loc 1) (cD (.str ("z" : PySem.Str)))) [1]) .nil))))
abbrev s_1 : Stmt := topS 8
abbrev n_1 : List Str := ["value"]
theorem sc_1 : FnScope n_1 ["value"] (defScope s_1) := ⟨rfl, rfl, rfl, by decide +kernel, rfl, by decide +kernel, by decide +kernel⟩
/-- is_whole -/
def c_1 : C := (.ret (.and (.prim (isiP "int") (.cons (.loc 0) .nil)) (.prim notP (.cons (.prim (isiP "bool") (.cons (.loc 0) .nil)) .nil))))
abbrev s_2 : Stmt := topS 9
abbrev n_2 : List Str := ["value", "above", "below"]
theorem sc_2 : FnScope n_2 ["value"] (defScope s_2) := ⟨rfl, rfl, rfl, by decide +kernel, rfl, by decide +kernel, by decide +kernel⟩
/-- is_fraction -/
def c_2 : C := (.seq (.ite (.or (.prim notP (.cons (.prim truP (.cons (.prim (isiP "tuple") (.cons (.loc 0) .nil)) .nil)) .nil)) (.prim neP (.cons (.prim lenP (.cons (.loc 0) .nil)) (.cons (cD (.int 2)) .nil)))) (.ret (cD (.bool false))) .skip)
    (.seq (.asg (.tp [1, 2]) (.loc 0))
    (.seq (.ite (.or (.prim notP (.cons (.prim truP (.cons (.call 1 (.cons (.loc 1) .nil)) .nil)) .nil)) (.prim notP (.cons (.prim truP (.cons (.call 1 (.cons (.loc 2) .nil)) .nil)) .nil))) (.ret (cD (.bool false))) .skip)
    (.ret (.and (.prim geP (.cons (.loc 2) (.cons (cD (.int 1)) .nil))) (.prim eqP (.cons (.prim gcdP (.cons (.loc 1) (.cons (.loc 2) .nil))) (.cons (cD (.int 1)) .nil))))))))
abbrev s_3 : Stmt := topS 10
abbrev n_3 : List Str := ["numerator", "denominator", "number", "shared"]
theorem sc_3 : FnScope n_3 ["numerator", "denominator"] (defScope s_3) := ⟨rfl, rfl, rfl, by decide +kernel, rfl, by decide +kernel, by decide +kernel⟩
/-- fraction -/
def c_3 : C := (.seq (.forr (.nm 2) (.itr itA (.cons (.prim tupP (.cons (.loc 0) (.cons (.loc 1) .nil))) .nil)) (.ite (.prim notP (.cons (.prim truP (.cons (.call 1 (.cons (.loc 2) .nil)) .nil)) .nil)) .abort .skip))
    (.seq (.ite (.prim ltP (.cons (.loc 1) (.cons (cD (.int 1)) .nil))) .abort .skip)
    (.seq (.asg (.nm 3) (.prim gcdP (.cons (.loc 0) (.cons (.loc 1) .nil))))
    (.ret (.prim tupP (.cons (.prim divP (.cons (.loc 0) (.cons (.loc 3) .nil))) (.cons (.prim divP (.cons (.loc 1) (.cons (.loc 3) .nil))) .nil)))))))
abbrev s_4 : Stmt := topS 11
abbrev n_4 : List Str := ["one", "other"]
theorem sc_4 : FnScope n_4 ["one", "other"] (defScope s_4) := ⟨rfl, rfl, rfl, by decide +kernel, rfl, by decide +kernel, by decide +kernel⟩
/-- is_lower -/
def c_4 : C := (.seq (.dex (.call 7 (.cons (.prim tupP (.cons (.loc 0) (.cons (.loc 1) .nil))) .nil)))
    (.ret (.prim ltP (.cons (.prim mulP (.cons (.prim idxP (.cons (.loc 0) (.cons (cD (.int 0)) .nil))) (.cons (.prim idxP (.cons (.loc 1) (.cons (cD (.int 1)) .nil))) .nil))) (.cons (.prim mulP (.cons (.prim idxP (.cons (.loc 1) (.cons (cD (.int 0)) .nil))) (.cons (.prim idxP (.cons (.loc 0) (.cons (cD (.int 1)) .nil))) .nil))) .nil)))))
abbrev s_5 : Stmt := topS 12
abbrev n_5 : List Str := ["fractions", "total", "above", "below"]
theorem sc_5 : FnScope n_5 (([] : List Str) ++ (["fractions"] : List Str)) (defScope s_5) := ⟨rfl, rfl, rfl, by decide +kernel, rfl, by decide +kernel, by decide +kernel⟩
/-- added -/
def c_5 : C := (.seq (.dex (.call 7 (.cons (.loc 0) .nil)))
    (.seq (.asg (.nm 1) (.prim tupP (.cons (cD (.int 0)) (.cons (cD (.int 1)) .nil))))
    (.seq (.forr (.tp [2, 3]) (.itr itA (.cons (.loc 0) .nil)) (.asg (.nm 1) (.call 3 (.cons (.prim addP (.cons (.prim mulP (.cons (.prim idxP (.cons (.loc 1) (.cons (cD (.int 0)) .nil))) (.cons (.loc 3) .nil))) (.cons (.prim mulP (.cons (.loc 2) (.cons (.prim idxP (.cons (.loc 1) (.cons (cD (.int 1)) .nil))) .nil))) .nil))) (.cons (.prim mulP (.cons (.prim idxP (.cons (.loc 1) (.cons (cD (.int 1)) .nil))) (.cons (.loc 3) .nil))) .nil)))))
    (.ret (.loc 1)))))
abbrev s_6 : Stmt := topS 13
abbrev n_6 : List Str := ["fractions", "total", "above", "below"]
theorem sc_6 : FnScope n_6 (([] : List Str) ++ (["fractions"] : List Str)) (defScope s_6) := ⟨rfl, rfl, rfl, by decide +kernel, rfl, by decide +kernel, by decide +kernel⟩
/-- multiplied -/
def c_6 : C := (.seq (.dex (.call 7 (.cons (.loc 0) .nil)))
    (.seq (.asg (.nm 1) (.prim tupP (.cons (cD (.int 1)) (.cons (cD (.int 1)) .nil))))
    (.seq (.forr (.tp [2, 3]) (.itr itA (.cons (.loc 0) .nil)) (.asg (.nm 1) (.call 3 (.cons (.prim mulP (.cons (.prim idxP (.cons (.loc 1) (.cons (cD (.int 0)) .nil))) (.cons (.loc 2) .nil))) (.cons (.prim mulP (.cons (.prim idxP (.cons (.loc 1) (.cons (cD (.int 1)) .nil))) (.cons (.loc 3) .nil))) .nil)))))
    (.ret (.loc 1)))))
abbrev s_7 : Stmt := topS 14
abbrev n_7 : List Str := ["values", "value"]
theorem sc_7 : FnScope n_7 ["values"] (defScope s_7) := ⟨rfl, rfl, rfl, by decide +kernel, rfl, by decide +kernel, by decide +kernel⟩
/-- need_fractions -/
def c_7 : C := (.forr (.nm 1) (.itr itA (.cons (.loc 0) .nil)) (.ite (.prim notP (.cons (.prim truP (.cons (.call 2 (.cons (.loc 1) .nil)) .nil)) .nil)) .abort .skip))
abbrev s_8 : Stmt := topS 16
abbrev n_8 : List Str := ["_law_script", "_law_at", "_law_cell", "_law_great", "_law_left", "_law_mixed"]
theorem sc_8 : FnScope n_8 ["_law_script", "_law_at"] (defScope s_8) := ⟨rfl, rfl, rfl, by decide +kernel, rfl, by decide +kernel, by decide +kernel⟩
/-- _law_dice -/
def c_8 : C := (.seq (.asg (.nm 2) (.prim addP (.cons (.prim mulP (.cons (cD (.int 89)) (.cons (.loc 1) .nil))) (.cons (cD (.int 61)) .nil))))
    (.seq (.ite (.prim ltP (.cons (.loc 1) (.cons (.prim lenP (.cons (.loc 0) .nil)) .nil))) (.asg (.nm 2) (.prim idxP (.cons (.loc 0) (.cons (.loc 1) .nil)))) .skip)
    (.seq (.asg (.nm 3) (.prim modP (.cons (.prim intP (.cons (.prim absP (.cons (.loc 2) .nil)) .nil)) (.cons (.prim powP (.cons (.prim powP (.cons (cD (.int 10)) (.cons (cD (.int 60)) .nil))) (.cons (cD (.int 10)) .nil))) .nil))))
    (.seq (.asg (.nm 4) (.prim divP (.cons (.loc 3) (.cons (.prim powP (.cons (cD (.int 10)) (.cons (cD (.int 18)) .nil))) .nil))))
    (.seq (.asg (.nm 5) (.prim addP (.cons (.prim addP (.cons (.prim addP (.cons (.prim mulP (.cons (.prim modP (.cons (.loc 3) (.cons (cD (.int 2147482873)) .nil))) (.cons (cD (.int 60493)) .nil))) (.cons (.prim mulP (.cons (cD (.int 3491)) (.cons (.loc 1) .nil))) .nil))) (.cons (.prim mulP (.cons (cD (.int 67)) (.cons (.prim intP (.cons (.prim ltP (.cons (.loc 2) (.cons (cD (.int 0)) .nil))) .nil)) .nil))) .nil))) (.cons (cD (.int 97)) .nil))))
    (.ret (.prim newP (.cons (.loc 4) (.cons (.prim modP (.cons (.loc 5) (.cons (cD (.int 2147482867)) .nil))) (.cons (cD (.int 0)) .nil))))))))))
abbrev s_9 : Stmt := topS 17
abbrev n_9 : List Str := ["_law_dice_here", "_law_total", "_law_size", "_law_drawn_here", "_law_one", "_law_two"]
theorem sc_9 : FnScope n_9 ["_law_dice_here", "_law_total"] (defScope s_9) := ⟨rfl, rfl, rfl, by decide +kernel, rfl, by decide +kernel, by decide +kernel⟩
/-- _law_roll -/
def c_9 : C := (.seq (.asg (.nm 2) (.prim intP (.cons (.loc 1) .nil)))
    (.seq (.ite (.prim gtP (.cons (.prim idxP (.cons (.loc 0) (.cons (cD (.int 0)) .nil))) (.cons (cD (.int 0)) .nil))) (.seq (.asg (.nm 3) (.prim modP (.cons (.prim idxP (.cons (.loc 0) (.cons (cD (.int 0)) .nil))) (.cons (.loc 2) .nil))))
    (.seq (.eff setL (.cons (.prim divP (.cons (.prim idxP (.cons (.loc 0) (.cons (cD (.int 0)) .nil))) (.cons (.loc 2) .nil))) (.cons (.loc 0) (.cons (cD (.int 0)) .nil))))
    (.ret (.prim intP (.cons (.loc 3) .nil))))) .skip)
    (.seq (.eff setL (.cons (.prim addP (.cons (.prim idxP (.cons (.loc 0) (.cons (cD (.int 2)) .nil))) (.cons (cD (.int 1)) .nil))) (.cons (.loc 0) (.cons (cD (.int 2)) .nil))))
    (.seq (.asg (.nm 4) (.prim modP (.cons (.prim addP (.cons (.prim idxP (.cons (.loc 0) (.cons (cD (.int 1)) .nil))) (.cons (.prim mulP (.cons (cD (.int 1000303)) (.cons (.prim idxP (.cons (.loc 0) (.cons (cD (.int 2)) .nil))) .nil))) .nil))) (.cons (cD (.int 2305843009213693951)) .nil))))
    (.seq (.asg (.nm 5) (.prim addP (.cons (.prim mulP (.cons (.prim modP (.cons (.prim mulP (.cons (.loc 4) (.cons (.loc 4) .nil))) (.cons (cD (.int 2305843009213693921)) .nil))) (.cons (.loc 4) .nil))) (.cons (.prim mulP (.cons (cD (.int 9461)) (.cons (.prim idxP (.cons (.loc 0) (.cons (cD (.int 2)) .nil))) .nil))) .nil))))
    (.seq (.asg (.nm 5) (.prim modP (.cons (.loc 5) (.cons (cD (.int 2305843009213693907)) .nil))))
    (.ret (.prim intP (.cons (.prim modP (.cons (.prim divP (.cons (.loc 5) (.cons (cD (.int 4096)) .nil))) (.cons (.loc 2) .nil))) .nil)))))))))
abbrev s_10 : Stmt := topS 18
abbrev n_10 : List Str := ["_law_dice_here", "_law_items"]
theorem sc_10 : FnScope n_10 ["_law_dice_here", "_law_items"] (defScope s_10) := ⟨rfl, rfl, rfl, by decide +kernel, rfl, by decide +kernel, by decide +kernel⟩
/-- _law_one_of -/
def c_10 : C := (.ret (.prim idxP (.cons (.loc 1) (.cons (.call 9 (.cons (.loc 0) (.cons (.prim lenP (.cons (.loc 1) .nil)) .nil))) .nil))))
abbrev s_11 : Stmt := topS 19
abbrev n_11 : List Str := ["_law_numerator", "_law_denominator", "_law_one", "_law_other"]
theorem sc_11 : FnScope n_11 ["_law_numerator", "_law_denominator"] (defScope s_11) := ⟨rfl, rfl, rfl, by decide +kernel, rfl, by decide +kernel, by decide +kernel⟩
/-- _law_lowest -/
def c_11 : C := (.seq (.par 2 3 (.cons (.prim absP (.cons (.loc 0) .nil)) (.cons (.loc 1) .nil)))
    (.seq (.whl 1000000 (.prim gtP (.cons (.loc 3) (.cons (cD (.int 0)) .nil))) (.par 2 3 (.cons (.loc 3) (.cons (.prim modP (.cons (.prim intP (.cons (.loc 2) .nil)) (.cons (.loc 3) .nil))) .nil))))
    (.ret (.prim tupP (.cons (.prim divP (.cons (.loc 0) (.cons (.loc 2) .nil))) (.cons (.prim divP (.cons (.loc 1) (.cons (.loc 2) .nil))) .nil))))))
abbrev s_12 : Stmt := topS 20
abbrev n_12 : List Str := ["_law_one", "_law_other"]
theorem sc_12 : FnScope n_12 ["_law_one", "_law_other"] (defScope s_12) := ⟨rfl, rfl, rfl, by decide +kernel, rfl, by decide +kernel, by decide +kernel⟩
/-- _law_less -/
def c_12 : C := (.ret (.prim ltP (.cons (.prim mulP (.cons (.prim idxP (.cons (.loc 0) (.cons (cD (.int 0)) .nil))) (.cons (.prim idxP (.cons (.loc 1) (.cons (cD (.int 1)) .nil))) .nil))) (.cons (.prim mulP (.cons (.prim idxP (.cons (.loc 1) (.cons (cD (.int 0)) .nil))) (.cons (.prim idxP (.cons (.loc 0) (.cons (cD (.int 1)) .nil))) .nil))) .nil))))
abbrev s_13 : Stmt := topS 21
abbrev n_13 : List Str := ["_law_one", "_law_top", "_law_low", "_law_some", "_law_by"]
theorem sc_13 : FnScope n_13 ["_law_one"] (defScope s_13) := ⟨rfl, rfl, rfl, by decide +kernel, rfl, by decide +kernel, by decide +kernel⟩
/-- _law_is_lowest -/
def c_13 : C := (.seq (.asg (.tp [1, 2]) (.prim tupP (.cons (.prim intP (.cons (.prim idxP (.cons (.loc 0) (.cons (cD (.int 0)) .nil))) .nil)) (.cons (.prim intP (.cons (.prim idxP (.cons (.loc 0) (.cons (cD (.int 1)) .nil))) .nil)) .nil))))
    (.seq (.asg (.nm 3) (.prim listR2 (.cons (cD (.int 2)) (.cons (.prim addP (.cons (.prim addP (.cons (.prim absP (.cons (.loc 1) .nil)) (.cons (.loc 2) .nil))) (.cons (cD (.int 1)) .nil))) .nil))))
    (.ret (.and (.prim gtP (.cons (.loc 2) (.cons (cD (.int 0)) .nil))) (.prim eqP (.cons (.lc (.nm 4) (.itr itA (.cons (.loc 3) .nil)) (.and (.prim eqP (.cons (.prim modP (.cons (.loc 1) (.cons (.loc 4) .nil))) (.cons (cD (.int 0)) .nil))) (.prim eqP (.cons (.prim modP (.cons (.loc 2) (.cons (.loc 4) .nil))) (.cons (cD (.int 0)) .nil)))) (.loc 4) [4]) (.cons (.prim lstP .nil) .nil)))))))
abbrev s_14 : Stmt := topS 22
abbrev n_14 : List Str := ["_law_dice_here", "_law_great"]
theorem sc_14 : FnScope n_14 ["_law_dice_here"] (defScope s_14) := ⟨rfl, rfl, rfl, by decide +kernel, rfl, by decide +kernel, by decide +kernel⟩
/-- _law_drawn -/
def c_14 : C := (.seq (.asg (.nm 1) (.call 10 (.cons (.loc 0) (.cons (.prim lstP (.cons (cD (.int 5)) (.cons (cD (.int 13)) (.cons (cD (.int 40)) .nil)))) .nil))))
    (.ret (.prim tupP (.cons (.prim subP (.cons (.call 9 (.cons (.loc 0) (.cons (.prim mulP (.cons (cD (.int 2)) (.cons (.loc 1) .nil))) .nil))) (.cons (.loc 1) .nil))) (.cons (.prim addP (.cons (cD (.int 1)) (.cons (.call 9 (.cons (.loc 0) (.cons (.loc 1) .nil))) .nil))) .nil)))))
abbrev s_15 : Stmt := topS 23
abbrev n_15 : List Str := ["_law_rows", "_law_total", "_law_product", "_law_one", "_law_told"]
theorem sc_15 : FnScope n_15 ["_law_rows"] (defScope s_15) := ⟨rfl, rfl, rfl, by decide +kernel, rfl, by decide +kernel, by decide +kernel⟩
/-- _law_sums_right -/
def c_15 : C := (.seq (.asg (.tp [1, 2]) (.prim tupP (.cons (.prim tupP (.cons (cD (.int 0)) (.cons (cD (.int 1)) .nil))) (.cons (.prim tupP (.cons (cD (.int 1)) (.cons (cD (.int 1)) .nil))) .nil))))
    (.seq (.forr (.nm 3) (.itr itA (.cons (.loc 0) .nil)) (.seq (.asg (.nm 1) (.prim tupP (.cons (.prim addP (.cons (.prim mulP (.cons (.prim idxP (.cons (.loc 1) (.cons (cD (.int 0)) .nil))) (.cons (.prim idxP (.cons (.loc 3) (.cons (cD (.int 1)) .nil))) .nil))) (.cons (.prim mulP (.cons (.prim idxP (.cons (.loc 3) (.cons (cD (.int 0)) .nil))) (.cons (.prim idxP (.cons (.loc 1) (.cons (cD (.int 1)) .nil))) .nil))) .nil))) (.cons (.prim mulP (.cons (.prim idxP (.cons (.loc 1) (.cons (cD (.int 1)) .nil))) (.cons (.prim idxP (.cons (.loc 3) (.cons (cD (.int 1)) .nil))) .nil))) .nil))))
    (.asg (.nm 2) (.prim tupP (.cons (.prim mulP (.cons (.prim idxP (.cons (.loc 2) (.cons (cD (.int 0)) .nil))) (.cons (.prim idxP (.cons (.loc 3) (.cons (cD (.int 0)) .nil))) .nil))) (.cons (.prim mulP (.cons (.prim idxP (.cons (.loc 2) (.cons (cD (.int 1)) .nil))) (.cons (.prim idxP (.cons (.loc 3) (.cons (cD (.int 1)) .nil))) .nil))) .nil))))))
    (.seq (.asg (.nm 4) (.prim lstP (.cons (.call 5 .nil) (.cons (.call 6 .nil) .nil))))
    (.seq (.ite (.prim eqP (.cons (.prim lenP (.cons (.loc 0) .nil)) (.cons (cD (.int 1)) .nil))) (.asg (.nm 4) (.prim lstP (.cons (.call 5 (.cons (.prim idxP (.cons (.loc 0) (.cons (cD (.int 0)) .nil))) .nil)) (.cons (.call 6 (.cons (.prim idxP (.cons (.loc 0) (.cons (cD (.int 0)) .nil))) .nil)) .nil)))) .skip)
    (.seq (.ite (.prim eqP (.cons (.prim lenP (.cons (.loc 0) .nil)) (.cons (cD (.int 2)) .nil))) (.asg (.nm 4) (.prim lstP (.cons (.call 5 (.cons (.prim idxP (.cons (.loc 0) (.cons (cD (.int 0)) .nil))) (.cons (.prim idxP (.cons (.loc 0) (.cons (cD (.int 1)) .nil))) .nil))) (.cons (.call 6 (.cons (.prim idxP (.cons (.loc 0) (.cons (cD (.int 0)) .nil))) (.cons (.prim idxP (.cons (.loc 0) (.cons (cD (.int 1)) .nil))) .nil))) .nil)))) .skip)
    (.seq (.ite (.prim eqP (.cons (.prim lenP (.cons (.loc 0) .nil)) (.cons (cD (.int 3)) .nil))) (.asg (.nm 4) (.prim lstP (.cons (.call 5 (.cons (.prim idxP (.cons (.loc 0) (.cons (cD (.int 0)) .nil))) (.cons (.prim idxP (.cons (.loc 0) (.cons (cD (.int 1)) .nil))) (.cons (.prim idxP (.cons (.loc 0) (.cons (cD (.int 2)) .nil))) .nil)))) (.cons (.call 6 (.cons (.prim idxP (.cons (.loc 0) (.cons (cD (.int 0)) .nil))) (.cons (.prim idxP (.cons (.loc 0) (.cons (cD (.int 1)) .nil))) (.cons (.prim idxP (.cons (.loc 0) (.cons (cD (.int 2)) .nil))) .nil)))) .nil)))) .skip)
    (.ret (.prim eqP (.cons (.loc 4) (.cons (.prim lstP (.cons (.call 11 (.cons (.prim idxP (.cons (.loc 1) (.cons (cD (.int 0)) .nil))) (.cons (.prim idxP (.cons (.loc 1) (.cons (cD (.int 1)) .nil))) .nil))) (.cons (.call 11 (.cons (.prim idxP (.cons (.loc 2) (.cons (cD (.int 0)) .nil))) (.cons (.prim idxP (.cons (.loc 2) (.cons (cD (.int 1)) .nil))) .nil))) .nil))) .nil))))))))))
abbrev s_16 : Stmt := topS 24
abbrev n_16 : List Str := ["_law_dice_here", "_law_pairs", "_law_rows", "_law_one", "_law_other", "_law_by", "_law_far", "_law_near", "_law_due", "_law_turn", "_law_many"]
theorem sc_16 : FnScope n_16 ["_law_dice_here"] (defScope s_16) := ⟨rfl, rfl, rfl, by decide +kernel, rfl, by decide +kernel, by decide +kernel⟩
/-- _law_right -/
def c_16 : C := (.seq (.asg (.nm 1) (.lc (.nm 9) (.itr itR1 (.cons (cD (.int 3)) .nil)) (cD (.bool true)) (.call 14 (.cons (.loc 0) .nil)) [9]))
    (.seq (.asg (.nm 2) (.lc (.tp [3, 4]) (.itr itA (.cons (.loc 1) .nil)) (cD (.bool true)) (.call 3 (.cons (.loc 3) (.cons (.loc 4) .nil))) [3, 4]))
    (.seq (.ite (.prim neP (.cons (.loc 2) (.cons (.lc (.tp [3, 4]) (.itr itA (.cons (.loc 1) .nil)) (cD (.bool true)) (.call 11 (.cons (.loc 3) (.cons (.loc 4) .nil))) [3, 4]) .nil))) (.ret (cD (.bool false))) .skip)
    (.seq (.ite (.prim neP (.cons (.lc (.nm 3) (.itr itA (.cons (.loc 2) .nil)) (.prim notP (.cons (.prim truP (.cons (.call 13 (.cons (.loc 3) .nil)) .nil)) .nil)) (.loc 3) [3]) (.cons (.prim lstP .nil) .nil))) (.ret (cD (.bool false))) .skip)
    (.seq (.forr (.tp [3, 4]) (.itr itA (.cons (.prim lstP (.cons (.prim tupP (.cons (.prim idxP (.cons (.loc 2) (.cons (cD (.int 0)) .nil))) (.cons (.prim idxP (.cons (.loc 2) (.cons (cD (.int 1)) .nil))) .nil))) (.cons (.prim tupP (.cons (.prim idxP (.cons (.loc 2) (.cons (cD (.int 1)) .nil))) (.cons (.prim idxP (.cons (.loc 2) (.cons (cD (.int 2)) .nil))) .nil))) (.cons (.prim tupP (.cons (.prim idxP (.cons (.loc 2) (.cons (cD (.int 2)) .nil))) (.cons (.prim idxP (.cons (.loc 2) (.cons (cD (.int 2)) .nil))) .nil))) .nil)))) .nil)) (.ite (.or (.prim neP (.cons (.call 4 (.cons (.loc 3) (.cons (.loc 4) .nil))) (.cons (.call 12 (.cons (.loc 3) (.cons (.loc 4) .nil))) .nil))) (.and (.prim truP (.cons (.call 4 (.cons (.loc 3) (.cons (.loc 4) .nil))) .nil)) (.prim truP (.cons (.call 4 (.cons (.loc 4) (.cons (.loc 3) .nil))) .nil)))) (.ret (cD (.bool false))) .skip))
    (.seq (.ite (.prim neP (.cons (.lc (.nm 10) (.itr itR1 (.cons (cD (.int 4)) .nil)) (.prim notP (.cons (.prim truP (.cons (.call 15 (.cons (.prim slB (.cons (.loc 2) (.cons (.loc 10) .nil))) .nil)) .nil)) .nil)) (.loc 10) [10]) (.cons (.prim lstP .nil) .nil))) (.ret (cD (.bool false))) .skip)
    (.seq (.par 5 6 (.cons (.prim addP (.cons (cD (.int 2)) (.cons (.call 9 (.cons (.loc 0) (.cons (cD (.int 5)) .nil))) .nil))) (.cons (.prim addP (.cons (.prim powP (.cons (cD (.int 10)) (.cons (cD (.int 11)) .nil))) (.cons (.call 9 (.cons (.loc 0) (.cons (cD (.int 1000)) .nil))) .nil))) .nil)))
    (.seq (.ite (.or (.prim neP (.cons (.call 3 (.cons (.prim mulP (.cons (.prim idxP (.cons (.prim idxP (.cons (.loc 1) (.cons (cD (.int 0)) .nil))) (.cons (cD (.int 0)) .nil))) (.cons (.loc 5) .nil))) (.cons (.prim mulP (.cons (.prim idxP (.cons (.prim idxP (.cons (.loc 1) (.cons (cD (.int 0)) .nil))) (.cons (cD (.int 1)) .nil))) (.cons (.loc 5) .nil))) .nil))) (.cons (.prim idxP (.cons (.loc 2) (.cons (cD (.int 0)) .nil))) .nil))) (.prim neP (.cons (.call 3 (.cons (.loc 6) (.cons (.loc 6) .nil))) (.cons (.prim tupP (.cons (cD (.int 1)) (.cons (cD (.int 1)) .nil))) .nil)))) (.ret (cD (.bool false))) .skip)
    (.seq (.asg (.nm 7) (.prim lstP (.cons (.prim idxP (.cons (.loc 2) (.cons (cD (.int 0)) .nil))) (.cons (.prim idxP (.cons (.loc 1) (.cons (cD (.int 0)) .nil))) (.cons (.prim tupP (.cons (.prim idxP (.cons (.prim idxP (.cons (.loc 2) (.cons (cD (.int 0)) .nil))) (.cons (cD (.int 0)) .nil))) (.cons (cD (.int 0)) .nil))) (.cons (.prim tupP (.cons (.prim idxP (.cons (.prim idxP (.cons (.loc 2) (.cons (cD (.int 0)) .nil))) (.cons (cD (.int 0)) .nil))) (.cons (.prim negP (.cons (cD (.int 1)) .nil)) .nil))) (.cons (.prim addP (.cons (.prim idxP (.cons (.loc 2) (.cons (cD (.int 0)) .nil))) (.cons (.prim tupP (.cons (cD (.int 1)) .nil)) .nil))) (.cons (.prim listP (.cons (.prim idxP (.cons (.loc 2) (.cons (cD (.int 0)) .nil))) .nil)) (.cons (.prim tupP (.cons (cD (.bool true)) (.cons (cD (.int 2)) .nil))) .nil)))))))))
    (.seq (.asg (.nm 7) (.prim addP (.cons (.loc 7) (.cons (.prim lstP (.cons (.prim tupP (.cons (cD (.int 1)) (.cons (cD (.bool true)) .nil))) (.cons (cD .none) (.cons (cD (.int 3)) .nil)))) .nil))))
    (.seq (.asg (.nm 8) (.prim addP (.cons (.prim lstP (.cons (cD (.bool true)) (.cons (.call 13 (.cons (.prim idxP (.cons (.loc 1) (.cons (cD (.int 0)) .nil))) .nil)) .nil))) (.cons (.prim mulP (.cons (.prim lstP (.cons (cD (.bool false)) .nil)) (.cons (cD (.int 8)) .nil))) .nil))))
    (.ret (.and (.prim eqP (.cons (.lc (.nm 3) (.itr itA (.cons (.loc 7) .nil)) (cD (.bool true)) (.call 2 (.cons (.loc 3) .nil)) [3]) (.cons (.loc 8) .nil))) (.prim isP (.cons (.call 2 (.cons (.prim tupP (.cons (cD (.int 0)) (.cons (cD (.int 2)) .nil))) .nil)) (.cons (cD (.bool false)) .nil))))))))))))))))
abbrev s_17 : Stmt := topS 25
abbrev n_17 : List Str := ["_law_dice_here", "_law_word", "_law_near", "_law_turn", "_law_one"]
theorem sc_17 : FnScope n_17 ["_law_dice_here"] (defScope s_17) := ⟨rfl, rfl, rfl, by decide +kernel, rfl, by decide +kernel, by decide +kernel⟩
/-- _law_places_right -/
def c_17 : C := (.seq (.asg (.nm 1) (.prim (joinP ("" : PySem.Str)) (.cons (.lc (.nm 3) (.itr itR1 (.cons (.prim addP (.cons (cD (.int 1)) (.cons (.call 9 (.cons (.loc 0) (.cons (cD (.int 8)) .nil))) .nil))) .nil)) (cD (.bool true)) (.call 10 (.cons (.loc 0) (.cons (.prim listS (.cons (cD (.str ("abcdefghijklmnopqrstuvwxyz" : PySem.Str))) .nil)) .nil))) [3]) .nil)))
    (.seq (.asg (.nm 2) (.prim lstP (.cons (.loc 1) (.cons (.prim addP (.cons (.loc 1) (.cons (cD (.str ("qqqqqqqq" : PySem.Str))) .nil))) (.cons (.prim addP (.cons (.loc 1) (.cons (cD (.str ("A" : PySem.Str))) .nil))) (.cons (cD (.str ("" : PySem.Str))) (.cons (.prim addP (.cons (.loc 1) (.cons (cD (.str (" " : PySem.Str))) .nil))) (.cons (.prim tupP (.cons (.loc 1) .nil)) (.cons (cD .none) (.cons (cD (.int 0)) (.cons (cD (.bool true)) (.cons (.prim lstP (.cons (.loc 1) .nil)) (.cons (.prim dct0 .nil) (.cons (.prim addP (.cons (.loc 1) (.cons (cD (.str ("1" : PySem.Str))) .nil))) .nil))))))))))))))
    (.ret (.prim eqP (.cons (.lc (.nm 4) (.itr itA (.cons (.loc 2) .nil)) (cD (.bool true)) (.call 0 (.cons (.loc 4) .nil)) [4]) (.cons (.prim addP (.cons (.prim lstP (.cons (cD (.bool true)) .nil)) (.cons (.prim mulP (.cons (.prim lstP (.cons (cD (.bool false)) .nil)) (.cons (cD (.int 11)) .nil))) .nil))) .nil))))))
abbrev s_18 : Stmt := topS 26
abbrev n_18 : List Str := ["_law_script", "_law_spot", "_law_dice_here", "_law_told"]
theorem sc_18 : FnScope n_18 ["_law_script"] (defScope s_18) := ⟨rfl, rfl, rfl, by decide +kernel, rfl, by decide +kernel, by decide +kernel⟩
/-- law -/
def c_18 : C := (.seq (.forr (.nm 1) (.itr itR1 (.cons (.prim maxP (.cons (cD (.int 1)) (.cons (.prim minP (.cons (cD (.int 8)) (.cons (.prim lenP (.cons (.loc 0) .nil)) .nil))) .nil))) .nil)) (.seq (.asg (.nm 2) (.call 8 (.cons (.loc 0) (.cons (.loc 1) .nil))))
    (.ite (.or (.prim notP (.cons (.prim truP (.cons (.call 16 (.cons (.loc 2) .nil)) .nil)) .nil)) (.prim notP (.cons (.prim truP (.cons (.call 17 (.cons (.loc 2) .nil)) .nil)) .nil))) (.ret (cD (.bool false))) .skip)))
    (.seq (.asg (.nm 3) (.prim lstP (.cons (.call 3 (.cons (cD (.int 6)) (.cons (cD (.int 4)) .nil))) (.cons (.call 3 (.cons (.prim negP (.cons (cD (.int 2)) .nil)) (.cons (cD (.int 6)) .nil))) (.cons (.call 3 (.cons (cD (.int 0)) (.cons (cD (.int 7)) .nil))) (.cons (.call 5 (.cons (.prim tupP (.cons (cD (.int 1)) (.cons (cD (.int 2)) .nil))) (.cons (.prim tupP (.cons (cD (.int 2)) (.cons (cD (.int 3)) .nil))) .nil))) (.cons (.call 6 (.cons (.prim tupP (.cons (cD (.int 1)) (.cons (cD (.int 2)) .nil))) (.cons (.prim tupP (.cons (cD (.int 2)) (.cons (cD (.int 3)) .nil))) .nil))) .nil)))))))
    (.ret (.and (.prim eqP (.cons (.loc 3) (.cons (.prim lstP (.cons (.prim tupP (.cons (cD (.int 3)) (.cons (cD (.int 2)) .nil))) (.cons (.prim tupP (.cons (.prim negP (.cons (cD (.int 1)) .nil)) (.cons (cD (.int 3)) .nil))) (.cons (.prim tupP (.cons (cD (.int 0)) (.cons (cD (.int 1)) .nil))) (.cons (.prim tupP (.cons (cD (.int 7)) (.cons (cD (.int 6)) .nil))) (.cons (.prim tupP (.cons (cD (.int 1)) (.cons (cD (.int 3)) .nil))) .nil)))))) .nil))) (.prim eqP (.cons (cD (.int (8))) (.cons (cD (.int 8)) .nil)))))))
def tab : Nat → Option Def
  | 0 => some ⟨2, 1, false, c_0⟩
  | 1 => some ⟨1, 1, false, c_1⟩
  | 2 => some ⟨3, 1, false, c_2⟩
  | 3 => some ⟨4, 2, false, c_3⟩
  | 4 => some ⟨2, 2, false, c_4⟩
  | 5 => some ⟨4, 0, true, c_5⟩
  | 6 => some ⟨4, 0, true, c_6⟩
  | 7 => some ⟨2, 1, false, c_7⟩
  | 8 => some ⟨6, 2, false, c_8⟩
  | 9 => some ⟨6, 2, false, c_9⟩
  | 10 => some ⟨2, 2, false, c_10⟩
  | 11 => some ⟨4, 2, false, c_11⟩
  | 12 => some ⟨2, 2, false, c_12⟩
  | 13 => some ⟨5, 1, false, c_13⟩
  | 14 => some ⟨2, 1, false, c_14⟩
  | 15 => some ⟨5, 1, false, c_15⟩
  | 16 => some ⟨11, 1, false, c_16⟩
  | 17 => some ⟨5, 1, false, c_17⟩
  | 18 => some ⟨4, 1, false, c_18⟩
  | _ => none
structure Txt (K : PySem.W.Frag) (mg : Str → Option Value) (ad : Nat → Addr) : Prop where
  m_is_place : mg "is_place" = some (.ref (ad 0))
  k_is_place : PySem.W.keepIn K (.ref (ad 0)) = true
  m_is_whole : mg "is_whole" = some (.ref (ad 1))
  k_is_whole : PySem.W.keepIn K (.ref (ad 1)) = true
  m_is_fraction : mg "is_fraction" = some (.ref (ad 2))
  k_is_fraction : PySem.W.keepIn K (.ref (ad 2)) = true
  m_fraction : mg "fraction" = some (.ref (ad 3))
  k_fraction : PySem.W.keepIn K (.ref (ad 3)) = true
  m_is_lower : mg "is_lower" = some (.ref (ad 4))
  k_is_lower : PySem.W.keepIn K (.ref (ad 4)) = true
  m_added : mg "added" = some (.ref (ad 5))
  k_added : PySem.W.keepIn K (.ref (ad 5)) = true
  m_multiplied : mg "multiplied" = some (.ref (ad 6))
  k_multiplied : PySem.W.keepIn K (.ref (ad 6)) = true
  m_need_fractions : mg "need_fractions" = some (.ref (ad 7))
  k_need_fractions : PySem.W.keepIn K (.ref (ad 7)) = true
  m__law_dice : mg "_law_dice" = some (.ref (ad 8))
  k__law_dice : PySem.W.keepIn K (.ref (ad 8)) = true
  m__law_roll : mg "_law_roll" = some (.ref (ad 9))
  k__law_roll : PySem.W.keepIn K (.ref (ad 9)) = true
  m__law_one_of : mg "_law_one_of" = some (.ref (ad 10))
  k__law_one_of : PySem.W.keepIn K (.ref (ad 10)) = true
  m__law_lowest : mg "_law_lowest" = some (.ref (ad 11))
  k__law_lowest : PySem.W.keepIn K (.ref (ad 11)) = true
  m__law_less : mg "_law_less" = some (.ref (ad 12))
  k__law_less : PySem.W.keepIn K (.ref (ad 12)) = true
  m__law_is_lowest : mg "_law_is_lowest" = some (.ref (ad 13))
  k__law_is_lowest : PySem.W.keepIn K (.ref (ad 13)) = true
  m__law_drawn : mg "_law_drawn" = some (.ref (ad 14))
  k__law_drawn : PySem.W.keepIn K (.ref (ad 14)) = true
  m__law_sums_right : mg "_law_sums_right" = some (.ref (ad 15))
  k__law_sums_right : PySem.W.keepIn K (.ref (ad 15)) = true
  m__law_right : mg "_law_right" = some (.ref (ad 16))
  k__law_right : PySem.W.keepIn K (.ref (ad 16)) = true
  m__law_places_right : mg "_law_places_right" = some (.ref (ad 17))
  k__law_places_right : PySem.W.keepIn K (.ref (ad 17)) = true
  m_law : mg "law" = some (.ref (ad 18))
  k_law : PySem.W.keepIn K (.ref (ad 18)) = true
  b_abs : mg "abs" = none
  b_all : mg "all" = none
  b_bool : mg "bool" = none
  b_int : mg "int" = none
  b_isinstance : mg "isinstance" = none
  b_len : mg "len" = none
  b_list : mg "list" = none
  b_max : mg "max" = none
  b_min : mg "min" = none
  b_range : mg "range" = none
  b_str : mg "str" = none
  b_tuple : mg "tuple" = none
  c_MAX_LETTERS : ∃ t, mg "MAX_LETTERS" = some (.int 8 t)
  i_gcd : mg "gcd" = some (.builtin "math.gcd")
section
variable {P : Program} {w : World} {K : PySem.W.Frag} {mg : Str → Option Value} {base : Heap} {ad : Nat → Addr}
/-- is_place -/
theorem body_0 (T : Txt K mg ad) {k : Nat} (IH : ∀ j, FnR P w K mg base CX0 k (ad j) (spK K (callN tab k) j)) (f : Addr) (qual : Str) (cdv : Value) (A : Around) (outer : List Env) (s : Shared) (H : Hp) (E : XK) (hr : Room k (A.deeper (envOfC qual (defScope s_0) s.heap.objs.size f cdv))) :
    PSs (cxOf CX0 P w K mg base n_0 qual (defScope s_0) f cdv A outer s H E).nox (defBody s_0) (tS K (callN tab k) c_0) :=
    (s_seq (s_if ((wor (tnot (ttru (v_isi (T := "str") T.b_isinstance T.b_str (by decide +kernel) (pe_loc 0)))) (w1o (tnot (t_lele k_int (v_cb call_len pn_len T.b_len (by decide +kernel) (pa_c (pe_loc 0) pa_n)) (k_gint T.c_MAX_LETTERS)))))).pt (s_one (s_ret k_bl)) s_nil)
    (s_one (s_ret (v_cb (cr_all rfl) pn_all T.b_all (by decide +kernel) (pa_c (v_lc [(("letter" : PySem.Str), 1)] (g_nm 1) rfl sc_0.nd (blkOk_by (N := n_0) (sc := defScope s_0) (by decide +kernel)) (by decide +kernel) (i_any (pe_loc 0)) (fun _ _ _ _ _ => (pg_name (i := 1) sc_0.nd rfl (by first | exact .inl rfl | exact .inr rfl))) (fun _ _ _ _ _ => p_nil) (fun _ _ _ _ _ => (v_lele k_str (pe_loc 1) k_str))) pa_n)))))
/-- is_whole -/
theorem body_1 (T : Txt K mg ad) {k : Nat} (IH : ∀ j, FnR P w K mg base CX0 k (ad j) (spK K (callN tab k) j)) (f : Addr) (qual : Str) (cdv : Value) (A : Around) (outer : List Env) (s : Shared) (H : Hp) (E : XK) (hr : Room k (A.deeper (envOfC qual (defScope s_1) s.heap.objs.size f cdv))) :
    PSs (cxOf CX0 P w K mg base n_1 qual (defScope s_1) f cdv A outer s H E).nox (defBody s_1) (tS K (callN tab k) c_1) :=
    (s_one (s_ret (vand (v_isi (T := "int") T.b_isinstance T.b_int (by decide +kernel) (pe_loc 0)) (v1 (vnot (v_isi (T := "bool") T.b_isinstance T.b_bool (by decide +kernel) (pe_loc 0)))))))
/-- is_fraction -/
theorem body_2 (T : Txt K mg ad) {k : Nat} (IH : ∀ j, FnR P w K mg base CX0 k (ad j) (spK K (callN tab k) j)) (f : Addr) (qual : Str) (cdv : Value) (A : Around) (outer : List Env) (s : Shared) (H : Hp) (E : XK) (hr : Room k (A.deeper (envOfC qual (defScope s_2) s.heap.objs.size f cdv))) :
    PSs (cxOf CX0 P w K mg base n_2 qual (defScope s_2) f cdv A outer s H E).nox (defBody s_2) (tS K (callN tab k) c_2) :=
    (s_seq (s_if ((wor (tnot (ttru (v_isi (T := "tuple") T.b_isinstance T.b_tuple (by decide +kernel) (pe_loc 0)))) (w1o (t_ne (hu64 hr) (v_cb call_len pn_len T.b_len (by decide +kernel) (pa_c (pe_loc 0) pa_n)) k_int)))).pt (s_one (s_ret k_bl)) s_nil)
    (s_seq (s_asg (g_tp (gs_cons (i := 1) (gs_cons (i := 2) gs_nil)) rfl) (pe_loc 0) (pg_tup rfl (pgs_cons (pg_name (i := 1) sc_2.nd rfl (by first | exact .inl rfl | exact .inr rfl)) (pgs_cons (pg_name (i := 2) sc_2.nd rfl (by first | exact .inl rfl | exact .inr rfl)) pgs_nil))))
    (s_seq (s_if ((wor (tnot (ttru (own (IH 1) hr T.k_is_whole T.m_is_whole (pa_c (pe_loc 1) pa_n)))) (w1o (tnot (ttru (own (IH 1) hr T.k_is_whole T.m_is_whole (pa_c (pe_loc 2) pa_n))))))).pt (s_one (s_ret k_bl)) s_nil)
    (s_one (s_ret (vand (v_ge (pe_loc 2) k_int) (v1 (v_eq (hu64 hr) (v_gcd T.i_gcd (pa_c (pe_loc 1) (pa_c (pe_loc 2) pa_n))) k_int))))))))
/-- fraction -/
theorem body_3 (T : Txt K mg ad) {k : Nat} (IH : ∀ j, FnR P w K mg base CX0 k (ad j) (spK K (callN tab k) j)) (f : Addr) (qual : Str) (cdv : Value) (A : Around) (outer : List Env) (s : Shared) (H : Hp) (E : XK) (hr : Room k (A.deeper (envOfC qual (defScope s_3) s.heap.objs.size f cdv))) :
    PSs (cxOf CX0 P w K mg base n_3 qual (defScope s_3) f cdv A outer s H E).nox (defBody s_3) (tS K (callN tab k) c_3) :=
    (s_seq (s_for (g_nm 2) PassesOwn.never rfl (i_any (v_tup (pa_c (pe_loc 0) (pa_c (pe_loc 1) pa_n)))) (pg_name (i := 2) sc_3.nd rfl (by first | exact .inl rfl | exact .inr rfl)) (s_one (s_if (tnot (ttru (own (IH 1) hr T.k_is_whole T.m_is_whole (pa_c (pe_loc 2) pa_n)))) (s_one s_abort) s_nil)))
    (s_seq (s_if (t_lt (pe_loc 1) k_int) (s_one s_abort) s_nil)
    (s_seq (s_set (v_gcd T.i_gcd (pa_c (pe_loc 0) (pa_c (pe_loc 1) pa_n))) sc_3.nd)
    (s_one (s_ret (v_tup (pa_c (v_div (pe_loc 0) (pe_loc 3)) (pa_c (v_div (pe_loc 1) (pe_loc 3)) pa_n))))))))
/-- is_lower -/
theorem body_4 (T : Txt K mg ad) {k : Nat} (IH : ∀ j, FnR P w K mg base CX0 k (ad j) (spK K (callN tab k) j)) (f : Addr) (qual : Str) (cdv : Value) (A : Around) (outer : List Env) (s : Shared) (H : Hp) (E : XK) (hr : Room k (A.deeper (envOfC qual (defScope s_4) s.heap.objs.size f cdv))) :
    PSs (cxOf CX0 P w K mg base n_4 qual (defScope s_4) f cdv A outer s H E).nox (defBody s_4) (tS K (callN tab k) c_4) :=
    (s_seq (s_dex (own (IH 7) hr T.k_need_fractions T.m_need_fractions (pa_c (v_tup (pa_c (pe_loc 0) (pa_c (pe_loc 1) pa_n))) pa_n)))
    (s_one (s_ret (v_lt (v_mul (v_idx (pe_loc 0) k_int) (v_idx (pe_loc 1) k_int)) (v_mul (v_idx (pe_loc 1) k_int) (v_idx (pe_loc 0) k_int))))))
/-- added -/
theorem body_5 (T : Txt K mg ad) {k : Nat} (IH : ∀ j, FnR P w K mg base CX0 k (ad j) (spK K (callN tab k) j)) (f : Addr) (qual : Str) (cdv : Value) (A : Around) (outer : List Env) (s : Shared) (H : Hp) (E : XK) (hr : Room k (A.deeper (envOfC qual (defScope s_5) s.heap.objs.size f cdv))) :
    PSs (cxOf CX0 P w K mg base n_5 qual (defScope s_5) f cdv A outer s H E).nox (defBody s_5) (tS K (callN tab k) c_5) :=
    (s_seq (s_dex (own (IH 7) hr T.k_need_fractions T.m_need_fractions (pa_c (pe_loc 0) pa_n)))
    (s_seq (s_set (v_tup (pa_c k_int (pa_c k_int pa_n))) sc_5.nd)
    (s_seq (s_for (g_tp (gs_cons (i := 2) (gs_cons (i := 3) gs_nil)) rfl) PassesOwn.never rfl (i_any (pe_loc 0)) (pg_tup rfl (pgs_cons (pg_name (i := 2) sc_5.nd rfl (by first | exact .inl rfl | exact .inr rfl)) (pgs_cons (pg_name (i := 3) sc_5.nd rfl (by first | exact .inl rfl | exact .inr rfl)) pgs_nil))) (s_one (s_set (own (IH 3) hr T.k_fraction T.m_fraction (pa_c (v_add (v_mul (v_idx (pe_loc 1) k_int) (pe_loc 3)) (v_mul (pe_loc 2) (v_idx (pe_loc 1) k_int))) (pa_c (v_mul (v_idx (pe_loc 1) k_int) (pe_loc 3)) pa_n))) sc_5.nd)))
    (s_one (s_ret (pe_loc 1))))))
/-- multiplied -/
theorem body_6 (T : Txt K mg ad) {k : Nat} (IH : ∀ j, FnR P w K mg base CX0 k (ad j) (spK K (callN tab k) j)) (f : Addr) (qual : Str) (cdv : Value) (A : Around) (outer : List Env) (s : Shared) (H : Hp) (E : XK) (hr : Room k (A.deeper (envOfC qual (defScope s_6) s.heap.objs.size f cdv))) :
    PSs (cxOf CX0 P w K mg base n_6 qual (defScope s_6) f cdv A outer s H E).nox (defBody s_6) (tS K (callN tab k) c_6) :=
    (s_seq (s_dex (own (IH 7) hr T.k_need_fractions T.m_need_fractions (pa_c (pe_loc 0) pa_n)))
    (s_seq (s_set (v_tup (pa_c k_int (pa_c k_int pa_n))) sc_6.nd)
    (s_seq (s_for (g_tp (gs_cons (i := 2) (gs_cons (i := 3) gs_nil)) rfl) PassesOwn.never rfl (i_any (pe_loc 0)) (pg_tup rfl (pgs_cons (pg_name (i := 2) sc_6.nd rfl (by first | exact .inl rfl | exact .inr rfl)) (pgs_cons (pg_name (i := 3) sc_6.nd rfl (by first | exact .inl rfl | exact .inr rfl)) pgs_nil))) (s_one (s_set (own (IH 3) hr T.k_fraction T.m_fraction (pa_c (v_mul (v_idx (pe_loc 1) k_int) (pe_loc 2)) (pa_c (v_mul (v_idx (pe_loc 1) k_int) (pe_loc 3)) pa_n))) sc_6.nd)))
    (s_one (s_ret (pe_loc 1))))))
/-- need_fractions -/
theorem body_7 (T : Txt K mg ad) {k : Nat} (IH : ∀ j, FnR P w K mg base CX0 k (ad j) (spK K (callN tab k) j)) (f : Addr) (qual : Str) (cdv : Value) (A : Around) (outer : List Env) (s : Shared) (H : Hp) (E : XK) (hr : Room k (A.deeper (envOfC qual (defScope s_7) s.heap.objs.size f cdv))) :
    PSs (cxOf CX0 P w K mg base n_7 qual (defScope s_7) f cdv A outer s H E).nox (defBody s_7) (tS K (callN tab k) c_7) :=
    (s_one (s_for (g_nm 1) PassesOwn.never rfl (i_any (pe_loc 0)) (pg_name (i := 1) sc_7.nd rfl (by first | exact .inl rfl | exact .inr rfl)) (s_one (s_if (tnot (ttru (own (IH 2) hr T.k_is_fraction T.m_is_fraction (pa_c (pe_loc 1) pa_n)))) (s_one s_abort) s_nil))))
/-- _law_dice -/
theorem body_8 (T : Txt K mg ad) {k : Nat} (IH : ∀ j, FnR P w K mg base CX0 k (ad j) (spK K (callN tab k) j)) (f : Addr) (qual : Str) (cdv : Value) (A : Around) (outer : List Env) (s : Shared) (H : Hp) (E : XK) (hr : Room k (A.deeper (envOfC qual (defScope s_8) s.heap.objs.size f cdv))) :
    PSs (cxOf CX0 P w K mg base n_8 qual (defScope s_8) f cdv A outer s H E).nox (defBody s_8) (tS K (callN tab k) c_8) :=
    (s_seq (s_set (v_add (v_mul k_int (pe_loc 1)) k_int) sc_8.nd)
    (s_seq (s_if (t_lt (pe_loc 1) (v_cb call_len pn_len T.b_len (by decide +kernel) (pa_c (pe_loc 0) pa_n))) (s_one (s_set (v_idx (pe_loc 0) (pe_loc 1)) sc_8.nd)) s_nil)
    (s_seq (s_set (v_mod (v_ct call_int1 pn_int T.b_int (by decide +kernel) (pa_c (v_cb call_abs pn_b1 T.b_abs (by decide +kernel) (pa_c (pe_loc 2) pa_n)) pa_n)) (v_pow (v_pow k_int k_int) k_int)) sc_8.nd)
    (s_seq (s_set (v_div (pe_loc 3) (v_pow k_int k_int)) sc_8.nd)
    (s_seq (s_set (v_add (v_add (v_add (v_mul (v_mod (pe_loc 3) k_int) k_int) (v_mul k_int (pe_loc 1))) (v_mul k_int (v_ct call_int1 pn_int T.b_int (by decide +kernel) (pa_c (v_lt (pe_loc 2) k_int) pa_n)))) k_int) sc_8.nd)
    (s_one (s_ret (v_new (pa_c (pe_loc 4) (pa_c (v_mod (pe_loc 5) k_int) (pa_c k_int pa_n)))))))))))
/-- _law_roll -/
theorem body_9 (T : Txt K mg ad) {k : Nat} (IH : ∀ j, FnR P w K mg base CX0 k (ad j) (spK K (callN tab k) j)) (f : Addr) (qual : Str) (cdv : Value) (A : Around) (outer : List Env) (s : Shared) (H : Hp) (E : XK) (hr : Room k (A.deeper (envOfC qual (defScope s_9) s.heap.objs.size f cdv))) :
    PSs (cxOf CX0 P w K mg base n_9 qual (defScope s_9) f cdv A outer s H E).nox (defBody s_9) (tS K (callN tab k) c_9) :=
    (s_seq (s_set (v_ct call_int1 pn_int T.b_int (by decide +kernel) (pa_c (pe_loc 1) pa_n)) sc_9.nd)
    (s_seq (s_if (t_gt (v_idx (pe_loc 0) k_int) k_int) (s_seq (s_set (v_mod (v_idx (pe_loc 0) k_int) (pe_loc 2)) sc_9.nd)
    (s_seq (s_setix (v_div (v_idx (pe_loc 0) k_int) (pe_loc 2)) (pe_loc 0) k_int)
    (s_one (s_ret (v_ct call_int1 pn_int T.b_int (by decide +kernel) (pa_c (pe_loc 3) pa_n)))))) s_nil)
    (s_seq (s_setix (v_add (v_idx (pe_loc 0) k_int) k_int) (pe_loc 0) k_int)
    (s_seq (s_set (v_mod (v_add (v_idx (pe_loc 0) k_int) (v_mul k_int (v_idx (pe_loc 0) k_int))) k_int) sc_9.nd)
    (s_seq (s_set (v_add (v_mul (v_mod (v_mul (pe_loc 4) (pe_loc 4)) k_int) (pe_loc 4)) (v_mul k_int (v_idx (pe_loc 0) k_int))) sc_9.nd)
    (s_seq (s_set (v_mod (pe_loc 5) k_int) sc_9.nd)
    (s_one (s_ret (v_ct call_int1 pn_int T.b_int (by decide +kernel) (pa_c (v_mod (v_div (pe_loc 5) k_int) (pe_loc 2)) pa_n))))))))))
/-- _law_one_of -/
theorem body_10 (T : Txt K mg ad) {k : Nat} (IH : ∀ j, FnR P w K mg base CX0 k (ad j) (spK K (callN tab k) j)) (f : Addr) (qual : Str) (cdv : Value) (A : Around) (outer : List Env) (s : Shared) (H : Hp) (E : XK) (hr : Room k (A.deeper (envOfC qual (defScope s_10) s.heap.objs.size f cdv))) :
    PSs (cxOf CX0 P w K mg base n_10 qual (defScope s_10) f cdv A outer s H E).nox (defBody s_10) (tS K (callN tab k) c_10) :=
    (s_one (s_ret (v_idx (pe_loc 1) (own (IH 9) hr T.k__law_roll T.m__law_roll (pa_c (pe_loc 0) (pa_c (v_cb call_len pn_len T.b_len (by decide +kernel) (pa_c (pe_loc 1) pa_n)) pa_n))))))
/-- _law_lowest -/
theorem body_11 (T : Txt K mg ad) {k : Nat} (IH : ∀ j, FnR P w K mg base CX0 k (ad j) (spK K (callN tab k) j)) (f : Addr) (qual : Str) (cdv : Value) (A : Around) (outer : List Env) (s : Shared) (H : Hp) (E : XK) (hr : Room k (A.deeper (envOfC qual (defScope s_11) s.heap.objs.size f cdv))) :
    PSs (cxOf CX0 P w K mg base n_11 qual (defScope s_11) f cdv A outer s H E).nox (defBody s_11) (tS K (callN tab k) c_11) :=
    (s_seq (s_par rfl sc_11.nd (pa_c (v_cb call_abs pn_b1 T.b_abs (by decide +kernel) (pa_c (pe_loc 0) pa_n)) (pa_c (pe_loc 1) pa_n)))
    (s_seq (s_while 1000000 PassesOwn.never (t_gt (pe_loc 3) k_int) (s_one (s_par rfl sc_11.nd (pa_c (pe_loc 3) (pa_c (v_mod (v_ct call_int1 pn_int T.b_int (by decide +kernel) (pa_c (pe_loc 2) pa_n)) (pe_loc 3)) pa_n)))))
    (s_one (s_ret (v_tup (pa_c (v_div (pe_loc 0) (pe_loc 2)) (pa_c (v_div (pe_loc 1) (pe_loc 2)) pa_n)))))))
/-- _law_less -/
theorem body_12 (T : Txt K mg ad) {k : Nat} (IH : ∀ j, FnR P w K mg base CX0 k (ad j) (spK K (callN tab k) j)) (f : Addr) (qual : Str) (cdv : Value) (A : Around) (outer : List Env) (s : Shared) (H : Hp) (E : XK) (hr : Room k (A.deeper (envOfC qual (defScope s_12) s.heap.objs.size f cdv))) :
    PSs (cxOf CX0 P w K mg base n_12 qual (defScope s_12) f cdv A outer s H E).nox (defBody s_12) (tS K (callN tab k) c_12) :=
    (s_one (s_ret (v_lt (v_mul (v_idx (pe_loc 0) k_int) (v_idx (pe_loc 1) k_int)) (v_mul (v_idx (pe_loc 1) k_int) (v_idx (pe_loc 0) k_int)))))
/-- _law_is_lowest -/
theorem body_13 (T : Txt K mg ad) {k : Nat} (IH : ∀ j, FnR P w K mg base CX0 k (ad j) (spK K (callN tab k) j)) (f : Addr) (qual : Str) (cdv : Value) (A : Around) (outer : List Env) (s : Shared) (H : Hp) (E : XK) (hr : Room k (A.deeper (envOfC qual (defScope s_13) s.heap.objs.size f cdv))) :
    PSs (cxOf CX0 P w K mg base n_13 qual (defScope s_13) f cdv A outer s H E).nox (defBody s_13) (tS K (callN tab k) c_13) :=
    (s_seq (s_asg (g_tp (gs_cons (i := 1) (gs_cons (i := 2) gs_nil)) rfl) (v_tup (pa_c (v_ct call_int1 pn_int T.b_int (by decide +kernel) (pa_c (v_idx (pe_loc 0) k_int) pa_n)) (pa_c (v_ct call_int1 pn_int T.b_int (by decide +kernel) (pa_c (v_idx (pe_loc 0) k_int) pa_n)) pa_n))) (pg_tup rfl (pgs_cons (pg_name (i := 1) sc_13.nd rfl (by first | exact .inl rfl | exact .inr rfl)) (pgs_cons (pg_name (i := 2) sc_13.nd rfl (by first | exact .inl rfl | exact .inr rfl)) pgs_nil))))
    (s_seq (s_set (v_listR2 rfl T.b_list T.b_range k_int (v_add (v_add (v_cb call_abs pn_b1 T.b_abs (by decide +kernel) (pa_c (pe_loc 1) pa_n)) (pe_loc 2)) k_int)) sc_13.nd)
    (s_one (s_ret (vand (v_gt (pe_loc 2) k_int) (v1 (v_eq (hu64 hr) (v_lc [(("_law_by" : PySem.Str), 4)] (g_nm 4) rfl sc_13.nd (blkOk_by (N := n_13) (sc := defScope s_13) (by decide +kernel)) (by decide +kernel) (i_any (pe_loc 3)) (fun _ _ _ _ _ => (pg_name (i := 4) sc_13.nd rfl (by first | exact .inl rfl | exact .inr rfl))) (fun _ _ _ _ _ => (p_one ((wand (t_eq (hu64 hr) (v_mod (pe_loc 1) (pe_loc 4)) k_int) (w1a (t_eq (hu64 hr) (v_mod (pe_loc 2) (pe_loc 4)) k_int)))).pt)) (fun _ _ _ _ _ => (pe_loc 4))) (v_lst pa_n))))))))
/-- _law_drawn -/
theorem body_14 (T : Txt K mg ad) {k : Nat} (IH : ∀ j, FnR P w K mg base CX0 k (ad j) (spK K (callN tab k) j)) (f : Addr) (qual : Str) (cdv : Value) (A : Around) (outer : List Env) (s : Shared) (H : Hp) (E : XK) (hr : Room k (A.deeper (envOfC qual (defScope s_14) s.heap.objs.size f cdv))) :
    PSs (cxOf CX0 P w K mg base n_14 qual (defScope s_14) f cdv A outer s H E).nox (defBody s_14) (tS K (callN tab k) c_14) :=
    (s_seq (s_set (own (IH 10) hr T.k__law_one_of T.m__law_one_of (pa_c (pe_loc 0) (pa_c (v_lst (pa_c k_int (pa_c k_int (pa_c k_int pa_n)))) pa_n))) sc_14.nd)
    (s_one (s_ret (v_tup (pa_c (v_sub (own (IH 9) hr T.k__law_roll T.m__law_roll (pa_c (pe_loc 0) (pa_c (v_mul k_int (pe_loc 1)) pa_n))) (pe_loc 1)) (pa_c (v_add k_int (own (IH 9) hr T.k__law_roll T.m__law_roll (pa_c (pe_loc 0) (pa_c (pe_loc 1) pa_n)))) pa_n))))))
/-- _law_sums_right -/
theorem body_15 (T : Txt K mg ad) {k : Nat} (IH : ∀ j, FnR P w K mg base CX0 k (ad j) (spK K (callN tab k) j)) (f : Addr) (qual : Str) (cdv : Value) (A : Around) (outer : List Env) (s : Shared) (H : Hp) (E : XK) (hr : Room k (A.deeper (envOfC qual (defScope s_15) s.heap.objs.size f cdv))) :
    PSs (cxOf CX0 P w K mg base n_15 qual (defScope s_15) f cdv A outer s H E).nox (defBody s_15) (tS K (callN tab k) c_15) :=
    (s_seq (s_asg (g_tp (gs_cons (i := 1) (gs_cons (i := 2) gs_nil)) rfl) (v_tup (pa_c (v_tup (pa_c k_int (pa_c k_int pa_n))) (pa_c (v_tup (pa_c k_int (pa_c k_int pa_n))) pa_n))) (pg_tup rfl (pgs_cons (pg_name (i := 1) sc_15.nd rfl (by first | exact .inl rfl | exact .inr rfl)) (pgs_cons (pg_name (i := 2) sc_15.nd rfl (by first | exact .inl rfl | exact .inr rfl)) pgs_nil))))
    (s_seq (s_for (g_nm 3) PassesOwn.never rfl (i_any (pe_loc 0)) (pg_name (i := 3) sc_15.nd rfl (by first | exact .inl rfl | exact .inr rfl)) (s_seq (s_set (v_tup (pa_c (v_add (v_mul (v_idx (pe_loc 1) k_int) (v_idx (pe_loc 3) k_int)) (v_mul (v_idx (pe_loc 3) k_int) (v_idx (pe_loc 1) k_int))) (pa_c (v_mul (v_idx (pe_loc 1) k_int) (v_idx (pe_loc 3) k_int)) pa_n))) sc_15.nd)
    (s_one (s_set (v_tup (pa_c (v_mul (v_idx (pe_loc 2) k_int) (v_idx (pe_loc 3) k_int)) (pa_c (v_mul (v_idx (pe_loc 2) k_int) (v_idx (pe_loc 3) k_int)) pa_n))) sc_15.nd))))
    (s_seq (s_set (v_lst (pa_c (own0 (IH 5) hr T.k_added T.m_added) (pa_c (own0 (IH 6) hr T.k_multiplied T.m_multiplied) pa_n))) sc_15.nd)
    (s_seq (s_if (t_eq (hu64 hr) (v_cb call_len pn_len T.b_len (by decide +kernel) (pa_c (pe_loc 0) pa_n)) k_int) (s_one (s_set (v_lst (pa_c (own (IH 5) hr T.k_added T.m_added (pa_c (v_idx (pe_loc 0) k_int) pa_n)) (pa_c (own (IH 6) hr T.k_multiplied T.m_multiplied (pa_c (v_idx (pe_loc 0) k_int) pa_n)) pa_n))) sc_15.nd)) s_nil)
    (s_seq (s_if (t_eq (hu64 hr) (v_cb call_len pn_len T.b_len (by decide +kernel) (pa_c (pe_loc 0) pa_n)) k_int) (s_one (s_set (v_lst (pa_c (own (IH 5) hr T.k_added T.m_added (pa_c (v_idx (pe_loc 0) k_int) (pa_c (v_idx (pe_loc 0) k_int) pa_n))) (pa_c (own (IH 6) hr T.k_multiplied T.m_multiplied (pa_c (v_idx (pe_loc 0) k_int) (pa_c (v_idx (pe_loc 0) k_int) pa_n))) pa_n))) sc_15.nd)) s_nil)
    (s_seq (s_if (t_eq (hu64 hr) (v_cb call_len pn_len T.b_len (by decide +kernel) (pa_c (pe_loc 0) pa_n)) k_int) (s_one (s_set (v_lst (pa_c (own (IH 5) hr T.k_added T.m_added (pa_c (v_idx (pe_loc 0) k_int) (pa_c (v_idx (pe_loc 0) k_int) (pa_c (v_idx (pe_loc 0) k_int) pa_n)))) (pa_c (own (IH 6) hr T.k_multiplied T.m_multiplied (pa_c (v_idx (pe_loc 0) k_int) (pa_c (v_idx (pe_loc 0) k_int) (pa_c (v_idx (pe_loc 0) k_int) pa_n)))) pa_n))) sc_15.nd)) s_nil)
    (s_one (s_ret (v_eq (hu64 hr) (pe_loc 4) (v_lst (pa_c (own (IH 11) hr T.k__law_lowest T.m__law_lowest (pa_c (v_idx (pe_loc 1) k_int) (pa_c (v_idx (pe_loc 1) k_int) pa_n))) (pa_c (own (IH 11) hr T.k__law_lowest T.m__law_lowest (pa_c (v_idx (pe_loc 2) k_int) (pa_c (v_idx (pe_loc 2) k_int) pa_n))) pa_n))))))))))))
/-- _law_right -/
theorem body_16 (T : Txt K mg ad) {k : Nat} (IH : ∀ j, FnR P w K mg base CX0 k (ad j) (spK K (callN tab k) j)) (f : Addr) (qual : Str) (cdv : Value) (A : Around) (outer : List Env) (s : Shared) (H : Hp) (E : XK) (hr : Room k (A.deeper (envOfC qual (defScope s_16) s.heap.objs.size f cdv))) :
    PSs (cxOf CX0 P w K mg base n_16 qual (defScope s_16) f cdv A outer s H E).nox (defBody s_16) (tS K (callN tab k) c_16) :=
    (s_seq (s_setLc [(("_law_turn" : PySem.Str), 9)] (g_nm 9) rfl sc_16.nd (blkOk_by (N := n_16) (sc := defScope s_16) (by decide +kernel)) (by decide +kernel) (i_r1 T.b_range (pa_c k_int pa_n)) (fun _ _ _ _ _ => (pg_name (i := 9) sc_16.nd rfl (by first | exact .inl rfl | exact .inr rfl))) (fun _ _ _ _ _ => p_nil) (fun _ _ _ _ _ => (own (IH 14) hr T.k__law_drawn T.m__law_drawn (pa_c (pe_loc 0) pa_n))))
    (s_seq (s_set (v_lc [(("_law_one" : PySem.Str), 3), (("_law_other" : PySem.Str), 4)] (g_tp (gs_cons (i := 3) (gs_cons (i := 4) gs_nil)) rfl) rfl sc_16.nd (blkOk_by (N := n_16) (sc := defScope s_16) (by decide +kernel)) (by decide +kernel) (i_any (pe_loc 1)) (fun _ _ _ _ _ => (pg_tup rfl (pgs_cons (pg_name (i := 3) sc_16.nd rfl (by first | exact .inl rfl | exact .inr rfl)) (pgs_cons (pg_name (i := 4) sc_16.nd rfl (by first | exact .inl rfl | exact .inr rfl)) pgs_nil)))) (fun _ _ _ _ _ => p_nil) (fun _ _ _ _ _ => (own (IH 3) hr T.k_fraction T.m_fraction (pa_c (pe_loc 3) (pa_c (pe_loc 4) pa_n))))) sc_16.nd)
    (s_seq (s_if (t_ne (hu64 hr) (pe_loc 2) (v_lc [(("_law_one" : PySem.Str), 3), (("_law_other" : PySem.Str), 4)] (g_tp (gs_cons (i := 3) (gs_cons (i := 4) gs_nil)) rfl) rfl sc_16.nd (blkOk_by (N := n_16) (sc := defScope s_16) (by decide +kernel)) (by decide +kernel) (i_any (pe_loc 1)) (fun _ _ _ _ _ => (pg_tup rfl (pgs_cons (pg_name (i := 3) sc_16.nd rfl (by first | exact .inl rfl | exact .inr rfl)) (pgs_cons (pg_name (i := 4) sc_16.nd rfl (by first | exact .inl rfl | exact .inr rfl)) pgs_nil)))) (fun _ _ _ _ _ => p_nil) (fun _ _ _ _ _ => (own (IH 11) hr T.k__law_lowest T.m__law_lowest (pa_c (pe_loc 3) (pa_c (pe_loc 4) pa_n)))))) (s_one (s_ret k_bl)) s_nil)
    (s_seq (s_if (t_ne (hu64 hr) (v_lc [(("_law_one" : PySem.Str), 3)] (g_nm 3) rfl sc_16.nd (blkOk_by (N := n_16) (sc := defScope s_16) (by decide +kernel)) (by decide +kernel) (i_any (pe_loc 2)) (fun _ _ _ _ _ => (pg_name (i := 3) sc_16.nd rfl (by first | exact .inl rfl | exact .inr rfl))) (fun _ _ _ _ _ => (p_one (tnot (ttru (own (IH 13) hr T.k__law_is_lowest T.m__law_is_lowest (pa_c (pe_loc 3) pa_n)))))) (fun _ _ _ _ _ => (pe_loc 3))) (v_lst pa_n)) (s_one (s_ret k_bl)) s_nil)
    (s_seq (s_for (g_tp (gs_cons (i := 3) (gs_cons (i := 4) gs_nil)) rfl) PassesOwn.never rfl (i_any (v_lst (pa_c (v_tup (pa_c (v_idx (pe_loc 2) k_int) (pa_c (v_idx (pe_loc 2) k_int) pa_n))) (pa_c (v_tup (pa_c (v_idx (pe_loc 2) k_int) (pa_c (v_idx (pe_loc 2) k_int) pa_n))) (pa_c (v_tup (pa_c (v_idx (pe_loc 2) k_int) (pa_c (v_idx (pe_loc 2) k_int) pa_n))) pa_n))))) (pg_tup rfl (pgs_cons (pg_name (i := 3) sc_16.nd rfl (by first | exact .inl rfl | exact .inr rfl)) (pgs_cons (pg_name (i := 4) sc_16.nd rfl (by first | exact .inl rfl | exact .inr rfl)) pgs_nil))) (s_one (s_if ((wor (t_ne (hu64 hr) (own (IH 4) hr T.k_is_lower T.m_is_lower (pa_c (pe_loc 3) (pa_c (pe_loc 4) pa_n))) (own (IH 12) hr T.k__law_less T.m__law_less (pa_c (pe_loc 3) (pa_c (pe_loc 4) pa_n)))) (w1o ((wand (ttru (own (IH 4) hr T.k_is_lower T.m_is_lower (pa_c (pe_loc 3) (pa_c (pe_loc 4) pa_n)))) (w1a (ttru (own (IH 4) hr T.k_is_lower T.m_is_lower (pa_c (pe_loc 4) (pa_c (pe_loc 3) pa_n))))))).pt))).pt (s_one (s_ret k_bl)) s_nil)))
    (s_seq (s_if (t_ne (hu64 hr) (v_lc [(("_law_many" : PySem.Str), 10)] (g_nm 10) rfl sc_16.nd (blkOk_by (N := n_16) (sc := defScope s_16) (by decide +kernel)) (by decide +kernel) (i_r1 T.b_range (pa_c k_int pa_n)) (fun _ _ _ _ _ => (pg_name (i := 10) sc_16.nd rfl (by first | exact .inl rfl | exact .inr rfl))) (fun _ _ _ _ _ => (p_one (tnot (ttru (own (IH 15) hr T.k__law_sums_right T.m__law_sums_right (pa_c (v_slB (pe_loc 2) (pe_loc 10)) pa_n)))))) (fun _ _ _ _ _ => (pe_loc 10))) (v_lst pa_n)) (s_one (s_ret k_bl)) s_nil)
    (s_seq (s_par rfl sc_16.nd (pa_c (v_add k_int (own (IH 9) hr T.k__law_roll T.m__law_roll (pa_c (pe_loc 0) (pa_c k_int pa_n)))) (pa_c (v_add (v_pow k_int k_int) (own (IH 9) hr T.k__law_roll T.m__law_roll (pa_c (pe_loc 0) (pa_c k_int pa_n)))) pa_n)))
    (s_seq (s_if ((wor (t_ne (hu64 hr) (own (IH 3) hr T.k_fraction T.m_fraction (pa_c (v_mul (v_idx (v_idx (pe_loc 1) k_int) k_int) (pe_loc 5)) (pa_c (v_mul (v_idx (v_idx (pe_loc 1) k_int) k_int) (pe_loc 5)) pa_n))) (v_idx (pe_loc 2) k_int)) (w1o (t_ne (hu64 hr) (own (IH 3) hr T.k_fraction T.m_fraction (pa_c (pe_loc 6) (pa_c (pe_loc 6) pa_n))) (v_tup (pa_c k_int (pa_c k_int pa_n))))))).pt (s_one (s_ret k_bl)) s_nil)
    (s_seq (s_set (v_lst (pa_c (v_idx (pe_loc 2) k_int) (pa_c (v_idx (pe_loc 1) k_int) (pa_c (v_tup (pa_c (v_idx (v_idx (pe_loc 2) k_int) k_int) (pa_c k_int pa_n))) (pa_c (v_tup (pa_c (v_idx (v_idx (pe_loc 2) k_int) k_int) (pa_c (v_neg k_int) pa_n))) (pa_c (v_add (v_idx (pe_loc 2) k_int) (v_tup (pa_c k_int pa_n))) (pa_c (v_ct call_list_of pn_list T.b_list (by decide +kernel) (pa_c (v_idx (pe_loc 2) k_int) pa_n)) (pa_c (v_tup (pa_c k_bl (pa_c k_int pa_n))) pa_n)))))))) sc_16.nd)
    (s_seq (s_set (v_add (pe_loc 7) (v_lst (pa_c (v_tup (pa_c k_int (pa_c k_bl pa_n))) (pa_c k_non (pa_c k_int pa_n))))) sc_16.nd)
    (s_seq (s_set (v_add (v_lst (pa_c k_bl (pa_c (own (IH 13) hr T.k__law_is_lowest T.m__law_is_lowest (pa_c (v_idx (pe_loc 1) k_int) pa_n)) pa_n))) (v_mul (v_lst (pa_c k_bl pa_n)) k_int)) sc_16.nd)
    (s_one (s_ret (vand (v_eq (hu64 hr) (v_lc [(("_law_one" : PySem.Str), 3)] (g_nm 3) rfl sc_16.nd (blkOk_by (N := n_16) (sc := defScope s_16) (by decide +kernel)) (by decide +kernel) (i_any (pe_loc 7)) (fun _ _ _ _ _ => (pg_name (i := 3) sc_16.nd rfl (by first | exact .inl rfl | exact .inr rfl))) (fun _ _ _ _ _ => p_nil) (fun _ _ _ _ _ => (own (IH 2) hr T.k_is_fraction T.m_is_fraction (pa_c (pe_loc 3) pa_n)))) (pe_loc 8)) (v1 (v_is (own (IH 2) hr T.k_is_fraction T.m_is_fraction (pa_c (v_tup (pa_c k_int (pa_c k_int pa_n))) pa_n)) k_bl))))))))))))))))
/-- _law_places_right -/
theorem body_17 (T : Txt K mg ad) {k : Nat} (IH : ∀ j, FnR P w K mg base CX0 k (ad j) (spK K (callN tab k) j)) (f : Addr) (qual : Str) (cdv : Value) (A : Around) (outer : List Env) (s : Shared) (H : Hp) (E : XK) (hr : Room k (A.deeper (envOfC qual (defScope s_17) s.heap.objs.size f cdv))) :
    PSs (cxOf CX0 P w K mg base n_17 qual (defScope s_17) f cdv A outer s H E).nox (defBody s_17) (tS K (callN tab k) c_17) :=
    (s_seq (s_set (v_join (v_lc [(("_law_turn" : PySem.Str), 3)] (g_nm 3) rfl sc_17.nd (blkOk_by (N := n_17) (sc := defScope s_17) (by decide +kernel)) (by decide +kernel) (i_r1 T.b_range (pa_c (v_add k_int (own (IH 9) hr T.k__law_roll T.m__law_roll (pa_c (pe_loc 0) (pa_c k_int pa_n)))) pa_n)) (fun _ _ _ _ _ => (pg_name (i := 3) sc_17.nd rfl (by first | exact .inl rfl | exact .inr rfl))) (fun _ _ _ _ _ => p_nil) (fun _ _ _ _ _ => (own (IH 10) hr T.k__law_one_of T.m__law_one_of (pa_c (pe_loc 0) (pa_c (v_ct (call_listS rfl) pn_listS T.b_list (by decide +kernel) (pa_c k_str pa_n)) pa_n)))))) sc_17.nd)
    (s_seq (s_set (v_lst (pa_c (pe_loc 1) (pa_c (v_add (pe_loc 1) k_str) (pa_c (v_add (pe_loc 1) k_str) (pa_c k_str (pa_c (v_add (pe_loc 1) k_str) (pa_c (v_tup (pa_c (pe_loc 1) pa_n)) (pa_c k_non (pa_c k_int (pa_c k_bl (pa_c (v_lst (pa_c (pe_loc 1) pa_n)) (pa_c v_dct0 (pa_c (v_add (pe_loc 1) k_str) pa_n))))))))))))) sc_17.nd)
    (s_one (s_ret (v_eq (hu64 hr) (v_lc [(("_law_one" : PySem.Str), 4)] (g_nm 4) rfl sc_17.nd (blkOk_by (N := n_17) (sc := defScope s_17) (by decide +kernel)) (by decide +kernel) (i_any (pe_loc 2)) (fun _ _ _ _ _ => (pg_name (i := 4) sc_17.nd rfl (by first | exact .inl rfl | exact .inr rfl))) (fun _ _ _ _ _ => p_nil) (fun _ _ _ _ _ => (own (IH 0) hr T.k_is_place T.m_is_place (pa_c (pe_loc 4) pa_n)))) (v_add (v_lst (pa_c k_bl pa_n)) (v_mul (v_lst (pa_c k_bl pa_n)) k_int)))))))
/-- law -/
theorem body_18 (T : Txt K mg ad) {k : Nat} (IH : ∀ j, FnR P w K mg base CX0 k (ad j) (spK K (callN tab k) j)) (f : Addr) (qual : Str) (cdv : Value) (A : Around) (outer : List Env) (s : Shared) (H : Hp) (E : XK) (hr : Room k (A.deeper (envOfC qual (defScope s_18) s.heap.objs.size f cdv))) :
    PSs (cxOf CX0 P w K mg base n_18 qual (defScope s_18) f cdv A outer s H E).nox (defBody s_18) (tS K (callN tab k) c_18) :=
    (s_seq (s_for (g_nm 1) PassesOwn.never rfl (i_r1 T.b_range (pa_c (v_cb (call_max2 rfl) pn_b2 T.b_max (by decide +kernel) (pa_c k_int (pa_c (v_cb (call_min2 rfl) pn_b2 T.b_min (by decide +kernel) (pa_c k_int (pa_c (v_cb call_len pn_len T.b_len (by decide +kernel) (pa_c (pe_loc 0) pa_n)) pa_n))) pa_n))) pa_n)) (pg_name (i := 1) sc_18.nd rfl (by first | exact .inl rfl | exact .inr rfl)) (s_seq (s_set (own (IH 8) hr T.k__law_dice T.m__law_dice (pa_c (pe_loc 0) (pa_c (pe_loc 1) pa_n))) sc_18.nd)
    (s_one (s_if ((wor (tnot (ttru (own (IH 16) hr T.k__law_right T.m__law_right (pa_c (pe_loc 2) pa_n)))) (w1o (tnot (ttru (own (IH 17) hr T.k__law_places_right T.m__law_places_right (pa_c (pe_loc 2) pa_n))))))).pt (s_one (s_ret k_bl)) s_nil))))
    (s_seq (s_set (v_lst (pa_c (own (IH 3) hr T.k_fraction T.m_fraction (pa_c k_int (pa_c k_int pa_n))) (pa_c (own (IH 3) hr T.k_fraction T.m_fraction (pa_c (v_neg k_int) (pa_c k_int pa_n))) (pa_c (own (IH 3) hr T.k_fraction T.m_fraction (pa_c k_int (pa_c k_int pa_n))) (pa_c (own (IH 5) hr T.k_added T.m_added (pa_c (v_tup (pa_c k_int (pa_c k_int pa_n))) (pa_c (v_tup (pa_c k_int (pa_c k_int pa_n))) pa_n))) (pa_c (own (IH 6) hr T.k_multiplied T.m_multiplied (pa_c (v_tup (pa_c k_int (pa_c k_int pa_n))) (pa_c (v_tup (pa_c k_int (pa_c k_int pa_n))) pa_n))) pa_n)))))) sc_18.nd)
    (s_one (s_ret (vand (v_eq (hu64 hr) (pe_loc 3) (v_lst (pa_c (v_tup (pa_c k_int (pa_c k_int pa_n))) (pa_c (v_tup (pa_c (v_neg k_int) (pa_c k_int pa_n))) (pa_c (v_tup (pa_c k_int (pa_c k_int pa_n))) (pa_c (v_tup (pa_c k_int (pa_c k_int pa_n))) (pa_c (v_tup (pa_c k_int (pa_c k_int pa_n))) pa_n))))))) (v1 (v_eq (hu64 hr) (k_gint T.c_MAX_LETTERS) k_int)))))))
end
end K01

set_option Elab.async false
set_option linter.all false
set_option maxRecDepth 100000
set_option maxHeartbeats 4000000
namespace K01
open PySem L2 Iv
open PySem.Spec PyProof.Rows
section
variable {P : Program} {w : World} {K : PySem.W.Frag} {mg : Str → Option Value} {base : Heap} {ad : Nat → Addr} {fd : Nat → FuncData}
structure Fs (K : PySem.W.Frag) (ad : Nat → Addr) (fd : Nat → FuncData) : Prop where
  f_0 : Fun K "is_place" "is_place" s_0 (ad 0) (fd 0)
  f_1 : Fun K "is_whole" "is_whole" s_1 (ad 1) (fd 1)
  f_2 : Fun K "is_fraction" "is_fraction" s_2 (ad 2) (fd 2)
  f_3 : Fun K "fraction" "fraction" s_3 (ad 3) (fd 3)
  f_4 : Fun K "is_lower" "is_lower" s_4 (ad 4) (fd 4)
  f_5 : Fun K "added" "added" s_5 (ad 5) (fd 5)
  f_6 : Fun K "multiplied" "multiplied" s_6 (ad 6) (fd 6)
  f_7 : Fun K "need_fractions" "need_fractions" s_7 (ad 7) (fd 7)
  f_8 : Fun K "_law_dice" "_law_dice" s_8 (ad 8) (fd 8)
  f_9 : Fun K "_law_roll" "_law_roll" s_9 (ad 9) (fd 9)
  f_10 : Fun K "_law_one_of" "_law_one_of" s_10 (ad 10) (fd 10)
  f_11 : Fun K "_law_lowest" "_law_lowest" s_11 (ad 11) (fd 11)
  f_12 : Fun K "_law_less" "_law_less" s_12 (ad 12) (fd 12)
  f_13 : Fun K "_law_is_lowest" "_law_is_lowest" s_13 (ad 13) (fd 13)
  f_14 : Fun K "_law_drawn" "_law_drawn" s_14 (ad 14) (fd 14)
  f_15 : Fun K "_law_sums_right" "_law_sums_right" s_15 (ad 15) (fd 15)
  f_16 : Fun K "_law_right" "_law_right" s_16 (ad 16) (fd 16)
  f_17 : Fun K "_law_places_right" "_law_places_right" s_17 (ad 17) (fd 17)
  f_18 : Fun K "law" "law" s_18 (ad 18) (fd 18)
theorem all_ok (T : Txt K mg ad) (F : Fs K ad fd) : ∀ k j, FnR P w K mg base CX0 k (ad j) (spK K (callN tab k) j)
  | 0, _ => fn_zero
  | k + 1, j => by
    have IH := all_ok T F k
    match j with
    | 0 => exact fn_def F.f_0 sc_0 (F.f_0.binds (ps := ["value"]) fun _ _ _ _ _ _ us hl => match us, hl with | [_], _ => rfl) rfl rfl rfl rfl (fun cdv A outer s H E hr => body_0 T IH _ _ cdv A outer s H E hr)
    | 1 => exact fn_def F.f_1 sc_1 (F.f_1.binds (ps := ["value"]) fun _ _ _ _ _ _ us hl => match us, hl with | [_], _ => rfl) rfl rfl rfl rfl (fun cdv A outer s H E hr => body_1 T IH _ _ cdv A outer s H E hr)
    | 2 => exact fn_def F.f_2 sc_2 (F.f_2.binds (ps := ["value"]) fun _ _ _ _ _ _ us hl => match us, hl with | [_], _ => rfl) rfl rfl rfl rfl (fun cdv A outer s H E hr => body_2 T IH _ _ cdv A outer s H E hr)
    | 3 => exact fn_def F.f_3 sc_3 (F.f_3.binds (ps := ["numerator", "denominator"]) fun _ _ _ _ _ _ us hl => match us, hl with | [_, _], _ => rfl) rfl rfl rfl rfl (fun cdv A outer s H E hr => body_3 T IH _ _ cdv A outer s H E hr)
    | 4 => exact fn_def F.f_4 sc_4 (F.f_4.binds (ps := ["one", "other"]) fun _ _ _ _ _ _ us hl => match us, hl with | [_, _], _ => rfl) rfl rfl rfl rfl (fun cdv A outer s H E hr => body_4 T IH _ _ cdv A outer s H E hr)
    | 5 => exact fn_st (ps := []) (pv := "fractions") F.f_5 sc_5 rfl rfl rfl rfl (fun _ _ _ _ _ _ us rest hl => match us, hl, rest with | [], _, [] => rfl | [], _, _ :: _ => rfl) (fun cdv A outer s H E hr => body_5 T IH _ _ cdv A outer s H E hr)
    | 6 => exact fn_st (ps := []) (pv := "fractions") F.f_6 sc_6 rfl rfl rfl rfl (fun _ _ _ _ _ _ us rest hl => match us, hl, rest with | [], _, [] => rfl | [], _, _ :: _ => rfl) (fun cdv A outer s H E hr => body_6 T IH _ _ cdv A outer s H E hr)
    | 7 => exact fn_def F.f_7 sc_7 (F.f_7.binds (ps := ["values"]) fun _ _ _ _ _ _ us hl => match us, hl with | [_], _ => rfl) rfl rfl rfl rfl (fun cdv A outer s H E hr => body_7 T IH _ _ cdv A outer s H E hr)
    | 8 => exact fn_def F.f_8 sc_8 (F.f_8.binds (ps := ["_law_script", "_law_at"]) fun _ _ _ _ _ _ us hl => match us, hl with | [_, _], _ => rfl) rfl rfl rfl rfl (fun cdv A outer s H E hr => body_8 T IH _ _ cdv A outer s H E hr)
    | 9 => exact fn_def F.f_9 sc_9 (F.f_9.binds (ps := ["_law_dice_here", "_law_total"]) fun _ _ _ _ _ _ us hl => match us, hl with | [_, _], _ => rfl) rfl rfl rfl rfl (fun cdv A outer s H E hr => body_9 T IH _ _ cdv A outer s H E hr)
    | 10 => exact fn_def F.f_10 sc_10 (F.f_10.binds (ps := ["_law_dice_here", "_law_items"]) fun _ _ _ _ _ _ us hl => match us, hl with | [_, _], _ => rfl) rfl rfl rfl rfl (fun cdv A outer s H E hr => body_10 T IH _ _ cdv A outer s H E hr)
    | 11 => exact fn_def F.f_11 sc_11 (F.f_11.binds (ps := ["_law_numerator", "_law_denominator"]) fun _ _ _ _ _ _ us hl => match us, hl with | [_, _], _ => rfl) rfl rfl rfl rfl (fun cdv A outer s H E hr => body_11 T IH _ _ cdv A outer s H E hr)
    | 12 => exact fn_def F.f_12 sc_12 (F.f_12.binds (ps := ["_law_one", "_law_other"]) fun _ _ _ _ _ _ us hl => match us, hl with | [_, _], _ => rfl) rfl rfl rfl rfl (fun cdv A outer s H E hr => body_12 T IH _ _ cdv A outer s H E hr)
    | 13 => exact fn_def F.f_13 sc_13 (F.f_13.binds (ps := ["_law_one"]) fun _ _ _ _ _ _ us hl => match us, hl with | [_], _ => rfl) rfl rfl rfl rfl (fun cdv A outer s H E hr => body_13 T IH _ _ cdv A outer s H E hr)
    | 14 => exact fn_def F.f_14 sc_14 (F.f_14.binds (ps := ["_law_dice_here"]) fun _ _ _ _ _ _ us hl => match us, hl with | [_], _ => rfl) rfl rfl rfl rfl (fun cdv A outer s H E hr => body_14 T IH _ _ cdv A outer s H E hr)
    | 15 => exact fn_def F.f_15 sc_15 (F.f_15.binds (ps := ["_law_rows"]) fun _ _ _ _ _ _ us hl => match us, hl with | [_], _ => rfl) rfl rfl rfl rfl (fun cdv A outer s H E hr => body_15 T IH _ _ cdv A outer s H E hr)
    | 16 => exact fn_def F.f_16 sc_16 (F.f_16.binds (ps := ["_law_dice_here"]) fun _ _ _ _ _ _ us hl => match us, hl with | [_], _ => rfl) rfl rfl rfl rfl (fun cdv A outer s H E hr => body_16 T IH _ _ cdv A outer s H E hr)
    | 17 => exact fn_def F.f_17 sc_17 (F.f_17.binds (ps := ["_law_dice_here"]) fun _ _ _ _ _ _ us hl => match us, hl with | [_], _ => rfl) rfl rfl rfl rfl (fun cdv A outer s H E hr => body_17 T IH _ _ cdv A outer s H E hr)
    | 18 => exact fn_def F.f_18 sc_18 (F.f_18.binds (ps := ["_law_script"]) fun _ _ _ _ _ _ us hl => match us, hl with | [_], _ => rfl) rfl rfl rfl rfl (fun cdv A outer s H E hr => body_18 T IH _ _ cdv A outer s H E hr)
    | _ + 19 => exact fn_none rfl
theorem law_ok (T : Txt K mg ad) (F : Fs K ad fd) (k : Nat) : FnOk P w K mg base CX0 (k + 1) (ad 18) (fd 18) ["_law_script"] (spK K (callN tab (k + 1)) 18) :=
  fn_ok F.f_18 sc_18 rfl rfl rfl rfl (fun cdv A outer s H E hr => body_18 T (all_ok T F k) _ _ cdv A outer s H E hr)
end
theorem all_mk {l : PySem.W.OpenLaw} {w : World} {K : PySem.W.Frag} {h : Heap} {mg : Str → Option Value} {fa f0 f1 f2 f3 f4 f5 f6 f7 f8 f9 f10 f11 f12 f13 f14 f15 f16 f17 f18 : Addr} (X : K.In h) (G : h.Ns mainGlobals mg) (hfa : mg "law" = some (.ref fa))
    {od0 an0 : Option Addr} {sl0 : Array (Option Value)} {oc0 kV0 dc0 pm0 cd0 ct0 : Value}
    {od1 an1 : Option Addr} {sl1 : Array (Option Value)} {oc1 kV1 dc1 pm1 cd1 ct1 : Value}
    {od2 an2 : Option Addr} {sl2 : Array (Option Value)} {oc2 kV2 dc2 pm2 cd2 ct2 : Value}
    {od3 an3 : Option Addr} {sl3 : Array (Option Value)} {oc3 kV3 dc3 pm3 cd3 ct3 : Value}
    {od4 an4 : Option Addr} {sl4 : Array (Option Value)} {oc4 kV4 dc4 pm4 cd4 ct4 : Value}
    {od5 an5 : Option Addr} {sl5 : Array (Option Value)} {oc5 kV5 dc5 pm5 cd5 ct5 : Value}
    {od6 an6 : Option Addr} {sl6 : Array (Option Value)} {oc6 kV6 dc6 pm6 cd6 ct6 : Value}
    {od7 an7 : Option Addr} {sl7 : Array (Option Value)} {oc7 kV7 dc7 pm7 cd7 ct7 : Value}
    {od8 an8 : Option Addr} {sl8 : Array (Option Value)} {oc8 kV8 dc8 pm8 cd8 ct8 : Value}
    {od9 an9 : Option Addr} {sl9 : Array (Option Value)} {oc9 kV9 dc9 pm9 cd9 ct9 : Value}
    {od10 an10 : Option Addr} {sl10 : Array (Option Value)} {oc10 kV10 dc10 pm10 cd10 ct10 : Value}
    {od11 an11 : Option Addr} {sl11 : Array (Option Value)} {oc11 kV11 dc11 pm11 cd11 ct11 : Value}
    {od12 an12 : Option Addr} {sl12 : Array (Option Value)} {oc12 kV12 dc12 pm12 cd12 ct12 : Value}
    {od13 an13 : Option Addr} {sl13 : Array (Option Value)} {oc13 kV13 dc13 pm13 cd13 ct13 : Value}
    {od14 an14 : Option Addr} {sl14 : Array (Option Value)} {oc14 kV14 dc14 pm14 cd14 ct14 : Value}
    {od15 an15 : Option Addr} {sl15 : Array (Option Value)} {oc15 kV15 dc15 pm15 cd15 ct15 : Value}
    {od16 an16 : Option Addr} {sl16 : Array (Option Value)} {oc16 kV16 dc16 pm16 cd16 ct16 : Value}
    {od17 an17 : Option Addr} {sl17 : Array (Option Value)} {oc17 kV17 dc17 pm17 cd17 ct17 : Value}
    {od18 an18 : Option Addr} {sl18 : Array (Option Value)} {oc18 kV18 dc18 pm18 cd18 ct18 : Value}
    (a0 : PySem.W.nsIn K mainGlobals "is_place" = some (some (.ref f0))) (l0 : K.lookup f0 = some ⟨oc0, od0, .func (PySem.W.fnOf "is_place" "is_place" (defArgs s_0) (defBody s_0) (defScope s_0) .none kV0 dc0 pm0 an0 cd0 ct0), sl0⟩) (c0 : PySem.W.codeIn K cd0 "is_place" = true) (k0 : PySem.W.keepIn K (.ref f0) = true)
    (a1 : PySem.W.nsIn K mainGlobals "is_whole" = some (some (.ref f1))) (l1 : K.lookup f1 = some ⟨oc1, od1, .func (PySem.W.fnOf "is_whole" "is_whole" (defArgs s_1) (defBody s_1) (defScope s_1) .none kV1 dc1 pm1 an1 cd1 ct1), sl1⟩) (c1 : PySem.W.codeIn K cd1 "is_whole" = true) (k1 : PySem.W.keepIn K (.ref f1) = true)
    (a2 : PySem.W.nsIn K mainGlobals "is_fraction" = some (some (.ref f2))) (l2 : K.lookup f2 = some ⟨oc2, od2, .func (PySem.W.fnOf "is_fraction" "is_fraction" (defArgs s_2) (defBody s_2) (defScope s_2) .none kV2 dc2 pm2 an2 cd2 ct2), sl2⟩) (c2 : PySem.W.codeIn K cd2 "is_fraction" = true) (k2 : PySem.W.keepIn K (.ref f2) = true)
    (a3 : PySem.W.nsIn K mainGlobals "fraction" = some (some (.ref f3))) (l3 : K.lookup f3 = some ⟨oc3, od3, .func (PySem.W.fnOf "fraction" "fraction" (defArgs s_3) (defBody s_3) (defScope s_3) .none kV3 dc3 pm3 an3 cd3 ct3), sl3⟩) (c3 : PySem.W.codeIn K cd3 "fraction" = true) (k3 : PySem.W.keepIn K (.ref f3) = true)
    (a4 : PySem.W.nsIn K mainGlobals "is_lower" = some (some (.ref f4))) (l4 : K.lookup f4 = some ⟨oc4, od4, .func (PySem.W.fnOf "is_lower" "is_lower" (defArgs s_4) (defBody s_4) (defScope s_4) .none kV4 dc4 pm4 an4 cd4 ct4), sl4⟩) (c4 : PySem.W.codeIn K cd4 "is_lower" = true) (k4 : PySem.W.keepIn K (.ref f4) = true)
    (a5 : PySem.W.nsIn K mainGlobals "added" = some (some (.ref f5))) (l5 : K.lookup f5 = some ⟨oc5, od5, .func (PySem.W.fnOf "added" "added" (defArgs s_5) (defBody s_5) (defScope s_5) .none kV5 dc5 pm5 an5 cd5 ct5), sl5⟩) (c5 : PySem.W.codeIn K cd5 "added" = true) (k5 : PySem.W.keepIn K (.ref f5) = true)
    (a6 : PySem.W.nsIn K mainGlobals "multiplied" = some (some (.ref f6))) (l6 : K.lookup f6 = some ⟨oc6, od6, .func (PySem.W.fnOf "multiplied" "multiplied" (defArgs s_6) (defBody s_6) (defScope s_6) .none kV6 dc6 pm6 an6 cd6 ct6), sl6⟩) (c6 : PySem.W.codeIn K cd6 "multiplied" = true) (k6 : PySem.W.keepIn K (.ref f6) = true)
    (a7 : PySem.W.nsIn K mainGlobals "need_fractions" = some (some (.ref f7))) (l7 : K.lookup f7 = some ⟨oc7, od7, .func (PySem.W.fnOf "need_fractions" "need_fractions" (defArgs s_7) (defBody s_7) (defScope s_7) .none kV7 dc7 pm7 an7 cd7 ct7), sl7⟩) (c7 : PySem.W.codeIn K cd7 "need_fractions" = true) (k7 : PySem.W.keepIn K (.ref f7) = true)
    (a8 : PySem.W.nsIn K mainGlobals "_law_dice" = some (some (.ref f8))) (l8 : K.lookup f8 = some ⟨oc8, od8, .func (PySem.W.fnOf "_law_dice" "_law_dice" (defArgs s_8) (defBody s_8) (defScope s_8) .none kV8 dc8 pm8 an8 cd8 ct8), sl8⟩) (c8 : PySem.W.codeIn K cd8 "_law_dice" = true) (k8 : PySem.W.keepIn K (.ref f8) = true)
    (a9 : PySem.W.nsIn K mainGlobals "_law_roll" = some (some (.ref f9))) (l9 : K.lookup f9 = some ⟨oc9, od9, .func (PySem.W.fnOf "_law_roll" "_law_roll" (defArgs s_9) (defBody s_9) (defScope s_9) .none kV9 dc9 pm9 an9 cd9 ct9), sl9⟩) (c9 : PySem.W.codeIn K cd9 "_law_roll" = true) (k9 : PySem.W.keepIn K (.ref f9) = true)
    (a10 : PySem.W.nsIn K mainGlobals "_law_one_of" = some (some (.ref f10))) (l10 : K.lookup f10 = some ⟨oc10, od10, .func (PySem.W.fnOf "_law_one_of" "_law_one_of" (defArgs s_10) (defBody s_10) (defScope s_10) .none kV10 dc10 pm10 an10 cd10 ct10), sl10⟩) (c10 : PySem.W.codeIn K cd10 "_law_one_of" = true) (k10 : PySem.W.keepIn K (.ref f10) = true)
    (a11 : PySem.W.nsIn K mainGlobals "_law_lowest" = some (some (.ref f11))) (l11 : K.lookup f11 = some ⟨oc11, od11, .func (PySem.W.fnOf "_law_lowest" "_law_lowest" (defArgs s_11) (defBody s_11) (defScope s_11) .none kV11 dc11 pm11 an11 cd11 ct11), sl11⟩) (c11 : PySem.W.codeIn K cd11 "_law_lowest" = true) (k11 : PySem.W.keepIn K (.ref f11) = true)
    (a12 : PySem.W.nsIn K mainGlobals "_law_less" = some (some (.ref f12))) (l12 : K.lookup f12 = some ⟨oc12, od12, .func (PySem.W.fnOf "_law_less" "_law_less" (defArgs s_12) (defBody s_12) (defScope s_12) .none kV12 dc12 pm12 an12 cd12 ct12), sl12⟩) (c12 : PySem.W.codeIn K cd12 "_law_less" = true) (k12 : PySem.W.keepIn K (.ref f12) = true)
    (a13 : PySem.W.nsIn K mainGlobals "_law_is_lowest" = some (some (.ref f13))) (l13 : K.lookup f13 = some ⟨oc13, od13, .func (PySem.W.fnOf "_law_is_lowest" "_law_is_lowest" (defArgs s_13) (defBody s_13) (defScope s_13) .none kV13 dc13 pm13 an13 cd13 ct13), sl13⟩) (c13 : PySem.W.codeIn K cd13 "_law_is_lowest" = true) (k13 : PySem.W.keepIn K (.ref f13) = true)
    (a14 : PySem.W.nsIn K mainGlobals "_law_drawn" = some (some (.ref f14))) (l14 : K.lookup f14 = some ⟨oc14, od14, .func (PySem.W.fnOf "_law_drawn" "_law_drawn" (defArgs s_14) (defBody s_14) (defScope s_14) .none kV14 dc14 pm14 an14 cd14 ct14), sl14⟩) (c14 : PySem.W.codeIn K cd14 "_law_drawn" = true) (k14 : PySem.W.keepIn K (.ref f14) = true)
    (a15 : PySem.W.nsIn K mainGlobals "_law_sums_right" = some (some (.ref f15))) (l15 : K.lookup f15 = some ⟨oc15, od15, .func (PySem.W.fnOf "_law_sums_right" "_law_sums_right" (defArgs s_15) (defBody s_15) (defScope s_15) .none kV15 dc15 pm15 an15 cd15 ct15), sl15⟩) (c15 : PySem.W.codeIn K cd15 "_law_sums_right" = true) (k15 : PySem.W.keepIn K (.ref f15) = true)
    (a16 : PySem.W.nsIn K mainGlobals "_law_right" = some (some (.ref f16))) (l16 : K.lookup f16 = some ⟨oc16, od16, .func (PySem.W.fnOf "_law_right" "_law_right" (defArgs s_16) (defBody s_16) (defScope s_16) .none kV16 dc16 pm16 an16 cd16 ct16), sl16⟩) (c16 : PySem.W.codeIn K cd16 "_law_right" = true) (k16 : PySem.W.keepIn K (.ref f16) = true)
    (a17 : PySem.W.nsIn K mainGlobals "_law_places_right" = some (some (.ref f17))) (l17 : K.lookup f17 = some ⟨oc17, od17, .func (PySem.W.fnOf "_law_places_right" "_law_places_right" (defArgs s_17) (defBody s_17) (defScope s_17) .none kV17 dc17 pm17 an17 cd17 ct17), sl17⟩) (c17 : PySem.W.codeIn K cd17 "_law_places_right" = true) (k17 : PySem.W.keepIn K (.ref f17) = true)
    (a18 : PySem.W.nsIn K mainGlobals "law" = some (some (.ref f18))) (l18 : K.lookup f18 = some ⟨oc18, od18, .func (PySem.W.fnOf "law" "law" (defArgs s_18) (defBody s_18) (defScope s_18) .none kV18 dc18 pm18 an18 cd18 ct18), sl18⟩) (c18 : PySem.W.codeIn K cd18 "law" = true) (k18 : PySem.W.keepIn K (.ref f18) = true)
    (z_abs : PySem.W.nsIn K mainGlobals "abs" = some none)
    (z_all : PySem.W.nsIn K mainGlobals "all" = some none)
    (z_bool : PySem.W.nsIn K mainGlobals "bool" = some none)
    (z_int : PySem.W.nsIn K mainGlobals "int" = some none)
    (z_isinstance : PySem.W.nsIn K mainGlobals "isinstance" = some none)
    (z_len : PySem.W.nsIn K mainGlobals "len" = some none)
    (z_list : PySem.W.nsIn K mainGlobals "list" = some none)
    (z_max : PySem.W.nsIn K mainGlobals "max" = some none)
    (z_min : PySem.W.nsIn K mainGlobals "min" = some none)
    (z_range : PySem.W.nsIn K mainGlobals "range" = some none)
    (z_str : PySem.W.nsIn K mainGlobals "str" = some none)
    (z_tuple : PySem.W.nsIn K mainGlobals "tuple" = some none)
    {t_MAX_LETTERS : Tok} (g_MAX_LETTERS : PySem.W.nsIn K mainGlobals "MAX_LETTERS" = some (some (.int 8 t_MAX_LETTERS)))
    (i_gcd : PySem.W.nsIn K mainGlobals "gcd" = some (some (.builtin "math.gcd")))
    (M : ∀ ns : List Int, ns.length ≤ 63 → ∃ S1, callN tab 12 18 [rf 0] [.fro (ns.map .int)] = some (.bool true, S1)) :
    ∃ fd : FuncData, (∀ (s : Shared) (v : Value), BindsTo s fd ⟨[v], []⟩ [("_law_script", v)]) ∧ ∀ base : Heap, K.In base → base.Ns mainGlobals mg → FnOk l.prog w K mg base CX0 12 fa fd ["_law_script"] (spLaw K) := by
  have e := hfa.symm.trans (PySem.W.mg_of X G a18)
  have e2 : fa = f18 := Value.ref.inj (Option.some.inj e)
  rw [e2]
  let ad : Nat → Addr := fun j => [f0, f1, f2, f3, f4, f5, f6, f7, f8, f9, f10, f11, f12, f13, f14, f15, f16, f17, f18].getD j 0
  have F0 := fun_mk (st := s_0) l0 c0 k0
  have F1 := fun_mk (st := s_1) l1 c1 k1
  have F2 := fun_mk (st := s_2) l2 c2 k2
  have F3 := fun_mk (st := s_3) l3 c3 k3
  have F4 := fun_mk (st := s_4) l4 c4 k4
  have F5 := fun_mk (st := s_5) l5 c5 k5
  have F6 := fun_mk (st := s_6) l6 c6 k6
  have F7 := fun_mk (st := s_7) l7 c7 k7
  have F8 := fun_mk (st := s_8) l8 c8 k8
  have F9 := fun_mk (st := s_9) l9 c9 k9
  have F10 := fun_mk (st := s_10) l10 c10 k10
  have F11 := fun_mk (st := s_11) l11 c11 k11
  have F12 := fun_mk (st := s_12) l12 c12 k12
  have F13 := fun_mk (st := s_13) l13 c13 k13
  have F14 := fun_mk (st := s_14) l14 c14 k14
  have F15 := fun_mk (st := s_15) l15 c15 k15
  have F16 := fun_mk (st := s_16) l16 c16 k16
  have F17 := fun_mk (st := s_17) l17 c17 k17
  have F18 := fun_mk (st := s_18) l18 c18 k18
  let fd : Nat → FuncData := fun j => match j with
    | 0 => PySem.W.fnOf "is_place" "is_place" (defArgs s_0) (defBody s_0) (defScope s_0) .none kV0 dc0 pm0 an0 cd0 ct0
    | 1 => PySem.W.fnOf "is_whole" "is_whole" (defArgs s_1) (defBody s_1) (defScope s_1) .none kV1 dc1 pm1 an1 cd1 ct1
    | 2 => PySem.W.fnOf "is_fraction" "is_fraction" (defArgs s_2) (defBody s_2) (defScope s_2) .none kV2 dc2 pm2 an2 cd2 ct2
    | 3 => PySem.W.fnOf "fraction" "fraction" (defArgs s_3) (defBody s_3) (defScope s_3) .none kV3 dc3 pm3 an3 cd3 ct3
    | 4 => PySem.W.fnOf "is_lower" "is_lower" (defArgs s_4) (defBody s_4) (defScope s_4) .none kV4 dc4 pm4 an4 cd4 ct4
    | 5 => PySem.W.fnOf "added" "added" (defArgs s_5) (defBody s_5) (defScope s_5) .none kV5 dc5 pm5 an5 cd5 ct5
    | 6 => PySem.W.fnOf "multiplied" "multiplied" (defArgs s_6) (defBody s_6) (defScope s_6) .none kV6 dc6 pm6 an6 cd6 ct6
    | 7 => PySem.W.fnOf "need_fractions" "need_fractions" (defArgs s_7) (defBody s_7) (defScope s_7) .none kV7 dc7 pm7 an7 cd7 ct7
    | 8 => PySem.W.fnOf "_law_dice" "_law_dice" (defArgs s_8) (defBody s_8) (defScope s_8) .none kV8 dc8 pm8 an8 cd8 ct8
    | 9 => PySem.W.fnOf "_law_roll" "_law_roll" (defArgs s_9) (defBody s_9) (defScope s_9) .none kV9 dc9 pm9 an9 cd9 ct9
    | 10 => PySem.W.fnOf "_law_one_of" "_law_one_of" (defArgs s_10) (defBody s_10) (defScope s_10) .none kV10 dc10 pm10 an10 cd10 ct10
    | 11 => PySem.W.fnOf "_law_lowest" "_law_lowest" (defArgs s_11) (defBody s_11) (defScope s_11) .none kV11 dc11 pm11 an11 cd11 ct11
    | 12 => PySem.W.fnOf "_law_less" "_law_less" (defArgs s_12) (defBody s_12) (defScope s_12) .none kV12 dc12 pm12 an12 cd12 ct12
    | 13 => PySem.W.fnOf "_law_is_lowest" "_law_is_lowest" (defArgs s_13) (defBody s_13) (defScope s_13) .none kV13 dc13 pm13 an13 cd13 ct13
    | 14 => PySem.W.fnOf "_law_drawn" "_law_drawn" (defArgs s_14) (defBody s_14) (defScope s_14) .none kV14 dc14 pm14 an14 cd14 ct14
    | 15 => PySem.W.fnOf "_law_sums_right" "_law_sums_right" (defArgs s_15) (defBody s_15) (defScope s_15) .none kV15 dc15 pm15 an15 cd15 ct15
    | 16 => PySem.W.fnOf "_law_right" "_law_right" (defArgs s_16) (defBody s_16) (defScope s_16) .none kV16 dc16 pm16 an16 cd16 ct16
    | 17 => PySem.W.fnOf "_law_places_right" "_law_places_right" (defArgs s_17) (defBody s_17) (defScope s_17) .none kV17 dc17 pm17 an17 cd17 ct17
    | 18 => PySem.W.fnOf "law" "law" (defArgs s_18) (defBody s_18) (defScope s_18) .none kV18 dc18 pm18 an18 cd18 ct18
    | _ => PySem.W.fnOf "law" "law" (defArgs s_18) (defBody s_18) (defScope s_18) .none kV18 dc18 pm18 an18 cd18 ct18
  have F : Fs K ad fd := ⟨F0, F1, F2, F3, F4, F5, F6, F7, F8, F9, F10, F11, F12, F13, F14, F15, F16, F17, F18⟩
  have T : Txt K mg ad := ⟨PySem.W.mg_of X G a0, k0, PySem.W.mg_of X G a1, k1, PySem.W.mg_of X G a2, k2, PySem.W.mg_of X G a3, k3, PySem.W.mg_of X G a4, k4, PySem.W.mg_of X G a5, k5, PySem.W.mg_of X G a6, k6, PySem.W.mg_of X G a7, k7, PySem.W.mg_of X G a8, k8, PySem.W.mg_of X G a9, k9, PySem.W.mg_of X G a10, k10, PySem.W.mg_of X G a11, k11, PySem.W.mg_of X G a12, k12, PySem.W.mg_of X G a13, k13, PySem.W.mg_of X G a14, k14, PySem.W.mg_of X G a15, k15, PySem.W.mg_of X G a16, k16, PySem.W.mg_of X G a17, k17, PySem.W.mg_of X G a18, k18, PySem.W.mg_none_of X G z_abs, PySem.W.mg_none_of X G z_all, PySem.W.mg_none_of X G z_bool, PySem.W.mg_none_of X G z_int, PySem.W.mg_none_of X G z_isinstance, PySem.W.mg_none_of X G z_len, PySem.W.mg_none_of X G z_list, PySem.W.mg_none_of X G z_max, PySem.W.mg_none_of X G z_min, PySem.W.mg_none_of X G z_range, PySem.W.mg_none_of X G z_str, PySem.W.mg_none_of X G z_tuple, ⟨_, PySem.W.mg_of X G g_MAX_LETTERS⟩, PySem.W.mg_of X G i_gcd⟩
  exact ⟨fd 18, fun s v => .of_eq rfl, fun base _ _ => law_imp (law_ok T F 11) M⟩
end K01

set_option linter.all false
set_option maxRecDepth 100000
set_option maxHeartbeats 4000000
namespace K01
open Iv PySem
local macro_rules | `(tactic| walk_at "iv") => `(tactic| simp only [WE_nil, WE_cons, WE_loc, WE_prim, WE_itr, WE_call, WE_and, WE_or, WE_ife, WE_lc, WE_chn, WL_nil, WL_cons, WS_skip, WS_brk, WS_cnt, WS_retn, WS_abort, WS_seq, WS_asg, WS_par, WS_eff, WS_dex, WS_ite, WS_ret, WS_for, WS_whl, WF_nil, WF_cons, QN_nx, QN_brk, QN_cnt, QN_ret, QL_nx, QL_cnt, QL_brk, QL_ret, QR_ret, QR_nx, O1_one, OB_one, OE_some, OT_nm, OT_tp, wE_cD,
  w_add, w_addS, w_addL, w_addT, w_sub, w_mul, w_div, w_mod, w_pow, w_neg, w_not, w_eqI, w_neI, w_eqS, w_eqB, w_ltI, w_leI, w_gtI, w_geI, w_leS, w_isB, w_isN, w_tup, w_lst, w_new, w_abs, w_max, w_min, w_gcd, w_int, w_intB, w_truB, w_truL, w_truT, w_lenL, w_lenT, w_lenS, w_itAL, w_itAT, w_itAS, w_itR1, w_itR2, w_listR2, w_listL, w_listT, w_listS, w_mulL, w_dct0,
  startE, setAll, wipeE, List.map_cons, List.map_nil, List.length_cons, List.length_nil, List.reduceReplicate, List.nil_append, List.cons_append, List.getElem?_cons_zero, List.getElem?_cons_succ, List.set_cons_zero, List.set_cons_succ, Nat.reduceAdd, Nat.reduceSub, Nat.reduceLeDiff, true_and, and_true, Bool.not_true, Bool.not_false, Bool.true_eq_false, Bool.false_eq_true, false_implies, true_implies, forall_const, Int.cast_ofNat_Int, decide_true, decide_false, Int.reduceLT, Int.reduceLE, Int.reduceEq, Int.reduceAdd, Int.reduceNeg, Int.reduceMul, decide_eq_true_eq, decide_eq_false_iff_not])
theorem isWhole_int {k : Nat} {i : Int} {S : List SO} : callN tab (k + 1) 1 [.int i] S = some (.bool true, S) := rfl
theorem isWhole_bool {k : Nat} {i : Bool} {S : List SO} : callN tab (k + 1) 1 [.bool i] S = some (.bool false, S) := rfl
def isF (a b : Int) : Bool := decide (1 ≤ b) && decide (((Nat.gcd a.natAbs b.natAbs : Nat) : Int) = 1)
theorem isFr_int {k : Nat} {a b : Int} {S : List SO} : callN tab (k + 2) 2 [.tuple [.int a, .int b]] S = some (.bool (isF a b), S) := by
  refine WC.eq ?_
  refine wc_def (n := 3) (ar := 1) (c := c_2) rfl rfl ?_
  unfold c_2
  walk_at "iv"
  refine (WP_of rfl).mpr ?_
  walk_at "iv"
  rw [WC_of isWhole_int]
  walk_at "iv"
  rw [WC_of isWhole_int]
  walk_at "iv"
  refine ⟨fun hb => ?_, fun hb => ?_⟩
  · unfold isF
    rw [decide_eq_true hb]
    rfl
  · unfold isF
    rw [decide_eq_false hb]
    rfl
theorem isFr_bi {k : Nat} {a : Bool} {b : Int} {S : List SO} : callN tab (k + 2) 2 [.tuple [.bool a, .int b]] S = some (.bool false, S) := rfl
theorem isFr_ib {k : Nat} {a : Bool} {b : Int} {S : List SO} : callN tab (k + 2) 2 [.tuple [.int b, .bool a]] S = some (.bool false, S) := rfl
theorem isFr_3 {k : Nat} {a b c : D} {S : List SO} : callN tab (k + 2) 2 [.tuple [a, b, c]] S = some (.bool false, S) := rfl
theorem isFr_l {k : Nat} {a : List D} {S : List SO} : callN tab (k + 2) 2 [.list a] S = some (.bool false, S) := rfl
theorem isFr_n {k : Nat} {S : List SO} : callN tab (k + 2) 2 [.none] S = some (.bool false, S) := rfl
theorem isFr_i {k : Nat} {a : Int} {S : List SO} : callN tab (k + 2) 2 [.int a] S = some (.bool false, S) := rfl
def gc (a b : Int) : Int := ((Nat.gcd a.natAbs b.natAbs : Nat) : Int)
def red (a b : Int) : D := .tuple [.int (a / gc a b), .int (b / gc a b)]
theorem gc_pos {a b : Int} (h : 1 ≤ b) : 0 < gc a b := by
  have : 0 < Nat.gcd a.natAbs b.natAbs := Nat.gcd_pos_of_pos_right _ (by omega)
  unfold gc
  omega
theorem gc_le {a b : Int} (h : 1 ≤ b) : gc a b ≤ b := by
  have : Nat.gcd a.natAbs b.natAbs ≤ b.natAbs := Nat.gcd_le_right _ (by omega)
  unfold gc
  omega
theorem fraction_ok {k : Nat} {a b : Int} {S : List SO} (h : 1 ≤ b) (h2 : b < 2 ^ 100) : callN tab (k + 2) 3 [.int a, .int b] S = some (red a b, S) := by
  refine WC.eq ?_
  refine wc_def (n := 4) (ar := 2) (c := c_3) rfl rfl ?_
  unfold c_3
  walk_at "iv"
  rw [WC_of isWhole_int]
  walk_at "iv"
  rw [WC_of isWhole_int]
  walk_at "iv"
  have g := gc_pos (a := a) h
  have g2 := gc_le (a := a) h
  exact ⟨fun z => by omega, fun _ => ⟨div_of g (Int.lt_of_le_of_lt g2 h2), div_of g (Int.lt_of_le_of_lt g2 h2), rfl⟩⟩
/-- a row of fractions told by its numbers, and what is asked of each -/
def FrOk (p : Int × Int) : Prop := isF p.1 p.2 = true ∧ -(2 ^ 20) ≤ p.1 ∧ p.1 ≤ 2 ^ 20 ∧ p.2 ≤ 2 ^ 20
def frD (p : Int × Int) : D := .tuple [.int p.1, .int p.2]
theorem need_ok {k : Nat} {ps : List (Int × Int)} {S : List SO} (h : ∀ p ∈ ps, isF p.1 p.2 = true) : callN tab (k + 3) 7 [.tuple (ps.map frD)] S = some (.none, S) := by
  refine WC.eq ?_
  refine wc_def (n := 2) (ar := 1) (c := c_7) rfl rfl ?_
  unfold c_7
  walk_at "iv"
  have key : ∀ (ps : List (Int × Int)), (∀ p ∈ ps, isF p.1 p.2 = true) → ∀ η : En, η.length = 2 → WF (exc (callN tab (k + 2)) (.ite (.prim notP (.cons (.prim truP (.cons (.call 2 (.cons (.loc 1) .nil)) .nil)) .nil)) .abort .skip)) (.nm 1) (ps.map frD) η S (QR fun d S1 => d = .none ∧ S1 = S) := by
    intro ps
    induction ps with
    | nil =>
      intro _ η hη
      walk_at "iv"
    | cons p ps ih =>
      intro hp η hη
      obtain ⟨x, y, rfl⟩ : ∃ x y, η = [x, y] := by
        match η, hη with
        | [x, y], _ => exact ⟨x, y, rfl⟩
      walk_at "iv"
      rw [frD, WC_of isFr_int, hp p List.mem_cons_self]
      walk_at "iv"
      exact ih (fun q hq => hp q (List.mem_cons_of_mem _ hq)) _ rfl
  exact key ps h _ rfl
theorem mul_bd {x y X Y : Int} (h1 : -X ≤ x ∧ x ≤ X) (h2 : -Y ≤ y ∧ y ≤ Y) (hX : 0 ≤ X) (hY : 0 ≤ Y) : -(X * Y) ≤ x * y ∧ x * y ≤ X * Y := by
  have a : x.natAbs ≤ X.natAbs := by omega
  have b : y.natAbs ≤ Y.natAbs := by omega
  have c : (x * y).natAbs ≤ (X * Y).natAbs := by
    rw [Int.natAbs_mul, Int.natAbs_mul]
    exact Nat.mul_le_mul a b
  have d : 0 ≤ X * Y := Int.mul_nonneg hX hY
  omega
def Bd (B : Int) (p : Int × Int) : Prop := -B ≤ p.1 ∧ p.1 ≤ B ∧ 1 ≤ p.2 ∧ p.2 ≤ B
def redP (p : Int × Int) : Int × Int := (p.1 / gc p.1 p.2, p.2 / gc p.1 p.2)
def rawA (t f : Int × Int) : Int × Int := (t.1 * f.2 + f.1 * t.2, t.2 * f.2)
def rawM (t f : Int × Int) : Int × Int := (t.1 * f.1, t.2 * f.2)
theorem red_redP (a b : Int) : red a b = frD (redP (a, b)) := rfl
theorem gc_dvd1 (a b : Int) : gc a b ∣ a := by
  unfold gc
  exact Int.ofNat_dvd_left.mpr (Nat.gcd_dvd_left _ _)
theorem gc_dvd2 (a b : Int) : gc a b ∣ b := by
  unfold gc
  exact Int.ofNat_dvd_left.mpr (Nat.gcd_dvd_right _ _)
theorem div_bd {x g B : Int} (hg : 0 < g) (h1 : -B ≤ x) (h2 : x ≤ B) (hd : g ∣ x) : -B ≤ x / g ∧ x / g ≤ B := by
  obtain ⟨c, rfl⟩ := hd
  rw [Int.mul_ediv_cancel_left _ (by omega)]
  have hB : 0 ≤ B := by omega
  rcases Int.le_total 0 c with h | h
  · have : c ≤ g * c := by
      have := Int.mul_le_mul_of_nonneg_right (show (1 : Int) ≤ g by omega) h
      omega
    omega
  · have : g * c ≤ c := by
      have := Int.mul_le_mul_of_nonpos_right (show (1 : Int) ≤ g by omega) h
      omega
    omega
theorem Bd.red {B : Int} {p : Int × Int} (h : Bd B p) : Bd B (redP p) := by
  obtain ⟨h1, h2, h3, h4⟩ := h
  have g := gc_pos (a := p.1) h3
  have a := div_bd g h1 h2 (gc_dvd1 p.1 p.2)
  have b := div_bd g (show -B ≤ p.2 by omega) h4 (gc_dvd2 p.1 p.2)
  have c : 1 ≤ p.2 / gc p.1 p.2 := by
    have := Int.ediv_le_ediv g (gc_le (a := p.1) h3)
    rw [Int.ediv_self (by omega)] at this
    exact this
  exact ⟨a.1, a.2, c, b.2⟩
theorem isF_red {a b : Int} (h : 1 ≤ b) : isF (a / gc a b) (b / gc a b) = true := by
  have g := gc_pos (a := a) h
  have c : 1 ≤ b / gc a b := by
    have := Int.ediv_le_ediv g (gc_le (a := a) h)
    rw [Int.ediv_self (by omega)] at this
    exact this
  unfold isF
  rw [decide_eq_true c]
  have e : Nat.gcd (a / gc a b).natAbs (b / gc a b).natAbs = 1 := by
    have hg : 0 < Nat.gcd a.natAbs b.natAbs := Nat.gcd_pos_of_pos_right _ (by omega)
    have e1 : (a / gc a b).natAbs = a.natAbs / Nat.gcd a.natAbs b.natAbs := by
      rw [Int.natAbs_ediv_of_dvd (gc_dvd1 a b)]
      rfl
    have e2 : (b / gc a b).natAbs = b.natAbs / Nat.gcd a.natAbs b.natAbs := by
      rw [Int.natAbs_ediv_of_dvd (gc_dvd2 a b)]
      rfl
    rw [e1, e2]
    rw [Nat.gcd_div (Nat.gcd_dvd_left _ _) (Nat.gcd_dvd_right _ _), Nat.div_self hg]
  rw [e]
  rfl
theorem gc_scale {x y g : Int} (hg : 0 < g) : gc (x * g) (y * g) = gc x y * g := by
  unfold gc
  rw [Int.natAbs_mul, Int.natAbs_mul, Nat.gcd_mul_right]
  rw [Int.natCast_mul, Int.natAbs_of_nonneg (by omega)]
theorem redP_scale {x y g : Int} (hg : 0 < g) (hy : 1 ≤ y) : redP (x * g, y * g) = redP (x, y) := by
  unfold redP
  dsimp only
  have h := gc_pos (a := x) hy
  rw [gc_scale hg, Int.mul_ediv_mul_of_pos_left _ _ hg, Int.mul_ediv_mul_of_pos_left _ _ hg]
theorem redP_back {t : Int × Int} (h : 1 ≤ t.2) : (redP t).1 * gc t.1 t.2 = t.1 ∧ (redP t).2 * gc t.1 t.2 = t.2 := ⟨Int.ediv_mul_cancel (gc_dvd1 _ _), Int.ediv_mul_cancel (gc_dvd2 _ _)⟩
theorem redP_den {t : Int × Int} (h : 1 ≤ t.2) : 1 ≤ (redP t).2 := by
  have := (Bd.red (B := t.1.natAbs + t.2) ⟨by omega, by omega, h, by omega⟩).2.2.1
  exact this
theorem redA {t f : Int × Int} (h : 1 ≤ t.2) (hf : 1 ≤ f.2) : redP (rawA (redP t) f) = redP (rawA t f) := by
  obtain ⟨e1, e2⟩ := redP_back h
  have hg := gc_pos (a := t.1) h
  have hd := redP_den h
  have : rawA t f = ((rawA (redP t) f).1 * gc t.1 t.2, (rawA (redP t) f).2 * gc t.1 t.2) := by
    unfold rawA
    dsimp only
    refine Prod.ext ?_ ?_
    · show t.1 * f.2 + f.1 * t.2 = ((redP t).1 * f.2 + f.1 * (redP t).2) * gc t.1 t.2
      rw [Int.add_mul, Int.mul_right_comm, e1, Int.mul_assoc, e2]
    · show t.2 * f.2 = (redP t).2 * f.2 * gc t.1 t.2
      rw [Int.mul_right_comm, e2]
  rw [this, redP_scale hg]
  exact Int.mul_pos hd hf
theorem redM {t f : Int × Int} (h : 1 ≤ t.2) (hf : 1 ≤ f.2) : redP (rawM (redP t) f) = redP (rawM t f) := by
  obtain ⟨e1, e2⟩ := redP_back h
  have hg := gc_pos (a := t.1) h
  have hd := redP_den h
  have : rawM t f = ((rawM (redP t) f).1 * gc t.1 t.2, (rawM (redP t) f).2 * gc t.1 t.2) := by
    unfold rawM
    dsimp only
    refine Prod.ext ?_ ?_
    · show t.1 * f.1 = (redP t).1 * f.1 * gc t.1 t.2
      rw [Int.mul_right_comm, e1]
    · show t.2 * f.2 = (redP t).2 * f.2 * gc t.1 t.2
      rw [Int.mul_right_comm, e2]
  rw [this, redP_scale hg]
  exact Int.mul_pos hd hf
theorem Bd.rawA {B C : Int} {t f : Int × Int} (ht : Bd B t) (hf : Bd C f) : Bd (2 * (B * C)) (rawA t f) := by
  obtain ⟨a1, a2, a3, a4⟩ := ht
  obtain ⟨b1, b2, b3, b4⟩ := hf
  have hB : 0 ≤ B := by omega
  have hC : 0 ≤ C := by omega
  have m1 := mul_bd (x := t.1) (y := f.2) ⟨a1, a2⟩ ⟨by omega, b4⟩ hB hC
  have m2 := mul_bd (x := f.1) (y := t.2) ⟨b1, b2⟩ ⟨by omega, a4⟩ hC hB
  have m3 := mul_bd (x := t.2) (y := f.2) ⟨by omega, a4⟩ ⟨by omega, b4⟩ hB hC
  have m4 : 0 < t.2 * f.2 := Int.mul_pos (by omega) (by omega)
  rw [Int.mul_comm C B] at m2
  exact ⟨by show _ ≤ t.1 * f.2 + f.1 * t.2; omega, by show t.1 * f.2 + f.1 * t.2 ≤ _; omega, by show 1 ≤ t.2 * f.2; omega, by show t.2 * f.2 ≤ _; omega⟩
theorem Bd.rawM {B C : Int} {t f : Int × Int} (ht : Bd B t) (hf : Bd C f) : Bd (2 * (B * C)) (rawM t f) := by
  obtain ⟨a1, a2, a3, a4⟩ := ht
  obtain ⟨b1, b2, b3, b4⟩ := hf
  have hB : 0 ≤ B := by omega
  have hC : 0 ≤ C := by omega
  have m1 := mul_bd (x := t.1) (y := f.1) ⟨a1, a2⟩ ⟨b1, b2⟩ hB hC
  have m3 := mul_bd (x := t.2) (y := f.2) ⟨by omega, a4⟩ ⟨by omega, b4⟩ hB hC
  have m4 : 0 < t.2 * f.2 := Int.mul_pos (by omega) (by omega)
  exact ⟨by show _ ≤ t.1 * f.1; omega, by show t.1 * f.1 ≤ _; omega, by show 1 ≤ t.2 * f.2; omega, by show t.2 * f.2 ≤ _; omega⟩
theorem at0 {x : D} {xs : List D} : L2.atI (x :: xs) 0 = some x := L2.atI_nat (j := 0) rfl
theorem at1 {x y : D} {xs : List D} : L2.atI (x :: y :: xs) 1 = some y := L2.atI_nat (j := 1) rfl
theorem at2 {x y z : D} {xs : List D} : L2.atI (x :: y :: z :: xs) 2 = some z := L2.atI_nat (j := 2) rfl
theorem lower_ok {k : Nat} {p q : Int × Int} {S : List SO} (hp : isF p.1 p.2 = true) (hq : isF q.1 q.2 = true) (bp : Bd (2 ^ 90) p) (bq : Bd (2 ^ 90) q) : callN tab (k + 4) 4 [frD p, frD q] S = some (.bool (decide (p.1 * q.2 < q.1 * p.2)), S) := by
  refine WC.eq ?_
  refine wc_def (n := 2) (ar := 2) (c := c_4) rfl rfl ?_
  unfold c_4
  walk_at "iv"
  refine (WC_of (need_ok (ps := [p, q]) (k := k) ?_)).mpr ?_
  · intro r hr
    rcases List.mem_cons.mp hr with rfl | hr
    · exact hp
    · rcases List.mem_cons.mp hr with rfl | hr
      · exact hq
      · cases hr
  obtain ⟨a1, a2, a3, a4⟩ := bp
  obtain ⟨b1, b2, b3, b4⟩ := bq
  rw [frD, frD]
  refine (w_idxT at0).mpr ((w_idxT at1).mpr ?_)
  walk_at "iv"
  refine ⟨mulB_of (by omega) (by omega), (w_idxT at0).mpr ((w_idxT at1).mpr ?_)⟩
  walk_at "iv"
  exact mulB_of (by omega) (by omega)
def foldA (t : Int × Int) (ps : List (Int × Int)) : Int × Int := ps.foldl (fun t f => redP (rawA t f)) t
def foldM (t : Int × Int) (ps : List (Int × Int)) : Int × Int := ps.foldl (fun t f => redP (rawM t f)) t
theorem pow80 (B : Int) (n : Nat) : (2 * (B * 40)) * 80 ^ n = B * 80 ^ (n + 1) := by
  rw [Int.pow_succ, show (2 : Int) * (B * 40) = B * 80 by omega, Int.mul_assoc, Int.mul_comm 80]
theorem pow80_1 (n : Nat) : (1 : Int) ≤ 80 ^ n := Int.pow_pos (by decide)
theorem le_pow {B : Int} (hB : 0 ≤ B) (n : Nat) : B ≤ B * 80 ^ n := by
  have := Int.mul_le_mul_of_nonneg_left (pow80_1 n) hB
  omega
theorem pow_small : ∀ n : Nat, n < 7 → (1 : Int) * 80 ^ n ≤ 2 ^ 60 := by decide
theorem added_ok {k : Nat} {ps : List (Int × Int)} {S : List SO} (hF : ∀ p ∈ ps, isF p.1 p.2 = true) (hb : ∀ p ∈ ps, Bd 40 p) (hl : ps.length ≤ 6) : callN tab (k + 4) 5 (ps.map frD) S = some (frD (foldA (0, 1) ps), S) := by
  refine WC.eq ?_
  refine wc_star (n := 4) (ar := 0) (c := c_5) rfl (Nat.zero_le _) (by rw [List.length_map]; omega) ?_
  show WS _ _ (startE 4 [.tuple (ps.map frD)]) _ _
  unfold c_5
  walk_at "iv"
  rw [WC_of (need_ok hF)]
  have key : ∀ (ps : List (Int × Int)) (t : Int × Int) (B : Int) (a x y : Option D) (Q : Fl → En → List SO → Prop), (∀ p ∈ ps, Bd 40 p) → Bd B t → B * 80 ^ ps.length ≤ 2 ^ 60 → (∀ x y, Q .nx [a, some (frD (foldA t ps)), x, y] S) →
      WF (exc (callN tab (k + 3)) (.asg (.nm 1) (.call 3 (.cons (.prim addP (.cons (.prim mulP (.cons (.prim idxP (.cons (.loc 1) (.cons (cD (.int 0)) .nil))) (.cons (.loc 3) .nil))) (.cons (.prim mulP (.cons (.loc 2) (.cons (.prim idxP (.cons (.loc 1) (.cons (cD (.int 1)) .nil))) .nil))) .nil))) (.cons (.prim mulP (.cons (.prim idxP (.cons (.loc 1) (.cons (cD (.int 1)) .nil))) (.cons (.loc 3) .nil))) .nil))))) (.tp [2, 3]) (ps.map frD) [a, some (frD t), x, y] S Q := by
    intro ps
    induction ps with
    | nil =>
      intro t B a x y Q _ _ _ hQ
      walk_at "iv"
      exact hQ x y
    | cons p ps ih =>
      intro t B a x y Q hp ht hB hQ
      have hB0 : 0 ≤ B := by have := ht.2.2; omega
      have hp0 := hp p List.mem_cons_self
      have hB1 : B ≤ 2 ^ 60 := Int.le_trans (le_pow hB0 _) hB
      have hr := ht.rawA hp0
      obtain ⟨a1, a2, a3, a4⟩ := ht
      obtain ⟨b1, b2, b3, b4⟩ := hp0
      walk_at "iv"
      rw [frD, frD]
      walk_at "iv"
      refine (w_idxT at0).mpr ?_
      walk_at "iv"
      refine ⟨mulB_of (by omega) (by omega), (w_idxT at1).mpr ?_⟩
      walk_at "iv"
      refine ⟨mulB_of (by omega) (by omega), (w_idxT at1).mpr ?_⟩
      walk_at "iv"
      refine ⟨mulB_of (by omega) (by omega), ?_⟩
      have h1 : 1 ≤ t.2 * p.2 := hr.2.2.1
      have h2 : t.2 * p.2 ≤ 2 * (B * 40) := hr.2.2.2
      rw [WC_of (fraction_ok (k := k + 1) h1 (by omega))]
      refine ih (redP (rawA t p)) (2 * (B * 40)) a _ _ Q (fun q hq => hp q (List.mem_cons_of_mem _ hq)) hr.red ?_ hQ
      rw [pow80]
      exact hB
  refine key ps (0, 1) 1 _ _ _ _ hb ⟨by decide, by decide, by decide, by decide⟩ ?_ ?_
  · exact pow_small _ (by omega)
  · intro x y
    walk_at "iv"
theorem multiplied_ok {k : Nat} {ps : List (Int × Int)} {S : List SO} (hF : ∀ p ∈ ps, isF p.1 p.2 = true) (hb : ∀ p ∈ ps, Bd 40 p) (hl : ps.length ≤ 6) : callN tab (k + 4) 6 (ps.map frD) S = some (frD (foldM (1, 1) ps), S) := by
  refine WC.eq ?_
  refine wc_star (n := 4) (ar := 0) (c := c_6) rfl (Nat.zero_le _) (by rw [List.length_map]; omega) ?_
  show WS _ _ (startE 4 [.tuple (ps.map frD)]) _ _
  unfold c_6
  walk_at "iv"
  rw [WC_of (need_ok hF)]
  have key : ∀ (ps : List (Int × Int)) (t : Int × Int) (B : Int) (a x y : Option D) (Q : Fl → En → List SO → Prop), (∀ p ∈ ps, Bd 40 p) → Bd B t → B * 80 ^ ps.length ≤ 2 ^ 60 → (∀ x y, Q .nx [a, some (frD (foldM t ps)), x, y] S) →
      WF (exc (callN tab (k + 3)) (.asg (.nm 1) (.call 3 (.cons (.prim mulP (.cons (.prim idxP (.cons (.loc 1) (.cons (cD (.int 0)) .nil))) (.cons (.loc 2) .nil))) (.cons (.prim mulP (.cons (.prim idxP (.cons (.loc 1) (.cons (cD (.int 1)) .nil))) (.cons (.loc 3) .nil))) .nil))))) (.tp [2, 3]) (ps.map frD) [a, some (frD t), x, y] S Q := by
    intro ps
    induction ps with
    | nil =>
      intro t B a x y Q _ _ _ hQ
      walk_at "iv"
      exact hQ x y
    | cons p ps ih =>
      intro t B a x y Q hp ht hB hQ
      have hB0 : 0 ≤ B := by have := ht.2.2; omega
      have hp0 := hp p List.mem_cons_self
      have hB1 : B ≤ 2 ^ 60 := Int.le_trans (le_pow hB0 _) hB
      have hr := ht.rawM hp0
      obtain ⟨a1, a2, a3, a4⟩ := ht
      obtain ⟨b1, b2, b3, b4⟩ := hp0
      walk_at "iv"
      rw [frD, frD]
      walk_at "iv"
      refine (w_idxT at0).mpr ?_
      walk_at "iv"
      refine ⟨mulB_of (by omega) (by omega), (w_idxT at1).mpr ?_⟩
      walk_at "iv"
      refine ⟨mulB_of (by omega) (by omega), ?_⟩
      have h1 : 1 ≤ t.2 * p.2 := hr.2.2.1
      have h2 : t.2 * p.2 ≤ 2 * (B * 40) := hr.2.2.2
      rw [WC_of (fraction_ok (k := k + 1) h1 (by omega))]
      refine ih (redP (rawM t p)) (2 * (B * 40)) a _ _ Q (fun q hq => hp q (List.mem_cons_of_mem _ hq)) hr.red ?_ hQ
      rw [pow80]
      exact hB
  refine key ps (1, 1) 1 _ _ _ _ hb ⟨by decide, by decide, by decide, by decide⟩ ?_ ?_
  · exact pow_small _ (by omega)
  · intro x y
    walk_at "iv"
theorem lowest_ok {k : Nat} {a b : Int} {S : List SO} (h : 1 ≤ b) (h2 : b < 1000000) : callN tab (k + 1) 11 [.int a, .int b] S = some (red a b, S) := by
  refine WC.eq ?_
  refine wc_def (n := 4) (ar := 2) (c := c_11) rfl rfl ?_
  unfold c_11
  walk_at "iv"
  refine ⟨_, _, rfl, ?_⟩
  have key : ∀ (m : Nat) (f : Nat) (x y : Int) (Q : Fl → En → List SO → Prop), 0 ≤ x → 0 ≤ y → y ≤ m → m < f → (∀ y', Q .nx [some (.int a), some (.int b), some (.int ((Nat.gcd x.natAbs y.natAbs : Nat) : Int)), y'] S) →
      WW (ev (callN tab k) (.prim gtP (.cons (.loc 3) (.cons (cD (.int 0)) .nil)))) (exc (callN tab k) (.par 2 3 (.cons (.loc 3) (.cons (.prim modP (.cons (.prim intP (.cons (.loc 2) .nil)) (.cons (.loc 3) .nil))) .nil)))) f [some (.int a), some (.int b), some (.int x), some (.int y)] S Q := by
    intro m
    induction m with
    | zero =>
      intro f x y Q hx hy hm hf hQ
      obtain ⟨f, rfl⟩ : ∃ g, f = g + 1 := ⟨f - 1, by omega⟩
      rw [WW_succ]
      walk_at "iv"
      refine ⟨fun hp => by omega, fun _ => ?_⟩
      have : y = 0 := by omega
      subst this
      have e := hQ (some (.int 0))
      rw [show (0 : Int).natAbs = 0 from rfl, Nat.gcd_zero_right, Int.natAbs_of_nonneg hx] at e
      exact e
    | succ m ih =>
      intro f x y Q hx hy hm hf hQ
      obtain ⟨f, rfl⟩ : ∃ g, f = g + 1 := ⟨f - 1, by omega⟩
      rw [WW_succ]
      walk_at "iv"
      refine ⟨fun hp => ?_, fun hp => ?_⟩
      · refine ⟨hp, _, _, rfl, ?_⟩
        have r1 := Int.emod_nonneg x (show y ≠ 0 by omega)
        have r2 := Int.emod_lt_of_pos x hp
        refine ih f y (x % y) Q hy r1 (by omega) (by omega) fun y' => ?_
        have e := hQ y'
        have g : Nat.gcd y.natAbs (x % y).natAbs = Nat.gcd x.natAbs y.natAbs := by
          obtain ⟨u, rfl⟩ := Int.eq_ofNat_of_zero_le hx
          obtain ⟨v, rfl⟩ := Int.eq_ofNat_of_zero_le hy
          show Nat.gcd v (u % v) = Nat.gcd u v
          rw [Nat.gcd_comm v, ← Nat.gcd_rec, Nat.gcd_comm]
        rw [g]
        exact e
      · have : y = 0 := by omega
        subst this
        have e := hQ (some (.int 0))
        rw [show (0 : Int).natAbs = 0 from rfl, Nat.gcd_zero_right, Int.natAbs_of_nonneg hx] at e
        exact e
  refine key b.toNat 1000000 _ b _ (by split <;> omega) (by omega) (by omega) (by omega) fun y' => ?_
  have e : ((Nat.gcd (if a < 0 then -a else a).natAbs b.natAbs : Nat) : Int) = gc a b := by
    unfold gc
    split
    · rw [Int.natAbs_neg]
    · rfl
  rw [e]
  have g := gc_pos (a := a) h
  have g2 := gc_le (a := a) h
  walk_at "iv"
  exact ⟨div_of g (by omega), div_of g (by omega), rfl⟩
theorem less_ok {k : Nat} {p q : Int × Int} {S : List SO} (bp : Bd (2 ^ 90) p) (bq : Bd (2 ^ 90) q) : callN tab (k + 1) 12 [frD p, frD q] S = some (.bool (decide (p.1 * q.2 < q.1 * p.2)), S) := by
  refine WC.eq ?_
  refine wc_def (n := 2) (ar := 2) (c := c_12) rfl rfl ?_
  unfold c_12
  obtain ⟨a1, a2, a3, a4⟩ := bp
  obtain ⟨b1, b2, b3, b4⟩ := bq
  rw [frD, frD]
  walk_at "iv"
  refine (w_idxT at0).mpr ((w_idxT at1).mpr ?_)
  walk_at "iv"
  refine ⟨mulB_of (by omega) (by omega), (w_idxT at0).mpr ((w_idxT at1).mpr ?_)⟩
  walk_at "iv"
  exact mulB_of (by omega) (by omega)
theorem ints_ok : ∀ ys : List D, (∀ y ∈ ys, ∃ i, y = .int i) → plains ys = true ∧ PyData.canLayAll0 ys = true ∧ PyData.depthAll ys = 0
  | [], _ => ⟨rfl, rfl, rfl⟩
  | y :: ys, h => by
    obtain ⟨i, rfl⟩ := h y List.mem_cons_self
    obtain ⟨a, b, c⟩ := ints_ok ys fun z hz => h z (List.mem_cons_of_mem _ hz)
    refine ⟨?_, ?_, ?_⟩
    · rw [plains, a]; rfl
    · rw [PyData.canLayAll0, b]; rfl
    · rw [PyData.depthAll, c]; rfl
theorem shaped_list {ys : List D} (h1 : PyData.canLayAll0 ys = true) (h2 : PyData.depthAll ys ≤ 60) : SeqAt.shaped (.list ys) = true := by
  unfold SeqAt.shaped
  rw [PyData.canLay0, h1, PyData.depth]
  exact decide_eq_true (by omega)
theorem eq_nil {ys : List D} {S : List SO} {Q : D → List SO → Prop} (h : ∀ y ∈ ys, ∃ i, y = .int i) : WP eqP [.list ys, .list []] S Q ↔ Q (.bool ys.isEmpty) S := WP_of (by
  obtain ⟨a, b, c⟩ := ints_ok ys h
  show (eqD _ _).map _ = _
  unfold eqD
  rw [if_neg (by show ¬ (false = true); decide), if_pos ⟨by rw [Iv.plain]; exact a, rfl, shaped_list b (by omega), rfl⟩]
  cases ys with
  | nil => rfl
  | cons y ys => rfl)
theorem isLowest_ok {k : Nat} {a b : Int} {S : List SO} (h : 1 ≤ b) (h2 : b ≤ 2 ^ 15) (ha : -(2 ^ 15) ≤ a ∧ a ≤ 2 ^ 15) : callN tab (k + 1) 13 [frD (a, b)] S = some (.bool (isF a b), S) := by
  refine WC.eq ?_
  refine wc_def (n := 5) (ar := 1) (c := c_13) rfl rfl ?_
  unfold c_13
  rw [frD]
  walk_at "iv"
  refine (w_idxT at0).mpr ?_
  walk_at "iv"
  refine (w_idxT at1).mpr ?_
  walk_at "iv"
  have habs : 0 ≤ (if a < 0 then -a else a) ∧ (if a < 0 then -a else a) ≤ 2 ^ 15 := by split <;> omega
  refine ⟨by omega, fun _ => ⟨?_, ?_⟩, fun z => absurd z (by omega)⟩
  · simp [upto]; omega
  refine ⟨_, _, WL_pure (fun x => match x with | .int y => decide (a % y = 0) && decide (b % y = 0) | _ => false) id ?_, ?_⟩
  · intro x hx
    unfold upto at hx
    obtain ⟨m, hm, rfl⟩ := List.mem_map.mp hx
    refine ⟨_, rfl, WE.eq ?_, fun _ => WE.eq ?_⟩
    · walk_at "iv"
      refine ⟨by omega, fun e => ⟨by omega, ?_⟩, fun e => ?_⟩
      · rw [decide_eq_true e]; simp
      · rw [decide_eq_false e]; rfl
    · walk_at "iv"
      rfl
  · rw [List.map_id]
    refine (eq_nil ?_).mpr ?_
    · intro y hy
      have hx := (List.mem_filter.mp hy).1
      unfold upto at hx
      obtain ⟨m, hm, rfl⟩ := List.mem_map.mp hx
      exact ⟨_, rfl⟩
    · refine OB_one.mpr ⟨?_, rfl⟩
      congr 1
      unfold isF
      rw [decide_eq_true h, Bool.true_and]
      have hb : (b.natAbs : Int) = b := Int.natAbs_of_nonneg (by omega)
      by_cases hg : ((Nat.gcd a.natAbs b.natAbs : Nat) : Int) = 1
      · rw [decide_eq_true hg, List.isEmpty_iff, List.filter_eq_nil_iff]
        intro x hx
        unfold upto at hx
        obtain ⟨m, hm, rfl⟩ := List.mem_map.mp hx
        intro e
        simp only [Bool.and_eq_true, decide_eq_true_eq] at e
        have d1 : (2 + (m : Int)) ∣ a := Int.dvd_of_emod_eq_zero e.1
        have d2 : (2 + (m : Int)) ∣ b := Int.dvd_of_emod_eq_zero e.2
        have d3 : (2 + m) ∣ Nat.gcd a.natAbs b.natAbs := Nat.dvd_gcd (by have := Int.natAbs_dvd_natAbs.mpr d1; simpa [show ((2 : Int) + m).natAbs = 2 + m by omega] using this) (by have := Int.natAbs_dvd_natAbs.mpr d2; simpa [show ((2 : Int) + m).natAbs = 2 + m by omega] using this)
        have hg' : Nat.gcd a.natAbs b.natAbs = 1 := by omega
        rw [hg'] at d3
        have := Nat.le_of_dvd (by decide) d3
        omega
      · rw [decide_eq_false hg]
        have gp := gc_pos (a := a) h
        have gl := gc_le (a := a) h
        have hmem : PyData.int (gc a b) ∈ (upto 2 ((if a < 0 then -a else a) + b + 1 - 2).toNat).filter (fun x => match x with | .int y => decide (a % y = 0) && decide (b % y = 0) | _ => false) := by
          refine List.mem_filter.mpr ⟨?_, ?_⟩
          · unfold upto
            refine List.mem_map.mpr ⟨(gc a b - 2).toNat, List.mem_range.mpr ?_, ?_⟩
            · have : gc a b ≠ 1 := hg
              omega
            · have : gc a b ≠ 1 := hg
              rw [Int.toNat_of_nonneg (by omega)]
              congr 1
              omega
          · simp only [Bool.and_eq_true, decide_eq_true_eq]
            exact ⟨Int.emod_eq_zero_of_dvd (gc_dvd1 a b), Int.emod_eq_zero_of_dvd (gc_dvd2 a b)⟩
        cases hl : (upto 2 ((if a < 0 then -a else a) + b + 1 - 2).toNat).filter (fun x => match x with | .int y => decide (a % y = 0) && decide (b % y = 0) | _ => false) with
        | nil => rw [hl] at hmem; cases hmem
        | cons y ys => rfl
theorem drawn_ok {k n i : Nat} {S : List SO} (h : Dc n S i) (hn : n ≤ 2 ^ 29) : WC (callN tab (k + 3)) 14 [rf i] S fun d S1 => ∃ p : Int × Int, d = frD p ∧ Bd 40 p ∧ Nx (n + 3) S i S1 := by
  refine wc_def (n := 2) (ar := 1) (c := c_14) rfl rfl ?_
  unfold c_14
  walk_at "iv"
  refine (oneOf_ok (k := k) (j := 10) (r := 9) rfl rfl h (by omega) (by decide) (by decide)).mono fun d S1 ⟨m, hm, nx⟩ => ?_
  obtain ⟨g, rfl, hg⟩ : ∃ g : Int, d = .int g ∧ (1 ≤ g ∧ g ≤ 40) := by
    match m, hm with
    | 0, hm => cases hm; exact ⟨5, rfl, by decide⟩
    | 1, hm => cases hm; exact ⟨13, rfl, by decide⟩
    | 2, hm => cases hm; exact ⟨40, rfl, by decide⟩
  walk_at "iv"
  refine ⟨mulB_of (by omega) (by omega), (roll_ok (k := k + 1) (j := 9) rfl nx.dc (by omega) (by omega) (by omega)).mono fun d S2 ⟨r, hd, hr, nx2⟩ => ?_⟩
  subst hd
  walk_at "iv"
  refine (roll_ok (k := k + 1) (j := 9) rfl nx2.dc (by omega) (by omega) (by omega)).mono fun d S3 ⟨r2, hd, hr2, nx3⟩ => ?_
  subst hd
  walk_at "iv"
  exact ⟨(r - g, 1 + r2), rfl, ⟨by show -40 ≤ r - g; omega, by show r - g ≤ 40; omega, by show 1 ≤ 1 + r2; omega, by show 1 + r2 ≤ 40; omega⟩, (nx.trans nx2).trans nx3⟩
def rawFA (t : Int × Int) (ps : List (Int × Int)) : Int × Int := ps.foldl rawA t
def rawFM (t : Int × Int) (ps : List (Int × Int)) : Int × Int := ps.foldl rawM t
theorem foldA_eq : ∀ (ps : List (Int × Int)) (t : Int × Int), 1 ≤ t.2 → (∀ p ∈ ps, 1 ≤ p.2) → foldA (redP t) ps = redP (rawFA t ps)
  | [], t, _, _ => rfl
  | p :: ps, t, h, hp => by
    have h1 := hp p List.mem_cons_self
    show foldA (redP (rawA (redP t) p)) ps = redP (rawFA (rawA t p) ps)
    rw [redA h h1]
    exact foldA_eq ps (rawA t p) (Int.mul_pos h h1) fun q hq => hp q (List.mem_cons_of_mem _ hq)
theorem foldM_eq : ∀ (ps : List (Int × Int)) (t : Int × Int), 1 ≤ t.2 → (∀ p ∈ ps, 1 ≤ p.2) → foldM (redP t) ps = redP (rawFM t ps)
  | [], t, _, _ => rfl
  | p :: ps, t, h, hp => by
    have h1 := hp p List.mem_cons_self
    show foldM (redP (rawM (redP t) p)) ps = redP (rawFM (rawM t p) ps)
    rw [redM h h1]
    exact foldM_eq ps (rawM t p) (Int.mul_pos h h1) fun q hq => hp q (List.mem_cons_of_mem _ hq)
theorem rawFA_bd : ∀ (ps : List (Int × Int)) (t : Int × Int) (B : Int), Bd B t → (∀ p ∈ ps, Bd 40 p) → Bd (B * 80 ^ ps.length) (rawFA t ps)
  | [], t, B, h, _ => by rw [List.length_nil, Int.pow_zero, Int.mul_one]; exact h
  | p :: ps, t, B, h, hp => by
    have := rawFA_bd ps (rawA t p) _ (h.rawA (hp p List.mem_cons_self)) fun q hq => hp q (List.mem_cons_of_mem _ hq)
    rw [pow80] at this
    exact this
theorem rawFM_bd : ∀ (ps : List (Int × Int)) (t : Int × Int) (B : Int), Bd B t → (∀ p ∈ ps, Bd 40 p) → Bd (B * 80 ^ ps.length) (rawFM t ps)
  | [], t, B, h, _ => by rw [List.length_nil, Int.pow_zero, Int.mul_one]; exact h
  | p :: ps, t, B, h, hp => by
    have := rawFM_bd ps (rawM t p) _ (h.rawM (hp p List.mem_cons_self)) fun q hq => hp q (List.mem_cons_of_mem _ hq)
    rw [pow80] at this
    exact this
theorem small3 : ∀ n : Nat, n < 4 → (1 : Int) * 80 ^ n < 1000000 := by decide
theorem sums_ok {k : Nat} {ps : List (Int × Int)} {S : List SO} (hF : ∀ p ∈ ps, isF p.1 p.2 = true) (hb : ∀ p ∈ ps, Bd 40 p) (hl : ps.length ≤ 3) : callN tab (k + 5) 15 [.list (ps.map frD)] S = some (.bool true, S) := by
  refine WC.eq ?_
  refine wc_def (n := 5) (ar := 1) (c := c_15) rfl rfl ?_
  unfold c_15
  walk_at "iv"
  have key : ∀ (ps : List (Int × Int)) (t u : Int × Int) (B : Int) (a x y : Option D) (Q : Fl → En → List SO → Prop), (∀ p ∈ ps, Bd 40 p) → Bd B t → Bd B u → B * 80 ^ ps.length ≤ 2 ^ 60 → (∀ x, Q .nx [a, some (frD (rawFA t ps)), some (frD (rawFM u ps)), x, y] S) →
      WF (exc (callN tab (k + 4)) (.seq (.asg (.nm 1) (.prim tupP (.cons (.prim addP (.cons (.prim mulP (.cons (.prim idxP (.cons (.loc 1) (.cons (cD (.int 0)) .nil))) (.cons (.prim idxP (.cons (.loc 3) (.cons (cD (.int 1)) .nil))) .nil))) (.cons (.prim mulP (.cons (.prim idxP (.cons (.loc 3) (.cons (cD (.int 0)) .nil))) (.cons (.prim idxP (.cons (.loc 1) (.cons (cD (.int 1)) .nil))) .nil))) .nil))) (.cons (.prim mulP (.cons (.prim idxP (.cons (.loc 1) (.cons (cD (.int 1)) .nil))) (.cons (.prim idxP (.cons (.loc 3) (.cons (cD (.int 1)) .nil))) .nil))) .nil))))
    (.asg (.nm 2) (.prim tupP (.cons (.prim mulP (.cons (.prim idxP (.cons (.loc 2) (.cons (cD (.int 0)) .nil))) (.cons (.prim idxP (.cons (.loc 3) (.cons (cD (.int 0)) .nil))) .nil))) (.cons (.prim mulP (.cons (.prim idxP (.cons (.loc 2) (.cons (cD (.int 1)) .nil))) (.cons (.prim idxP (.cons (.loc 3) (.cons (cD (.int 1)) .nil))) .nil))) .nil)))))) (.nm 3) (ps.map frD) [a, some (frD t), some (frD u), x, y] S Q := by
    intro ps
    induction ps with
    | nil =>
      intro t u B a x y Q _ _ _ _ hQ
      walk_at "iv"
      exact hQ x
    | cons p ps ih =>
      intro t u B a x y Q hp ht hu hB hQ
      have hB0 : 0 ≤ B := by have := ht.2.2; omega
      have hp0 := hp p List.mem_cons_self
      have hB1 : B ≤ 2 ^ 60 := Int.le_trans (le_pow hB0 _) hB
      have hr := ht.rawA hp0
      have hs := hu.rawM hp0
      obtain ⟨a1, a2, a3, a4⟩ := ht
      obtain ⟨b1, b2, b3, b4⟩ := hp0
      obtain ⟨c1, c2, c3, c4⟩ := hu
      walk_at "iv"
      rw [frD, frD, frD]
      refine (w_idxT at0).mpr ((w_idxT at1).mpr ?_)
      walk_at "iv"
      refine ⟨mulB_of (by omega) (by omega), (w_idxT at0).mpr ((w_idxT at1).mpr ?_)⟩
      walk_at "iv"
      refine ⟨mulB_of (by omega) (by omega), (w_idxT at1).mpr ((w_idxT at1).mpr ?_)⟩
      walk_at "iv"
      refine ⟨mulB_of (by omega) (by omega), (w_idxT at0).mpr ((w_idxT at0).mpr ?_)⟩
      walk_at "iv"
      refine ⟨mulB_of (by omega) (by omega), (w_idxT at1).mpr ((w_idxT at1).mpr ?_)⟩
      walk_at "iv"
      refine ⟨mulB_of (by omega) (by omega), ?_⟩
      refine ih (rawA t p) (rawM u p) (2 * (B * 40)) a _ _ Q (fun q hq => hp q (List.mem_cons_of_mem _ hq)) hr hs ?_ hQ
      rw [pow80]
      exact hB
  have b0 : Bd 1 (0, 1) := ⟨by decide, by decide, by decide, by decide⟩
  have b1 : Bd 1 (1, 1) := ⟨by decide, by decide, by decide, by decide⟩
  refine key ps (0, 1) (1, 1) 1 _ _ _ _ hb b0 b1 (pow_small _ (by omega)) fun x => ?_
  have A := rawFA_bd ps _ _ b0 hb
  have M := rawFM_bd ps _ _ b1 hb
  have hd : ∀ p ∈ ps, 1 ≤ p.2 := fun p hp => (hb p hp).2.2.1
  have eA : foldA (0, 1) ps = redP (rawFA (0, 1) ps) := foldA_eq ps (0, 1) (by decide) hd
  have eM : foldM (1, 1) ps = redP (rawFM (1, 1) ps) := foldM_eq ps (1, 1) (by decide) hd
  have s3 := small3 ps.length (by omega)
  have LA : callN tab (k + 4) 11 [.int (rawFA (0, 1) ps).1, .int (rawFA (0, 1) ps).2] S = some (frD (foldA (0, 1) ps), S) := by
    rw [eA]
    exact lowest_ok (k := k + 3) A.2.2.1 (Int.lt_of_le_of_lt A.2.2.2 s3)
  have LM : callN tab (k + 4) 11 [.int (rawFM (1, 1) ps).1, .int (rawFM (1, 1) ps).2] S = some (frD (foldM (1, 1) ps), S) := by
    rw [eM]
    exact lowest_ok (k := k + 3) M.2.2.1 (Int.lt_of_le_of_lt M.2.2.2 s3)
  have aA : ∀ qs : List (Int × Int), (∀ p ∈ qs, p ∈ ps) → qs.length ≤ 3 → callN tab (k + 4) 5 (qs.map frD) S = some (frD (foldA (0, 1) qs), S) := fun qs h hl => added_ok (fun p hp => hF p (h p hp)) (fun p hp => hb p (h p hp)) (by omega)
  have aM : ∀ qs : List (Int × Int), (∀ p ∈ qs, p ∈ ps) → qs.length ≤ 3 → callN tab (k + 4) 6 (qs.map frD) S = some (frD (foldM (1, 1) qs), S) := fun qs h hl => multiplied_ok (fun p hp => hF p (h p hp)) (fun p hp => hb p (h p hp)) (by omega)
  have n5 := aA [] (fun _ z => nomatch z) (by decide)
  have n6 := aM [] (fun _ z => nomatch z) (by decide)
  have s5 := aA ps (fun _ h => h) hl
  have s6 := aM ps (fun _ h => h) hl
  rw [List.map_nil] at n5 n6
  have fin : ∀ (Q : D → List SO → Prop), Q (.bool true) S → WP idxP [frD (rawFA (0, 1) ps), .int 0] S fun d S2 => WP idxP [frD (rawFA (0, 1) ps), .int 1] S2 fun d1 S2 => WC (callN tab (k + 4)) 11 [d, d1] S2 fun d2 S2 =>
      WP idxP [frD (rawFM (1, 1) ps), .int 0] S2 fun d3 S2 => WP idxP [frD (rawFM (1, 1) ps), .int 1] S2 fun d4 S2 => WC (callN tab (k + 4)) 11 [d3, d4] S2 fun d5 S2 => WP eqP [.list [frD (foldA (0, 1) ps), frD (foldM (1, 1) ps)], .list [d2, d5]] S2 Q := by
    intro Q hQ
    refine (w_idxT at0).mpr ((w_idxT at1).mpr ?_)
    rw [WC_of LA]
    refine (w_idxT at0).mpr ((w_idxT at1).mpr ?_)
    rw [WC_of LM]
    exact (w_eqq rfl rfl).mpr hQ
  clear key aA aM LA LM eA eM A M s3
  rcases ps with _ | ⟨p, _ | ⟨q, _ | ⟨r, _ | ⟨z, zs⟩⟩⟩⟩
  · walk_at "iv"
    rw [WC_of n5, WC_of n6]
    exact fin _ ⟨rfl, rfl⟩
  · walk_at "iv"
    rw [WC_of n5, WC_of n6]
    refine (w_idxL at0).mpr ?_
    rw [List.map_cons, List.map_nil] at s5 s6
    rw [WC_of s5]
    refine (w_idxL at0).mpr ?_
    rw [WC_of s6]
    exact fin _ ⟨rfl, rfl⟩
  · walk_at "iv"
    rw [WC_of n5, WC_of n6]
    refine (w_idxL at0).mpr ((w_idxL at1).mpr ?_)
    rw [List.map_cons, List.map_cons, List.map_nil] at s5 s6
    rw [WC_of s5]
    refine (w_idxL at0).mpr ((w_idxL at1).mpr ?_)
    rw [WC_of s6]
    exact fin _ ⟨rfl, rfl⟩
  · walk_at "iv"
    rw [WC_of n5, WC_of n6]
    refine (w_idxL at0).mpr ((w_idxL at1).mpr ((w_idxL at2).mpr ?_))
    rw [List.map_cons, List.map_cons, List.map_cons, List.map_nil] at s5 s6
    rw [WC_of s5]
    refine (w_idxL at0).mpr ((w_idxL at1).mpr ((w_idxL at2).mpr ?_))
    rw [WC_of s6]
    exact fin _ ⟨rfl, rfl⟩
  · exact absurd hl (by simp only [List.length_cons]; omega)
end K01

set_option linter.all false
set_option maxRecDepth 100000
set_option maxHeartbeats 4000000
namespace K01
open Iv PySem
local macro_rules | `(tactic| walk_at "iv") => `(tactic| simp only [WE_nil, WE_cons, WE_loc, WE_prim, WE_itr, WE_call, WE_and, WE_or, WE_ife, WE_lc, WE_chn, WL_nil, WL_cons, WS_skip, WS_brk, WS_cnt, WS_retn, WS_abort, WS_seq, WS_asg, WS_par, WS_eff, WS_dex, WS_ite, WS_ret, WS_for, WS_whl, WF_nil, WF_cons, QN_nx, QN_brk, QN_cnt, QN_ret, QL_nx, QL_cnt, QL_brk, QL_ret, QR_ret, QR_nx, O1_one, OB_one, OE_some, OT_nm, OT_tp, wE_cD,
  w_add, w_addS, w_addL, w_addT, w_sub, w_mul, w_div, w_mod, w_pow, w_neg, w_not, w_eqI, w_neI, w_eqS, w_eqB, w_ltI, w_leI, w_gtI, w_geI, w_leS, w_isB, w_isN, w_tup, w_lst, w_new, w_abs, w_max, w_min, w_gcd, w_int, w_intB, w_truB, w_truL, w_truT, w_lenL, w_lenT, w_lenS, w_itAL, w_itAT, w_itAS, w_itR1, w_itR2, w_listR2, w_listL, w_listT, w_listS, w_mulL, w_dct0,
  startE, setAll, wipeE, List.map_cons, List.map_nil, List.length_cons, List.length_nil, List.reduceReplicate, List.nil_append, List.cons_append, List.getElem?_cons_zero, List.getElem?_cons_succ, List.set_cons_zero, List.set_cons_succ, Nat.reduceAdd, Nat.reduceSub, Nat.reduceLeDiff, true_and, and_true, Bool.not_true, Bool.not_false, Bool.true_eq_false, Bool.false_eq_true, false_implies, true_implies, forall_const, Int.cast_ofNat_Int, decide_true, decide_false, Int.reduceLT, Int.reduceLE, Int.reduceEq, Int.reduceAdd, Int.reduceNeg, Int.reduceMul, decide_eq_true_eq, decide_eq_false_iff_not])
theorem seq_mono {call : CallT} {a b : C} {η : En} {S : List SO} {Q : Fl → En → List SO → Prop} (P : En → List SO → Prop) (h1 : WS call a η S (QN Q P)) (h2 : ∀ η1 S1, P η1 S1 → WS call b η1 S1 Q) : WS call (.seq a b) η S Q := by
  refine WS_seq.mpr (h1.mono ?_)
  intro f e s h
  cases f with
  | nx => exact h2 e s h
  | _ => exact h
def Cs (call : CallT) (j : Nat) (S : List SO) : List D → List D → Prop
  | [], [] => True
  | x :: xs, y :: ys => call j [x] S = some (y, S) ∧ Cs call j S xs ys
  | _, _ => False
theorem WL_calls {call : CallT} {j v : Nat} {S : List SO} {Q : List D → List SO → Prop} : ∀ {xs ys : List D} {η : En}, v < η.length → Cs call j S xs ys → Q ys S → WL (ev call (cD (.bool true))) (ev call (.call j (.cons (.loc v) .nil))) (.nm v) η xs S Q := by
  intro xs
  induction xs generalizing Q with
  | nil =>
    intro ys η hv h hQ
    cases ys with
    | nil => exact WL_nil.mpr hQ
    | cons y ys => exact h.elim
  | cons x xs ih =>
    intro ys η hv h hQ
    cases ys with
    | nil => exact h.elim
    | cons y ys =>
      refine WL_cons.mpr (OT_nm.mpr (wE_cD.mpr (OB_one.mpr ⟨fun _ => ?_, fun z => nomatch z⟩)))
      refine WE_call.mpr (WE_cons.mpr (WE_loc.mpr ⟨x, List.getElem?_set_self hv, O1_one.mpr (WE_nil.mpr ?_)⟩))
      rw [WC_of h.1]
      exact O1_one.mpr (ih hv h.2 hQ)
theorem u3 : upto 0 (Int.toNat 3) = [.int 0, .int 1, .int 2] := rfl
theorem u4 : upto 0 (Int.toNat 4) = [.int 0, .int 1, .int 2, .int 3] := rfl
theorem frac_ok {k : Nat} {p : Int × Int} {S : List SO} (h : Bd (2 ^ 60) p) : callN tab (k + 2) 3 [.int p.1, .int p.2] S = some (frD (redP p), S) := fraction_ok h.2.2.1 (by have := h.2.2.2; omega)
theorem low_ok {k : Nat} {p : Int × Int} {S : List SO} (h : Bd 40 p) : callN tab (k + 1) 11 [.int p.1, .int p.2] S = some (frD (redP p), S) := lowest_ok h.2.2.1 (by have := h.2.2.2; omega)
theorem Bd.le {B C : Int} {p : Int × Int} (h : Bd B p) (hc : B ≤ C) : Bd C p := by
  obtain ⟨a, b, c, d⟩ := h
  exact ⟨by omega, by omega, c, by omega⟩
theorem isL_ok {k : Nat} {p : Int × Int} {S : List SO} (h : Bd 40 p) : callN tab (k + 1) 13 [frD p] S = some (.bool (isF p.1 p.2), S) := by
  obtain ⟨a, b, c, d⟩ := h
  exact isLowest_ok (a := p.1) (b := p.2) c (by omega) ⟨by omega, by omega⟩
theorem redP_isF {p : Int × Int} (h : Bd 40 p) : isF (redP p).1 (redP p).2 = true := isF_red h.2.2.1
theorem right_ok {k n i : Nat} {S : List SO} (h : Dc n S i) (hn : n ≤ 2 ^ 28) : WC (callN tab (k + 6)) 16 [rf i] S fun d S1 => d = .bool true ∧ Nx (n + 11) S i S1 := by
  refine wc_def (n := 11) (ar := 1) (c := c_16) rfl rfl ?_
  unfold c_16
  refine seq_mono (fun η1 S1 => ∃ p q r, η1 = [some (rf i), some (.list [frD p, frD q, frD r]), none, none, none, none, none, none, none, none, none] ∧ Bd 40 p ∧ Bd 40 q ∧ Bd 40 r ∧ Nx (n + 9) S i S1) ?_ ?_
  · walk_at "iv"
    rw [u3]
    refine ⟨⟨by decide, by decide⟩, by decide, ?_⟩
    walk_at "iv"
    refine (drawn_ok (k := k + 2) h (by omega)).mono fun d S1 ⟨p, hd, bp, n1⟩ => ?_
    subst hd
    refine (drawn_ok (k := k + 2) n1.dc (by omega)).mono fun d S1 ⟨q, hd, bq, n2⟩ => ?_
    subst hd
    refine (drawn_ok (k := k + 2) n2.dc (by omega)).mono fun d S1 ⟨r, hd, br, n3⟩ => ?_
    subst hd
    exact ⟨p, q, r, rfl, bp, bq, br, (n1.trans n2).trans n3⟩
  rintro η1 S1 ⟨p, q, r, rfl, bp, bq, br, n9⟩
  have cp := bp.red
  have cq := bq.red
  have cr := br.red
  have ip := redP_isF bp
  have iq := redP_isF bq
  have ir := redP_isF br
  refine seq_mono (fun η2 S2 => S2 = S1 ∧ η2 = [some (rf i), some (.list [frD p, frD q, frD r]), some (.list [frD (redP p), frD (redP q), frD (redP r)]), none, none, none, none, none, none, none, none]) ?_ ?_
  · walk_at "iv"
    unfold frD
    walk_at "iv"
    rw [WC_of (frac_ok (k := k + 3) (bp.le (by decide)))]
    rw [WC_of (frac_ok (k := k + 3) (bq.le (by decide)))]
    rw [WC_of (frac_ok (k := k + 3) (br.le (by decide)))]
    exact ⟨rfl, rfl⟩
  rintro _ S1 ⟨rfl, rfl⟩
  refine seq_mono (fun η2 S2 => S2 = S1 ∧ η2 = [some (rf i), some (.list [frD p, frD q, frD r]), some (.list [frD (redP p), frD (redP q), frD (redP r)]), none, none, none, none, none, none, none, none]) ?_ ?_
  · walk_at "iv"
    rw [show frD p = .tuple [.int p.1, .int p.2] from rfl, show frD q = .tuple [.int q.1, .int q.2] from rfl, show frD r = .tuple [.int r.1, .int r.2] from rfl]
    walk_at "iv"
    rw [WC_of (low_ok (k := k + 4) bp)]
    rw [WC_of (low_ok (k := k + 4) bq)]
    rw [WC_of (low_ok (k := k + 4) br)]
    refine (w_neq rfl rfl).mpr ?_
    walk_at "iv"
  rintro _ S1 ⟨rfl, rfl⟩
  refine seq_mono (fun η2 S2 => S2 = S1 ∧ η2 = [some (rf i), some (.list [frD p, frD q, frD r]), some (.list [frD (redP p), frD (redP q), frD (redP r)]), none, none, none, none, none, none, none, none]) ?_ ?_
  · walk_at "iv"
    rw [WC_of (isL_ok (k := k + 4) cp), ip]
    walk_at "iv"
    rw [WC_of (isL_ok (k := k + 4) cq), iq]
    walk_at "iv"
    rw [WC_of (isL_ok (k := k + 4) cr), ir]
    walk_at "iv"
    refine (w_neq rfl rfl).mpr ?_
    walk_at "iv"
  rintro _ S1 ⟨rfl, rfl⟩
  refine seq_mono (fun η2 S2 => S2 = S1 ∧ ∃ x y, η2 = [some (rf i), some (.list [frD p, frD q, frD r]), some (.list [frD (redP p), frD (redP q), frD (redP r)]), x, y, none, none, none, none, none, none]) ?_ ?_
  · have two : ∀ (p q : Int × Int) (X Y : List SO → Prop) , Bd 40 p → Bd 40 q → isF p.1 p.2 = true → isF q.1 q.2 = true → Y S1 → WC (callN tab (k + 5)) 4 [frD p, frD q] S1 fun d S2 => WC (callN tab (k + 5)) 12 [frD p, frD q] S2 fun d1 S2 => WP neP [d, d1] S2 fun d S2 => OB [d] fun k1 =>
        (k1 = false → WC (callN tab (k + 5)) 4 [frD p, frD q] S2 fun d S2 => WP truP [d] S2 fun d S2 => OB [d] fun k2 => (k2 = true → WC (callN tab (k + 5)) 4 [frD q, frD p] S2 fun d S2 => WP truP [d] S2 fun d S2 => OB [d] fun k3 => (k3 = true → X S2) ∧ (k3 = false → Y S2)) ∧ (k2 = false → Y S2)) ∧ (k1 = true → X S2) := by
      intro p q X Y bp bq ip iq hY
      rw [WC_of (lower_ok (k := k + 1) ip iq (bp.le (by decide)) (bq.le (by decide)))]
      rw [WC_of (less_ok (k := k + 4) (bp.le (by decide)) (bq.le (by decide)))]
      refine (w_neq rfl rfl).mpr ⟨false, rfl, fun _ => ?_, fun z => nomatch z⟩
      rw [WC_of (lower_ok (k := k + 1) ip iq (bp.le (by decide)) (bq.le (by decide)))]
      refine w_truB.mpr ⟨_, rfl, fun h1 => ?_, fun _ => hY⟩
      rw [WC_of (lower_ok (k := k + 1) iq ip (bq.le (by decide)) (bp.le (by decide)))]
      refine w_truB.mpr ⟨_, rfl, fun h2 => ?_, fun _ => hY⟩
      have h1 := of_decide_eq_true h1
      have h2 := of_decide_eq_true h2
      omega
    walk_at "iv"
    refine (w_idxL at0).mpr ((w_idxL at1).mpr ?_)
    refine (w_idxL at1).mpr ((w_idxL at2).mpr ?_)
    refine (w_idxL at2).mpr ((w_idxL at2).mpr ?_)
    refine two _ _ _ _ cp cq ip iq (two _ _ _ _ cq cr iq ir (two _ _ _ _ cr cr ir ir ⟨rfl, _, _, rfl⟩))
  rintro _ S1 ⟨rfl, x, y, rfl⟩
  refine seq_mono (fun η2 S2 => S2 = S1 ∧ η2 = [some (rf i), some (.list [frD p, frD q, frD r]), some (.list [frD (redP p), frD (redP q), frD (redP r)]), x, y, none, none, none, none, none, none]) ?_ ?_
  · walk_at "iv"
    rw [u4]
    refine ⟨⟨by decide, by decide⟩, by decide, ?_⟩
    walk_at "iv"
    have i3 : ∀ z ∈ [redP p, redP q, redP r], isF z.1 z.2 = true := by
      intro z hz
      simp only [List.mem_cons, List.not_mem_nil, or_false] at hz
      rcases hz with rfl | rfl | rfl <;> assumption
    have b3 : ∀ z ∈ [redP p, redP q, redP r], Bd 40 z := by
      intro z hz
      simp only [List.mem_cons, List.not_mem_nil, or_false] at hz
      rcases hz with rfl | rfl | rfl <;> assumption
    have sl : ∀ j : Nat, j < 4 → ∀ Q : D → List SO → Prop, Q (.list ((([redP p, redP q, redP r] : List (Int × Int)).take j).map frD)) S1 → WP slB [.list [frD (redP p), frD (redP q), frD (redP r)], .int j] S1 Q := by
      intro j hj Q hQ
      refine (WP_of ?_).mpr hQ
      match j, hj with
      | 0, _ => rfl
      | 1, _ => rfl
      | 2, _ => rfl
      | 3, _ => rfl
    have sm : ∀ j : Nat, callN tab (k + 5) 15 [.list ((([redP p, redP q, redP r] : List (Int × Int)).take j).map frD)] S1 = some (.bool true, S1) := fun j => sums_ok (k := k) (fun z hz => i3 z (List.mem_of_mem_take hz)) (fun z hz => b3 z (List.mem_of_mem_take hz)) (by rw [List.length_take]; exact Nat.min_le_right _ _)
    refine sl 0 (by decide) _ ?_
    rw [WC_of (sm 0)]
    walk_at "iv"
    refine sl 1 (by decide) _ ?_
    rw [WC_of (sm 1)]
    walk_at "iv"
    refine sl 2 (by decide) _ ?_
    rw [WC_of (sm 2)]
    walk_at "iv"
    refine sl 3 (by decide) _ ?_
    rw [WC_of (sm 3)]
    walk_at "iv"
    refine (w_neq rfl rfl).mpr ?_
    walk_at "iv"
  rintro _ S1 ⟨rfl, rfl⟩
  refine seq_mono (fun η2 S2 => Nx (n + 11) S i S2 ∧ ∃ m h : Int, (1 ≤ m ∧ m ≤ 6) ∧ (1 ≤ h ∧ h < 2 ^ 40) ∧ η2 = [some (rf i), some (.list [frD p, frD q, frD r]), some (.list [frD (redP p), frD (redP q), frD (redP r)]), x, y, some (.int m), some (.int h), none, none, none, none]) ?_ ?_
  · walk_at "iv"
    refine (roll_ok (k := k + 4) (j := 9) rfl n9.dc (by omega) (by omega) (by omega)).mono fun d S2 ⟨m, hd, hm, nx2⟩ => ?_
    subst hd
    walk_at "iv"
    refine ⟨by decide +kernel, ?_⟩
    refine (roll_ok (k := k + 4) (j := 9) rfl nx2.dc (by omega) (by omega) (by omega)).mono fun d S3 ⟨h, hd, hh, nx3⟩ => ?_
    subst hd
    walk_at "iv"
    refine ⟨_, _, rfl, (n9.trans nx2).trans nx3, _, _, ?_, ?_, rfl⟩
    · omega
    · have : (10 : Int) ^ Int.toNat 11 = 100000000000 := by decide +kernel
      rw [this]
      omega
  rintro _ S2 ⟨nn, m, h, hm, hh, rfl⟩
  obtain ⟨p1, p2, p3, p4⟩ := bp
  refine seq_mono (fun η2 S3 => S3 = S2 ∧ η2 = [some (rf i), some (.list [frD p, frD q, frD r]), some (.list [frD (redP p), frD (redP q), frD (redP r)]), x, y, some (.int m), some (.int h), none, none, none, none]) ?_ ?_
  · have e1 : callN tab (k + 5) 3 [.int (p.1 * m), .int (p.2 * m)] S2 = some (frD (redP p), S2) := by
      have b := mul_bd (x := p.2) (y := m) (X := 40) (Y := 6) ⟨by omega, p4⟩ ⟨by omega, hm.2⟩ (by decide) (by decide)
      have c : 0 < p.2 * m := Int.mul_pos (by omega) (by omega)
      rw [← redP_scale (x := p.1) (y := p.2) (g := m) (by omega) p3]
      exact frac_ok (k := k + 3) (p := (p.1 * m, p.2 * m)) ⟨by have := mul_bd (x := p.1) (y := m) (X := 40) (Y := 6) ⟨p1, p2⟩ ⟨by omega, hm.2⟩ (by decide) (by decide); show _ ≤ p.1 * m; omega, by have := mul_bd (x := p.1) (y := m) (X := 40) (Y := 6) ⟨p1, p2⟩ ⟨by omega, hm.2⟩ (by decide) (by decide); show p.1 * m ≤ _; omega, c, by show p.2 * m ≤ _; omega⟩
    have e2 : callN tab (k + 5) 3 [.int h, .int h] S2 = some (frD (1, 1), S2) := by
      have : redP (h, h) = (1, 1) := by
        have := redP_scale (x := 1) (y := 1) (g := h) (by omega) (by decide)
        rw [Int.one_mul] at this
        rw [this]
        decide
      rw [← this]
      exact fraction_ok (k := k + 3) hh.1 (by omega)
    walk_at "iv"
    refine (w_idxL at0).mpr ((w_idxT at0).mpr ?_)
    walk_at "iv"
    refine ⟨mulB_of (by omega) (by omega), (w_idxL at0).mpr ((w_idxT at1).mpr ?_)⟩
    walk_at "iv"
    refine ⟨mulB_of (by omega) (by omega), ?_⟩
    rw [WC_of e1]
    refine (w_idxL at0).mpr ((w_neq rfl rfl).mpr ?_)
    walk_at "iv"
    rw [WC_of e2]
    refine (w_neq rfl rfl).mpr ?_
    walk_at "iv"
  rintro _ S2 ⟨rfl, rfl⟩
  refine seq_mono (fun η2 S3 => S3 = S2 ∧ η2 = [some (rf i), some (.list [frD p, frD q, frD r]), some (.list [frD (redP p), frD (redP q), frD (redP r)]), x, y, some (.int m), some (.int h), some (.list [frD (redP p), frD p, .tuple [.int (redP p).1, .int 0], .tuple [.int (redP p).1, .int (-1)], .tuple [.int (redP p).1, .int (redP p).2, .int 1], .list [.int (redP p).1, .int (redP p).2], .tuple [.bool true, .int 2]]), none, none, none]) ?_ ?_
  · walk_at "iv"
    refine (w_idxL at0).mpr ((w_idxL at0).mpr ((w_idxL at0).mpr ((w_idxT at0).mpr ?_)))
    refine (w_idxL at0).mpr ((w_idxT at0).mpr ((w_idxL at0).mpr (w_addT.mpr ⟨⟨by show 2 + 1 ≤ 100000; decide, rfl⟩, (w_idxL at0).mpr (w_listT.mpr ⟨rfl, rfl⟩)⟩)))
  rintro _ S2 ⟨rfl, rfl⟩
  refine seq_mono (fun η2 S3 => S3 = S2 ∧ η2 = [some (rf i), some (.list [frD p, frD q, frD r]), some (.list [frD (redP p), frD (redP q), frD (redP r)]), x, y, some (.int m), some (.int h), some (.list [frD (redP p), frD p, .tuple [.int (redP p).1, .int 0], .tuple [.int (redP p).1, .int (-1)], .tuple [.int (redP p).1, .int (redP p).2, .int 1], .list [.int (redP p).1, .int (redP p).2], .tuple [.bool true, .int 2], .tuple [.int 1, .bool true], .none, .int 3]), none, none, none]) ?_ ?_
  · walk_at "iv"
  rintro _ S2 ⟨rfl, rfl⟩
  refine seq_mono (fun η2 S3 => S3 = S2 ∧ η2 = [some (rf i), some (.list [frD p, frD q, frD r]), some (.list [frD (redP p), frD (redP q), frD (redP r)]), x, y, some (.int m), some (.int h), some (.list [frD (redP p), frD p, .tuple [.int (redP p).1, .int 0], .tuple [.int (redP p).1, .int (-1)], .tuple [.int (redP p).1, .int (redP p).2, .int 1], .list [.int (redP p).1, .int (redP p).2], .tuple [.bool true, .int 2], .tuple [.int 1, .bool true], .none, .int 3]), some (.list [.bool true, .bool (isF p.1 p.2), .bool false, .bool false, .bool false, .bool false, .bool false, .bool false, .bool false, .bool false]), none, none]) ?_ ?_
  · walk_at "iv"
    refine (w_idxL at0).mpr ?_
    rw [WC_of (isL_ok (k := k + 4) ⟨p1, p2, p3, p4⟩)]
    exact ⟨⟨by decide, by decide, by decide⟩, by show 2 + 8 ≤ 100000; decide, rfl, rfl⟩
  rintro _ S2 ⟨rfl, rfl⟩
  refine WS_ret.mpr (WE_and.mpr (WE_prim.mpr (WE_cons.mpr (WE_lc.mpr (WE_itr.mpr (WE_cons.mpr (WE_loc.mpr (OE_some.mpr (O1_one.mpr (WE_nil.mpr (w_itAL.mpr ⟨by show 10 ≤ 100000; decide, ?_⟩)))))))))))
  refine WL_calls (v := 3) (by show 3 < 11; decide) (ys := [.bool true, .bool (isF p.1 p.2), .bool false, .bool false, .bool false, .bool false, .bool false, .bool false, .bool false, .bool false]) ?_ ?_
  · refine ⟨?_, isFr_int (k := k + 3), ?_, ?_, isFr_3 (k := k + 3), isFr_l (k := k + 3), isFr_bi (k := k + 3), isFr_ib (k := k + 3), isFr_n (k := k + 3), isFr_i (k := k + 3), trivial⟩
    · rw [← ip]
      exact isFr_int (k := k + 3)
    · exact isFr_int (k := k + 3)
    · exact isFr_int (k := k + 3)
  refine O1_one.mpr (WE_cons.mpr (WE_loc.mpr (OE_some.mpr (O1_one.mpr (WE_nil.mpr ((w_eqq rfl rfl).mpr (OB_one.mpr ⟨fun _ => ?_, fun z => nomatch z⟩)))))))
  have iz : callN tab (k + 5) 2 [.tuple [.int 0, .int 2]] S2 = some (.bool false, S2) := isFr_int (k := k + 3)
  generalize [some (rf i), _, _, _, _, _, _, _, _, _, _] = η
  walk_at "iv"
  rw [WC_of iz]
  walk_at "iv"
  exact nn
end K01

set_option linter.all false
set_option maxRecDepth 100000
set_option maxHeartbeats 4000000
namespace K01
open Iv PySem
local macro_rules | `(tactic| walk_at "iv") => `(tactic| simp only [WE_nil, WE_cons, WE_loc, WE_prim, WE_itr, WE_call, WE_and, WE_or, WE_ife, WE_lc, WE_chn, WL_nil, WL_cons, WS_skip, WS_brk, WS_cnt, WS_retn, WS_abort, WS_seq, WS_asg, WS_par, WS_eff, WS_dex, WS_ite, WS_ret, WS_for, WS_whl, WF_nil, WF_cons, QN_nx, QN_brk, QN_cnt, QN_ret, QL_nx, QL_cnt, QL_brk, QL_ret, QR_ret, QR_nx, O1_one, OB_one, OE_some, OT_nm, OT_tp, wE_cD,
  w_add, w_addS, w_addL, w_addT, w_sub, w_mul, w_div, w_mod, w_pow, w_neg, w_not, w_eqI, w_neI, w_eqS, w_eqB, w_ltI, w_leI, w_gtI, w_geI, w_leS, w_isB, w_isN, w_tup, w_lst, w_new, w_abs, w_max, w_min, w_gcd, w_int, w_intB, w_truB, w_truL, w_truT, w_lenL, w_lenT, w_lenS, w_itAL, w_itAT, w_itAS, w_itR1, w_itR2, w_listR2, w_listL, w_listT, w_listS, w_mulL, w_dct0,
  startE, setAll, wipeE, List.map_cons, List.map_nil, List.length_cons, List.length_nil, List.reduceReplicate, List.nil_append, List.cons_append, List.getElem?_cons_zero, List.getElem?_cons_succ, List.set_cons_zero, List.set_cons_succ, Nat.reduceAdd, Nat.reduceSub, Nat.reduceLeDiff, true_and, and_true, Bool.not_true, Bool.not_false, Bool.true_eq_false, Bool.false_eq_true, false_implies, true_implies, forall_const, Int.cast_ofNat_Int, decide_true, decide_false, Int.reduceLT, Int.reduceLE, Int.reduceEq, Int.reduceAdd, Int.reduceNeg, Int.reduceMul, decide_eq_true_eq, decide_eq_false_iff_not])
def az (c : Nat) : Bool := decide (97 ≤ c) && decide (c ≤ 122)
def isPl (x : PySem.Str) : Bool := decide (1 ≤ x.length) && (decide (x.length ≤ 8) && x.cps.toList.all az)
def azD : D → D
  | .str y => .bool (y.cps.toList.all az)
  | _ => .none
theorem cps_a : ("a" : PySem.Str).cps.toList = [97] := by decide +kernel
theorem cps_z : ("z" : PySem.Str).cps.toList = [122] := by decide +kernel
theorem one_lt (c d : Nat) : ([c] < [d]) ↔ c < d := by
  constructor
  · intro h
    cases h with
    | rel h => exact h
    | cons h => cases h
  · intro h
    exact .rel h
theorem bools_az : ∀ cs : List Nat, boolsD (((cs.map fun c => (⟨#[c]⟩ : PySem.Str)).map PyData.str).map azD) = some (cs.map az)
  | [] => rfl
  | c :: cs => by
    show (boolsD (((cs.map fun c => (⟨#[c]⟩ : PySem.Str)).map PyData.str).map azD)).map _ = _
    rw [bools_az cs]
    show some (([c].all az) :: _) = some (az c :: _)
    rw [List.all_cons, List.all_nil, Bool.and_true]
theorem place_ok {k : Nat} {x : PySem.Str} {S : List SO} (hx : x.length ≤ 100000) : callN tab (k + 1) 0 [.str x] S = some (.bool (isPl x), S) := by
  refine WC.eq ?_
  refine wc_def (n := 2) (ar := 1) (c := c_0) rfl rfl ?_
  unfold c_0
  walk_at "iv"
  refine (WP_of rfl).mpr ?_
  walk_at "iv"
  refine ⟨hx, fun h1 => ⟨fun h8 => ?_, fun h8 => ⟨?_, ?_⟩⟩, fun h1 => ?_⟩
  · unfold isPl
    have h8 : ¬ (x.length ≤ 8) := by
      intro z
      rw [decide_eq_true (by omega : (x.length : Int) ≤ 8)] at h8
      cases h8
    rw [decide_eq_false h8, Bool.false_and, Bool.and_false]
  · unfold signs
    rw [List.length_map, List.length_map]
    exact hx
  · have h8 : x.length ≤ 8 := by
      rcases Decidable.em ((x.length : Int) ≤ 8) with z | z
      · omega
      · rw [decide_eq_false z] at h8
        cases h8
    refine ⟨_, _, WL_pure (fun _ => true) azD ?_, ?_⟩
    · intro d hd
      obtain ⟨y, hy, rfl⟩ := List.mem_map.mp hd
      unfold signs at hy
      obtain ⟨c, _, rfl⟩ := List.mem_map.mp hy
      refine ⟨_, rfl, WE.eq ?_, fun _ => WE.eq ?_⟩
      · walk_at "iv"
      · walk_at "iv"
        rw [cps_a, cps_z]
        have e : azD (.str ⟨#[c]⟩) = .bool (az c) := by
          show PyData.bool ([c].all az) = _
          rw [List.all_cons, List.all_nil, Bool.and_true]
        rw [e]
        unfold az
        simp only [one_lt]
        refine ⟨fun h => ?_, fun h => ?_⟩
        · have h : 97 ≤ c := by simpa using h
          rw [decide_eq_true h, Bool.true_and]
          congr 2
          by_cases hc : c ≤ 122
          · rw [decide_eq_true hc, decide_eq_false (by omega)]
            rfl
          · rw [decide_eq_false hc, decide_eq_true (by omega)]
            rfl
        · have h : ¬ 97 ≤ c := by
            have : c < 97 := by simpa using h
            omega
          rw [decide_eq_false h, Bool.false_and]
    · rw [List.filter_eq_self.mpr (fun _ _ => rfl)]
      refine (WP_of (d := .bool (x.cps.toList.all az)) (S1 := S) ?_).mpr ⟨?_, rfl⟩
      · show (boolsD _).map _ = _
        unfold signs
        rw [bools_az]
        show some (PyData.bool ((x.cps.toList.map az).all id), S) = _
        rw [List.all_map]
        rfl
      · unfold isPl
        rw [decide_eq_true h8, decide_eq_true (by omega : 1 ≤ x.length), Bool.true_and, Bool.true_and]
  · unfold isPl
    rw [decide_eq_false (by omega : ¬ 1 ≤ x.length), Bool.false_and]
theorem word_join : ∀ cs : List Nat, Txt.join ("" : PySem.Str) (cs.map fun c => (⟨#[c]⟩ : PySem.Str)) = ⟨cs.toArray⟩ := by
  intro cs
  show PySem.Builtin.Str.glued _ _ = _
  rw [StrLaws.glued_eq_join]
  have e : ("" : PySem.Str) = ⟨#[]⟩ := by decide +kernel
  rw [e]
  induction cs with
  | nil => rfl
  | cons c cs ih =>
    cases cs with
    | nil => rfl
    | cons d cs =>
      show (⟨#[c]⟩ : PySem.Str) ++ (⟨#[]⟩ : PySem.Str) ++ PySem.Str.join ⟨#[]⟩ _ = _
      rw [ih]
      show (⟨#[c] ++ #[] ++ (d :: cs).toArray⟩ : PySem.Str) = _
      rw [Array.append_empty]
      congr 1
      simp
theorem pl_no {x y : PySem.Str} (h : y.cps.toList.all az = false) : isPl (x ++ y) = false := by
  unfold isPl
  have e : (x ++ y).cps.toList = x.cps.toList ++ y.cps.toList := Array.toList_append
  rw [e, List.all_append, h, Bool.and_false, Bool.and_false, Bool.and_false]
theorem pl_long {x : PySem.Str} (h : 8 < x.length) : isPl x = false := by
  unfold isPl
  rw [decide_eq_false (by omega : ¬ x.length ≤ 8), Bool.false_and, Bool.and_false]
theorem pl_short {x : PySem.Str} (h : x.length = 0) : isPl x = false := by
  unfold isPl
  rw [decide_eq_false (by omega : ¬ 1 ≤ x.length), Bool.false_and]
theorem abc_az : (("abcdefghijklmnopqrstuvwxyz" : PySem.Str).cps.toList.all az && decide (("abcdefghijklmnopqrstuvwxyz" : PySem.Str).cps.size = 26)) = true := by decide +kernel
def lettD (c : Nat) : D := .str ⟨#[c]⟩
theorem abc_mem {d : D} (h : d ∈ (signs ("abcdefghijklmnopqrstuvwxyz" : PySem.Str)).map PyData.str) : ∃ c, az c = true ∧ d = lettD c := by
  obtain ⟨y, hy, rfl⟩ := List.mem_map.mp h
  unfold signs at hy
  obtain ⟨c, hc, rfl⟩ := List.mem_map.mp hy
  have a := (Bool.and_eq_true _ _ ▸ abc_az).1
  exact ⟨c, List.all_eq_true.mp a c hc, rfl⟩
theorem abc_size : ("abcdefghijklmnopqrstuvwxyz" : PySem.Str).cps.size = 26 := of_decide_eq_true (Bool.and_eq_true _ _ ▸ abc_az).2
theorem abc_len : ((signs ("abcdefghijklmnopqrstuvwxyz" : PySem.Str)).map PyData.str).length = 26 := by
  rw [List.length_map]
  unfold signs
  rw [List.length_map, Array.length_toList, abc_size]
theorem letters_ok {k i : Nat} (Q : List D → List SO → Prop) : ∀ (xs : List D) {n : Nat} {S : List SO} {o : Option D}, Dc n S i → n + xs.length ≤ 2 ^ 29 → (∀ (cs : List Nat) (S1 : List SO), cs.length = xs.length → (∀ c ∈ cs, az c = true) → Nx (n + xs.length) S i S1 → Q (cs.map lettD) S1) →
    WL (ev (callN tab (k + 3)) (cD (.bool true))) (ev (callN tab (k + 3)) (.call 10 (.cons (.loc 0) (.cons (.prim listS (.cons (cD (.str ("abcdefghijklmnopqrstuvwxyz" : PySem.Str))) .nil)) .nil)))) (.nm 3) [some (rf i), none, none, o, none] xs S Q := by
  intro xs
  induction xs generalizing Q with
  | nil =>
    intro n S o h hn hQ
    exact WL_nil.mpr (hQ [] S rfl (fun _ z => nomatch z) ⟨h, fun _ _ => rfl, rfl⟩)
  | cons x xs ih =>
    intro n S o h hn hQ
    rw [List.length_cons] at hn
    walk_at "iv"
    rw [abc_size]
    refine ⟨by decide, ?_⟩
    refine (oneOf_ok (k := k + 1) (j := 10) (r := 9) rfl rfl h (by omega) (by rw [abc_len]; decide) (by rw [abc_len]; decide)).mono fun d S1 ⟨m, hm, nx⟩ => ?_
    obtain ⟨c, hc, rfl⟩ := abc_mem (List.mem_of_getElem? hm)
    refine ih _ nx.dc (by omega) fun cs S2 hl ha n2 => ?_
    refine hQ (c :: cs) S2 (by rw [List.length_cons, List.length_cons, hl]) ?_ ?_
    · intro e he
      rcases List.mem_cons.mp he with rfl | he
      · exact hc
      · exact ha e he
    · have := nx.trans n2
      rw [List.length_cons, show n + (xs.length + 1) = n + 1 + xs.length by omega]
      exact this
theorem pl_word {cs : List Nat} (ha : ∀ c ∈ cs, az c = true) (h1 : 1 ≤ cs.length) (h2 : cs.length ≤ 8) : isPl ⟨cs.toArray⟩ = true := by
  unfold isPl
  rw [decide_eq_true (show 1 ≤ (⟨cs.toArray⟩ : PySem.Str).length from h1), decide_eq_true (show (⟨cs.toArray⟩ : PySem.Str).length ≤ 8 from h2), Bool.true_and, Bool.true_and]
  exact List.all_eq_true.mpr ha
theorem strs_lett : ∀ cs : List Nat, strsD (cs.map lettD) = some (cs.map fun c => (⟨#[c]⟩ : PySem.Str))
  | [] => rfl
  | c :: cs => by
    show (strsD (cs.map lettD)).map _ = _
    rw [strs_lett cs]
    rfl
theorem sum_lett : ∀ cs : List Nat, ((cs.map fun c => (⟨#[c]⟩ : PySem.Str)).map (·.length)).sum = cs.length
  | [] => rfl
  | c :: cs => by
    rw [List.map_cons, List.map_cons, List.sum_cons, sum_lett cs, List.length_cons]
    exact Nat.add_comm _ _
theorem join_ok {cs : List Nat} {S : List SO} (h : cs.length ≤ 8) : joinP ("" : PySem.Str) [.list (cs.map lettD)] S = some (.str ⟨cs.toArray⟩, S) := by
  show (strsD _).bind _ = _
  rw [strs_lett]
  show (if _ then _ else _) = _
  rw [word_join, sum_lett, if_pos]
  have e : ("" : PySem.Str).length = 0 := by decide +kernel
  rw [e]
  omega
theorem sA : ("A" : PySem.Str).cps.toList.all az = false ∧ (" " : PySem.Str).cps.toList.all az = false ∧ ("1" : PySem.Str).cps.toList.all az = false ∧ ("" : PySem.Str).length = 0 ∧ ("qqqqqqqq" : PySem.Str).length = 8 ∧ ("A" : PySem.Str).length = 1 ∧ (" " : PySem.Str).length = 1 ∧ ("1" : PySem.Str).length = 1 := by decide +kernel
theorem str_len (x y : PySem.Str) : (x ++ y).length = x.length + y.length := Array.size_append
theorem upto_len : ∀ (n : Nat) (i : Int), (upto i n).length = n := by
  intro n i
  unfold upto
  rw [List.length_map, List.length_range]
theorem nop_t {k : Nat} {x : PySem.Str} {S : List SO} : callN tab (k + 1) 0 [.tuple [.str x]] S = some (.bool false, S) := rfl
theorem nop_l {k : Nat} {x : PySem.Str} {S : List SO} : callN tab (k + 1) 0 [.list [.str x]] S = some (.bool false, S) := rfl
theorem nop_n {k : Nat} {S : List SO} : callN tab (k + 1) 0 [.none] S = some (.bool false, S) := rfl
theorem nop_i {k : Nat} {i : Int} {S : List SO} : callN tab (k + 1) 0 [.int i] S = some (.bool false, S) := rfl
theorem nop_b {k : Nat} {i : Bool} {S : List SO} : callN tab (k + 1) 0 [.bool i] S = some (.bool false, S) := rfl
theorem nop_d {k : Nat} {S : List SO} : callN tab (k + 1) 0 [.dict []] S = some (.bool false, S) := rfl
theorem places_ok {k n i : Nat} {S : List SO} (h : Dc n S i) (hn : n ≤ 2 ^ 28) : WC (callN tab (k + 4)) 17 [rf i] S fun d S1 => d = .bool true ∧ Nx (n + 9) S i S1 := by
  refine wc_def (n := 5) (ar := 1) (c := c_17) rfl rfl ?_
  unfold c_17
  refine seq_mono (fun η1 S1 => ∃ cs : List Nat, (1 ≤ cs.length ∧ cs.length ≤ 8) ∧ (∀ c ∈ cs, az c = true) ∧ Nx (n + 9) S i S1 ∧ η1 = [some (rf i), some (.str ⟨cs.toArray⟩), none, none, none]) ?_ ?_
  · walk_at "iv"
    refine (roll_ok (k := k + 2) (j := 9) rfl h (by omega) (by omega) (by omega)).mono fun d S1 ⟨m, hd, hm, nx⟩ => ?_
    subst hd
    walk_at "iv"
    refine ⟨by omega, by rw [upto_len]; omega, ?_⟩
    refine letters_ok (k := k) _ _ nx.dc (by rw [upto_len]; omega) fun cs S2 hl ha n2 => ?_
    rw [upto_len] at hl n2
    refine (WP_of (join_ok (by omega))).mpr ?_
    have n3 := nx.trans n2
    refine ⟨cs, ?_, ha, ⟨?_, n3.oth, n3.len⟩, rfl⟩
    · omega
    · obtain ⟨l, m, c, e, a, b, c1, c2⟩ := n3.dc
      exact ⟨l, m, c, e, a, b, c1, by omega⟩
  rintro _ S1 ⟨cs, hl, ha, nx, rfl⟩
  obtain ⟨a1, a2, a3, a4, a5, a6, a7, a8⟩ := sA
  generalize hw : (⟨cs.toArray⟩ : PySem.Str) = w
  have wl : w.length = cs.length := by subst hw; rfl
  have wp : isPl w = true := by subst hw; exact pl_word ha hl.1 hl.2
  refine seq_mono (fun η1 S2 => S2 = S1 ∧ η1 = [some (rf i), some (.str w), some (.list [.str w, .str (w ++ ("qqqqqqqq" : PySem.Str)), .str (w ++ ("A" : PySem.Str)), .str ("" : PySem.Str), .str (w ++ (" " : PySem.Str)), .tuple [.str w], .none, .int 0, .bool true, .list [.str w], .dict [], .str (w ++ ("1" : PySem.Str))]), none, none]) ?_ ?_
  · walk_at "iv"
    rw [wl, a5, a6, a7, a8]
    omega
  rintro _ S1 ⟨rfl, rfl⟩
  refine WS_ret.mpr (WE_prim.mpr (WE_cons.mpr (WE_lc.mpr (WE_itr.mpr (WE_cons.mpr (WE_loc.mpr (OE_some.mpr (O1_one.mpr (WE_nil.mpr (w_itAL.mpr ⟨by show 12 ≤ 100000; decide, ?_⟩))))))))))
  refine WL_calls (v := 4) (by show 4 < 5; decide) (ys := [.bool true, .bool false, .bool false, .bool false, .bool false, .bool false, .bool false, .bool false, .bool false, .bool false, .bool false, .bool false]) ?_ ?_
  · have P : ∀ x : PySem.Str, x.length ≤ 100000 → ∀ b, isPl x = b → callN tab (k + 3) 0 [.str x] S1 = some (.bool b, S1) := by
      intro x hx b hb
      rw [← hb]
      exact place_ok (k := k + 2) hx
    refine ⟨P _ (by omega) _ wp, P _ ?_ _ (pl_long ?_), P _ ?_ _ (pl_no a1), P _ (by omega) _ (pl_short a4), P _ ?_ _ (pl_no a2), nop_t (k := k + 2), nop_n (k := k + 2), nop_i (k := k + 2), nop_b (k := k + 2), nop_l (k := k + 2), nop_d (k := k + 2), P _ ?_ _ (pl_no a3), trivial⟩
    all_goals rw [str_len]
    all_goals omega
  walk_at "iv"
  refine ⟨⟨by decide, by decide, by decide⟩, by show 1 + 11 ≤ 100000; decide, (w_eqq rfl rfl).mpr ⟨rfl, nx⟩⟩
end K01

set_option linter.all false
set_option maxRecDepth 100000
set_option maxHeartbeats 4000000
namespace K01
open Iv PySem
local macro_rules | `(tactic| walk_at "iv") => `(tactic| simp only [WE_nil, WE_cons, WE_loc, WE_prim, WE_itr, WE_call, WE_and, WE_or, WE_ife, WE_lc, WE_chn, WL_nil, WL_cons, WS_skip, WS_brk, WS_cnt, WS_retn, WS_abort, WS_seq, WS_asg, WS_par, WS_eff, WS_dex, WS_ite, WS_ret, WS_for, WS_whl, WF_nil, WF_cons, QN_nx, QN_brk, QN_cnt, QN_ret, QL_nx, QL_cnt, QL_brk, QL_ret, QR_ret, QR_nx, O1_one, OB_one, OE_some, OT_nm, OT_tp, wE_cD,
  w_add, w_addS, w_addL, w_addT, w_sub, w_mul, w_div, w_mod, w_pow, w_neg, w_not, w_eqI, w_neI, w_eqS, w_eqB, w_ltI, w_leI, w_gtI, w_geI, w_leS, w_isB, w_isN, w_tup, w_lst, w_new, w_abs, w_max, w_min, w_gcd, w_int, w_intB, w_truB, w_truL, w_truT, w_lenL, w_lenT, w_lenS, w_itAL, w_itAT, w_itAS, w_itR1, w_itR2, w_listR2, w_listL, w_listT, w_listS, w_mulL, w_dct0,
  startE, setAll, wipeE, List.map_cons, List.map_nil, List.length_cons, List.length_nil, List.reduceReplicate, List.nil_append, List.cons_append, List.getElem?_cons_zero, List.getElem?_cons_succ, List.set_cons_zero, List.set_cons_succ, Nat.reduceAdd, Nat.reduceSub, Nat.reduceLeDiff, true_and, and_true, Bool.not_true, Bool.not_false, Bool.true_eq_false, Bool.false_eq_true, false_implies, true_implies, forall_const, Int.cast_ofNat_Int, decide_true, decide_false, Int.reduceLT, Int.reduceLE, Int.reduceEq, Int.reduceAdd, Int.reduceNeg, Int.reduceMul, decide_eq_true_eq, decide_eq_false_iff_not])
theorem fr1 {S : List SO} {k : Nat} : callN tab (k + 4) 3 [.int 6, .int 4] S = some (frD (3, 2), S) := by
  have : redP (6, 4) = (3, 2) := by decide +kernel
  rw [← this]
  exact fraction_ok (k := k + 2) (by decide) (by decide)
theorem fr2 {S : List SO} {k : Nat} : callN tab (k + 4) 3 [.int (-2), .int 6] S = some (frD (-1, 3), S) := by
  have : redP (-2, 6) = (-1, 3) := by decide +kernel
  rw [← this]
  exact fraction_ok (k := k + 2) (by decide) (by decide)
theorem fr3 {S : List SO} {k : Nat} : callN tab (k + 4) 3 [.int 0, .int 7] S = some (frD (0, 1), S) := by
  have : redP (0, 7) = (0, 1) := by decide +kernel
  rw [← this]
  exact fraction_ok (k := k + 2) (by decide) (by decide)
theorem fr4 {S : List SO} {k : Nat} : callN tab (k + 4) 5 [frD (1, 2), frD (2, 3)] S = some (frD (7, 6), S) := by
  have : foldA (0, 1) [(1, 2), (2, 3)] = (7, 6) := by decide +kernel
  rw [← this]
  exact added_ok (ps := [(1, 2), (2, 3)]) (by decide +kernel) (by unfold Bd; decide +kernel) (by decide)
theorem fr5 {S : List SO} {k : Nat} : callN tab (k + 4) 6 [frD (1, 2), frD (2, 3)] S = some (frD (1, 3), S) := by
  have : foldM (1, 1) [(1, 2), (2, 3)] = (1, 3) := by decide +kernel
  rw [← this]
  exact multiplied_ok (ps := [(1, 2), (2, 3)]) (by decide +kernel) (by unfold Bd; decide +kernel) (by decide)
theorem whole_ok {ns : List Int} (hn : ns.length ≤ 63) : WC (callN tab 12) 18 [rf 0] [.fro (ns.map .int)] fun d S1 => d = .bool true := by
  refine wc_def (n := 4) (ar := 1) (c := c_18) rfl rfl ?_
  unfold c_18
  refine seq_mono (fun η1 S1 => ∃ x y, η1 = [some (rf 0), x, y, none]) ?_ ?_
  · refine WS_for.mpr ?_
    have key : ∀ (xs : List D) (S : List SO) (x y : Option D) (Q : Fl → En → List SO → Prop), (∀ d ∈ xs, ∃ a : Nat, d = .int a ∧ a < 64) → S[0]? = some (.fro (ns.map .int)) → (∀ x y S, Q .nx [some (rf 0), x, y, none] S) →
        WF (exc (callN tab 11) ((C.asg (T.nm 2) (E.call 8 ((E.loc 0).cons ((E.loc 1).cons E.nil)))).seq (C.ite ((E.prim notP ((E.prim truP ((E.call 16 ((E.loc 2).cons E.nil)).cons E.nil)).cons E.nil)).or (E.prim notP ((E.prim truP ((E.call 17 ((E.loc 2).cons E.nil)).cons E.nil)).cons E.nil))) (C.ret (cD (PyData.bool false))) C.skip))) (T.nm 1) xs [some (rf 0), x, y, none] S Q := by
      intro xs
      induction xs with
      | nil =>
        intro S x y Q _ _ hQ
        exact WF_nil.mpr (hQ x y S)
      | cons d xs ih =>
        intro S x y Q hx h0 hQ
        obtain ⟨a, rfl, ha⟩ := hx d List.mem_cons_self
        refine WF_cons.mpr (OT_nm.mpr (seq_mono (fun η1 S1 => ∃ x, η1 = [some (rf 0), x, some (rf S.length), none] ∧ Dc 0 S1 S.length ∧ S1[0]? = some (.fro (ns.map .int))) ?_ ?_))
        · walk_at "iv"
          refine (dice_ok (k := 10) (j := 8) rfl h0 ha).mono fun d S1 ⟨l, m, hd, hS, hl, hm⟩ => ?_
          subst hd hS
          refine ⟨_, rfl, ⟨l, m, 0, ?_, hl, hm, by decide, by decide⟩, ?_⟩
          · exact List.getElem?_concat_length
          · rw [List.getElem?_append_left (List.getElem?_eq_some_iff.mp h0).1]
            exact h0
        rintro _ S1 ⟨x, rfl, dc, z0⟩
        walk_at "iv"
        refine (right_ok (k := 5) dc (by decide)).mono fun d S2 ⟨hd, n1⟩ => ?_
        subst hd
        walk_at "iv"
        refine (places_ok (k := 7) n1.dc (by decide)).mono fun d S3 ⟨hd, n2⟩ => ?_
        subst hd
        walk_at "iv"
        have hne : (0 : Nat) ≠ S.length := by have := (List.getElem?_eq_some_iff.mp h0).1; omega
        have n3 := n1.trans n2
        refine ih _ _ _ Q (fun e he => hx e (List.mem_cons_of_mem _ he)) ?_ hQ
        rw [n3.oth 0 hne]
        exact z0
    walk_at "iv"
    refine (w_lenF (n := 0) rfl).mpr ?_
    walk_at "iv"
    refine ⟨?_, key _ _ _ _ _ ?_ rfl fun x y S => ⟨x, y, rfl⟩⟩
    · rw [List.length_map]
      split <;> split <;> omega
    · intro d hd
      unfold upto at hd
      obtain ⟨j, hj, rfl⟩ := List.mem_map.mp hd
      have hj := List.mem_range.mp hj
      refine ⟨j, by rw [Int.zero_add], ?_⟩
      rw [List.length_map] at hj
      revert hj
      split <;> split <;> omega
  rintro _ S1 ⟨x, y, rfl⟩
  walk_at "iv"
  rw [WC_of (fr1 (k := 7)), WC_of (fr2 (k := 7)), WC_of (fr3 (k := 7))]
  refine (WC_of (fr4 (k := 7))).mpr ?_
  refine (WC_of (fr5 (k := 7))).mpr ?_
  exact (w_eqq rfl rfl).mpr ⟨_, rfl, fun _ => trivial, fun z => nomatch z⟩
theorem M_ok : ∀ ns : List Int, ns.length ≤ 63 → ∃ S1, callN tab 12 18 [rf 0] [.fro (ns.map .int)] = some (.bool true, S1) := fun ns hn => by
  obtain ⟨d, S1, h, rfl⟩ := whole_ok hn
  exact ⟨S1, h⟩
end K01

set_option linter.all false
set_option maxRecDepth 100000
set_option maxHeartbeats 4000000
open PySem PySem.W PyProof.Rows
set_option maxRecDepth 100000 in
set_option maxHeartbeats 8000000 in
theorem PySem.Challenge.cw_downsets_k01_whole_fractions_in_lowest_t_holds : PySem.Challenge.rw_downsets_k01_whole_fractions_in_lowest_t.Holds := by
  w_on; o_law; k_head; (case hw => w_witness2)
  k_fill
  refine L2.walk_of (l := PySem.Challenge.rw_downsets_k01_whole_fractions_in_lowest_t) (n := 63) (k := 12) (x := "_law_script") (CX := fun _ => L2.CX0) (sp := fun w => Iv.spLaw _) rfl (by decide) rfl ⟨rfl, by decide, by decide⟩ (fun w h Y => PySem.W.kIn_of Y) ?F (fun _ _ a ns hl _ hS => ⟨a, ns, rfl, hS, hl, fun _ => rfl⟩) (fun _ _ _ _ _ h => h)
  case F =>
    intro w mg fa h KX G hmg
    refine' K01.all_mk KX G hmg ?a0 ?l0 ?c0 ?k0 ?a1 ?l1 ?c1 ?k1 ?a2 ?l2 ?c2 ?k2 ?a3 ?l3 ?c3 ?k3 ?a4 ?l4 ?c4 ?k4 ?a5 ?l5 ?c5 ?k5 ?a6 ?l6 ?c6 ?k6 ?a7 ?l7 ?c7 ?k7 ?a8 ?l8 ?c8 ?k8 ?a9 ?l9 ?c9 ?k9 ?a10 ?l10 ?c10 ?k10 ?a11 ?l11 ?c11 ?k11 ?a12 ?l12 ?c12 ?k12 ?a13 ?l13 ?c13 ?k13 ?a14 ?l14 ?c14 ?k14 ?a15 ?l15 ?c15 ?k15 ?a16 ?l16 ?c16 ?k16 ?a17 ?l17 ?c17 ?k17 ?a18 ?l18 ?c18 ?k18 ?z_abs ?z_all ?z_bool ?z_int ?z_isinstance ?z_len ?z_list ?z_max ?z_min ?z_range ?z_str ?z_tuple ?g_MAX_LETTERS ?i_gcd K01.M_ok
    (case a0 => k_is); (case l0 => k_is); (case c0 => k_is); (case k0 => k_is); (case a1 => k_is); (case l1 => k_is); (case c1 => k_is); (case k1 => k_is); (case a2 => k_is); (case l2 => k_is); (case c2 => k_is); (case k2 => k_is); (case a3 => k_is); (case l3 => k_is); (case c3 => k_is); (case k3 => k_is); (case a4 => k_is); (case l4 => k_is); (case c4 => k_is); (case k4 => k_is); (case a5 => k_is); (case l5 => k_is); (case c5 => k_is); (case k5 => k_is); (case a6 => k_is); (case l6 => k_is); (case c6 => k_is); (case k6 => k_is); (case a7 => k_is); (case l7 => k_is); (case c7 => k_is); (case k7 => k_is); (case a8 => k_is); (case l8 => k_is); (case c8 => k_is); (case k8 => k_is); (case a9 => k_is); (case l9 => k_is); (case c9 => k_is); (case k9 => k_is); (case a10 => k_is); (case l10 => k_is); (case c10 => k_is); (case k10 => k_is); (case a11 => k_is); (case l11 => k_is); (case c11 => k_is); (case k11 => k_is); (case a12 => k_is); (case l12 => k_is); (case c12 => k_is); (case k12 => k_is); (case a13 => k_is); (case l13 => k_is); (case c13 => k_is); (case k13 => k_is); (case a14 => k_is); (case l14 => k_is); (case c14 => k_is); (case k14 => k_is); (case a15 => k_is); (case l15 => k_is); (case c15 => k_is); (case k15 => k_is); (case a16 => k_is); (case l16 => k_is); (case c16 => k_is); (case k16 => k_is); (case a17 => k_is); (case l17 => k_is); (case c17 => k_is); (case k17 => k_is); (case a18 => k_is); (case l18 => k_is); (case c18 => k_is); (case k18 => k_is); (case z_abs => k_is); (case z_all => k_is); (case z_bool => k_is); (case z_int => k_is); (case z_isinstance => k_is); (case z_len => k_is); (case z_list => k_is); (case z_max => k_is); (case z_min => k_is); (case z_range => k_is); (case z_str => k_is); (case z_tuple => k_is); (case g_MAX_LETTERS => k_is); (case i_gcd => k_is)
