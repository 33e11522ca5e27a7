import PyProof.Rows.All
import HandS.ForMost
import HandS.Evl
import HandS.Wide
import HandS.Gcd
import HandS.IsInst
import HandS.Star
import HandS.Style
import HandS.ExcInit
import HandS.Conv
import PyProof.ListStr
import HandS.TupAny
import HandS.Property
import HandS.WideBits
import HandS.Strs
import PyProof.Rows.StrMeet
import PyProof.Rows.SortStr
import PyProof.Rows.SortShellK
import KE.KDictKeyed
import KE.KDictPairs
import KE.KExcInit
import KE.KExcIs
import HandS.ExcValue
import HandS.ExcField
import PyProof.Rows.FactsExc_KeyError
import PyProof.ExcBaseAll.ArithmeticError
import PyProof.ExcBaseAll.IndexError
import PyProof.ExcBaseAll.LookupError
import PyProof.ExcBaseAll.OverflowError
import PyProof.ExcBaseAll.RuntimeError
import PyProof.ExcBaseAll.ValueError
import PyProof.ReprRoads
import HandS.Dict
import PyProof.ReprNest
import PyProof.ReprReads
import PyProof.StrHeap
import PySem.Challenge.RW_downsets_k00_errors_and_what_they_keep
set_option Elab.async false
set_option linter.all false
set_option maxRecDepth 100000
set_option maxHeartbeats 2000000
namespace Iv
open PySem PySem.Spec PyProof.Rows L2
open Evl (Ex ex_l ex_t)

abbrev D := PyData
/-- the i-th thing of the store, as data -/
abbrev rf (i : Nat) : D := .dict [(.int (Int.ofNat i), .none)]
/-- a tuple whose object is known to have no dict of its own, as data -/
abbrev tw (ds : List D) : D := .dict [(.none, .tuple ds)]
inductive MO where
  | lst (xs : List D)
  | dct (t : Bool) (kvs : List (D × D))
  | ins (C : Addr) (fs : List (Str × D))
inductive SO where
  | obj (o : MO)
  | fro (xs : List D)
  | dead
abbrev SO.lst (xs : List D) : SO := .obj (.lst xs)
abbrev SO.dct (t : Bool) (kvs : List (D × D)) : SO := .obj (.dct t kvs)
abbrev SO.ins (C : Addr) (fs : List (Str × D)) : SO := .obj (.ins C fs)
structure Wd where
  F : Hp
  ρ : List Addr
  S : List SO
  R : Hp

mutual
inductive Den (K : PySem.W.Frag) (F : Hp) (ρ : List Addr) : V → D → Prop
  | non : Den K F ρ .non .none
  | bl (b : Bool) : Den K F ρ (.bl b) (.bool b)
  | int (i : Int) : Den K F ρ (.int i) (.int i)
  | str (x : Str) : Den K F ρ (.str x) (.str x)
  | lst {a : Addr} {xs : List V} {ds : List D} : F a = some (.lst xs) → DenA K F ρ xs ds → Den K F ρ (.ref a) (.list ds)
  | tup {a : Addr} {xs : List V} {ds : List D} : F a = some (.tup xs) → DenA K F ρ xs ds → Den K F ρ (.ref a) (.tuple ds)
  | ref {i : Nat} {a : Addr} : ρ[i]? = some a → Den K F ρ (.ref a) (.dict [(.int (Int.ofNat i), .none)])
  | dct {a : Addr} : F a = some (.dK []) → Den K F ρ (.ref a) (.dict [])
  | tws {a : Addr} {o : Obj} {xs : List V} {ds : List D} : F a = some (.frz o (.tup xs)) → o.dict = none → DenA K F ρ xs ds → Den K F ρ (.ref a) (.dict [(.none, .tuple ds)])
  | exb {a C : Addr} {nm : Str} : PySem.W.nsIn K mainGlobals nm = some (some (.ref C)) → F a = some (exo a C none) → Den K F ρ (.ref a) (.dict [(.bool true, .str nm)])
  | exn {a C d : Addr} {nm f : Str} {v : V} {dv : D} : PySem.W.nsIn K mainGlobals nm = some (some (.ref C)) → F a = some (exo a C (some d)) → F d = some (exd d [(f, v)]) → Den K F ρ v dv → Den K F ρ (.ref a) (.dict [(.bool true, .str nm), (.str f, dv)])
  | dc1 {a : Addr} {k : Str} {v : V} {dv : D} : F a = some (.dK [(.inr k, v)]) → Den K F ρ v dv → Den K F ρ (.ref a) (.dict [(.bool false, .none), (.str k, dv)])
inductive DenA (K : PySem.W.Frag) (F : Hp) (ρ : List Addr) : List V → List D → Prop
  | nil : DenA K F ρ [] []
  | cons {v : V} {vs : List V} {d : D} {ds : List D} : Den K F ρ v d → DenA K F ρ vs ds → DenA K F ρ (v :: vs) (d :: ds)
end

section
variable {K : PySem.W.Frag} {F F' : Hp} {ρ ρ' : List Addr}
theorem get_pre {t : List Addr} {i : Nat} {a : Addr} (h : ρ[i]? = some a) : (ρ ++ t)[i]? = some a := by
  obtain ⟨hi, e⟩ := List.getElem?_eq_some_iff.mp h
  rw [List.getElem?_append_left hi, h]
mutual
theorem Den.mono {t : List Addr} (e : Ex F F') : ∀ {v : V} {d : D}, Den K F ρ v d → Den K F' (ρ ++ t) v d
  | _, _, .non => .non
  | _, _, .bl b => .bl b
  | _, _, .int i => .int i
  | _, _, .str x => .str x
  | _, _, .lst h r => .lst (e _ _ h) (DenA.mono e r)
  | _, _, .tup h r => .tup (e _ _ h) (DenA.mono e r)
  | _, _, .ref h => .ref (get_pre h)
  | _, _, .dct h => .dct (e _ _ h)
  | _, _, .tws h q r => .tws (e _ _ h) q (DenA.mono e r)
  | _, _, .exb g h => .exb g (e _ _ h)
  | _, _, .exn g h h2 r => .exn g (e _ _ h) (e _ _ h2) (Den.mono e r)
  | _, _, .dc1 h r => .dc1 (e _ _ h) (Den.mono e r)
theorem DenA.mono {t : List Addr} (e : Ex F F') : ∀ {vs : List V} {ds : List D}, DenA K F ρ vs ds → DenA K F' (ρ ++ t) vs ds
  | _, _, .nil => .nil
  | _, _, .cons h r => .cons (Den.mono e h) (DenA.mono e r)
end
theorem DenA.length : ∀ {vs : List V} {ds : List D}, DenA K F ρ vs ds → vs.length = ds.length
  | _, _, .nil => rfl
  | _, _, .cons _ r => by rw [List.length_cons, List.length_cons, DenA.length r]
theorem DenA.get : ∀ {vs : List V} {ds : List D} {i : Nat} {d : D}, DenA K F ρ vs ds → ds[i]? = some d → ∃ v, vs[i]? = some v ∧ Den K F ρ v d
  | _, _, _, _, .nil, h => by simp at h
  | _, _, 0, _, .cons h _, e => by simp at e; subst e; exact ⟨_, rfl, h⟩
  | _, _, i + 1, _, .cons _ r, e => DenA.get (i := i) r e
theorem DenA.append : ∀ {vs : List V} {ds : List D} {ws : List V} {es : List D}, DenA K F ρ vs ds → DenA K F ρ ws es → DenA K F ρ (vs ++ ws) (ds ++ es)
  | _, _, _, _, .nil, s => s
  | _, _, _, _, .cons h r, s => .cons h (DenA.append r s)
theorem DenA.set {v : V} {d : D} (h : Den K F ρ v d) : ∀ {vs : List V} {ds : List D} (i : Nat), DenA K F ρ vs ds → DenA K F ρ (vs.set i v) (ds.set i d)
  | _, _, _, .nil => .nil
  | _, _, 0, .cons _ r => .cons h r
  | _, _, i + 1, .cons q r => .cons q (DenA.set h i r)
theorem DenA.take : ∀ {vs : List V} {ds : List D} (n : Nat), DenA K F ρ vs ds → DenA K F ρ (vs.take n) (ds.take n)
  | _, _, 0, _ => .nil
  | _, _, _ + 1, .nil => .nil
  | _, _, n + 1, .cons h r => .cons h (DenA.take n r)
theorem DenA.drop : ∀ {vs : List V} {ds : List D} (n : Nat), DenA K F ρ vs ds → DenA K F ρ (vs.drop n) (ds.drop n)
  | _, _, 0, r => r
  | _, _, _ + 1, .nil => .nil
  | _, _, n + 1, .cons _ r => DenA.drop n r
theorem DenA.replicate {v : V} {d : D} (h : Den K F ρ v d) : ∀ n : Nat, DenA K F ρ (List.replicate n v) (List.replicate n d)
  | 0 => .nil
  | n + 1 => .cons h (DenA.replicate h n)
mutual
def plain : D → Bool
  | .dict _ => false
  | .list ds => plains ds
  | .tuple ds => plains ds
  | _ => true
def plains : List D → Bool
  | [] => true
  | d :: ds => plain d && plains ds
end
mutual
def er : D → D
  | .list ds => .list (ers ds)
  | .tuple ds => .tuple (ers ds)
  | .dict [(.none, .tuple ds)] => .tuple (ers ds)
  | d => d
def ers : List D → List D
  | [] => []
  | d :: ds => er d :: ers ds
end
mutual
theorem Den.dp {H : Hp} (e : Ex F H) : ∀ {v : V} {d : D}, Den K F ρ v d → plain d = true → Dp K H v d
  | _, _, .non, _ => .non
  | _, _, .bl b, _ => .bl b
  | _, _, .int i, _ => .int i
  | _, _, .str x, _ => .str x
  | _, _, .lst h r, p => .lst (SqL.of (e _ _ h)) (DenA.dp e r (by simpa [plain] using p))
  | _, _, .tup h r, p => .tup (SqT.of (e _ _ h)) (DenA.dp e r (by simpa [plain] using p))
  | _, _, .ref _, p => by simp [plain] at p
  | _, _, .dct _, p => by simp [plain] at p
  | _, _, .tws _ _ _, p => by simp [plain] at p
  | _, _, .exb _ _, p => by simp [plain] at p
  | _, _, .exn _ _ _ _, p => by simp [plain] at p
  | _, _, .dc1 _ _, p => by simp [plain] at p
theorem DenA.dp {H : Hp} (e : Ex F H) : ∀ {vs : List V} {ds : List D}, DenA K F ρ vs ds → plains ds = true → DpAll K H vs ds
  | _, _, .nil, _ => .nil
  | _, _, .cons h r, p => by
    simp only [plains, Bool.and_eq_true] at p
    exact .cons (Den.dp e h p.1) (DenA.dp e r p.2)
end
end

mutual
theorem Den.der {K : PySem.W.Frag} {F : Hp} {ρ : List Addr} {H : Hp} (e : Ex F H) : ∀ {v : V} {d : D}, Den K F ρ v d → plain (er d) = true → Dp K H v (er d)
  | _, _, .non, _ => show Dp K H .non .none from .non
  | _, _, .bl b, _ => show Dp K H (.bl b) (.bool b) from .bl b
  | _, _, .int i, _ => show Dp K H (.int i) (.int i) from .int i
  | _, _, .str x, _ => show Dp K H (.str x) (.str x) from .str x
  | _, _, .lst (a := a) (ds := ds) h r, p => show Dp K H (.ref a) (.list (ers ds)) from .lst (SqL.of (e _ _ h)) (DenA.der e r (by have p : plain (.list (ers ds)) = true := p; simpa [plain] using p))
  | _, _, .tup (a := a) (ds := ds) h r, p => show Dp K H (.ref a) (.tuple (ers ds)) from .tup (SqT.of (e _ _ h)) (DenA.der e r (by have p : plain (.tuple (ers ds)) = true := p; simpa [plain] using p))
  | _, _, .tws (a := a) (ds := ds) (o := o) h q r, p => show Dp K H (.ref a) (.tuple (ers ds)) from .tup (.inl (.inr ⟨o, e _ _ h⟩)) (DenA.der e r (by have p : plain (.tuple (ers ds)) = true := p; simpa [plain] using p))
  | _, _, .ref (i := i) _, p => by
    have p : plain (.dict [(.int (Int.ofNat i), .none)]) = true := p
    simp [plain] at p
  | _, _, .dct _, p => by
    have p : plain (.dict []) = true := p
    simp [plain] at p
  | _, _, .exb (nm := nm) _ _, p => by
    have p : plain (.dict [(.bool true, .str nm)]) = true := p
    simp [plain] at p
  | _, _, .exn (nm := nm) (f := f) (dv := dv) _ _ _ _, p => by
    have p : plain (.dict [(.bool true, .str nm), (.str f, dv)]) = true := p
    simp [plain] at p
  | _, _, .dc1 (k := k) (dv := dv) _ _, p => by
    have p : plain (.dict [(.bool false, .none), (.str k, dv)]) = true := p
    simp [plain] at p
theorem DenA.der {K : PySem.W.Frag} {F : Hp} {ρ : List Addr} {H : Hp} (e : Ex F H) : ∀ {vs : List V} {ds : List D}, DenA K F ρ vs ds → plains (ers ds) = true → DpAll K H vs (ers ds)
  | _, _, .nil, _ => show DpAll K H [] [] from .nil
  | _, _, .cons (v := v) (vs := vs) (d := d) (ds := ds) h r, p => by
    have p : (plain (er d) && plains (ers ds)) = true := p
    rw [Bool.and_eq_true] at p
    show DpAll K H (v :: vs) (er d :: ers ds)
    exact .cons (Den.der e h p.1) (DenA.der e r p.2)
end
def keyD : Key → D
  | .inl i => .int i
  | .inr x => .str x
/-- what stands at the address of a thing of the store -/
inductive DenM (K : PySem.W.Frag) (F : Hp) (ρ : List Addr) (R H : Hp) (a : Addr) : HO → MO → Prop
  | lst {xs : List V} {ds : List D} : DenA K F ρ xs ds → DenM K F ρ R H a (.lst xs) (.lst ds)
  | dK {kv : List (Key × V)} {kvs : List (D × D)} : kvs.map Prod.fst = kv.map (fun p => keyD p.1) → DenA K F ρ (kv.map Prod.snd) (kvs.map Prod.snd) → DenM K F ρ R H a (.dK kv) (.dct false kvs)
  | dT {kv : List (List Key × V)} {kvs : List (D × D)} : kvs.map Prod.fst = kv.map (fun p => .tuple (p.1.map keyD)) → DenA K F ρ (kv.map Prod.snd) (kvs.map Prod.snd) → DenM K F ρ R H a (.dT kv) (.dct true kvs)
  | ins {C dx : Addr} {vs : List (Str × V)} {fs : List (Str × D)} : fs.map Prod.fst = vs.map Prod.fst → DenA K F ρ (vs.map Prod.snd) (fs.map Prod.snd) → H dx = some (.own a) → F dx = none → R dx = none → DenM K F ρ R H a (.ins C dx vs) (.ins C fs)
theorem DenM.keep {K : PySem.W.Frag} {F F' R R' H H' : Hp} {ρ t : List Addr} {a : Addr} {ho : HO} {o : MO} (e : Ex F F')
    (k : ∀ dx, H dx = some (.own a) → F dx = none → R dx = none → H' dx = some (.own a) ∧ F' dx = none ∧ R' dx = none) (h : DenM K F ρ R H a ho o) : DenM K F' (ρ ++ t) R' H' a ho o := by
  cases h with
  | lst r => exact .lst (r.mono e)
  | dK q r => exact .dK q (r.mono e)
  | dT q r => exact .dT q (r.mono e)
  | ins q r h1 h2 h3 =>
    obtain ⟨g1, g2, g3⟩ := k _ h1 h2 h3
    exact .ins q (r.mono e) g1 g2 g3
theorem DenM.keep0 {K : PySem.W.Frag} {F R R' H H' : Hp} {ρ : List Addr} {a : Addr} {ho : HO} {o : MO}
    (k : ∀ dx, H dx = some (.own a) → F dx = none → R dx = none → H' dx = some (.own a) ∧ R' dx = none) (h : DenM K F ρ R H a ho o) : DenM K F ρ R' H' a ho o := by
  have := h.keep (t := []) (F' := F) (R' := R') (H' := H') (Ex.refl _) fun dx h1 h2 h3 => ⟨(k dx h1 h2 h3).1, h2, (k dx h1 h2 h3).2⟩
  rw [List.append_nil] at this
  exact this
theorem DenM.nown {K : PySem.W.Frag} {F R H : Hp} {ρ : List Addr} {a x : Addr} {ho : HO} {o : MO} (h : DenM K F ρ R H a ho o) : ho ≠ .own x := by
  cases h <;> exact fun z => nomatch z
structure Wok (K : PySem.W.Frag) (W : Wd) (H : Hp) : Prop where
  ex : Ex W.F H
  len : W.ρ.length = W.S.length
  rex : Ex W.R H
  rdis : ∀ a o, W.R a = some o → W.F a = none
  obj : ∀ (i : Nat) (o : MO), W.S[i]? = some (SO.obj o) → ∃ a ho, W.ρ[i]? = some a ∧ (W.F a = none ∧ W.R a = none) ∧ H a = some ho ∧ DenM K W.F W.ρ W.R H a ho o
  fro : ∀ (i : Nat) (ds : List D), W.S[i]? = some (SO.fro ds) → ∃ a xs, W.ρ[i]? = some a ∧ SqL K W.F a xs ∧ DenA K W.F W.ρ xs ds
  inj : ∀ (i j : Nat) (o o' : MO) (a : Addr), W.S[i]? = some (SO.obj o) → W.S[j]? = some (SO.obj o') → W.ρ[i]? = some a → W.ρ[j]? = some a → i = j
  rl : ∀ a o, W.R a = some o → ∃ xs, o = .lst xs
theorem Wok.lst {K : PySem.W.Frag} {W : Wd} {H : Hp} (h : Wok K W H) (i : Nat) (ds : List D) (e : W.S[i]? = some (SO.lst ds)) : ∃ a xs, W.ρ[i]? = some a ∧ (W.F a = none ∧ W.R a = none) ∧ H a = some (.lst xs) ∧ DenA K W.F W.ρ xs ds := by
  obtain ⟨a, ho, h1, h2, h3, h4⟩ := h.obj i _ e
  cases h4 with
  | lst r => exact ⟨a, _, h1, h2, h3, r⟩
structure Le0 (W W' : Wd) : Prop where
  ex : Ex W.F W'.F
  pre : ∃ t, W'.ρ = W.ρ ++ t
theorem Le0.trans {A B C : Wd} (a : Le0 A B) (b : Le0 B C) : Le0 A C := by
  obtain ⟨t, h1⟩ := a.pre
  obtain ⟨u, h2⟩ := b.pre
  exact ⟨a.ex.trans b.ex, ⟨t ++ u, by rw [h2, h1, List.append_assoc]⟩⟩
theorem Le0.den {K : PySem.W.Frag} {W W' : Wd} (l : Le0 W W') {v : V} {d : D} (h : Den K W.F W.ρ v d) : Den K W'.F W'.ρ v d := by
  obtain ⟨t, e⟩ := l.pre
  rw [e]
  exact h.mono l.ex
theorem Le0.dena {K : PySem.W.Frag} {W W' : Wd} (l : Le0 W W') {v : List V} {d : List D} (h : DenA K W.F W.ρ v d) : DenA K W'.F W'.ρ v d := by
  obtain ⟨t, e⟩ := l.pre
  rw [e]
  exact h.mono l.ex
structure Le (W W' : Wd) : Prop where
  ex : Ex W.F W'.F
  pre : ∃ t, W'.ρ = W.ρ ++ t
  rr : W'.R = W.R
theorem Le.l0 {W W' : Wd} (l : Le W W') : Le0 W W' := ⟨l.ex, l.pre⟩
theorem Le.refl (W : Wd) : Le W W := ⟨Ex.refl _, ⟨[], by simp⟩, rfl⟩
theorem Le.trans {A B C : Wd} (a : Le A B) (b : Le B C) : Le A C := by
  obtain ⟨t, h1⟩ := a.pre
  obtain ⟨u, h2⟩ := b.pre
  exact ⟨a.ex.trans b.ex, ⟨t ++ u, by rw [h2, h1, List.append_assoc]⟩, b.rr.trans a.rr⟩
theorem Le.den {K : PySem.W.Frag} {W W' : Wd} (l : Le W W') {v : V} {d : D} (h : Den K W.F W.ρ v d) : Den K W'.F W'.ρ v d := by
  obtain ⟨t, e⟩ := l.pre
  rw [e]
  exact h.mono l.ex
theorem Le.dena {K : PySem.W.Frag} {W W' : Wd} (l : Le W W') {v : List V} {d : List D} (h : DenA K W.F W.ρ v d) : DenA K W'.F W'.ρ v d := by
  obtain ⟨t, e⟩ := l.pre
  rw [e]
  exact h.mono l.ex
abbrev En : Type := List (Option D)
structure EnvOk (K : PySem.W.Frag) (W : Wd) (η : En) (σ : L2.St) : Prop where
  len : η.length = σ.length
  get : ∀ (i : Nat) (d : D), η[i]? = some (some d) → ∃ v, σ[i]? = some (some v) ∧ Den K W.F W.ρ v d
theorem EnvOk.mono0 {K : PySem.W.Frag} {W W' : Wd} (l : Le0 W W') {η : En} {σ : L2.St} (h : EnvOk K W η σ) : EnvOk K W' η σ :=
  ⟨h.len, fun i d e => let ⟨v, h1, h2⟩ := h.get i d e; ⟨v, h1, l.den h2⟩⟩
theorem EnvOk.mono {K : PySem.W.Frag} {W W' : Wd} (l : Le W W') {η : En} {σ : L2.St} (h : EnvOk K W η σ) : EnvOk K W' η σ :=
  ⟨h.len, fun i d e => let ⟨v, h1, h2⟩ := h.get i d e; ⟨v, h1, l.den h2⟩⟩
theorem EnvOk.set {K : PySem.W.Frag} {W : Wd} {η : En} {σ : L2.St} {v : V} {d : D} (h : EnvOk K W η σ) (i : Nat) (r : Den K W.F W.ρ v d) : EnvOk K W (η.set i (some d)) (σ.set i (some v)) := by
  refine ⟨by simp [h.len], fun j c e => ?_⟩
  by_cases hj : i = j
  · subst hj
    have hi : i < η.length := by
      rcases Nat.lt_or_ge i η.length with q | q
      · exact q
      · rw [List.set_eq_of_length_le q] at e
        have := (List.getElem?_eq_some_iff.mp e).1
        omega
    rw [List.getElem?_set_self hi] at e
    cases e
    exact ⟨v, by rw [List.getElem?_set_self (by rw [← h.len]; exact hi)], r⟩
  · rw [List.getElem?_set_ne hj] at e
    obtain ⟨v', h1, h2⟩ := h.get j c e
    exact ⟨v', by rw [List.getElem?_set_ne hj]; exact h1, h2⟩
def wipeE (η : En) : List Nat → En
  | [] => η
  | v :: vs => (wipeE η vs).set v none
theorem set_none_some {α : Type} {l : List (Option α)} {i j : Nat} {x : α} (h : (l.set i none)[j]? = some (some x)) : l[j]? = some (some x) ∧ i ≠ j := by
  by_cases hj : i = j
  · subst hj
    rcases Nat.lt_or_ge i l.length with q | q
    · rw [List.getElem?_set_self q] at h; cases h
    · rw [List.set_eq_of_length_le q] at h
      have := (List.getElem?_eq_some_iff.mp h).1
      omega
  · rw [List.getElem?_set_ne hj] at h
    exact ⟨h, hj⟩
theorem EnvOk.wipe {K : PySem.W.Frag} {W : Wd} {η : En} {σ : L2.St} (h : EnvOk K W η σ) : ∀ vs : List Nat, EnvOk K W (wipeE η vs) (L2.wipe σ vs)
  | [] => h
  | v :: vs => by
    have ih := EnvOk.wipe h vs
    refine ⟨by simp [wipeE, L2.wipe, ih.len], fun i d e => ?_⟩
    obtain ⟨e1, ne⟩ := set_none_some (show ((wipeE η vs).set v none)[i]? = some (some d) from e)
    obtain ⟨w, h1, h2⟩ := ih.get i d e1
    exact ⟨w, by
      show ((L2.wipe σ vs).set v none)[i]? = some (some w)
      rw [List.getElem?_set_ne ne]; exact h1, h2⟩

section
variable {K : PySem.W.Frag} {W : Wd} {H : Hp}
theorem Wok.freeR (h : Wok K W H) {p : Addr} (hp : H p = none) : W.R p = none := by
  cases e : W.R p with
  | none => rfl
  | some o => rw [h.rex p o e] at hp; cases hp
theorem Wok.free (h : Wok K W H) {p : Addr} (hp : H p = none) : W.F p = none := by
  cases e : W.F p with
  | none => rfl
  | some o => rw [h.ex p o e] at hp; cases hp
/-- new data -/
def Wd.lay (W : Wd) (p : Addr) (o : HO) : Wd := { W with F := upd W.F p o }
theorem Wok.lay (h : Wok K W H) {p : Addr} {o : HO} (hp : H p = none) : Wok K (W.lay p o) (upd H p o) ∧ Le W (W.lay p o) ∧ (W.lay p o).S = W.S ∧ (W.lay p o).F p = some o := by
  have l : Le W (W.lay p o) := ⟨Ex.new (h.free hp), ⟨[], by simp [Wd.lay]⟩, rfl⟩
  have rne : ∀ a u, W.R a = some u → a ≠ p := fun a u e => ne_of_none (h.rex a u e) hp
  refine ⟨⟨fun a u e => ?_, h.len, fun a u e => by rw [upd_ne (rne a u e)]; exact h.rex a u e, fun a u e => by show upd W.F p o a = none; rw [upd_ne (rne a u e)]; exact h.rdis a u e, fun i ds e => ?_, fun i ds e => ?_, h.inj, h.rl⟩, l, rfl, upd_same⟩
  · by_cases ha : a = p
    · subst ha
      have e' : upd W.F a o a = some u := e
      rw [upd_same] at e'
      rw [upd_same]; exact e'
    · have e' : upd W.F p o a = some u := e
      rw [upd_ne ha] at e'
      rw [upd_ne ha]; exact h.ex a u e'
  · obtain ⟨a, ho, h1, h2, h3, h4⟩ := h.obj i ds e
    have na : a ≠ p := ne_of_none h3 hp
    refine ⟨a, ho, h1, ⟨by show upd W.F p o a = none; rw [upd_ne na]; exact h2.1, h2.2⟩, by rw [upd_ne na]; exact h3, ?_⟩
    have := h4.keep (t := []) (R' := W.R) (H' := upd H p o) (Ex.new (o := o) (h.free hp)) fun dx g1 g2 g3 => by
      have nd : dx ≠ p := ne_of_none g1 hp
      exact ⟨by rw [upd_ne nd]; exact g1, by rw [upd_ne nd]; exact g2, g3⟩
    rw [List.append_nil] at this
    exact this
  · obtain ⟨a, xs, h1, h2, h4⟩ := h.fro i ds e
    exact ⟨a, xs, h1, ex_l l.ex h2, l.dena h4⟩
/-- a new thing of the store -/
def Wd.pushO (W : Wd) (p : Addr) (o : MO) : Wd := ⟨W.F, W.ρ ++ [p], W.S ++ [.obj o], W.R⟩
abbrev Wd.push (W : Wd) (p : Addr) (ds : List D) : Wd := W.pushO p (.lst ds)
theorem Wok.pushG (h : Wok K W H) {p : Addr} {ho : HO} {mo : MO} {H' : Hp} (hF : W.F p = none) (hR : W.R p = none) (pn : ∀ (i : Nat) (o : MO) (a : Addr), W.S[i]? = some (SO.obj o) → W.ρ[i]? = some a → a ≠ p) (hx : ∀ a u, H a = some u → H' a = some u) (he : H' p = some ho) (r : DenM K W.F W.ρ W.R H' p ho mo) :
    Wok K (W.pushO p mo) H' ∧ Le W (W.pushO p mo) ∧ (W.pushO p mo).ρ[W.S.length]? = some p := by
  have l : Le W (W.pushO p mo) := ⟨Ex.refl _, ⟨[p], rfl⟩, rfl⟩
  have last : (W.ρ ++ [p])[W.S.length]? = some p := by rw [← h.len]; simp
  have old : ∀ i o, i ≠ W.S.length → (W.S ++ [SO.obj mo])[i]? = some o → W.S[i]? = some o := fun i o ne e => by
    rcases Nat.lt_or_ge i W.S.length with q | q
    · rw [List.getElem?_append_left q] at e; exact e
    · rw [List.getElem?_append_right q] at e
      have : i - W.S.length ≠ 0 := by omega
      rw [List.getElem?_eq_none (by simp; omega)] at e
      cases e
  have oldA : ∀ i a, i ≠ W.S.length → (W.ρ ++ [p])[i]? = some a → W.ρ[i]? = some a := fun i a ne e => by
    rcases Nat.lt_or_ge i W.ρ.length with q | q
    · rw [List.getElem?_append_left q] at e; exact e
    · rw [List.getElem?_append_right q] at e
      have hl := h.len
      rw [List.getElem?_eq_none (by simp; omega)] at e
      cases e
  refine ⟨⟨fun a u e => hx a u (h.ex a u e), by simp [Wd.pushO, h.len], fun a u e => hx a u (h.rex a u e), h.rdis, fun i o e => ?_, fun i es e => ?_, fun i j d1 d2 a e1 e2 e3 e4 => ?_, h.rl⟩, l, last⟩
  · by_cases hi : i = W.S.length
    · subst hi
      have e' : (W.S ++ [SO.obj mo])[W.S.length]? = some (SO.obj o) := e
      simp at e'
      subst e'
      exact ⟨p, ho, last, ⟨hF, hR⟩, he, r.keep (t := [p]) (Ex.refl _) fun dx g1 g2 g3 => ⟨g1, g2, g3⟩⟩
    · obtain ⟨a, ho', h1, h2, h3, h4⟩ := h.obj i o (old i _ hi e)
      exact ⟨a, ho', get_pre h1, h2, hx _ _ h3, h4.keep (t := [p]) (Ex.refl _) fun dx g1 g2 g3 => ⟨hx _ _ g1, g2, g3⟩⟩
  · by_cases hi : i = W.S.length
    · subst hi
      have e' : (W.S ++ [SO.obj mo])[W.S.length]? = some (SO.fro es) := e
      simp at e'
    · obtain ⟨a, ys, h1, h2, h4⟩ := h.fro i es (old i _ hi e)
      exact ⟨a, ys, get_pre h1, h2, l.dena h4⟩
  · by_cases hi : i = W.S.length
    · by_cases hj : j = W.S.length
      · rw [hi, hj]
      · subst hi
        have e3' : (W.ρ ++ [p])[W.S.length]? = some a := e3
        rw [last] at e3'; cases e3'
        exact absurd rfl (pn j d2 p (old j _ hj e2) (oldA j _ hj e4))
    · by_cases hj : j = W.S.length
      · subst hj
        have e4' : (W.ρ ++ [p])[W.S.length]? = some a := e4
        rw [last] at e4'; cases e4'
        exact absurd rfl (pn i d1 p (old i _ hi e1) (oldA i _ hi e3))
      · exact h.inj i j d1 d2 a (old i _ hi e1) (old j _ hj e2) (oldA i _ hi e3) (oldA j _ hj e4)
theorem Wok.pushO (h : Wok K W H) {p : Addr} {ho : HO} {mo : MO} {H' : Hp} (hp : H p = none) (hx : ∀ a u, H a = some u → H' a = some u) (he : H' p = some ho) (r : DenM K W.F W.ρ W.R H' p ho mo) :
    Wok K (W.pushO p mo) H' ∧ Le W (W.pushO p mo) ∧ (W.pushO p mo).ρ[W.S.length]? = some p :=
  h.pushG (h.free hp) (h.freeR hp) (fun i o a e1 e2 => by
    obtain ⟨a', ho', h1, h2, h3, h4⟩ := h.obj i o e1
    rw [h1] at e2; cases e2
    exact ne_of_none h3 hp) hx he r
theorem Wok.push (h : Wok K W H) {p : Addr} {xs : List V} {ds : List D} (hp : H p = none) (r : DenA K W.F W.ρ xs ds) :
    Wok K (W.push p ds) (upd H p (.lst xs)) ∧ Le W (W.push p ds) ∧ (W.push p ds).ρ[W.S.length]? = some p :=
  h.pushO hp (fun a u e => by rw [upd_ne (ne_of_none e hp)]; exact e) upd_same (.lst r)
/-- a list of the store changed -/
def Wd.put (W : Wd) (i : Nat) (o : SO) : Wd := { W with S := W.S.set i o }
theorem get_set_ne {l : List SO} {i j : Nat} {o : SO} (h : i ≠ j) : (l.set i o)[j]? = l[j]? := List.getElem?_set_ne h
theorem Wok.putO (h : Wok K W H) {i : Nat} {a : Addr} {o0 o : MO} {ho : HO} {H' : Hp} (hi : W.S[i]? = some (SO.obj o0)) (ha : W.ρ[i]? = some a) (hx : ∀ b u, b ≠ a → H b = some u → H' b = some u) (he : H' a = some ho) (r : DenM K W.F W.ρ W.R H' a ho o) :
    Wok K (W.put i (.obj o)) H' ∧ Le W (W.put i (.obj o)) := by
  have hlt := (List.getElem?_eq_some_iff.mp hi).1
  obtain ⟨a', ho', h1, h2, h3, h4⟩ := h.obj i o0 hi
  rw [h1] at ha; cases ha
  have back : ∀ j o', (W.S.set i (SO.obj o))[j]? = some (SO.obj o') → ∃ o'', W.S[j]? = some (SO.obj o'') := fun j es e => by
    by_cases hj : i = j
    · subst hj; exact ⟨_, hi⟩
    · rw [List.getElem?_set_ne hj] at e; exact ⟨_, e⟩
  have rne : ∀ b u, W.R b = some u → b ≠ a := fun b u e z => by
    rw [z, h2.2] at e; cases e
  refine ⟨⟨fun b u e => ?_, by simp [Wd.put, h.len], fun b u e => hx b u (rne b u e) (h.rex b u e), h.rdis, fun j es e => ?_, fun j es e => ?_, fun j k d1 d2 b e1 e2 e3 e4 => ?_, h.rl⟩, ⟨Ex.refl _, ⟨[], by simp [Wd.put]⟩, rfl⟩⟩
  · have nb : b ≠ a := fun z => by
      have e' : W.F b = some u := e
      rw [z, h2.1] at e'; cases e'
    exact hx b u nb (h.ex b u e)
  · by_cases hj : i = j
    · subst hj
      have e' : (W.S.set i (SO.obj o))[i]? = some (SO.obj es) := e
      rw [List.getElem?_set_self hlt] at e'
      cases e'
      exact ⟨a, ho, h1, h2, he, r⟩
    · have e' : (W.S.set i (SO.obj o))[j]? = some (SO.obj es) := e
      rw [List.getElem?_set_ne hj] at e'
      obtain ⟨b, ho2, g1, g2, g3, g4⟩ := h.obj j es e'
      have nb : b ≠ a := fun z => by
        subst z
        exact hj (h.inj i j _ _ b hi e' h1 g1)
      refine ⟨b, ho2, g1, g2, hx b _ nb g3, g4.keep0 fun dx k1 k2 k3 => ⟨hx dx _ (fun z => ?_) k1, k3⟩⟩
      rw [z, h3] at k1
      exact h4.nown (Option.some.inj k1)
  · have e' : (W.S.set i (SO.obj o))[j]? = some (SO.fro es) := e
    by_cases hj : i = j
    · subst hj
      rw [List.getElem?_set_self hlt] at e'; cases e'
    · rw [List.getElem?_set_ne hj] at e'
      exact h.fro j es e'
  · obtain ⟨d1', q1⟩ := back j d1 e1
    obtain ⟨d2', q2⟩ := back k d2 e2
    exact h.inj j k _ _ b q1 q2 e3 e4
theorem Wok.put (h : Wok K W H) {i : Nat} {a : Addr} {ds0 ds : List D} {xs : List V} (hi : W.S[i]? = some (SO.lst ds0)) (ha : W.ρ[i]? = some a) (r : DenA K W.F W.ρ xs ds) :
    Wok K (W.put i (.lst ds)) (upd H a (.lst xs)) ∧ Le W (W.put i (.lst ds)) :=
  h.putO hi ha (fun b u nb e => by rw [upd_ne nb]; exact e) upd_same (.lst r)
/-- a list of the store becomes data -/
def Wd.frz (W : Wd) (i : Nat) (a : Addr) (xs : List V) : Wd := ⟨upd W.F a (.lst xs), W.ρ, W.S.set i .dead, W.R⟩
theorem Wok.frz (h : Wok K W H) {i : Nat} {a : Addr} {ds : List D} (hi : W.S[i]? = some (SO.lst ds)) (ha : W.ρ[i]? = some a) :
    ∃ xs, Wok K (W.frz i a xs) H ∧ Le W (W.frz i a xs) ∧ Den K (W.frz i a xs).F (W.frz i a xs).ρ (.ref a) (.list ds) := by
  have hlt := (List.getElem?_eq_some_iff.mp hi).1
  obtain ⟨a', xs, h1, h2, h3, h4⟩ := h.lst i ds hi
  rw [h1] at ha; cases ha
  have l : Le W (W.frz i a xs) := ⟨Ex.new h2.1, ⟨[], by simp [Wd.frz]⟩, rfl⟩
  have rne : ∀ b u, W.R b = some u → b ≠ a := fun b u e z => by
    rw [z, h2.2] at e; cases e
  have back : ∀ j o, o ≠ SO.dead → (W.S.set i SO.dead)[j]? = some o → i ≠ j ∧ W.S[j]? = some o := fun j o ho e => by
    by_cases hj : i = j
    · subst hj
      rw [List.getElem?_set_self hlt] at e
      exact absurd (Option.some.inj e).symm ho
    · rw [List.getElem?_set_ne hj] at e; exact ⟨hj, e⟩
  refine ⟨xs, ⟨fun b u e => ?_, by simp [Wd.frz, h.len], h.rex, fun b u e => by show upd W.F a (.lst xs) b = none; rw [upd_ne (rne b u e)]; exact h.rdis b u e, fun j es e => ?_, fun j es e => ?_, fun j k d1 d2 b e1 e2 e3 e4 => ?_, h.rl⟩, l, .lst upd_same (l.dena h4)⟩
  · by_cases hb : b = a
    · subst hb
      have e' : upd W.F b (.lst xs) b = some u := e
      rw [upd_same] at e'; cases e'
      exact h3
    · have e' : upd W.F a (.lst xs) b = some u := e
      rw [upd_ne hb] at e'
      exact h.ex b u e'
  · obtain ⟨hj, e'⟩ := back j _ (by intro z; cases z) e
    obtain ⟨b, ho2, g1, g2, g3, g4⟩ := h.obj j es e'
    have nb : b ≠ a := fun z => by
      subst z
      exact hj (h.inj i j _ _ b hi e' h1 g1)
    refine ⟨b, ho2, g1, ⟨by show upd W.F a (.lst xs) b = none; rw [upd_ne nb]; exact g2.1, g2.2⟩, g3, ?_⟩
    have := g4.keep (t := []) (F' := upd W.F a (.lst xs)) (R' := W.R) (H' := H) l.ex fun dx k1 k2 k3 => by
      have nd : dx ≠ a := fun z => by
        rw [z, h3] at k1; cases k1
      exact ⟨k1, by rw [upd_ne nd]; exact k2, k3⟩
    rw [List.append_nil] at this
    exact this
  · obtain ⟨hj, e'⟩ := back j _ (by intro z; cases z) e
    obtain ⟨b, ys, g1, g2, g4⟩ := h.fro j es e'
    exact ⟨b, ys, g1, ex_l l.ex g2, l.dena g4⟩
  · exact h.inj j k _ _ b (back j _ (by intro z; cases z) e1).2 (back k _ (by intro z; cases z) e2).2 e3 e4
/-- a tracked tuple becomes data -/
theorem Wok.adopt (h : Wok K W H) {b : Addr} {xs : List V} (hb : H b = some (.tup xs)) : Wok K { W with F := upd W.F b (.tup xs) } H ∧ Le W { W with F := upd W.F b (.tup xs) } := by
  have ex : Ex W.F (upd W.F b (.tup xs)) := fun a u e => by
    by_cases ha : a = b
    · subst ha
      rw [upd_same, ← hb]
      exact (h.ex _ _ e)
    · rw [upd_ne ha]; exact e
  have l : Le W { W with F := upd W.F b (.tup xs) } := ⟨ex, ⟨[], by simp⟩, rfl⟩
  have nr : ∀ a u, W.R a = some u → a ≠ b := fun a u e z => by
    obtain ⟨ys, rfl⟩ := h.rl a u e
    have q := h.rex a _ e
    rw [z, hb] at q; cases q
  refine ⟨⟨fun a u e => ?_, h.len, h.rex, fun a u e => by show upd W.F b (.tup xs) a = none; rw [upd_ne (nr a u e)]; exact h.rdis a u e, fun i o e => ?_, fun i ds e => ?_, h.inj, h.rl⟩, l⟩
  · by_cases ha : a = b
    · subst ha
      have e' : upd W.F a (.tup xs) a = some u := e
      rw [upd_same] at e'; cases e'
      exact hb
    · have e' : upd W.F b (.tup xs) a = some u := e
      rw [upd_ne ha] at e'
      exact h.ex a u e'
  · obtain ⟨a, ho, h1, h2, h3, h4⟩ := h.obj i o e
    have na : a ≠ b := fun z => by
      rw [z, hb] at h3
      cases h3
      cases h4
    refine ⟨a, ho, h1, ⟨by show upd W.F b (.tup xs) a = none; rw [upd_ne na]; exact h2.1, h2.2⟩, h3, ?_⟩
    have := h4.keep (t := []) (F' := upd W.F b (.tup xs)) (R' := W.R) (H' := H) ex fun dx g1 g2 g3 => by
      have nd : dx ≠ b := fun z => by rw [z, hb] at g1; cases g1
      exact ⟨g1, by rw [upd_ne nd]; exact g2, g3⟩
    rw [List.append_nil] at this
    exact this
  · obtain ⟨a, ys, h1, h2, h4⟩ := h.fro i ds e
    exact ⟨a, ys, h1, ex_l ex h2, l.dena h4⟩
end
end Iv

set_option Elab.async false
set_option linter.all false
set_option maxRecDepth 100000
set_option maxHeartbeats 2000000
namespace Iv
open PySem PySem.Spec PyProof.Rows L2
open Evl (Ex ex_l ex_t)

inductive T where
  | nm (i : Nat)
  | tp (is : List Nat)
def setAll : En → List Nat → List D → En
  | η, i :: is, d :: ds => setAll (η.set i (some d)) is ds
  | η, _, _ => η
def bindT (t : T) (d : D) (η : En) : Option En := match t with
  | .nm i => some (η.set i (some d))
  | .tp is => match d with
    | .tuple ds => if ds.length = is.length then some (setAll η is ds) else none
    | _ => none
abbrev Prim := List D → List SO → Option (D × List SO)
inductive E where
  | nil
  | cons (a b : E)
  | loc (i : Nat)
  | prim (f : Prim) (a : E)
  | itr (f : List D → List SO → Option (List D × List SO)) (a : E)
  | call (f : Nat) (a : E)
  | and (a b : E)
  | or (a b : E)
  | ife (c a b : E)
  | lc (t : T) (it c e : E) (vs : List Nat)
  | chn (f g : Prim) (a b c : E)
  | lcn (t : T) (it c e : E) (vs : List Nat)
  | mk (C : Addr) (f : Nat) (a : E)
abbrev CallT := Nat → List D → List SO → Option (D × List SO)
def one : List D × List SO → Option (D × List SO)
  | ([d], S) => some (d, S)
  | _ => none
abbrev Ev1 := En → List SO → Option (List D × List SO)
def lcRun (fc fe : Ev1) (t : T) (η : En) : List D → List SO → Option (List D × List SO)
  | [], S => some ([], S)
  | x :: xs, S => (bindT t x η).bind fun η1 => ((fc η1 S).bind one).bind fun r => match r.1 with
    | .bool true => ((fe η1 r.2).bind one).bind fun y => (lcRun fc fe t η xs y.2).bind fun z => some (y.1 :: z.1, z.2)
    | .bool false => lcRun fc fe t η xs r.2
    | _ => none
def ev (call : CallT) : E → Ev1
  | .nil, _, S => some ([], S)
  | .cons a b, η, S => ((ev call a η S).bind one).bind fun r => (ev call b η r.2).bind fun z => some (r.1 :: z.1, z.2)
  | .loc i, η, S => match η[i]? with
    | some (some d) => some ([d], S)
    | _ => none
  | .prim f a, η, S => (ev call a η S).bind fun r => (f r.1 r.2).bind fun z => some ([z.1], z.2)
  | .itr f a, η, S => (ev call a η S).bind fun r => f r.1 r.2
  | .call f a, η, S => (ev call a η S).bind fun r => (call f r.1 r.2).bind fun z => some ([z.1], z.2)
  | .and a b, η, S => ((ev call a η S).bind one).bind fun r => match r.1 with
    | .bool true => ((ev call b η r.2).bind one).bind fun z => match z.1 with
      | .bool k => some ([.bool k], z.2)
      | _ => none
    | .bool false => some ([.bool false], r.2)
    | _ => none
  | .or a b, η, S => ((ev call a η S).bind one).bind fun r => match r.1 with
    | .bool false => ((ev call b η r.2).bind one).bind fun z => match z.1 with
      | .bool k => some ([.bool k], z.2)
      | _ => none
    | .bool true => some ([.bool true], r.2)
    | _ => none
  | .ife c a b, η, S => ((ev call c η S).bind one).bind fun r => match r.1 with
    | .bool true => ev call a η r.2
    | .bool false => ev call b η r.2
    | _ => none
  | .lc t it c e vs, η, S => (ev call it η S).bind fun r => if r.1.length ≤ 100000 then (lcRun (ev call c) (ev call e) t (wipeE η vs) r.1 r.2).bind fun z => some ([.list z.1], z.2) else none
  | .lcn t it c e vs, η, S => (ev call it η S).bind fun r => if r.1.length ≤ 100000 then (lcRun (ev call c) (ev call e) t (wipeE η vs) r.1 r.2).bind fun z => some ([rf z.2.length], z.2 ++ [.obj (.lst z.1)]) else none
  | .mk C f a, η, S => (ev call a η S).bind fun r => (call f (rf r.2.length :: r.1) (r.2 ++ [.ins C []])).bind fun z => match z.1 with
    | .none => some ([rf r.2.length], z.2)
    | _ => none
  | .chn f g a b c, η, S => ((ev call a η S).bind one).bind fun x => ((ev call b η x.2).bind one).bind fun y => (f [x.1, y.1] y.2).bind fun r => match r.1 with
    | .bool true => ((ev call c η r.2).bind one).bind fun z => (g [y.1, z.1] z.2).bind fun u => some ([u.1], u.2)
    | .bool false => some ([.bool false], r.2)
    | _ => none

inductive Fl where
  | nx | brk | cnt
  | ret (d : D)
inductive C where
  | skip | brk | cnt | abort | retn
  | seq (a b : C)
  | asg (t : T) (e : E)
  | par (i j : Nat) (e : E)
  | eff (f : List D → List SO → Option (List SO)) (e : E)
  | dex (e : E)
  | ite (c : E) (a b : C)
  | forr (t : T) (it : E) (b : C)
  | whl (n : Nat) (c : E) (b : C)
  | ret (e : E)
abbrev Ex1 := En → List SO → Option (Fl × En × List SO)
def loopF (f : Ex1) (t : T) : List D → Ex1
  | [], η, S => some (.nx, η, S)
  | x :: xs, η, S => (bindT t x η).bind fun η1 => (f η1 S).bind fun r => match r.1 with
    | .nx => loopF f t xs r.2.1 r.2.2
    | .cnt => loopF f t xs r.2.1 r.2.2
    | .brk => some (.nx, r.2)
    | .ret d => some (.ret d, r.2)
def loopW (c : Ev1) (f : Ex1) : Nat → Ex1
  | 0, _, _ => none
  | n + 1, η, S => ((c η S).bind one).bind fun r => match r.1 with
    | .bool true => (f η r.2).bind fun z => match z.1 with
      | .nx => loopW c f n z.2.1 z.2.2
      | .cnt => loopW c f n z.2.1 z.2.2
      | .brk => some (.nx, z.2)
      | .ret d => some (.ret d, z.2)
    | .bool false => some (.nx, η, r.2)
    | _ => none
def exc (call : CallT) : C → Ex1
  | .skip, η, S => some (.nx, η, S)
  | .brk, η, S => some (.brk, η, S)
  | .cnt, η, S => some (.cnt, η, S)
  | .abort, _, _ => none
  | .retn, η, S => some (.ret .none, η, S)
  | .seq a b, η, S => (exc call a η S).bind fun r => match r.1 with
    | .nx => exc call b r.2.1 r.2.2
    | fl => some (fl, r.2)
  | .asg t e, η, S => ((ev call e η S).bind one).bind fun r => (bindT t r.1 η).bind fun η1 => some (.nx, η1, r.2)
  | .par i j e, η, S => (ev call e η S).bind fun r => match r.1 with
    | [x, y] => some (.nx, (η.set i (some x)).set j (some y), r.2)
    | _ => none
  | .eff f e, η, S => (ev call e η S).bind fun r => (f r.1 r.2).bind fun S1 => some (.nx, η, S1)
  | .dex e, η, S => ((ev call e η S).bind one).bind fun r => some (.nx, η, r.2)
  | .ite c a b, η, S => ((ev call c η S).bind one).bind fun r => match r.1 with
    | .bool true => exc call a η r.2
    | .bool false => exc call b η r.2
    | _ => none
  | .forr t it b, η, S => (ev call it η S).bind fun r => loopF (exc call b) t r.1 η r.2
  | .whl n c b, η, S => loopW (ev call c) (exc call b) n η S
  | .ret e, η, S => ((ev call e η S).bind one).bind fun r => some (.ret r.1, η, r.2)

section
variable (K : PySem.W.Frag) (call : CallT)
abbrev FinV (W : Wd) (S' : List SO) (d : D) (Q : VK) : Prop := ∀ (W' : Wd) (v : V) (H' : Hp), Le W W' → W'.S = S' → Wok K W' H' → Den K W'.F W'.ρ v d → Q v H'
abbrev FinA (W : Wd) (S' : List SO) (ds : List D) (Q : List V → Hp → Prop) : Prop := ∀ (W' : Wd) (vs : List V) (H' : Hp), Le W W' → W'.S = S' → Wok K W' H' → DenA K W'.F W'.ρ vs ds → Q vs H'
def tE (c : E) : TE := fun σ H Q => ∃ (W : Wd) (η : En) (d : D) (S' : List SO), Wok K W H ∧ EnvOk K W η σ ∧ ev call c η W.S = some ([d], S') ∧ FinV K W S' d Q
def tA (c : E) : TA := fun σ H Q => ∃ (W : Wd) (η : En) (ds : List D) (S' : List SO), Wok K W H ∧ EnvOk K W η σ ∧ ev call c η W.S = some (ds, S') ∧ FinA K W S' ds Q
def tT (c : E) : TT := fun σ H Q => ∃ (W : Wd) (η : En) (b : Bool) (S' : List SO), Wok K W H ∧ EnvOk K W η σ ∧ ev call c η W.S = some ([.bool b], S') ∧ ∀ (W' : Wd) (H' : Hp), Le W W' → W'.S = S' → Wok K W' H' → Q b H'
/-- a walk gives these, one after the other -/
def Goes (J : It) (ds : List D) (W0 : Wd) : Prop := ∀ (i : Nat) (W : Wd) (H : Hp), Le0 W0 W → Wok K W H →
  (ds.length ≤ i → J.stop i H) ∧ (∀ d, ds[i]? = some d → J.go i H ∧ ∀ x H', J.yld i H x H' → ∃ W' : Wd, Le W W' ∧ W'.S = W.S ∧ Wok K W' H' ∧ Den K W'.F W'.ρ x d)
def tI (c : E) : TI := fun σ H R => ∃ (W : Wd) (η : En) (ds : List D) (S' : List SO), Wok K W H ∧ EnvOk K W η σ ∧ ev call c η W.S = some (ds, S') ∧
  ∀ (W' : Wd) (J : It) (H' : Hp), Le W W' → W'.S = S' → Wok K W' H' → Goes K J ds W' → R J H'
def FinS (W : Wd) (r : Fl × En × List SO) (D : Ends) : Prop := ∀ (W' : Wd) (H' : Hp), Le W W' → W'.S = r.2.2 → Wok K W' H' → match r.1 with
  | .nx => ∀ σ', EnvOk K W' r.2.1 σ' → D.nx σ' H'
  | .brk => ∀ σ', EnvOk K W' r.2.1 σ' → D.bk σ' H'
  | .cnt => ∀ σ', EnvOk K W' r.2.1 σ' → D.ct σ' H'
  | .ret d => ∀ v, Den K W'.F W'.ρ v d → D.rt v H'
def tS (c : C) : TS := fun D σ H => ∃ (W : Wd) (η : En) (r : Fl × En × List SO), Wok K W H ∧ EnvOk K W η σ ∧ exc call c η W.S = some r ∧ FinS K W r D
def tG (t : T) : TG := fun v σ H Q => ∃ (W : Wd) (η η' : En) (d : D), Wok K W H ∧ EnvOk K W η σ ∧ Den K W.F W.ρ v d ∧ bindT t d η = some η' ∧ ∀ σ', EnvOk K W η' σ' → Q σ' H
end
theorem peM {X : Cx} {e : Expr} {t t' : TE} (h : PE X e t) (m : ∀ σ H Q, t' σ H Q → t σ H Q) : PE X e t' := ⟨fun pins s σ H Q I q => h.run pins s σ H Q I (m σ H Q q)⟩
theorem ptM {X : Cx} {e : Expr} {t t' : TT} (h : PT X e t) (m : ∀ σ H Q, t' σ H Q → t σ H Q) : PT X e t' := ⟨fun pins s σ H Q I q => h.run pins s σ H Q I (m σ H Q q)⟩
theorem paM {X : Cx} {e : List Expr} {t t' : TA} (h : PA X e t) (m : ∀ σ H Q, t' σ H Q → t σ H Q) : PA X e t' := ⟨fun p pins s σ H Q I q => h.run p pins s σ H Q I (m σ H Q q)⟩
theorem psM {X : Cx} {e : Stmt} {t t' : TS} (h : PS X e t) (m : ∀ D σ H, t' D σ H → t D σ H) : PS X e t' := ⟨fun pins s σ H D I q => h.run pins s σ H D I (m D σ H q)⟩
theorem pssM {X : Cx} {e : List Stmt} {t t' : TS} (h : PSs X e t) (m : ∀ D σ H, t' D σ H → t D σ H) : PSs X e t' := ⟨fun pins s σ H D I q => h.run pins s σ H D I (m D σ H q)⟩

theorem bind_some {α β : Type} {x : Option α} {f : α → Option β} {y : β} (h : x.bind f = some y) : ∃ a, x = some a ∧ f a = some y := by
  cases x with
  | none => cases h
  | some a => exact ⟨a, rfl, h⟩
theorem one_some {r : List D × List SO} {z : D × List SO} (h : one r = some z) : r = ([z.1], z.2) := by
  obtain ⟨l, S⟩ := r
  match l, h with
  | [d], h => cases h; rfl
theorem bind_one {x : Option (List D × List SO)} {β : Type} {f : D × List SO → Option β} {y : β} (h : (x.bind one).bind f = some y) : ∃ z : D × List SO, x = some ([z.1], z.2) ∧ f z = some y := by
  obtain ⟨z, h1, h2⟩ := bind_some h
  obtain ⟨r, h3, h4⟩ := bind_some h1
  have := one_some h4
  subst this
  exact ⟨z, h3, h2⟩

section
variable {X : Cx} {call : CallT} {e a b c : Expr} {es : List Expr} {ca cb cc : E} {pos : Pos}
theorem pe_loc (i : Nat) {x : Str} {pos : Pos} (hN : X.N[i]? = some x := by rfl) (hv : Vis X.env.scope x := by first | exact Or.inl rfl | exact Or.inr (Or.inl rfl) | exact Or.inr (Or.inr rfl)) (hd : (x == ("__debug__" : Str)) = false := by decide)
    (hcd : (x == ("__classdict__" : Str)) = false := by decide) : PE X (.Name x pos) (tE X.K call (.loc i)) :=
  peM (pe_var hN hv hd hcd) fun σ H Q h => by
    obtain ⟨W, η, d, S', ok, env, he, fin⟩ := h
    unfold ev at he
    split at he
    · rename_i d' hd
      cases he
      obtain ⟨v, h1, h2⟩ := env.get i _ hd
      exact ⟨v, h1, fin W v H (Le.refl W) rfl ok h2⟩
    · cases he
theorem pa_n : PA X [] (tA X.K call .nil) := paM pa_nil fun σ H Q h => by
  obtain ⟨W, η, d, S', ok, env, he, fin⟩ := h
  cases he
  exact fin W [] H (Le.refl W) rfl ok .nil
theorem ta_cons {σ : L2.St} {H : Hp} {K : PySem.W.Frag} {Q : List V → Hp → Prop} (h : tA K call (.cons ca cb) σ H Q) : tE K call ca σ H fun x H1 => tA K call cb σ H1 fun xs H2 => Q (x :: xs) H2 := by
  obtain ⟨W, η, ds, S', ok, env, he, fin⟩ := h
  unfold ev at he
  obtain ⟨z, h1, h2⟩ := bind_one he
  obtain ⟨y, h3, h4⟩ := bind_some h2
  cases h4
  refine ⟨W, η, z.1, z.2, ok, env, h1, fun W1 v H1 l1 s1 ok1 d1 => ⟨W1, η, y.1, y.2, ok1, env.mono l1, by rw [s1]; exact h3, fun W2 vs H2 l2 s2 ok2 d2 => ?_⟩⟩
  exact fin W2 (v :: vs) H2 (l1.trans l2) s2 ok2 (.cons (l2.den d1) d2)
theorem pa_c (h : PE X e (tE X.K call ca)) (hs : PA X es (tA X.K call cb)) (hst : starEach (e :: es) X.env = (false, eval e X.env) :: starEach es X.env := by rfl) : PA X (e :: es) (tA X.K call (.cons ca cb)) := paM (pa_cons h hs hst) fun σ H Q h => ta_cons h
/-- one, two values, told as arguments -/
theorem te_args {σ : L2.St} {H : Hp} {K : PySem.W.Frag} {Q : VK} {f : Prim} (h : tE K call (.prim f ca) σ H Q) : tA K call ca σ H fun vs H1 => ∃ W ds d S', Wok K W H1 ∧ DenA K W.F W.ρ vs ds ∧ f ds W.S = some (d, S') ∧ FinV K W S' d Q := by
  obtain ⟨W, η, d, S', ok, env, he, fin⟩ := h
  unfold ev at he
  obtain ⟨z, h1, h2⟩ := bind_some he
  obtain ⟨y, h3, h4⟩ := bind_some h2
  cases h4
  refine ⟨W, η, z.1, z.2, ok, env, h1, fun W1 vs H1 l1 s1 ok1 d1 => ⟨W1, z.1, y.1, y.2, ok1, d1, by rw [s1]; exact h3, fun W2 v H2 l2 s2 ok2 d2 => fin W2 v H2 (l1.trans l2) s2 ok2 d2⟩⟩
theorem ta_nil {σ : L2.St} {H : Hp} {K : PySem.W.Frag} {Q : List V → Hp → Prop} (h : tA K call .nil σ H Q) : Q [] H := by
  obtain ⟨W, η, d, S', ok, env, he, fin⟩ := h
  cases he
  exact fin W [] H (Le.refl W) rfl ok .nil
/-- what the rules by values ask of a primitive -/
def P1 (K : PySem.W.Frag) (r : V → Hp → VK → Prop) (f : Prim) : Prop := ∀ (W : Wd) (H : Hp) (x : V) (dx d : D) (S' : List SO) (Q : VK), Wok K W H → Den K W.F W.ρ x dx → f [dx] W.S = some (d, S') → FinV K W S' d Q → r x H Q
def P2 (K : PySem.W.Frag) (r : V → V → Hp → VK → Prop) (f : Prim) : Prop := ∀ (W : Wd) (H : Hp) (x y : V) (dx dy d : D) (S' : List SO) (Q : VK), Wok K W H → Den K W.F W.ρ x dx → Den K W.F W.ρ y dy → f [dx, dy] W.S = some (d, S') → FinV K W S' d Q → r x y H Q
def PN (K : PySem.W.Frag) (r : List V → Hp → VK → Prop) (f : Prim) : Prop := ∀ (W : Wd) (H : Hp) (vs : List V) (ds : List D) (d : D) (S' : List SO) (Q : VK), Wok K W H → DenA K W.F W.ρ vs ds → f ds W.S = some (d, S') → FinV K W S' d Q → r vs H Q
theorem to_p1 {σ : L2.St} {H : Hp} {K : PySem.W.Frag} {Q : VK} {f : Prim} {r : V → Hp → VK → Prop} (p : P1 K r f) (h : tE K call (.prim f (.cons ca .nil)) σ H Q) : tE K call ca σ H fun x H1 => r x H1 Q := by
  obtain ⟨W, η, d, S', ok, env, he, fin⟩ := ta_cons (te_args h)
  refine ⟨W, η, d, S', ok, env, he, fun W1 v H1 l s o dd => ?_⟩
  obtain ⟨W2, ds, d2, S2, ok2, dn, hf, fin2⟩ := ta_nil (fin W1 v H1 l s o dd)
  cases dn with
  | cons h1 h2 =>
    cases h2
    exact p W2 H1 v _ d2 S2 Q ok2 h1 hf fin2
theorem to_p2 {σ : L2.St} {H : Hp} {K : PySem.W.Frag} {Q : VK} {f : Prim} {r : V → V → Hp → VK → Prop} (p : P2 K r f) (h : tE K call (.prim f (.cons ca (.cons cb .nil))) σ H Q) : tE K call ca σ H fun x H1 => tE K call cb σ H1 fun y H2 => r x y H2 Q := by
  obtain ⟨W, η, d, S', ok, env, he, fin⟩ := ta_cons (te_args h)
  refine ⟨W, η, d, S', ok, env, he, fun W1 v H1 l s o dd => ?_⟩
  obtain ⟨W2, η2, d2, S2, ok2, env2, he2, fin2⟩ := ta_cons (fin W1 v H1 l s o dd)
  refine ⟨W2, η2, d2, S2, ok2, env2, he2, fun W3 v3 H3 l3 s3 o3 dd3 => ?_⟩
  obtain ⟨W4, ds, d4, S4, ok4, dn, hf, fin4⟩ := ta_nil (fin2 W3 v3 H3 l3 s3 o3 dd3)
  cases dn with
  | cons h1 h2 =>
    cases h2 with
    | cons h3 h4 =>
      cases h4
      exact p W4 H3 v v3 _ _ d4 S4 Q ok4 h1 h3 hf fin4
theorem to_pn {σ : L2.St} {H : Hp} {K : PySem.W.Frag} {Q : VK} {f : Prim} {r : List V → Hp → VK → Prop} (p : PN K r f) (h : tE K call (.prim f ca) σ H Q) : tA K call ca σ H fun vs H1 => r vs H1 Q := by
  obtain ⟨W, η, d, S', ok, env, he, fin⟩ := te_args h
  refine ⟨W, η, d, S', ok, env, he, fun W1 v H1 l s o dd => ?_⟩
  obtain ⟨W2, ds, d2, S2, ok2, dn, hf, fin2⟩ := fin W1 v H1 l s o dd
  exact p W2 H1 v ds d2 S2 Q ok2 dn hf fin2
theorem pe_bin {op : Operator} {r : V → V → Hp → VK → Prop} {f : Prim} (ho : OpR X (binaryOp op) r) (p : P2 X.K r f) (ha : PE X a (tE X.K call ca)) (hb : PE X b (tE X.K call cb)) : PE X (.BinOp a op b pos) (tE X.K call (.prim f (.cons ca (.cons cb .nil)))) :=
  peM (pe_op ho ha hb) fun σ H Q h => to_p2 p h
theorem pe_c2 {op : CmpOp} {r : V → V → Hp → VK → Prop} {f : Prim} (ho : OpR X (compareOp op) r) (p : P2 X.K r f) (ha : PE X a (tE X.K call ca)) (hb : PE X b (tE X.K call cb)) (hm : behindInMarks op b = false) : PE X (.Compare a [op] [b] pos) (tE X.K call (.prim f (.cons ca (.cons cb .nil)))) :=
  peM (pe_cmpR ho ha hb hm) fun σ H Q h => to_p2 p h
theorem te_bool {σ : L2.St} {H : Hp} {K : PySem.W.Frag} {Q : Bool → Hp → Prop} (h : tT K call ca σ H Q) : tE K call ca σ H fun x H' => ∃ k, x = .bl k ∧ Q k H' := by
  obtain ⟨W, η, d, S', ok, env, he, fin⟩ := h
  refine ⟨W, η, _, S', ok, env, he, fun W1 v H1 l s o dd => ?_⟩
  cases dd
  exact ⟨d, rfl, fin W1 H1 l s o⟩
theorem pt_c2 {op : CmpOp} {r : V → V → Hp → VK → Prop} {f : Prim} (ho : OpR X (compareOp op) r) (p : P2 X.K r f) (ha : PE X a (tE X.K call ca)) (hb : PE X b (tE X.K call cb)) (hm : behindInMarks op b = false) : PT X (.Compare a [op] [b] pos) (tT X.K call (.prim f (.cons ca (.cons cb .nil)))) :=
  ptM (pt_cmpR ho ha hb hm) fun σ H Q h => to_p2 p (te_bool h)
theorem pe_u1 {op : UnaryOp} {r : V → Hp → VK → Prop} {f : Prim} (ho : UnR X (unaryOp op) r) (p : P1 X.K r f) (ha : PE X a (tE X.K call ca)) : PE X (.UnaryOp op a pos) (tE X.K call (.prim f (.cons ca .nil))) :=
  peM (pe_un ho ha) fun σ H Q h => to_p1 p h
theorem pe_i2 {r : V → V → Hp → VK → Prop} {f : Prim} (hi : IxR X r) (p : P2 X.K r f) (ha : PE X a (tE X.K call ca)) (hb : PE X b (tE X.K call cb)) (hs : PlainIx b) : PE X (.Subscript a b pos) (tE X.K call (.prim f (.cons ca (.cons cb .nil)))) :=
  peM (pe_ix hi ha hb hs) fun σ H Q h => to_p2 p h
/-- a value's truth, for data -/
def tru : D → Option Bool
  | .none => some false
  | .bool b => some b
  | .int i => some (decide (i ≠ 0))
  | .str x => some (!x.length == 0)
  | .list ds => some (!ds.isEmpty)
  | .tuple ds => some (!ds.isEmpty)
  | _ => none
end
end Iv

set_option Elab.async false
set_option linter.all false
set_option maxRecDepth 100000
set_option maxHeartbeats 2000000
namespace Iv
open PySem PySem.Spec PyProof.Rows L2
open Evl (Ex ex_l ex_t)

theorem evc {call : CallT} {a b : E} {η : En} {S S' : List SO} {ds : List D} (h : ev call (.cons a b) η S = some (ds, S')) : ∃ d S1 ds', ev call a η S = some ([d], S1) ∧ ev call b η S1 = some (ds', S') ∧ ds = d :: ds' := by
  rw [ev] at h
  obtain ⟨⟨d, S1⟩, h1, h2⟩ := bind_one h
  obtain ⟨⟨ds', S2⟩, h3, h4⟩ := bind_some h2
  cases h4
  exact ⟨d, S1, ds', h1, h3, rfl⟩
theorem evn {call : CallT} {η : En} {S S' : List SO} {ds : List D} (h : ev call .nil η S = some (ds, S')) : ds = [] ∧ S' = S := by
  rw [ev] at h
  cases h
  exact ⟨rfl, rfl⟩
section
variable {X : Cx} {call : CallT} {e a b c : Expr} {es rest : List Expr} {ca cb cc : E} {pos : Pos} {K : PySem.W.Frag} {σ : L2.St} {H : Hp}
theorem tt_of {Q : Bool → Hp → Prop} (h : tT K call ca σ H Q) : ∃ (W : Wd) (η : En) (b : Bool) (S' : List SO), Wok K W H ∧ EnvOk K W η σ ∧ ev call ca η W.S = some ([.bool b], S') ∧ ∀ (W' : Wd) (H' : Hp), Le W W' → W'.S = S' → Wok K W' H' → Q b H' := h
theorem tt_and {Q : Bool → Hp → Prop} (h : tT K call (.and ca cb) σ H Q) : tAnd (tT K call ca) (tT K call cb) σ H Q := by
  obtain ⟨W, η, b, S', ok, env, he, fin⟩ := h
  unfold ev at he
  obtain ⟨z, h1, h2⟩ := bind_one he
  obtain ⟨zd, zS⟩ := z
  dsimp only at h1 h2
  split at h2
  · obtain ⟨y, h3, h4⟩ := bind_one h2
    obtain ⟨yd, yS⟩ := y
    dsimp only at h3 h4
    split at h4
    · cases h4
      refine ⟨W, η, true, _, ok, env, h1, fun W1 H1 l1 s1 ok1 => ?_⟩
      refine iteT ?_
      exact ⟨W1, η, _, _, ok1, env.mono l1, by rw [s1]; exact h3, fun W2 H2 l2 s2 ok2 => fin W2 H2 (l1.trans l2) s2 ok2⟩
    · cases h4
  · cases h2
    refine ⟨W, η, false, _, ok, env, h1, fun W1 H1 l1 s1 ok1 => ?_⟩
    refine iteF ?_
    exact fin W1 H1 l1 s1 ok1
  · cases h2
theorem tt_or {Q : Bool → Hp → Prop} (h : tT K call (.or ca cb) σ H Q) : tOr (tT K call ca) (tT K call cb) σ H Q := by
  obtain ⟨W, η, b, S', ok, env, he, fin⟩ := h
  unfold ev at he
  obtain ⟨z, h1, h2⟩ := bind_one he
  obtain ⟨zd, zS⟩ := z
  dsimp only at h1 h2
  split at h2
  · obtain ⟨y, h3, h4⟩ := bind_one h2
    obtain ⟨yd, yS⟩ := y
    dsimp only at h3 h4
    split at h4
    · cases h4
      refine ⟨W, η, false, _, ok, env, h1, fun W1 H1 l1 s1 ok1 => ?_⟩
      refine iteF ?_
      exact ⟨W1, η, _, _, ok1, env.mono l1, by rw [s1]; exact h3, fun W2 H2 l2 s2 ok2 => fin W2 H2 (l1.trans l2) s2 ok2⟩
    · cases h4
  · cases h2
    refine ⟨W, η, true, _, ok, env, h1, fun W1 H1 l1 s1 ok1 => ?_⟩
    refine iteT ?_
    exact fin W1 H1 l1 s1 ok1
  · cases h2
theorem w1a (h : PT X a (tT X.K call ca)) : PW X (.BoolOp .And [a] pos) (tT X.K call ca) := pw_and1 h
theorem w1o (h : PT X a (tT X.K call ca)) : PW X (.BoolOp .Or [a] pos) (tT X.K call ca) := pw_or1 h
theorem wand (ha : PT X a (tT X.K call ca)) (hb : PW X (.BoolOp .And (b :: rest) pos) (tT X.K call cb)) : PW X (.BoolOp .And (a :: b :: rest) pos) (tT X.K call (.and ca cb)) :=
  ⟨fun wh pins s σ H Q I q => (pw_and ha hb).run wh pins s σ H Q I (tt_and q)⟩
theorem wor (ha : PT X a (tT X.K call ca)) (hb : PW X (.BoolOp .Or (b :: rest) pos) (tT X.K call cb)) : PW X (.BoolOp .Or (a :: b :: rest) pos) (tT X.K call (.or ca cb)) :=
  ⟨fun wh pins s σ H Q I q => (pw_or ha hb).run wh pins s σ H Q I (tt_or q)⟩
/-- not -/
def notP : Prim := fun ds S => match ds with
  | [.bool b] => some (.bool (!b), S)
  | _ => none
theorem tnot (ha : PT X a (tT X.K call ca)) : PT X (.UnaryOp .Not a pos) (tT X.K call (.prim notP (.cons ca .nil))) := ptM (pt_not ha) fun σ H Q h => by
  obtain ⟨W, η, b, S', ok, env, he, fin⟩ := h
  unfold ev at he
  obtain ⟨z, h1, h2⟩ := bind_some he
  obtain ⟨⟨yd, yS⟩, h3, h4⟩ := bind_some h2
  cases h4
  unfold ev at h1
  obtain ⟨u, h5, h6⟩ := bind_one h1
  obtain ⟨v, h7, h8⟩ := bind_some h6
  unfold ev at h7
  cases h7
  cases h8
  obtain ⟨ud, uS⟩ := u
  dsimp only at h3 h5
  unfold notP at h3
  split at h3
  · rename_i k hk
    cases hk
    cases h3
    exact ⟨W, η, k, _, ok, env, h5, fun W1 H1 l s o => fin W1 H1 l s o⟩
  · cases h3
def truS (d : D) (S : List SO) : Option Bool := match d with
  | .none => some false
  | .bool b => some b
  | .int i => some (i != 0)
  | .str x => if x.length ≤ 100000 then some ((x.length : Int) != 0) else none
  | .list ds => some (!ds.isEmpty)
  | .tuple ds => some (!ds.isEmpty)
  | .dict [(.none, .tuple ds)] => some (!ds.isEmpty)
  | .dict [(.int (Int.ofNat i), .none)] => match S[i]? with
    | some (.obj (.lst ds)) => some (!ds.isEmpty)
    | _ => none
  | _ => none
def truP : Prim := fun ds S => match ds with
  | [d] => (truS d S).map fun b => (.bool b, S)
  | _ => none
theorem DenA.empty {F : Hp} {ρ : List Addr} {xs : List V} {ds : List D} (h : DenA K F ρ xs ds) : xs.isEmpty = ds.isEmpty := by
  cases h <;> rfl
theorem tru_ok {W : Wd} {x : V} {d : D} {b : Bool} (ok : Wok K W H) (h : Den K W.F W.ρ x d) (ht : truS d W.S = some b) : TruV K x H b := by
  cases h with
  | non => cases ht; rfl
  | bl k => cases ht; rfl
  | int i => cases ht; rfl
  | str y =>
    unfold truS at ht
    dsimp only at ht
    split at ht
    · rename_i hy
      cases ht
      exact ⟨Evl.sz_of hy, rfl⟩
    · cases ht
  | lst h r => cases ht; exact .inl ⟨_, SqL.of (ok.ex _ _ h), by rw [r.empty]⟩
  | tup h r => cases ht; exact .inr (.inl ⟨_, SqT.of (ok.ex _ _ h), by rw [r.empty]⟩)
  | @ref i a h =>
    unfold truS at ht
    dsimp only at ht
    split at ht
    · rename_i ds hs
      cases ht
      obtain ⟨a', xs, h1, h2, h3, h4⟩ := ok.lst i ds hs
      rw [h1] at h; cases h
      exact .inl ⟨xs, SqL.of h3, by rw [h4.empty]⟩
    · cases ht
  | dct h => cases ht
  | tws h q r => cases ht; exact .inr (.inl ⟨_, .inl (.inr ⟨_, ok.ex _ _ h⟩), by rw [r.empty]⟩)
  | exb => cases ht
  | exn => cases ht
  | dc1 => cases ht
theorem ttru (ha : PE X a (tE X.K call ca)) (he : ∀ whole, isTrue a X.env whole = (do let v ← whole; standAt a.pos; holding [v] (truthy v)) := by intro _; rfl) : PT X a (tT X.K call (.prim truP (.cons ca .nil))) := ptM (pt_truth ha he) fun σ H Q h => by
  have h2 : tE X.K call (.prim truP (.cons ca .nil)) σ H fun x H' => ∃ k, x = .bl k ∧ Q k H' := te_bool h
  have p : P1 X.K (fun x H (R : VK) => ∃ k, TruV X.K x H k ∧ R (.bl k) H) truP := fun W H x dx d S' R ok dn hf fin => by
    unfold truP at hf
    dsimp only at hf
    cases ht : truS dx W.S with
    | none => rw [ht] at hf; cases hf
    | some k =>
      rw [ht] at hf
      cases hf
      exact ⟨k, tru_ok ok dn ht, fin W (.bl k) H (Le.refl W) rfl ok (.bl k)⟩
  obtain ⟨W, η, d, S', ok, env, he', fin⟩ := to_p1 p h2
  refine ⟨W, η, d, S', ok, env, he', fun W1 v H1 l s o dd => ?_⟩
  obtain ⟨k, h3, k2, h4, h5⟩ := fin W1 v H1 l s o dd
  cases h4
  exact ⟨k, h3, h5⟩
theorem te_tt {Q : VK} (h : tE K call ca σ H Q) (hb : ∀ η S d S', ev call ca η S = some ([d], S') → ∃ b, d = .bool b) : tT K call ca σ H fun b H1 => Q (.bl b) H1 := by
  obtain ⟨W, η, d, S', ok, env, he, fin⟩ := h
  obtain ⟨b, rfl⟩ := hb _ _ _ _ he
  exact ⟨W, η, b, S', ok, env, he, fun W1 H1 l s o => fin W1 (.bl b) H1 l s o (.bl b)⟩
theorem and_b {η : En} {S S' : List SO} {d : D} (h : ev call (.and ca cb) η S = some ([d], S')) : ∃ b, d = .bool b := by
  unfold ev at h
  obtain ⟨z, h1, h2⟩ := bind_one h
  obtain ⟨zd, zS⟩ := z
  dsimp only at h1 h2
  split at h2
  · obtain ⟨y, h3, h4⟩ := bind_one h2
    obtain ⟨yd, yS⟩ := y
    dsimp only at h3 h4
    split at h4
    · cases h4; exact ⟨_, rfl⟩
    · cases h4
  · cases h2; exact ⟨_, rfl⟩
  · cases h2
theorem or_b {η : En} {S S' : List SO} {d : D} (h : ev call (.or ca cb) η S = some ([d], S')) : ∃ b, d = .bool b := by
  unfold ev at h
  obtain ⟨z, h1, h2⟩ := bind_one h
  obtain ⟨zd, zS⟩ := z
  dsimp only at h1 h2
  split at h2
  · obtain ⟨y, h3, h4⟩ := bind_one h2
    obtain ⟨yd, yS⟩ := y
    dsimp only at h3 h4
    split at h4
    · cases h4; exact ⟨_, rfl⟩
    · cases h4
  · cases h2; exact ⟨_, rfl⟩
  · cases h2
theorem te_of_tt {Q : VK} (h : tT K call ca σ H fun b H1 => Q (.bl b) H1) : tE K call ca σ H Q := by
  obtain ⟨W, η, b, S', ok, env, he, fin⟩ := h
  refine ⟨W, η, _, S', ok, env, he, fun W1 v H1 l s o dd => ?_⟩
  cases dd
  exact fin W1 H1 l s o
theorem vand (ha : PE X a (tE X.K call ca)) (hb : PE X (.BoolOp .And (b :: rest) pos) (tE X.K call cb)) : PE X (.BoolOp .And (a :: b :: rest) pos) (tE X.K call (.and ca cb)) := peM (pe_and ha hb) fun σ H Q h => by
  have h2 := tt_and (te_tt h fun _ _ _ _ q => and_b q)
  obtain ⟨W, η, b, S', ok, env, he, fin⟩ := h2
  refine ⟨W, η, _, S', ok, env, he, fun W1 v H1 l s o dd => ?_⟩
  cases dd
  refine ⟨b, rfl, ?_⟩
  have q := fin W1 H1 l s o
  cases b with
  | true =>
    dsimp only at q
    rw [if_pos rfl] at q ⊢
    exact te_of_tt q
  | false =>
    dsimp only at q
    rw [if_neg Bool.false_ne_true] at q ⊢
    exact q
theorem vor (ha : PE X a (tE X.K call ca)) (hb : PE X (.BoolOp .Or (b :: rest) pos) (tE X.K call cb)) : PE X (.BoolOp .Or (a :: b :: rest) pos) (tE X.K call (.or ca cb)) := peM (pe_or ha hb) fun σ H Q h => by
  have h2 := tt_or (te_tt h fun _ _ _ _ q => or_b q)
  obtain ⟨W, η, b, S', ok, env, he, fin⟩ := h2
  refine ⟨W, η, _, S', ok, env, he, fun W1 v H1 l s o dd => ?_⟩
  cases dd
  refine ⟨b, rfl, ?_⟩
  have q := fin W1 H1 l s o
  cases b with
  | true =>
    dsimp only at q
    rw [if_pos rfl] at q ⊢
    exact q
  | false =>
    dsimp only at q
    rw [if_neg Bool.false_ne_true] at q ⊢
    exact te_of_tt q
theorem v1 {op : BoolOp} (ha : PE X a (tE X.K call ca)) : PE X (.BoolOp op [a] pos) (tE X.K call ca) := pe_one ha
theorem vnot (ha : PE X a (tE X.K call ca)) : PE X (.UnaryOp .Not a pos) (tE X.K call (.prim notP (.cons ca .nil))) := peM (pe_not ha) fun σ H Q h => by
  have p : P1 X.K (fun x H (R : VK) => ∃ c, x = .bl c ∧ R (.bl (!c)) H) notP := fun W H x dx d S' R ok dn hf fin => by
    unfold notP at hf
    split at hf
    · rename_i k hk
      cases hk
      cases dn
      cases hf
      exact ⟨k, rfl, fin W (.bl (!k)) H (Le.refl W) rfl ok (.bl _)⟩
    · cases hf
  exact to_p1 p h
theorem vif (hc : PT X c (tT X.K call cc)) (ha : PE X a (tE X.K call ca)) (hb : PE X b (tE X.K call cb)) : PE X (.IfExp c a b pos) (tE X.K call (.ife cc ca cb)) := peM (pe_ifExp hc ha hb) fun σ H Q h => by
  obtain ⟨W, η, d, S', ok, env, he, fin⟩ := h
  unfold ev at he
  obtain ⟨z, h1, h2⟩ := bind_one he
  obtain ⟨zd, zS⟩ := z
  dsimp only at h1 h2
  split at h2
  · refine ⟨W, η, true, _, ok, env, h1, fun W1 H1 l1 s1 ok1 => ?_⟩
    refine iteT ?_
    exact ⟨W1, η, d, S', ok1, env.mono l1, by rw [s1]; exact h2, fun W2 v H2 l2 s2 ok2 d2 => fin W2 v H2 (l1.trans l2) s2 ok2 d2⟩
  · refine ⟨W, η, false, _, ok, env, h1, fun W1 H1 l1 s1 ok1 => ?_⟩
    refine iteF ?_
    exact ⟨W1, η, d, S', ok1, env.mono l1, by rw [s1]; exact h2, fun W2 v H2 l2 s2 ok2 d2 => fin W2 v H2 (l1.trans l2) s2 ok2 d2⟩
  · cases h2
theorem tif (hc : PT X c (tT X.K call cc)) (ha : PE X a (tE X.K call ca)) (hb : PE X b (tE X.K call cb)) : PE X (.IfExp c a b pos) (tE X.K call (.ife cc ca cb)) := vif hc ha hb
def spK (K : PySem.W.Frag) (call : CallT) (j : Nat) : Sp := fun vs H Q _ => ∃ (W : Wd) (ds : List D) (d : D) (S' : List SO), Wok K W H ∧ DenA K W.F W.ρ vs ds ∧ call j ds W.S = some (d, S') ∧ FinV K W S' d Q
section
variable {k : Nat} {f : Addr} {sp : Sp} {x : Str} {p : Pos} {t : TA} {E : XK} {CX : CXT}
theorem pe_fr (F : FnR X.prog X.w X.K X.mg X.base CX k f sp) (hr : Room k X.A) (hk : PySem.W.keepIn X.K (.ref f) = true) (hg : Gl X x) (hm : X.mg x = some (.ref f)) (hx : Passes CX X E) (ha : PA X (e :: es) t) (hd : (x == ("__debug__" : Str)) = false := by decide) (h1 : starEach (e :: es) X.env = (false, eval e X.env) :: starEach es X.env := by rfl) (h2 : (backTo pos (starEach es X.env)).any (·.1) = false := by rfl) : PE X (.Call (.Name x p) (e :: es) [] pos) (fun σ H Q => t σ H fun ws J => sp ws J Q E) :=
  ⟨fun pins s σ H Q I h => wpAny_Call_Name_kw (ld_glob I hg hm (PySem.W.callWith_K (h₀ := X.base) I.ok.mod.kin hk (thn (ha.run pos pins s σ H _ I h) fun us z ⟨ws, J, I1, r, q⟩ => ⟨I1.kIn, wpAny_call (run_fnR F hr hx I1 r q)⟩) h1 h2) hd)⟩
theorem pe_fr0 (F : FnR X.prog X.w X.K X.mg X.base CX k f sp) (hr : Room k X.A) (hk : PySem.W.keepIn X.K (.ref f) = true) (hg : Gl X x) (hm : X.mg x = some (.ref f)) (hx : Passes CX X E) (hd : (x == ("__debug__" : Str)) = false := by decide) : PE X (.Call (.Name x p) [] [] pos) (fun σ H Q => sp [] H Q E) :=
  ⟨fun pins s σ H Q I h => wpAny_Call_Name_kw (ld_glob I hg hm (PySem.W.callWith_K0 I.kIn hk (wpAny_call (run_fnR (us := []) F hr hx I .nil h))) hd)⟩
theorem own {j : Nat} (F : FnR X.prog X.w X.K X.mg X.base CX0 k f (spK X.K call j)) (hr : Room k X.A) (hk : PySem.W.keepIn X.K (.ref f) = true) (hm : X.mg x = some (.ref f)) (ha : PA X (e :: es) (tA X.K call ca)) (hg : Gl X x := by rfl) (hd : (x == ("__debug__" : Str)) = false := by decide) (h1 : starEach (e :: es) X.env = (false, eval e X.env) :: starEach es X.env := by rfl) (h2 : (backTo pos (starEach es X.env)).any (·.1) = false := by rfl) :
    PE X (.Call (.Name x p) (e :: es) [] pos) (tE X.K call (.call j ca)) := peM (pe_fr F hr hk hg hm pass0 ha hd h1 h2) fun σ H Q h => by
  obtain ⟨W, η, d, S', ok, env, hev, fin⟩ := h
  unfold ev at hev
  obtain ⟨z, h1, h2⟩ := bind_some hev
  obtain ⟨y, h3, h4⟩ := bind_some h2
  cases h4
  refine ⟨W, η, z.1, z.2, ok, env, h1, fun W1 vs H1 l1 s1 ok1 d1 => ⟨W1, z.1, y.1, y.2, ok1, d1, by rw [s1]; exact h3, fun W2 v H2 l2 s2 ok2 d2 => fin W2 v H2 (l1.trans l2) s2 ok2 d2⟩⟩
theorem own0 {j : Nat} (F : FnR X.prog X.w X.K X.mg X.base CX0 k f (spK X.K call j)) (hr : Room k X.A) (hk : PySem.W.keepIn X.K (.ref f) = true) (hm : X.mg x = some (.ref f)) (hg : Gl X x := by rfl) (hd : (x == ("__debug__" : Str)) = false := by decide) :
    PE X (.Call (.Name x p) [] [] pos) (tE X.K call (.call j .nil)) := peM (pe_fr0 F hr hk hg hm pass0 hd) fun σ H Q h => by
  obtain ⟨W, η, d, S', ok, env, hev, fin⟩ := h
  unfold ev at hev
  obtain ⟨z, h1, h2⟩ := bind_some hev
  obtain ⟨y, h3, h4⟩ := bind_some h2
  cases h4
  unfold ev at h1
  cases h1
  exact ⟨W, [], y.1, y.2, ok, .nil, h3, fin⟩
end
end
end Iv

set_option Elab.async false
set_option linter.all false
set_option maxRecDepth 100000
set_option maxHeartbeats 2000000
namespace Iv
open PySem PySem.Spec PyProof.Rows L2
open Evl (Ex ex_l ex_t)

def T.inn (vs : List Nat) : T → Bool
  | .nm i => decide (i ∈ vs)
  | .tp is => is.all fun i => decide (i ∈ vs)
theorem wipe_set {σ : L2.St} {j : Nat} {y : Option V} : ∀ {vs : List Nat}, j ∈ vs → L2.wipe (σ.set j y) vs = L2.wipe σ vs
  | v :: vs, h => by
    show (L2.wipe (σ.set j y) vs).set v none = (L2.wipe σ vs).set v none
    by_cases hv : j ∈ vs
    · rw [wipe_set hv]
    · have hj : j = v := by
        rcases List.mem_cons.mp h with q | q
        · exact q
        · exact absurd q hv
      subst hj
      have g : ∀ us : List Nat, j ∉ us → L2.wipe (σ.set j y) us = (L2.wipe σ us).set j y := by
        intro us
        induction us with
        | nil => intro _; rfl
        | cons u us ih =>
          intro hu
          have h1 : u ≠ j := fun q => hu (by rw [q]; exact List.mem_cons_self)
          have h2 : j ∉ us := fun q => hu (List.mem_cons_of_mem _ q)
          show (L2.wipe (σ.set j y) us).set u none = ((L2.wipe σ us).set u none).set j y
          rw [ih h2, List.set_comm _ _ (Ne.symm h1)]
      rw [g vs hv, List.set_set]
theorem wipe_wipe {σ : L2.St} : ∀ vs us : List Nat, (∀ v ∈ vs, v ∈ us) → L2.wipe (L2.wipe σ vs) us = L2.wipe σ us
  | [], us, _ => rfl
  | v :: vs, us, h => by
    show L2.wipe ((L2.wipe σ vs).set v none) us = L2.wipe σ us
    rw [wipe_set (h v List.mem_cons_self), wipe_wipe vs us fun x hx => h x (List.mem_cons_of_mem _ hx)]
/-- what a target's rule does -/
def GOk (K : PySem.W.Frag) (g : TG) (t : T) : Prop := ∀ (W : Wd) (H : Hp) (η η' : En) (σ : L2.St) (v : V) (d : D) (Q : L2.St → Hp → Prop), Wok K W H → EnvOk K W η σ → Den K W.F W.ρ v d → bindT t d η = some η' →
  (∀ σ', EnvOk K W η' σ' → (∀ vs, t.inn vs = true → L2.wipe σ' vs = L2.wipe σ vs) → Q σ' H) → g v σ H Q
theorem g_nm {K : PySem.W.Frag} (i : Nat) : GOk K (gName i) (.nm i) := fun W H η η' σ v d Q ok env dn hb k => by
  cases hb
  exact k _ (env.set i dn) fun vs hv => wipe_set (of_decide_eq_true hv)
/-- what a row of targets does -/
def GsOk (K : PySem.W.Frag) (g : TGs) (is : List Nat) : Prop := ∀ (W : Wd) (H : Hp) (η : En) (σ : L2.St) (vs : List V) (ds : List D) (Q : L2.St → Hp → Prop), Wok K W H → EnvOk K W η σ → DenA K W.F W.ρ vs ds → ds.length = is.length →
  (∀ σ', EnvOk K W (setAll η is ds) σ' → (∀ us, (∀ i ∈ is, i ∈ us) → L2.wipe σ' us = L2.wipe σ us) → Q σ' H) → g vs σ H Q
theorem gs_nil {K : PySem.W.Frag} : GsOk K gNil [] := fun W H η σ vs ds Q ok env dn hl k => by
  cases dn with
  | nil => exact ⟨rfl, k σ env fun _ _ => rfl⟩
  | cons a b => cases hl
theorem gs_cons {K : PySem.W.Frag} {i : Nat} {is : List Nat} {u : TGs} (h : GsOk K u is) : GsOk K (gCons (gName i) u) (i :: is) := fun W H η σ vs ds Q ok env dn hl k => by
  cases dn with
  | nil => cases hl
  | @cons v vs d ds h1 h2 =>
    refine ⟨v, vs, rfl, ?_⟩
    show u vs (σ.set i (some v)) H Q
    refine h W H (η.set i (some d)) (σ.set i (some v)) vs ds Q ok (env.set i h1) h2 (Nat.succ.inj hl) fun σ' env' hw => k σ' env' fun us hu => ?_
    rw [hw us fun j hj => hu j (List.mem_cons_of_mem _ hj), wipe_set (hu i List.mem_cons_self)]
theorem g_tp {K : PySem.W.Frag} {n : Nat} {u : TGs} {is : List Nat} (h : GsOk K u is) (hn : is.length = n) : GOk K (gTup K n u) (.tp is) := fun W H η η' σ v d Q ok env dn hb k => by
  unfold bindT at hb
  dsimp only at hb
  split at hb
  · split at hb
    · rename_i hl
      cases hb
      cases dn with
      | tup ht r =>
        refine ⟨_, _, rfl, SqT.of (ok.ex _ _ ht), by rw [r.length, hl, hn], h W H η σ _ _ Q ok env r hl fun σ' env' hw => k σ' env' fun vs hv => hw vs fun i hi => ?_⟩
        have q : (is.all fun i => decide (i ∈ vs)) = true := hv
        exact of_decide_eq_true (List.all_eq_true.mp q i hi)
    · cases hb
  · cases hb
section
variable {X : Cx} {call : CallT} {e a b : Expr} {ca cb : E} {tg : Expr} {pos : Pos}
theorem piM {X : Cx} {tg it : Expr} {t t' : TI} (h : PI X tg it t) (m : ∀ σ H R, t' σ H R → t σ H R) : PI X tg it t' := ⟨fun pins s σ H R I q => h.run pins s σ H R I (m σ H R q)⟩
abbrev ItrP := List D → List SO → Option (List D × List SO)
theorem ti_args {K : PySem.W.Frag} {σ : L2.St} {H : Hp} {R : It → Hp → Prop} {f : ItrP} (h : tI K call (.itr f ca) σ H R) : tA K call ca σ H fun vs H1 => ∃ (W : Wd) (ds items : List D) (S' : List SO), Wok K W H1 ∧ DenA K W.F W.ρ vs ds ∧ f ds W.S = some (items, S') ∧
    ∀ (W' : Wd) (J : It) (H' : Hp), Le W W' → W'.S = S' → Wok K W' H' → Goes K J items W' → R J H' := by
  obtain ⟨W, η, ds, S', ok, env, he, fin⟩ := h
  unfold ev at he
  obtain ⟨z, h1, h2⟩ := bind_some he
  exact ⟨W, η, z.1, z.2, ok, env, h1, fun W1 vs H1 l1 s1 ok1 d1 => ⟨W1, z.1, ds, S', ok1, d1, by rw [s1]; exact h2, fun W2 J H2 l2 s2 ok2 g => fin W2 J H2 (l1.trans l2) s2 ok2 g⟩⟩
/-- over a list, a tuple -/
def itL : ItrP := fun ds S => match ds with
  | [.list xs] => some (xs, S)
  | [.dict [(.int (Int.ofNat i), .none)]] => match S[i]? with
    | some (.fro xs) => some (xs, S)
    | _ => none
  | _ => none
def itT : ItrP := fun ds S => match ds with
  | [.tuple xs] => some (xs, S)
  | [.dict [(.none, .tuple xs)]] => some (xs, S)
  | _ => none
theorem goes_l {K : PySem.W.Frag} {W : Wd} {a : Addr} {xs : List V} {ds : List D} (h : SqL K W.F a xs) (r : DenA K W.F W.ρ xs ds) : Goes K (Itl K a) ds W := fun i W1 H l ok => by
  have hs : SqL K H a xs := ex_l (l.ex.trans ok.ex) h
  refine ⟨fun hi => ⟨xs, hs, by rw [r.length]; exact hi⟩, fun d hd => ?_⟩
  obtain ⟨v, h1, h2⟩ := r.get hd
  refine ⟨⟨xs, v, hs, h1⟩, fun x H' hy => ?_⟩
  obtain ⟨rfl, f⟩ := hy
  have : x = v := Option.some.inj ((f xs hs).symm.trans h1)
  subst this
  exact ⟨W1, Le.refl _, rfl, ok, l.den h2⟩
theorem goes_t {K : PySem.W.Frag} {W : Wd} {a : Addr} {xs : List V} {ds : List D} (h : SqT K W.F a xs) (r : DenA K W.F W.ρ xs ds) : Goes K (Itt K a) ds W := fun i W1 H l ok => by
  have hs : SqT K H a xs := ex_t (l.ex.trans ok.ex) h
  refine ⟨fun hi => ⟨xs, hs, by rw [r.length]; exact hi⟩, fun d hd => ?_⟩
  obtain ⟨v, h1, h2⟩ := r.get hd
  refine ⟨⟨xs, v, hs, h1⟩, fun x H' hy => ?_⟩
  obtain ⟨rfl, f⟩ := hy
  have : x = v := Option.some.inj ((f xs hs).symm.trans h1)
  subst this
  exact ⟨W1, Le.refl _, rfl, ok, l.den h2⟩
theorem i_list (h : PE X e (tE X.K call ca)) : PI X tg e (tI X.K call (.itr itL (.cons ca .nil))) := piM (pi_list h) fun σ H R q => by
  obtain ⟨W, η, d, S', ok, env, he, fin⟩ := ta_cons (ti_args q)
  refine ⟨W, η, d, S', ok, env, he, fun W1 v H1 l s o dd => ?_⟩
  obtain ⟨W2, ds, items, S2, ok2, dn, hf, fin2⟩ := ta_nil (fin W1 v H1 l s o dd)
  cases dn with
  | cons h1 h2 =>
    cases h2
    unfold itL at hf
    split at hf
    · rename_i xs hx
      cases hx
      cases hf
      cases h1 with
      | lst h3 r => exact ⟨_, rfl, ⟨_, SqL.of (ok2.ex _ _ h3)⟩, fin2 W2 _ H1 (Le.refl _) rfl ok2 (goes_l (SqL.of h3) r)⟩
    · rename_i i hx
      cases hx
      split at hf
      · rename_i xs hs
        cases hf
        cases h1 with
        | ref h3 =>
          obtain ⟨a', ys, g1, g2, g3⟩ := ok2.fro i items hs
          rw [g1] at h3
          cases h3
          exact ⟨_, rfl, ⟨_, ex_l ok2.ex g2⟩, fin2 W2 _ H1 (Le.refl _) rfl ok2 (goes_l g2 g3)⟩
      · cases hf
    · cases hf
theorem i_tup (h : PE X e (tE X.K call ca)) : PI X tg e (tI X.K call (.itr itT (.cons ca .nil))) := piM (pi_tup h) fun σ H R q => by
  obtain ⟨W, η, d, S', ok, env, he, fin⟩ := ta_cons (ti_args q)
  refine ⟨W, η, d, S', ok, env, he, fun W1 v H1 l s o dd => ?_⟩
  obtain ⟨W2, ds, items, S2, ok2, dn, hf, fin2⟩ := ta_nil (fin W1 v H1 l s o dd)
  cases dn with
  | cons h1 h2 =>
    cases h2
    unfold itT at hf
    split at hf
    · rename_i xs hx
      cases hx
      cases hf
      cases h1 with
      | tup h3 r => exact ⟨_, rfl, ⟨_, SqT.of (ok2.ex _ _ h3)⟩, fin2 W2 _ H1 (Le.refl _) rfl ok2 (goes_t (SqT.of h3) r)⟩
    · rename_i xs hx
      cases hx
      cases hf
      cases h1 with
      | tws h3 q r => exact ⟨_, rfl, ⟨_, .inl (.inr ⟨_, ok2.ex _ _ h3⟩)⟩, fin2 W2 _ H1 (Le.refl _) rfl ok2 (goes_t (.inl (.inr ⟨_, h3⟩)) r)⟩
    · cases hf
/-- over a range -/
def upto (lo : Int) (n : Nat) : List D := (List.range n).map fun (k : Nat) => .int (lo + k)
def itR1 : ItrP := fun ds S => match ds with
  | [.int j] => if j < 2 ^ 40 ∧ -(2 ^ 40) ≤ j then some (upto 0 j.toNat, S) else none
  | _ => none
def itR2 : ItrP := fun ds S => match ds with
  | [.int i, .int j] => if (i < 2 ^ 40 ∧ -(2 ^ 40) ≤ i) ∧ (j < 2 ^ 40 ∧ -(2 ^ 40) ≤ j) then some (upto i (j - i).toNat, S) else none
  | _ => none
theorem upto_get {lo : Int} {n i : Nat} {d : D} (h : (upto lo n)[i]? = some d) : i < n ∧ d = .int (lo + i) := by
  unfold upto at h
  rw [List.getElem?_map] at h
  rcases Nat.lt_or_ge i n with q | q
  · rw [List.getElem?_range q] at h
    cases h
    exact ⟨q, rfl⟩
  · rw [List.getElem?_eq_none (by simpa using q)] at h
    cases h
theorem goes_r {K : PySem.W.Frag} {W : Wd} {lo : Int} {n : Nat} : Goes K (Itr lo n) (upto lo n) W := fun i W1 H l ok => by
  refine ⟨fun hi => (show n ≤ i by simpa [upto] using hi), fun d hd => ?_⟩
  obtain ⟨h1, rfl⟩ := upto_get hd
  refine ⟨h1, fun x H' hy => ?_⟩
  obtain ⟨rfl, rfl⟩ := hy
  exact ⟨W1, Le.refl _, rfl, ok, .int _⟩
theorem i_r1 {p : Pos} (hm : X.mg "range" = none) (ha : PA X [a] (tA X.K call ca)) (hg : Gl X "range" := by rfl) (hs : starEach [a] X.env = [(false, eval a X.env)] := by rfl) : PI X tg (.Call (.Name "range" p) [a] [] pos) (tI X.K call (.itr itR1 ca)) := piM (pi_range1 hg hm ha hs) fun σ H R q => by
  obtain ⟨W, η, ds, S', ok, env, he, fin⟩ := ti_args q
  refine ⟨W, η, ds, S', ok, env, he, fun W1 vs H1 l s o dd => ?_⟩
  obtain ⟨W2, es, items, S2, ok2, dn, hf, fin2⟩ := fin W1 vs H1 l s o dd
  unfold itR1 at hf
  split at hf
  · split at hf
    · rename_i hb
      cases hf
      cases dn with
      | cons h1 h2 =>
        cases h2
        cases h1
        exact ⟨_, rfl, by omega, by omega, fin2 W2 _ H1 (Le.refl _) rfl ok2 goes_r⟩
    · cases hf
  · cases hf
theorem i_r2 {p : Pos} (hm : X.mg "range" = none) (ha : PA X [a, b] (tA X.K call ca)) (hg : Gl X "range" := by rfl) (hs : starEach [a, b] X.env = [(false, eval a X.env), (false, eval b X.env)] := by rfl) (hs2 : starEach [b] X.env = [(false, eval b X.env)] := by rfl) :
    PI X tg (.Call (.Name "range" p) [a, b] [] pos) (tI X.K call (.itr itR2 ca)) := piM (pi_range2 hg hm ha hs hs2) fun σ H R q => by
  obtain ⟨W, η, ds, S', ok, env, he, fin⟩ := ti_args q
  refine ⟨W, η, ds, S', ok, env, he, fun W1 vs H1 l s o dd => ?_⟩
  obtain ⟨W2, es, items, S2, ok2, dn, hf, fin2⟩ := fin W1 vs H1 l s o dd
  unfold itR2 at hf
  split at hf
  · split at hf
    · rename_i hb
      cases hf
      cases dn with
      | cons h1 h2 =>
        cases h2 with
        | cons h3 h4 =>
          cases h4
          cases h1
          cases h3
          exact ⟨_, _, rfl, by omega, fin2 W2 _ H1 (Le.refl _) rfl ok2 goes_r⟩
    · cases hf
  · cases hf
end
section
variable {X : Cx} {call : CallT} {K : PySem.W.Frag} {σ : L2.St} {H : Hp} {it cc ce : E}
def Wd.hide (W : Wd) (p : Addr) (xs : List V) : Wd := { W with R := upd W.R p (.lst xs) }
/-- the hidden list changes, or is shown -/
theorem Wok.hidden {W : Wd} {p : Addr} {xs ys : List V} {R0 : Hp} (h : Wok K W H) (hR : W.R = upd R0 p (.lst xs)) : Wok K { W with R := upd R0 p (.lst ys) } (upd H p (.lst ys)) := by
  have hp : W.R p = some (.lst xs) := by rw [hR]; exact upd_same
  have hF : W.F p = none := h.rdis p _ hp
  have nS : ∀ a, W.R a = none → a ≠ p := fun a e z => by rw [z, hp] at e; cases e
  have old : ∀ a, a ≠ p → upd R0 p (.lst ys) a = W.R a := fun a ha => by rw [hR, upd_ne ha, upd_ne ha]
  refine ⟨fun a u e => ?_, h.len, fun a u e => ?_, fun a u e => ?_, fun i ds e => ?_, h.fro, h.inj, fun a u e => ?_⟩
  · have na : a ≠ p := fun z => by
      have e' : W.F a = some u := e
      rw [z, hF] at e'; cases e'
    rw [upd_ne na]; exact h.ex a u e
  · by_cases ha : a = p
    · subst ha
      have e' : upd R0 a (.lst ys) a = some u := e
      rw [upd_same] at e' ⊢; exact e'
    · have e' : upd R0 p (.lst ys) a = some u := e
      rw [old a ha] at e'
      rw [upd_ne ha]; exact h.rex a u e'
  · by_cases ha : a = p
    · subst ha; exact hF
    · have e' : upd R0 p (.lst ys) a = some u := e
      rw [old a ha] at e'
      exact h.rdis a u e'
  · obtain ⟨a, ho, h1, h2, h3, h4⟩ := h.obj i ds e
    have na : a ≠ p := nS a h2.2
    refine ⟨a, ho, h1, ⟨h2.1, by show upd R0 p (.lst ys) a = none; rw [old a na]; exact h2.2⟩, by rw [upd_ne na]; exact h3, h4.keep0 fun dx g1 g2 g3 => ?_⟩
    have nd : dx ≠ p := nS dx g3
    exact ⟨by rw [upd_ne nd]; exact g1, by show upd R0 p (.lst ys) dx = none; rw [old dx nd]; exact g3⟩
  · by_cases ha : a = p
    · subst ha
      have e' : upd R0 a (.lst ys) a = some u := e
      rw [upd_same] at e'; cases e'
      exact ⟨ys, rfl⟩
    · have e' : upd R0 p (.lst ys) a = some u := e
      rw [old a ha] at e'
      exact h.rl a u e'
theorem Wok.shown {W : Wd} {p : Addr} {xs : List V} {R0 : Hp} (h : Wok K W H) (hR : W.R = upd R0 p (.lst xs)) (h0 : R0 p = none) : Wok K { W with R := R0, F := upd W.F p (.lst xs) } H ∧ Ex W.F (upd W.F p (.lst xs)) := by
  have hp : W.R p = some (.lst xs) := by rw [hR]; exact upd_same
  have hF : W.F p = none := h.rdis p _ hp
  have ex : Ex W.F (upd W.F p (.lst xs)) := Ex.new hF
  have old : ∀ a o, R0 a = some o → a ≠ p ∧ W.R a = some o := fun a o e => by
    have na : a ≠ p := fun z => by rw [z, h0] at e; cases e
    exact ⟨na, by rw [hR, upd_ne na]; exact e⟩
  have l : Le W { W with R := W.R, F := upd W.F p (.lst xs) } := ⟨ex, ⟨[], by simp⟩, rfl⟩
  refine ⟨⟨fun a u e => ?_, h.len, fun a u e => h.rex a u (old a u e).2, fun a u e => ?_, fun i ds e => ?_, fun i ds e => ?_, h.inj, fun a u e => h.rl a u (old a u e).2⟩, ex⟩
  · by_cases ha : a = p
    · subst ha
      have e' : upd W.F a (.lst xs) a = some u := e
      rw [upd_same] at e'; cases e'
      exact h.rex a _ hp
    · have e' : upd W.F p (.lst xs) a = some u := e
      rw [upd_ne ha] at e'
      exact h.ex a u e'
  · obtain ⟨na, e2⟩ := old a u e
    show upd W.F p (.lst xs) a = none
    rw [upd_ne na]; exact h.rdis a u e2
  · obtain ⟨a, ho, h1, h2, h3, h4⟩ := h.obj i ds e
    have nn : ∀ a, W.R a = none → a ≠ p ∧ R0 a = none := fun a q => by
      have na : a ≠ p := fun z => by rw [z, hp] at q; cases q
      refine ⟨na, ?_⟩
      cases q2 : R0 a with
      | none => rfl
      | some o =>
        have e2 := (old a o q2).2
        rw [q] at e2; cases e2
    have na := nn a h2.2
    refine ⟨a, ho, h1, ⟨by show upd W.F p (.lst xs) a = none; rw [upd_ne na.1]; exact h2.1, na.2⟩, h3, ?_⟩
    have := h4.keep (t := []) (F' := upd W.F p (.lst xs)) (R' := R0) (H' := H) ex fun dx g1 g2 g3 => by
      have nd := nn dx g3
      exact ⟨g1, by rw [upd_ne nd.1]; exact g2, nd.2⟩
    rw [List.append_nil] at this
    exact this
  · obtain ⟨a, zs, h1, h2, h4⟩ := h.fro i ds e
    exact ⟨a, zs, h1, ex_l ex h2, l.dena h4⟩
theorem Wok.shownO {W : Wd} {p : Addr} {xs : List V} {ds : List D} {R0 : Hp} (h : Wok K W H) (hR : W.R = upd R0 p (.lst xs)) (h0 : R0 p = none) (r : DenA K W.F W.ρ xs ds) :
    Wok K (Wd.pushO { W with R := R0 } p (.lst ds)) H ∧ (Wd.pushO { W with R := R0 } p (.lst ds)).ρ[W.S.length]? = some p := by
  have hp : W.R p = some (.lst xs) := by rw [hR]; exact upd_same
  have old : ∀ a o, R0 a = some o → a ≠ p ∧ W.R a = some o := fun a o e => by
    have na : a ≠ p := fun z => by rw [z, h0] at e; cases e
    exact ⟨na, by rw [hR, upd_ne na]; exact e⟩
  have nn : ∀ a, W.R a = none → R0 a = none := fun a q => by
    cases q2 : R0 a with
    | none => rfl
    | some o =>
      have e2 := (old a o q2).2
      rw [q] at e2; cases e2
  have ok : Wok K { W with R := R0 } H := ⟨h.ex, h.len, fun a u e => h.rex a u (old a u e).2, fun a u e => h.rdis a u (old a u e).2, fun i o e => by
    obtain ⟨a, ho, h1, h2, h3, h4⟩ := h.obj i o e
    exact ⟨a, ho, h1, ⟨h2.1, nn a h2.2⟩, h3, h4.keep0 fun dx g1 g2 g3 => ⟨g1, nn dx g3⟩⟩, h.fro, h.inj, fun a u e => h.rl a u (old a u e).2⟩
  obtain ⟨q1, _, q3⟩ := ok.pushG (p := p) (ho := .lst xs) (mo := .lst ds) (H' := H) (h.rdis p _ hp) h0 (fun i o a e1 e2 z => by
    obtain ⟨a', ho', h1, h2, h3, h4⟩ := h.obj i o e1
    have h1' : W.ρ[i]? = some a := e2
    rw [h1] at h1'; cases h1'
    have g := h2.2
    rw [z, hp] at g; cases g) (fun _ _ z => z) (h.rex p _ hp) (.lst r)
  exact ⟨q1, q3⟩
theorem tlcG {g : TG} {t : T} {wi : TI} {Q : VK} {vs : List Nat} (hg : GOk K g t) (hin : t.inn vs = true) (hwi : ∀ R, tI K call it σ H R → wi σ H R) {W : Wd} {η : En} {items out : List D} {S1 S' : List SO} (ok : Wok K W H) (env : EnvOk K W η σ) (h1 : ev call it η W.S = some (items, S1)) (hsz : items.length ≤ 100000)
    (h3 : lcRun (ev call cc) (ev call ce) t (wipeE η vs) items S1 = some (out, S')) (fin : ∀ (W1 Wc : Wd) (Dl : Addr) (Hc : Hp) (acc : List V), Le W W1 → Le0 W1 Wc → W1.R Dl = none → Wc.R = upd W1.R Dl (.lst acc) → Wok K Wc Hc → DenA K Wc.F Wc.ρ acc out → Wc.S = S' → Q (.ref Dl) Hc) :
    tLc wi g (tT K call cc) (tE K call ce) vs σ H Q := by
  refine hwi _ ⟨W, η, items, S1, ok, env, h1, fun W1 J H1 l1 s1 ok1 gs => fun Dl hD => ?_⟩
  have hF1 : W1.F Dl = none := ok1.free hD
  have hR1 : W1.R Dl = none := ok1.freeR hD
  have envw := (env.wipe vs).mono l1
  refine ⟨fun i m Hc => m = items.length - i ∧ i ≤ items.length ∧ ∃ (Wc : Wd) (acc : List V) (dacc rest : List D), Le0 W1 Wc ∧ Wc.R = upd W1.R Dl (.lst acc) ∧ Wok K Wc Hc ∧ DenA K Wc.F Wc.ρ acc dacc ∧ dacc.length ≤ i ∧
      lcRun (ev call cc) (ev call ce) t (wipeE η vs) (items.drop i) Wc.S = some (rest, S') ∧ out = dacc ++ rest, ⟨items.length, by simp, Nat.zero_le _, ?_⟩, ?_⟩
  · have ok2 : Wok K (W1.hide Dl []) (upd H1 Dl (.lst [])) := by
      refine ⟨fun a u e => ?_, ok1.len, fun a u e => ?_, fun a u e => ?_, fun j ds e => ?_, ok1.fro, ok1.inj, fun a u e => ?_⟩
      · have na : a ≠ Dl := fun z => by
          have e' : W1.F a = some u := e
          rw [z, hF1] at e'; cases e'
        rw [upd_ne na]; exact ok1.ex a u e
      · by_cases ha : a = Dl
        · subst ha
          have e' : upd W1.R a (.lst []) a = some u := e
          rw [upd_same] at e' ⊢; exact e'
        · have e' : upd W1.R Dl (.lst []) a = some u := e
          rw [upd_ne ha] at e' ⊢; exact ok1.rex a u e'
      · by_cases ha : a = Dl
        · subst ha; exact hF1
        · have e' : upd W1.R Dl (.lst []) a = some u := e
          rw [upd_ne ha] at e'; exact ok1.rdis a u e'
      · obtain ⟨a, ho, g1, g2, g3, g4⟩ := ok1.obj j ds e
        have na : a ≠ Dl := ne_of_none g3 hD
        refine ⟨a, ho, g1, ⟨g2.1, by show upd W1.R Dl (.lst []) a = none; rw [upd_ne na]; exact g2.2⟩, by rw [upd_ne na]; exact g3, g4.keep0 fun dx k1 k2 k3 => ?_⟩
        have nd : dx ≠ Dl := ne_of_none k1 hD
        exact ⟨by rw [upd_ne nd]; exact k1, by show upd W1.R Dl (.lst []) dx = none; rw [upd_ne nd]; exact k3⟩
      · by_cases ha : a = Dl
        · subst ha
          have e' : upd W1.R a (.lst []) a = some u := e
          rw [upd_same] at e'; cases e'
          exact ⟨[], rfl⟩
        · have e' : upd W1.R Dl (.lst []) a = some u := e
          rw [upd_ne ha] at e'; exact ok1.rl a u e'
    exact ⟨W1.hide Dl [], [], [], out, ⟨Ex.refl _, ⟨[], by simp [Wd.hide]⟩⟩, rfl, ok2, .nil, Nat.zero_le _, by
      show lcRun (ev call cc) (ev call ce) t (wipeE η vs) (items.drop 0) W1.S = some (out, S')
      rw [s1]; exact h3, rfl⟩
  · rintro i m Hc ⟨rfl, hi, Wc, acc, dacc, rest, lc, hR, okc, da, hlen, hrun, hout⟩
    obtain ⟨g1, g2⟩ := gs i Wc Hc lc okc
    rcases Nat.lt_or_ge i items.length with hlt | hge
    · -- a turn
      have hitem : items[i]? = some items[i] := by simp [hlt]
      obtain ⟨hgo, hy⟩ := g2 _ hitem
      have hdrop : items.drop i = items[i] :: items.drop (i + 1) := List.drop_eq_getElem_cons hlt
      rw [hdrop] at hrun
      unfold lcRun at hrun
      obtain ⟨η1, hb, hrun⟩ := bind_some hrun
      obtain ⟨⟨cd, cS⟩, hc, hrun⟩ := bind_one hrun
      dsimp only at hc hrun
      refine .inr ⟨hgo, fun H' => ∃ (Wn : Wd) (acc : List V) (dacc rest : List D), Le0 W1 Wn ∧ Wn.R = upd W1.R Dl (.lst acc) ∧ Wok K Wn H' ∧ DenA K Wn.F Wn.ρ acc dacc ∧ dacc.length ≤ i + 1 ∧
        lcRun (ev call cc) (ev call ce) t (wipeE η vs) (items.drop (i + 1)) Wn.S = some (rest, S') ∧ out = dacc ++ rest, fun H' hN => ⟨items.length - (i + 1), by omega, rfl, hlt, hN⟩, fun x H' hyl => ?_⟩
      obtain ⟨Wy, ly, sy, oky, dy⟩ := hy x H' hyl
      have lcy : Le0 W1 Wy := lc.trans ly.l0
      refine hg Wy H' (wipeE η vs) η1 (L2.wipe σ vs) x _ _ oky ((env.wipe vs).mono0 (l1.l0.trans lcy)) dy hb fun σ' env' hw => ⟨?_, ?_⟩
      · rw [hw vs hin, wipe_wipe vs vs fun _ h => h]
      · have hRy : Wy.R = upd W1.R Dl (.lst acc) := ly.rr.trans hR
        have day := ly.dena da
        split at hrun
        · -- the test holds
          obtain ⟨⟨yd, yS⟩, hye, hrun⟩ := bind_one hrun
          obtain ⟨⟨zs, zS⟩, hz, hrun⟩ := bind_some hrun
          dsimp only at hye hz hrun
          have hrest : rest = yd :: zs := by simpa using (congrArg (fun o => o.map (·.1)) hrun).symm
          have hzS : S' = zS := by simpa using (congrArg (fun o => o.map (·.2)) hrun).symm
          subst hrest hzS
          refine ⟨Wy, η1, true, cS, oky, env', by rw [sy]; exact hc, fun W2 H2 l2 s2 ok2 => ?_⟩
          refine iteT ?_
          refine ⟨W2, η1, yd, yS, ok2, env'.mono l2, by rw [s2]; exact hye, fun W3 v H3 l3 s3 ok3 d3 => ?_⟩
          have hR3 : W3.R = upd W1.R Dl (.lst acc) := (l2.trans l3).rr.trans hRy
          have hD3 : H3 Dl = some (.lst acc) := ok3.rex Dl _ (by rw [hR3]; exact upd_same)
          have da3 := (l2.trans l3).dena day
          refine ⟨acc, hD3, Evl.sz_lt (by rw [da3.length]; omega), ?_⟩
          have ok4 := ok3.hidden (ys := acc ++ [v]) hR3
          refine ⟨{ W3 with R := upd W1.R Dl (.lst (acc ++ [v])) }, acc ++ [v], dacc ++ [yd], zs, lcy.trans ⟨(l2.trans l3).ex, (l2.trans l3).pre⟩, rfl, ok4, da3.append (.cons d3 .nil), by rw [List.length_append]; simp; omega, by
            show lcRun (ev call cc) (ev call ce) t (wipeE η vs) (items.drop (i + 1)) W3.S = some (zs, S')
            rw [s3]; exact hz, by rw [hout, List.append_assoc]; rfl⟩
        · -- the test does not hold
          refine ⟨Wy, η1, false, cS, oky, env', by rw [sy]; exact hc, fun W2 H2 l2 s2 ok2 => ?_⟩
          refine iteF ?_
          exact ⟨W2, acc, dacc, rest, lcy.trans l2.l0, l2.rr.trans hRy, ok2, l2.dena day, by omega, by rw [s2]; exact hrun, hout⟩
        · cases hrun
    · -- the end
      refine .inl ⟨g1 hge, ?_⟩
      have e0 : items.drop i = [] := List.drop_eq_nil_of_le hge
      rw [e0] at hrun
      unfold lcRun at hrun
      have hrest : rest = [] := by simpa using (congrArg (fun o => o.map (·.1)) hrun).symm
      have hzS : S' = Wc.S := by simpa using (congrArg (fun o => o.map (·.2)) hrun).symm
      refine fin W1 Wc Dl Hc acc l1 lc hR1 hR okc ?_ hzS.symm
      rw [hout, hrest, List.append_nil]
      exact da
theorem tlc {g : TG} {t : T} {wi : TI} {Q : VK} {vs : List Nat} (hg : GOk K g t) (hin : t.inn vs = true) (hwi : ∀ R, tI K call it σ H R → wi σ H R) (h : tE K call (.lc t it cc ce vs) σ H Q) : tLc wi g (tT K call cc) (tE K call ce) vs σ H Q := by
  obtain ⟨W, η, d, S', ok, env, he, fin⟩ := h
  unfold ev at he
  obtain ⟨⟨items, S1⟩, h1, h2⟩ := bind_some he
  dsimp only at h2
  split at h2
  rotate_left
  · cases h2
  rename_i hsz
  obtain ⟨⟨out, S2⟩, h3, h4⟩ := bind_some h2
  have hd : d = .list out := by simpa using (congrArg (fun o => o.map (·.1)) h4).symm
  have hS : S' = S2 := by simpa using (congrArg (fun o => o.map (·.2)) h4).symm
  subst hd hS
  refine tlcG hg hin hwi ok env h1 hsz h3 fun W1 Wc Dl Hc acc l1 lc hR1 hR okc da hS => ?_
  obtain ⟨oks, exs⟩ := okc.shown hR hR1
  have lx : Le0 Wc { Wc with R := W1.R, F := upd Wc.F Dl (.lst acc) } := ⟨exs, ⟨[], by simp⟩⟩
  have l2 : Le W { Wc with R := W1.R, F := upd Wc.F Dl (.lst acc) } := by
    have q := (l1.l0.trans lc).trans lx
    exact ⟨q.ex, q.pre, l1.rr⟩
  exact fin { Wc with R := W1.R, F := upd Wc.F Dl (.lst acc) } (.ref Dl) Hc l2 hS oks (.lst upd_same (lx.dena da))
/-- a comprehension that makes a list of the store -/
theorem tlcn {g : TG} {t : T} {wi : TI} {Q : VK} {vs : List Nat} (hg : GOk K g t) (hin : t.inn vs = true) (hwi : ∀ R, tI K call it σ H R → wi σ H R) (h : tE K call (.lcn t it cc ce vs) σ H Q) : tLc wi g (tT K call cc) (tE K call ce) vs σ H Q := by
  obtain ⟨W, η, d, S', ok, env, he, fin⟩ := h
  unfold ev at he
  obtain ⟨⟨items, S1⟩, h1, h2⟩ := bind_some he
  dsimp only at h2
  split at h2
  rotate_left
  · cases h2
  rename_i hsz
  obtain ⟨⟨out, S2⟩, h3, h4⟩ := bind_some h2
  have hd : d = rf S2.length := by simpa using (congrArg (fun o => o.map (·.1)) h4).symm
  have hS : S' = S2 ++ [.obj (.lst out)] := by simpa using (congrArg (fun o => o.map (·.2)) h4).symm
  subst hd hS
  refine tlcG hg hin hwi ok env h1 hsz h3 fun W1 Wc Dl Hc acc l1 lc hR1 hR okc da hS => ?_
  obtain ⟨oks, last⟩ := okc.shownO hR hR1 da
  have lx : Le0 Wc (Wd.pushO { Wc with R := W1.R } Dl (.lst out)) := ⟨Ex.refl _, ⟨[Dl], rfl⟩⟩
  have l2 : Le W (Wd.pushO { Wc with R := W1.R } Dl (.lst out)) := by
    have q := (l1.l0.trans lc).trans lx
    exact ⟨q.ex, q.pre, l1.rr⟩
  refine fin _ (.ref Dl) Hc l2 ?_ oks (.ref (by rw [← hS]; exact last))
  show Wc.S ++ _ = _
  rw [hS]
end
end Iv

set_option Elab.async false
set_option linter.all false
set_option maxRecDepth 100000
set_option maxHeartbeats 2000000
namespace Iv
open PySem PySem.Spec PyProof.Rows L2
open Evl (Ex ex_l ex_t)

section
variable {X : Cx} {call : CallT} {K : PySem.W.Frag} {σ : L2.St} {H : Hp} {ce cc it : E} {ca cb : C} {e tg iter : Expr} {st : Stmt} {rest body : List Stmt} {pos : Pos}
theorem FinS.mono {W W1 : Wd} {r : Fl × En × List SO} {D : Ends} (h : FinS K W r D) (l : Le W W1) : FinS K W1 r D := fun W' H' l' s' ok' => h W' H' (l.trans l') s' ok'
theorem FinS.bk {W : Wd} {r : Fl × En × List SO} {D : Ends} {nx' : L2.St → Hp → Prop} {fl : Fl} (h : FinS K W r D) (hf : r.1 = fl) (hne : fl ≠ .nx) : FinS K W r { D with nx := nx' } := fun W' H' l' s' ok' => by
  have q := h W' H' l' s' ok'
  obtain ⟨f, r2⟩ := r
  dsimp only at hf
  subst hf
  cases f with
  | nx => exact absurd rfl hne
  | brk => exact q
  | cnt => exact q
  | ret d => exact q
theorem s_seq (h1 : PS X st (tS X.K call ca)) (h2 : PSs X rest (tS X.K call cb)) : PSs X (st :: rest) (tS X.K call (.seq ca cb)) := pssM (pss_cons h1 h2) fun D σ H h => by
  obtain ⟨W, η, r, ok, env, he, fin⟩ := h
  unfold exc at he
  obtain ⟨⟨fl, η1, S1⟩, h1, h2⟩ := bind_some he
  dsimp only at h2
  cases fl with
  | nx => exact ⟨W, η, _, ok, env, h1, fun W1 H1 l1 s1 ok1 σ1 env1 => ⟨W1, η1, r, ok1, env1, by rw [s1]; exact h2, fin.mono l1⟩⟩
  | brk => cases h2; exact ⟨W, η, _, ok, env, h1, fin.bk rfl (by intro z; cases z)⟩
  | cnt => cases h2; exact ⟨W, η, _, ok, env, h1, fin.bk rfl (by intro z; cases z)⟩
  | ret d => cases h2; exact ⟨W, η, _, ok, env, h1, fin.bk rfl (by intro z; cases z)⟩
theorem s_one (h : PS X st (tS X.K call ca)) : PSs X [st] (tS X.K call ca) := pss_one h
theorem s_nil : PSs X [] (tS X.K call .skip) := pssM pss_nil fun D σ H h => by
  obtain ⟨W, η, r, ok, env, he, fin⟩ := h
  cases he
  exact fin W H (Le.refl _) rfl ok σ env
theorem s_pass : PS X (.Pass pos) (tS X.K call .skip) := psM ps_pass fun D σ H h => by
  obtain ⟨W, η, r, ok, env, he, fin⟩ := h
  cases he
  exact fin W H (Le.refl _) rfl ok σ env
theorem s_brk : PS X (.Break pos) (tS X.K call .brk) := psM ps_break fun D σ H h => by
  obtain ⟨W, η, r, ok, env, he, fin⟩ := h
  cases he
  exact fin W H (Le.refl _) rfl ok σ env
theorem s_cnt : PS X (.Continue pos) (tS X.K call .cnt) := psM ps_continue fun D σ H h => by
  obtain ⟨W, η, r, ok, env, he, fin⟩ := h
  cases he
  exact fin W H (Le.refl _) rfl ok σ env
theorem s_abort : PS X st (tS X.K call .abort) := psM ps_never fun D σ H h => by
  obtain ⟨W, η, r, ok, env, he, fin⟩ := h
  cases he
theorem s_retn : PS X (.Return none pos) (tS X.K call .retn) := psM ps_retN fun D σ H h => by
  obtain ⟨W, η, r, ok, env, he, fin⟩ := h
  cases he
  exact fin W H (Le.refl _) rfl ok _ .non
theorem s_ret (h : PE X e (tE X.K call ce)) : PS X (.Return (some e) pos) (tS X.K call (.ret ce)) := psM (ps_ret h) fun D σ H h => by
  obtain ⟨W, η, r, ok, env, he, fin⟩ := h
  unfold exc at he
  obtain ⟨⟨d, S1⟩, h1, h2⟩ := bind_one he
  cases h2
  exact ⟨W, η, _, _, ok, env, h1, fun W1 v H1 l1 s1 ok1 d1 => fin W1 H1 l1 s1 ok1 v d1⟩
theorem s_dex (h : PE X e (tE X.K call ce)) (hs : swapsWith e none pos.line X.env = pure false := by rfl) : PS X (.Expr e pos) (tS X.K call (.dex ce)) := psM (ps_expr h hs) fun D σ H h => by
  obtain ⟨W, η, r, ok, env, he, fin⟩ := h
  unfold exc at he
  obtain ⟨⟨d, S1⟩, h1, h2⟩ := bind_one he
  cases h2
  exact ⟨W, η, _, _, ok, env, h1, fun W1 v H1 l1 s1 ok1 d1 => fin W1 H1 l1 s1 ok1 σ (env.mono l1)⟩
theorem ta_asg {g : TG} {t : T} {D : Ends} (hg : GOk K g t) (h : tS K call (.asg t ce) D σ H) : tAsg (tE K call ce) g D σ H := by
  obtain ⟨W, η, r, ok, env, he, fin⟩ := h
  unfold exc at he
  obtain ⟨⟨d, S1⟩, h1, h2⟩ := bind_one he
  obtain ⟨η1, h3, h4⟩ := bind_some h2
  cases h4
  exact ⟨W, η, _, _, ok, env, h1, fun W1 v H1 l1 s1 ok1 d1 => hg W1 H1 η η1 σ v d _ ok1 (env.mono l1) d1 h3 fun σ' env' _ => fin W1 H1 l1 s1 ok1 σ' env'⟩
theorem s_set {i : Nat} {x : Str} {pos' : Pos} (h : PE X e (tE X.K call ce)) (hN : X.N.Nodup) (hi : X.N[i]? = some x := by rfl) (hx : Loc X.env.scope x := by first | exact Or.inl rfl | exact Or.inr rfl)
    (hs : swapsWith e (some (.Name x pos')) pos.line X.env = pure false := by rfl) (hf : X.fn x = true ∨ X.env.scope.names.lookup x = some .local := by first | exact .inl rfl | exact .inr rfl) :
    PS X (.Assign [.Name x pos'] e pos) (tS X.K call (.asg (.nm i) ce)) := psM (ps_set hN hi hx h hs hf) fun D σ H h => ta_asg (g_nm i) h
theorem s_asg {g : TG} {t : T} (hg : GOk X.K g t) (h : PE X e (tE X.K call ce)) (ht : PG X tg g) (hs : swapsWithSole [tg] e pos.line X.env = pure false := by rfl) (hw : swappedStores [tg] e X.env = pure none := by rfl)
    (ha : List.map (fun x => x.snd) (assignEach [tg] X.env) = [assign tg X.env] := by rfl) : PS X (.Assign [tg] e pos) (tS X.K call (.asg t ce)) := psM (ps_asg h ht hs hw ha) fun D σ H h => ta_asg hg h
theorem s_par {i j : Nat} {x y : Str} {a b : Expr} {px py pt pt2 : Pos} {kt k2 : Nat} (hc : X.calm = true) (hN : X.N.Nodup) (h : PA X [a, b] (tA X.K call ce)) (hi : X.N[i]? = some x := by rfl) (hj : X.N[j]? = some y := by rfl) (hij : i ≠ j := by decide)
    (hx : List.lookup x X.env.scope.names = some NameKind.local := by rfl) (hy : List.lookup y X.env.scope.names = some NameKind.local := by rfl)
    (hw : swappedStores [Expr.Tuple [Expr.Name x px, Expr.Name y py] kt pt] (Expr.Tuple [a, b] k2 pt2) X.env = pure (some [x, y]) := by rfl)
    (hs : swapsWithSole [Expr.Tuple [Expr.Name x px, Expr.Name y py] kt pt] (Expr.Tuple [a, b] k2 pt2) pos.line X.env = pure false := by rfl) :
    PS X (.Assign [.Tuple [.Name x px, .Name y py] kt pt] (.Tuple [a, b] k2 pt2) pos) (tS X.K call (.par i j ce)) := psM (ps_par hc hN hi hj hij hx hy h hw hs) fun D σ H h => by
  obtain ⟨W, η, r, ok, env, he, fin⟩ := h
  unfold exc at he
  obtain ⟨⟨ds, S1⟩, h1, h2⟩ := bind_some he
  dsimp only at h2
  split at h2
  · cases h2
    refine ⟨W, η, _, _, ok, env, h1, fun W1 vs H1 l1 s1 ok1 d1 => ?_⟩
    cases d1 with
    | cons a1 a2 =>
      cases a2 with
      | cons b1 b2 =>
        cases b2
        exact ⟨_, _, rfl, fin W1 H1 l1 s1 ok1 _ (((env.mono l1).set i a1).set j b1)⟩
  · cases h2
theorem s_if {c : Expr} {a b : List Stmt} (hc : PT X c (tT X.K call cc)) (ha : PSs X a (tS X.K call ca)) (hb : PSs X b (tS X.K call cb)) : PS X (.If c a b pos) (tS X.K call (.ite cc ca cb)) := psM (ps_if hc ha hb) fun D σ H h => by
  obtain ⟨W, η, r, ok, env, he, fin⟩ := h
  unfold exc at he
  obtain ⟨⟨d, S1⟩, h1, h2⟩ := bind_one he
  dsimp only at h1 h2
  split at h2
  · refine ⟨W, η, true, S1, ok, env, h1, fun W1 H1 l1 s1 ok1 => ?_⟩
    refine iteT ?_
    exact ⟨W1, η, r, ok1, env.mono l1, by rw [s1]; exact h2, fin.mono l1⟩
  · refine ⟨W, η, false, S1, ok, env, h1, fun W1 H1 l1 s1 ok1 => ?_⟩
    refine iteF ?_
    exact ⟨W1, η, r, ok1, env.mono l1, by rw [s1]; exact h2, fin.mono l1⟩
  · cases h2
theorem tfor {g : TG} {t : T} {wi : TI} {D : Ends} (hg : GOk K g t) (hwi : ∀ R, tI K call it σ H R → wi σ H R) (h : tS K call (.forr t it ca) D σ H) : tFor wi g (tS K call ca) D σ H := by
  obtain ⟨W, η, r, ok, env, he, fin⟩ := h
  unfold exc at he
  obtain ⟨⟨items, S1⟩, h1, h2⟩ := bind_some he
  refine hwi _ ⟨W, η, items, S1, ok, env, h1, fun W1 J H1 l1 s1 ok1 gs => ?_⟩
  refine ⟨fun i m σc Hc => m = items.length - i ∧ i ≤ items.length ∧ ∃ (Wc : Wd) (ηc : En), Le W1 Wc ∧ Wok K Wc Hc ∧ EnvOk K Wc ηc σc ∧ loopF (exc call ca) t (items.drop i) ηc Wc.S = some r, ⟨items.length, by simp, Nat.zero_le _, W1, η, Le.refl _, ok1, env.mono l1, by
    show loopF (exc call ca) t (items.drop 0) η W1.S = some r
    rw [s1]; exact h2⟩, ?_⟩
  rintro i m σc Hc ⟨rfl, hi, Wc, ηc, lc, okc, envc, hrun⟩
  obtain ⟨g1, g2⟩ := gs i Wc Hc lc.l0 okc
  rcases Nat.lt_or_ge i items.length with hlt | hge
  · have hitem : items[i]? = some items[i] := by simp [hlt]
    obtain ⟨hgo, hy⟩ := g2 _ hitem
    have hdrop : items.drop i = items[i] :: items.drop (i + 1) := List.drop_eq_getElem_cons hlt
    rw [hdrop] at hrun
    unfold loopF at hrun
    obtain ⟨η1, hb, hrun⟩ := bind_some hrun
    obtain ⟨⟨fl, η2, S2⟩, hbody, hrun⟩ := bind_some hrun
    dsimp only at hrun
    refine .inr ⟨hgo, fun σ' H' => ∃ (Wn : Wd) (ηn : En), Le W1 Wn ∧ Wok K Wn H' ∧ EnvOk K Wn ηn σ' ∧ loopF (exc call ca) t (items.drop (i + 1)) ηn Wn.S = some r, fun σ' H' hN => ⟨items.length - (i + 1), by omega, rfl, hlt, hN⟩, fun x H' hyl => ?_⟩
    obtain ⟨Wy, ly, sy, oky, dy⟩ := hy x H' hyl
    refine hg Wy H' ηc η1 σc x _ _ oky (envc.mono ly) dy hb fun σ' env' _ => ?_
    refine ⟨Wy, η1, (fl, η2, S2), oky, env', by rw [sy]; exact hbody, fun W3 H3 l3 s3 ok3 => ?_⟩
    have l13 := (lc.trans ly).trans l3
    cases fl with
    | nx => exact fun σ3 env3 => ⟨W3, η2, l13, ok3, env3, by rw [s3]; exact hrun⟩
    | cnt => exact fun σ3 env3 => ⟨W3, η2, l13, ok3, env3, by rw [s3]; exact hrun⟩
    | brk => cases hrun; exact fun σ3 env3 => fin W3 H3 (l1.trans l13) s3 ok3 σ3 env3
    | ret d => cases hrun; exact fun v dv => fin W3 H3 (l1.trans l13) s3 ok3 v dv
  · refine .inl ⟨g1 hge, ?_⟩
    have e0 : items.drop i = [] := List.drop_eq_nil_of_le hge
    rw [e0] at hrun
    unfold loopF at hrun
    cases hrun
    exact fin Wc Hc (l1.trans lc) rfl okc σc envc
theorem s_for {g : TG} {t : T} (hg : GOk X.K g t) (hp : PassesOwn (model X.prog X.w) X.A X.env X.xe) (hc : X.calm = true) (hi : PI X tg iter (tI X.K call it)) (ht : PG X tg g) (hb : PSs X body (tS X.K call ca)) (hf : ∀ (x : Value), foldedSetIterable iter X.env x = pure x := by intro _; rfl) :
    PS X (.For tg iter body [] pos) (tS X.K call (.forr t it ca)) := psM (ps_for hp hc hi ht hb hf) fun D σ H h => tfor hg (fun _ q => q) h
theorem twhile {n : Nat} {D : Ends} (h : tS K call (.whl n cc ca) D σ H) : tWhile (tT K call cc) (tS K call ca) D σ H := by
  obtain ⟨W, η, r, ok, env, he, fin⟩ := h
  unfold exc at he
  refine ⟨fun m σc Hc => ∃ (Wc : Wd) (ηc : En), Le W Wc ∧ Wok K Wc Hc ∧ EnvOk K Wc ηc σc ∧ loopW (ev call cc) (exc call ca) m ηc Wc.S = some r, ⟨n, W, η, Le.refl _, ok, env, he⟩, ?_⟩
  rintro m σc Hc ⟨Wc, ηc, lc, okc, envc, hrun⟩
  cases m with
  | zero => unfold loopW at hrun; cases hrun
  | succ m =>
    unfold loopW at hrun
    obtain ⟨⟨d, S1⟩, h1, hrun⟩ := bind_one hrun
    dsimp only at h1 hrun
    split at hrun
    · obtain ⟨⟨fl, η2, S2⟩, hbody, hrun⟩ := bind_some hrun
      dsimp only at hrun
      refine ⟨Wc, ηc, true, S1, okc, envc, h1, fun W1 H1 l1 s1 ok1 => ?_⟩
      refine iteT ?_
      refine ⟨fun σ' H' => ∃ (Wn : Wd) (ηn : En), Le W Wn ∧ Wok K Wn H' ∧ EnvOk K Wn ηn σ' ∧ loopW (ev call cc) (exc call ca) m ηn Wn.S = some r, fun σ' H' hN => ⟨m, Nat.lt_succ_self m, hN⟩, ?_⟩
      refine ⟨W1, ηc, (fl, η2, S2), ok1, envc.mono l1, by rw [s1]; exact hbody, fun W3 H3 l3 s3 ok3 => ?_⟩
      have l13 := (lc.trans l1).trans l3
      cases fl with
      | nx => exact fun σ3 env3 => ⟨W3, η2, l13, ok3, env3, by rw [s3]; exact hrun⟩
      | cnt => exact fun σ3 env3 => ⟨W3, η2, l13, ok3, env3, by rw [s3]; exact hrun⟩
      | brk => cases hrun; exact fun σ3 env3 => fin W3 H3 l13 s3 ok3 σ3 env3
      | ret d => cases hrun; exact fun v dv => fin W3 H3 l13 s3 ok3 v dv
    · cases hrun
      refine ⟨Wc, ηc, false, S1, okc, envc, h1, fun W1 H1 l1 s1 ok1 => ?_⟩
      refine iteF ?_
      exact fin W1 H1 (lc.trans l1) s1 ok1 σc (envc.mono l1)
    · cases hrun
theorem s_while {c : Expr} (n : Nat) (hp : PassesOwn (model X.prog X.w) X.A X.env X.xe) (hc : PT X c (tT X.K call cc)) (hb : PSs X body (tS X.K call ca)) : PS X (.While c body [] pos) (tS X.K call (.whl n cc ca)) := psM (ps_while hp hc hb) fun D σ H h => twhile h
end
structure Def where
  slots : Nat
  ar : Nat
  star : Bool
  body : C
def startE (n : Nat) (ds : List D) : En := ds.map some ++ List.replicate (n - ds.length) none
def runD (call : CallT) (d : Def) (ds : List D) (S : List SO) : Option (D × List SO) := (exc call d.body (startE d.slots ds) S).bind fun r => match r.1 with
  | .ret x => some (x, r.2.2)
  | .nx => some (.none, r.2.2)
  | _ => none
def callN (tab : Nat → Option Def) : Nat → CallT
  | 0, _, _, _ => none
  | k + 1, f, ds, S => match tab f with
    | some d => match d.star with
      | false => if ds.length = d.ar then runD (callN tab k) d ds S else none
      | true => if d.ar ≤ ds.length ∧ ds.length ≤ 100000 then runD (callN tab k) d (ds.take d.ar ++ [.tuple (ds.drop d.ar)]) S else none
    | none => none
theorem envOk_start {K : PySem.W.Frag} {W : Wd} {N : List Str} {vs : List V} {ds : List D} (r : DenA K W.F W.ρ vs ds) : EnvOk K W (startE N.length ds) (start N vs) := by
  have hl := r.length
  refine ⟨by simp [startE, L2.start, hl], fun i d e => ?_⟩
  unfold startE at e
  rcases Nat.lt_or_ge i ds.length with q | q
  · rw [List.getElem?_append_left (by simpa using q), List.getElem?_map] at e
    have e2 : ds[i]? = some d := by
      cases h : ds[i]? with
      | none => rw [h] at e; cases e
      | some c => rw [h] at e; simpa using e
    obtain ⟨v, h1, h2⟩ := r.get e2
    refine ⟨v, ?_, h2⟩
    unfold L2.start
    rw [List.getElem?_append_left (by simp; omega), List.getElem?_map, h1]
    rfl
  · rw [List.getElem?_append_right (by simpa using q)] at e
    rw [List.getElem?_replicate] at e
    split at e <;> cases e
section
variable {P : Program} {w : World} {K : PySem.W.Frag} {mg : Str → Option Value} {base : Heap}
theorem run_den {call : CallT} {d : Def} {ds : List D} {x : D} {S' : List SO} {W : Wd} {H : Hp} {vs : List V} {N : List Str} {Q : VK} (hslots : d.slots = N.length) (ok : Wok K W H) (dn : DenA K W.F W.ρ vs ds) (hc : runD call d ds W.S = some (x, S')) (fin : FinV K W S' x Q) :
    tS K call d.body { nx := fun _ H' => Q .non H', rt := Q } (L2.start N vs) H := by
  unfold runD at hc
  obtain ⟨⟨fl, η', S1⟩, he, hc⟩ := bind_some hc
  rw [hslots] at he
  dsimp only at hc
  refine ⟨W, _, (fl, η', S1), ok, envOk_start dn, he, fun W1 H1 l1 s1 ok1 => ?_⟩
  cases fl with
  | nx => cases hc; exact fun σ' _ => fin W1 .non H1 l1 s1 ok1 .non
  | ret y => cases hc; exact fun v dv => fin W1 v H1 l1 s1 ok1 dv
  | brk => cases hc
  | cnt => cases hc
theorem fn_ok {tab : Nat → Option Def} {j : Nat} {d : Def} {x qual : Str} {st : Stmt} {f : Addr} {fd : FuncData} {N ps : List Str} {k : Nat} (F : Fun K x qual st f fd) (S : FnScope N ps (defScope st)) (htab : tab j = some d) (hstar : d.star = false) (hslots : d.slots = N.length) (har : d.ar = ps.length)
    (hbody : ∀ (cdv : Value) (A : Around) (outer : List Env) (s : Shared) (H : Hp) (E : XK), Room k (A.deeper (envOfC qual (defScope st) s.heap.objs.size f cdv)) →
      PSs (cxOf CX0 P w K mg base N qual (defScope st) f cdv A outer s H E).nox (defBody st) (tS K (callN tab k) d.body)) : FnOk P w K mg base CX0 (k + 1) f fd ps (spK K (callN tab (k + 1)) j) := by
  have key : ∀ {ds : List D} {S : List SO} {z : D × List SO}, callN tab (k + 1) j ds S = some z → ds.length = d.ar ∧ runD (callN tab k) d ds S = some z := fun {ds S z} hc => by
    unfold callN at hc
    rw [htab] at hc
    dsimp only at hc
    rw [hstar] at hc
    dsimp only at hc
    split at hc
    · rename_i hl; exact ⟨hl, hc⟩
    · cases hc
  refine F.ok S (fun vs H Q E h => ?_) (fun cdv A outer s H vs Q E hr h => ⟨_, hbody cdv A outer s H E hr, ?_⟩)
  · obtain ⟨W, ds, x, S', ok, dn, hc, fin⟩ := h
    rw [dn.length, (key hc).1, har]
  · obtain ⟨W, ds, x, S', ok, dn, hc, fin⟩ := h
    exact run_den hslots ok dn (key hc).2 fin
theorem fn_def {tab : Nat → Option Def} {j : Nat} {d : Def} {x qual : Str} {st : Stmt} {f : Addr} {fd : FuncData} {N ps : List Str} {k : Nat} (F : Fun K x qual st f fd) (S : FnScope N ps (defScope st)) (hb : Binds K fd ps []) (htab : tab j = some d) (hstar : d.star = false) (hslots : d.slots = N.length) (har : d.ar = ps.length)
    (hbody : ∀ (cdv : Value) (A : Around) (outer : List Env) (s : Shared) (H : Hp) (E : XK), Room k (A.deeper (envOfC qual (defScope st) s.heap.objs.size f cdv)) →
      PSs (cxOf CX0 P w K mg base N qual (defScope st) f cdv A outer s H E).nox (defBody st) (tS K (callN tab k) d.body)) : FnR P w K mg base CX0 (k + 1) f (spK K (callN tab (k + 1)) j) :=
  ((fn_ok F S htab hstar hslots har hbody).raw hb (dvs := []) .nil).imp fun vs H Q E h => by
    show spK K (callN tab (k + 1)) j (vs ++ []) H Q E
    rw [List.append_nil]
    exact h
theorem DenA.split {F : Hp} {ρ : List Addr} : ∀ {vs : List V} {ds : List D} (n : Nat), DenA K F ρ vs ds → DenA K F ρ (vs.take n) (ds.take n) ∧ DenA K F ρ (vs.drop n) (ds.drop n) := fun n h => ⟨h.take n, h.drop n⟩
/-- def f(a, .., *rest) -/
theorem fn_st {tab : Nat → Option Def} {j : Nat} {d : Def} {x qual : Str} {st : Stmt} {f : Addr} {fd : FuncData} {N ps : List Str} {pv : Str} {k : Nat} (F : Fun K x qual st f fd) (S : FnScope N (ps ++ [pv]) (defScope st)) (htab : tab j = some d) (hstar : d.star = true) (hslots : d.slots = N.length) (har : d.ar = ps.length)
    (hb : ∀ (kV doc pm : Value) (an : Option Addr) (cdv ct : Value) (us rest : List Value), us.length = ps.length → bindArgs (PySem.W.fnOf x qual (defArgs st) (defBody st) (defScope st) .none kV doc pm an cdv ct) ⟨us ++ rest, []⟩ = (newTuple rest >>= fun t => pure (ps.zip us ++ [(pv, t)])))
    (hbody : ∀ (cdv : Value) (A : Around) (outer : List Env) (s : Shared) (H : Hp) (E : XK), Room k (A.deeper (envOfC qual (defScope st) s.heap.objs.size f cdv)) →
      PSs (cxOf CX0 P w K mg base N qual (defScope st) f cdv A outer s H E).nox (defBody st) (tS K (callN tab k) d.body)) : FnR P w K mg base CX0 (k + 1) f (spK K (callN tab (k + 1)) j) := by
  have key : ∀ {ds : List D} {S : List SO} {z : D × List SO}, callN tab (k + 1) j ds S = some z → (d.ar ≤ ds.length ∧ ds.length ≤ 100000) ∧ runD (callN tab k) d (ds.take d.ar ++ [.tuple (ds.drop d.ar)]) S = some z := fun {ds S z} hc => by
    unfold callN at hc
    rw [htab] at hc
    dsimp only at hc
    rw [hstar] at hc
    dsimp only at hc
    split at hc
    · rename_i hl; exact ⟨hl, hc⟩
    · cases hc
  obtain ⟨oc, od, kV, doc, pm, an, cdv, ct, osl, rfl, lk, hcd⟩ := F.ex
  let sp2 : Sp := fun vs H Q _ => ∃ (W : Wd) (ds : List D) (x : D) (S' : List SO), Wok K W H ∧ DenA K W.F W.ρ vs ds ∧ runD (callN tab k) d ds W.S = some (x, S') ∧ FinV K W S' x Q
  have G : FnR P w K mg base CX0 (k + 1) f (fun vs H Q E => ∃ ws rest, vs = ws ++ rest ∧ ws.length = ps.length ∧ rest.length ≤ sizeLine ∧ ∀ p, H p = Option.none → sp2 (ws ++ [V.ref p]) (upd H p (.tup rest)) Q E) :=
    StX.fn_star (sp := sp2) lk hcd S StX.cxUp_none (fun us rest hl => hb kV doc pm an cdv ct us rest hl) fun A outer s H vs Q E hr h => ⟨_, (hbody cdv A outer s H E hr).nox, by
      obtain ⟨W, ds, x, S', ok, dn, hc, fin⟩ := h
      exact run_den hslots ok dn hc fin⟩
  refine G.imp fun vs H Q E h => ?_
  obtain ⟨W, ds, x, S', ok, dn, hc, fin⟩ := h
  obtain ⟨hl, hrun⟩ := key hc
  refine ⟨vs.take ps.length, vs.drop ps.length, (List.take_append_drop _ _).symm, ?_, ?_, fun p hp => ?_⟩
  · rw [List.length_take, dn.length, ← har]; omega
  · exact Evl.sz_of (by rw [List.length_drop, dn.length]; omega)
  · obtain ⟨ok2, l, s2, e⟩ := ok.lay (o := .tup (vs.drop ps.length)) hp
    refine ⟨W.lay p (.tup (vs.drop ps.length)), _, x, S', ok2, ?_, hrun, fun W' v H' l' s' ok' d' => fin W' v H' (l.trans l') s' ok' d'⟩
    rw [har]
    exact (l.dena (dn.take _)).append (.cons (.tup e (l.dena (dn.drop _))) .nil)
theorem fn_none {tab : Nat → Option Def} {k j : Nat} {f : Addr} (h : tab j = none) : FnR P w K mg base CX0 k f (spK K (callN tab k) j) := fun A outer s H us vs Q E hr e0 r h2 => by
  obtain ⟨W, ds, x, S', ok, dn, hc, fin⟩ := h2
  cases k with
  | zero => cases hc
  | succ k => unfold callN at hc; rw [h] at hc; cases hc
theorem fn_zero {tab : Nat → Option Def} {j : Nat} {f : Addr} : FnR P w K mg base CX0 0 f (spK K (callN tab 0) j) := fun A outer s H us vs Q E hr e0 r h => by
  obtain ⟨W, ds, x, S', ok, dn, hc, fin⟩ := h
  cases hc
end
end Iv

set_option Elab.async false
set_option linter.all false
set_option maxRecDepth 100000
set_option maxHeartbeats 2000000
namespace Iv
open PySem PySem.Spec PyProof.Rows L2
open Evl (Ex ex_l ex_t)

section
variable {X : Cx} {call : CallT} {K : PySem.W.Frag} {σ : L2.St} {H : Hp} {ca cb cc ce : E} {a b c e : Expr} {es : List Expr} {pos : Pos}
def cD (d : D) : E := .prim (fun ds S => match ds with
  | [] => some (d, S)
  | _ => none) .nil
theorem te_cD {d : D} {Q : VK} (h : tE K call (cD d) σ H Q) : ∃ W : Wd, Wok K W H ∧ FinV K W W.S d Q := by
  obtain ⟨W, ds, d', S', ok, dn, hf, fin⟩ := ta_nil (te_args h)
  cases dn with
  | nil =>
    cases hf
    exact ⟨W, ok, fin⟩
theorem k_int {i : Int} {j : Nat} : PE X (.Constant (.int i) j pos) (tE X.K call (cD (.int i))) := peM pe_int fun σ H Q h => by
  obtain ⟨W, ok, fin⟩ := te_cD h
  exact fin W _ H (Le.refl _) rfl ok (.int i)
theorem k_bl {i : Bool} {j : Nat} : PE X (.Constant (.bool i) j pos) (tE X.K call (cD (.bool i))) := peM pe_bl fun σ H Q h => by
  obtain ⟨W, ok, fin⟩ := te_cD h
  exact fin W _ H (Le.refl _) rfl ok (.bl i)
theorem k_non {j : Nat} : PE X (.Constant .none j pos) (tE X.K call (cD .none)) := peM pe_non fun σ H Q h => by
  obtain ⟨W, ok, fin⟩ := te_cD h
  exact fin W _ H (Le.refl _) rfl ok .non
theorem k_str {i : Str} {j : Nat} : PE X (.Constant (.str i) j pos) (tE X.K call (cD (.str i))) := peM pe_str fun σ H Q h => by
  obtain ⟨W, ok, fin⟩ := te_cD h
  exact fin W _ H (Le.refl _) rfl ok (.str i)
/-- a module's constant -/
theorem k_gint {x : Str} {i : Int} (hm : ∃ t, X.mg x = some (.int i t)) (hg : Gl X x := by rfl) (hd : (x == ("__debug__" : Str)) = false := by decide) : PE X (.Name x pos) (tE X.K call (cD (.int i))) := peM (pe_glob (v := .int i) hg hm.choose_spec ⟨_, rfl⟩ hd) fun σ H Q h => by
  obtain ⟨W, ok, fin⟩ := te_cD h
  exact fin W _ H (Le.refl _) rfl ok (.int i)
def i2 (g : Int → Int → Option D) : Prim := fun ds S => match ds with
  | [.int i, .int j] => (g i j).map fun d => (d, S)
  | _ => none
theorem i2_some {g : Int → Int → Option D} {dx dy d : D} {S S' : List SO} (h : i2 g [dx, dy] S = some (d, S')) : ∃ i j, dx = .int i ∧ dy = .int j ∧ g i j = some d ∧ S' = S := by
  unfold i2 at h
  split at h
  · rename_i i j hds
    cases hds
    cases hg : g i j with
    | none => rw [hg] at h; cases h
    | some d' => rw [hg] at h; cases h; exact ⟨i, j, rfl, rfl, hg, rfl⟩
  · cases h
theorem p2_rI {C : Int → Int → Prop} {g : Int → Int → Option D} {h : Int → Int → V} {hd : Int → Int → D} (hv : ∀ F ρ i j, Den K F ρ (h i j) (hd i j)) (hg : ∀ i j d, g i j = some d → C i j ∧ d = hd i j) : P2 K (rI C h) (i2 g) := fun W H x y dx dy d S' Q ok h1 h2 hf fin => by
  obtain ⟨i, j, rfl, rfl, e, rfl⟩ := i2_some hf
  obtain ⟨hc, rfl⟩ := hg i j d e
  cases h1
  cases h2
  exact ⟨i, j, rfl, rfl, hc, fin W _ H (Le.refl _) rfl ok (hv _ _ i j)⟩
theorem p2_rI0 {h : Int → Int → V} {hd : Int → Int → D} (hv : ∀ F ρ i j, Den K F ρ (h i j) (hd i j)) : P2 K (rI0 h) (i2 fun i j => some (hd i j)) := fun W H x y dx dy d S' Q ok h1 h2 hf fin => by
  obtain ⟨i, j, rfl, rfl, e, rfl⟩ := i2_some hf
  cases e
  cases h1
  cases h2
  exact ⟨i, j, rfl, rfl, fin W _ H (Le.refl _) rfl ok (hv _ _ i j)⟩
/-- one of two rules, one of two primitives -/
def orP (f g : Prim) : Prim := fun ds S => match f ds S with
  | some r => some r
  | none => g ds S
theorem p2_or {r r' : V → V → Hp → VK → Prop} {f g : Prim} (h1 : P2 K r f) (h2 : P2 K r' g) : P2 K (fun x y H Q => r x y H Q ∨ r' x y H Q) (orP f g) := fun W H x y dx dy d S' Q ok d1 d2 hf fin => by
  unfold orP at hf
  split at hf
  · rename_i r hr
    cases hf
    exact .inl (h1 W H x y dx dy d S' Q ok d1 d2 hr fin)
  · exact .inr (h2 W H x y dx dy d S' Q ok d1 d2 hf fin)
theorem pn_or {r r' : List V → Hp → VK → Prop} {f g : Prim} (h1 : PN K r f) (h2 : PN K r' g) : PN K (fun x H Q => r x H Q ∨ r' x H Q) (orP f g) := fun W H vs ds d S' Q ok d1 hf fin => by
  unfold orP at hf
  split at hf
  · rename_i r hr
    cases hf
    exact .inl (h1 W H vs ds d S' Q ok d1 hr fin)
  · exact .inr (h2 W H vs ds d S' Q ok d1 hf fin)
def addI : Prim := i2 fun i j => some (.int (i + j))
def addS : Prim := fun ds S => match ds with
  | [.str x, .str y] => if x.length + y.length ≤ 100000 then some (.str (x ++ y), S) else none
  | _ => none
def addL : Prim := fun ds S => match ds with
  | [.list xs, .list ys] => if xs.length + ys.length ≤ 100000 then some (.list (xs ++ ys), S) else none
  | _ => none
def addT : Prim := fun ds S => match ds with
  | [.tuple xs, .tuple ys] => if xs.length + ys.length ≤ 100000 ∧ xs.isEmpty = false then some (.tuple (xs ++ ys), S) else none
  | _ => none
def addP : Prim := orP addI (orP addS (orP addL addT))
theorem p2_addS : P2 K (fun x y H Q => ∃ i j, x = .str i ∧ y = .str j ∧ i.length + j.length ≤ sizeLine ∧ Q (.str (i ++ j)) H) addS := fun W H x y dx dy d S' Q ok h1 h2 hf fin => by
  unfold addS at hf
  split at hf
  · rename_i i j hds
    cases hds
    split at hf
    · rename_i hz
      cases hf
      cases h1
      cases h2
      exact ⟨_, _, rfl, rfl, Evl.sz_of hz, fin W _ H (Le.refl _) rfl ok (.str _)⟩
    · cases hf
  · cases hf
theorem p2_addL : P2 K rCat addL := fun W H x y dx dy d S' Q ok h1 h2 hf fin => by
  unfold addL at hf
  split at hf
  · rename_i i j hds
    cases hds
    split at hf
    · rename_i hz
      cases hf
      cases h1 with
      | lst a1 r1 =>
        cases h2 with
        | lst a2 r2 =>
          refine ⟨_, _, _, _, rfl, rfl, ok.ex _ _ a1, ok.ex _ _ a2, Evl.sz_of (by rw [r1.length, r2.length]; exact hz), fun p hp => ?_⟩
          obtain ⟨ok2, l, s, e⟩ := ok.lay (o := .lst _) hp
          exact fin _ _ _ l s ok2 (.lst e (l.dena (r1.append r2)))
    · cases hf
  · cases hf
theorem p2_addT : P2 K (rCatT K) addT := fun W H x y dx dy d S' Q ok h1 h2 hf fin => by
  unfold addT at hf
  split at hf
  · rename_i i j hds
    cases hds
    split at hf
    · rename_i hz
      cases hf
      cases h1 with
      | tup a1 r1 =>
        cases h2 with
        | tup a2 r2 =>
          refine ⟨_, _, _, _, rfl, rfl, SqT.of (ok.ex _ _ a1), SqT.of (ok.ex _ _ a2), ?_, Evl.sz_of (by rw [r1.length, r2.length]; exact hz.1), fun e => ?_, fun e p hp => ?_⟩
          · intro e
            subst e
            cases r1
            cases hz.2
          · subst e
            cases r2
            rw [List.append_nil] at fin
            exact fin W _ H (Le.refl _) rfl ok (.tup a1 r1)
          · obtain ⟨ok2, l, s, e⟩ := ok.lay (o := .tup _) hp
            exact fin _ _ _ l s ok2 (.tup e (l.dena (r1.append r2)))
    · cases hf
  · cases hf
theorem v_add (ha : PE X a (tE X.K call ca)) (hb : PE X b (tE X.K call cb)) : PE X (.BinOp a .Add b pos) (tE X.K call (.prim addP (.cons ca (.cons cb .nil)))) :=
  pe_bin (OpR.or op_add (OpR.or op_add_str (OpR.or op_cat op_catT))) (p2_or (p2_rI0 fun _ _ _ _ => .int _) (p2_or p2_addS (p2_or p2_addL p2_addT))) ha hb
def subP : Prim := i2 fun i j => some (.int (i - j))
theorem v_sub (ha : PE X a (tE X.K call ca)) (hb : PE X b (tE X.K call cb)) : PE X (.BinOp a .Sub b pos) (tE X.K call (.prim subP (.cons ca (.cons cb .nil)))) := pe_bin op_sub (p2_rI0 fun _ _ _ _ => .int _) ha hb
def mulB (i j : Int) : Bool := decide (i.natAbs.log2 + j.natAbs.log2 < 1000000)
def mulI : Prim := i2 fun i j => if mulB i j = true then some (.int (i * j)) else none
def mulL : Prim := fun ds S => match ds with
  | [.list xs, .int k] => if -(2 ^ 63) ≤ k ∧ k < 2 ^ 63 ∧ xs.length * k.toNat ≤ 100000 then some (.list (List.replicate k.toNat xs).flatten, S) else none
  | _ => none
def mulP : Prim := orP mulI mulL
theorem DenA.flatten {F : Hp} {ρ : List Addr} {xs : List V} {ds : List D} (r : DenA K F ρ xs ds) : ∀ n, DenA K F ρ (List.replicate n xs).flatten (List.replicate n ds).flatten
  | 0 => .nil
  | n + 1 => by
    rw [List.replicate_succ, List.replicate_succ, List.flatten_cons, List.flatten_cons]
    exact r.append (DenA.flatten r n)
theorem p2_mulL : P2 K rRep mulL := fun W H x y dx dy d S' Q ok h1 h2 hf fin => by
  unfold mulL at hf
  split at hf
  · rename_i i j hds
    cases hds
    split at hf
    · rename_i hz
      cases hf
      cases h2
      cases h1 with
      | lst a1 r1 =>
        refine ⟨_, _, _, rfl, rfl, ok.ex _ _ a1, hz.1, hz.2.1, Evl.sz_of (by rw [r1.length]; exact hz.2.2), fun p hp => ?_⟩
        obtain ⟨ok2, l, s, e⟩ := ok.lay (o := .lst _) hp
        exact fin _ _ _ l s ok2 (.lst e (l.dena (r1.flatten _)))
    · cases hf
  · cases hf
theorem v_mul (ha : PE X a (tE X.K call ca)) (hb : PE X b (tE X.K call cb)) : PE X (.BinOp a .Mult b pos) (tE X.K call (.prim mulP (.cons ca (.cons cb .nil)))) :=
  pe_bin (OpR.or op_mulW op_rep) (p2_or (p2_rI (hd := fun i j => .int (i * j)) (fun _ _ _ _ => .int _) fun i j d e => by
    split at e
    · rename_i hb
      cases e
      exact ⟨(show i.natAbs.log2 + j.natAbs.log2 < 1000000 from of_decide_eq_true hb), rfl⟩
    · cases e) p2_mulL) ha hb
def divP : Prim := i2 fun i j => if 0 < j ∧ j.natAbs.log2 < 9000 then some (.int (i / j)) else none
theorem v_div (ha : PE X a (tE X.K call ca)) (hb : PE X b (tE X.K call cb)) : PE X (.BinOp a .FloorDiv b pos) (tE X.K call (.prim divP (.cons ca (.cons cb .nil)))) :=
  pe_bin op_fdivW (p2_rI (hd := fun i j => .int (i / j)) (fun _ _ _ _ => .int _) fun i j d e => by
    split at e
    · rename_i hb
      cases e
      exact ⟨hb, rfl⟩
    · cases e) ha hb
def modP : Prim := i2 fun i j => if 0 < j then some (.int (i % j)) else none
theorem v_mod (ha : PE X a (tE X.K call ca)) (hb : PE X b (tE X.K call cb)) : PE X (.BinOp a .Mod b pos) (tE X.K call (.prim modP (.cons ca (.cons cb .nil)))) :=
  pe_bin op_mod (p2_rI (hd := fun i j => .int (i % j)) (fun _ _ _ _ => .int _) fun i j d e => by
    split at e
    · rename_i hb
      cases e
      exact ⟨hb, rfl⟩
    · cases e) ha hb
theorem bits_log (x : Int) : Builtin.Int.intBits x ≤ x.natAbs.log2 + 1 := by
  unfold Builtin.Int.intBits
  split
  · omega
  · exact Nat.le_refl _
def powB (i j : Int) : Bool := decide (0 ≤ j ∧ (i.natAbs.log2 + 1) * j.toNat ≤ 2 ^ 27)
theorem op_powB : OpR X (binaryOp .Pow) (rI (fun i j => powB i j = true) fun i j => .int (i ^ j.toNat)) := opI fun i j t u s Q E hc q => by
  obtain ⟨h0, h1⟩ := of_decide_eq_true hc
  refine pow_int h0 ?_ q
  have h2 : Builtin.Int.intBits i * j.toNat ≤ (i.natAbs.log2 + 1) * j.toNat := Nat.mul_le_mul_right _ (bits_log i)
  have h3 : ((Builtin.Int.intBits i * j.toNat : Nat) : Int) ≤ 2 ^ 27 := by
    have : Builtin.Int.intBits i * j.toNat ≤ 2 ^ 27 := Nat.le_trans h2 h1
    exact_mod_cast this
  rw [Int.natCast_mul, Int.toNat_of_nonneg h0] at h3
  exact h3
def powP : Prim := i2 fun i j => if powB i j = true then some (.int (i ^ j.toNat)) else none
theorem v_pow (ha : PE X a (tE X.K call ca)) (hb : PE X b (tE X.K call cb)) : PE X (.BinOp a .Pow b pos) (tE X.K call (.prim powP (.cons ca (.cons cb .nil)))) :=
  pe_bin op_powB (p2_rI (hd := fun i j => .int (i ^ j.toNat)) (fun _ _ _ _ => .int _) fun i j d e => by
    split at e
    · rename_i hb
      cases e
      exact ⟨hb, rfl⟩
    · cases e) ha hb
def negP : Prim := fun ds S => match ds with
  | [.int i] => some (.int (-i), S)
  | _ => none
theorem v_neg (ha : PE X a (tE X.K call ca)) : PE X (.UnaryOp .USub a pos) (tE X.K call (.prim negP (.cons ca .nil))) := pe_u1 un_neg (fun W H x dx d S' Q ok h1 hf fin => by
  unfold negP at hf
  split at hf
  · rename_i i hds
    cases hds
    cases hf
    cases h1
    exact ⟨_, rfl, fin W _ H (Le.refl _) rfl ok (.int _)⟩
  · cases hf) ha
def scalD : D → D → Bool
  | .none, .none => true
  | .none, .int _ => true
  | .int _, .none => true
  | .none, .bool _ => true
  | .bool _, .none => true
  | .none, .str _ => true
  | .str _, .none => true
  | .int _, .int _ => true
  | .bool _, .bool _ => true
  | .str _, .str _ => true
  | .int _, .str _ => true
  | .str _, .int _ => true
  | .bool _, .str _ => true
  | .str _, .bool _ => true
  | _, _ => false
def scalE : D → D → Bool
  | .none, .none => true
  | .int i, .int j => decide (i = j)
  | .bool i, .bool j => decide (i = j)
  | .str i, .str j => decide (i = j)
  | _, _ => false
def eqD (d e : D) : Option Bool := if scalD d e = true then some (scalE d e) else if plain (er d) = true ∧ plain (er e) = true ∧ SeqAt.shaped (er d) = true ∧ SeqAt.shaped (er e) = true then some (PyData.eqv (er d) (er e)) else none
def eqP : Prim := fun ds S => match ds with
  | [x, y] => (eqD x y).map fun k => (.bool k, S)
  | _ => none
def neP : Prim := fun ds S => match ds with
  | [x, y] => (eqD x y).map fun k => (.bool (!k), S)
  | _ => none
theorem scal_den {F : Hp} {ρ : List Addr} {x y : V} {dx dy : D} (h1 : Den K F ρ x dx) (h2 : Den K F ρ y dy) (h : scalD dx dy = true) : scal x y = true ∧ decide (x = y) = scalE dx dy := by
  cases h1 <;> cases h2 <;> first | (cases h; done) | (refine ⟨rfl, ?_⟩; simp [scalE])
theorem eq_den {W : Wd} {x y : V} {dx dy : D} {k : Bool} (ok : Wok K W H) (h1 : Den K W.F W.ρ x dx) (h2 : Den K W.F W.ρ y dy) (h : eqD dx dy = some k) :
    (scal x y = true ∧ decide (x = y) = k) ∨ (Dp K H x (er dx) ∧ Dp K H y (er dy) ∧ SeqAt.shaped (er dx) = true ∧ SeqAt.shaped (er dy) = true ∧ PyData.eqv (er dx) (er dy) = k) := by
  unfold eqD at h
  split at h
  · rename_i hs
    cases h
    exact .inl (scal_den h1 h2 hs)
  · split at h
    · rename_i hp
      cases h
      exact .inr ⟨h1.der ok.ex hp.1, h2.der ok.ex hp.2.1, hp.2.2.1, hp.2.2.2, rfl⟩
    · cases h
theorem p2_eq : P2 K (fun x y H Q => rEq x y H Q ∨ rEqD K x y H Q) eqP := fun W H x y dx dy d S' Q ok h1 h2 hf fin => by
  unfold eqP at hf
  dsimp only at hf
  cases he : eqD dx dy with
  | none => rw [he] at hf; cases hf
  | some k =>
    rw [he] at hf
    cases hf
    rcases eq_den ok h1 h2 he with ⟨g1, g2⟩ | ⟨g1, g2, g3, g4, g5⟩
    · exact .inl ⟨g1, by rw [g2]; exact fin W _ H (Le.refl _) rfl ok (.bl k)⟩
    · exact .inr ⟨er dx, er dy, g1, g2, g3, g4, by rw [g5]; exact fin W _ H (Le.refl _) rfl ok (.bl k)⟩
theorem p2_ne : P2 K (fun x y H Q => rNe x y H Q ∨ rNeD K x y H Q) neP := fun W H x y dx dy d S' Q ok h1 h2 hf fin => by
  unfold neP at hf
  dsimp only at hf
  cases he : eqD dx dy with
  | none => rw [he] at hf; cases hf
  | some k =>
    rw [he] at hf
    cases hf
    rcases eq_den ok h1 h2 he with ⟨g1, g2⟩ | ⟨g1, g2, g3, g4, g5⟩
    · exact .inl ⟨g1, by rw [g2]; exact fin W _ H (Le.refl _) rfl ok (.bl (!k))⟩
    · exact .inr ⟨er dx, er dy, g1, g2, g3, g4, by rw [g5]; exact fin W _ H (Le.refl _) rfl ok (.bl (!k))⟩
theorem hu64 {A : Around} {k : Nat} (hr : Room k A) : A.units + 64 < cLine := hr.units
theorem v_eq (hu : X.A.units + 64 < cLine) (ha : PE X a (tE X.K call ca)) (hb : PE X b (tE X.K call cb)) : PE X (.Compare a [.Eq] [b] pos) (tE X.K call (.prim eqP (.cons ca (.cons cb .nil)))) := pe_c2 (OpR.or op_eq (op_eqD hu)) p2_eq ha hb (nobehind _ (by decide) (by decide))
theorem v_ne (hu : X.A.units + 64 < cLine) (ha : PE X a (tE X.K call ca)) (hb : PE X b (tE X.K call cb)) : PE X (.Compare a [.NotEq] [b] pos) (tE X.K call (.prim neP (.cons ca (.cons cb .nil)))) := pe_c2 (OpR.or op_ne (op_neD hu)) p2_ne ha hb (nobehind _ (by decide) (by decide))
theorem t_eq (hu : X.A.units + 64 < cLine) (ha : PE X a (tE X.K call ca)) (hb : PE X b (tE X.K call cb)) : PT X (.Compare a [.Eq] [b] pos) (tT X.K call (.prim eqP (.cons ca (.cons cb .nil)))) := pt_c2 (OpR.or op_eq (op_eqD hu)) p2_eq ha hb (nobehind _ (by decide) (by decide))
theorem t_ne (hu : X.A.units + 64 < cLine) (ha : PE X a (tE X.K call ca)) (hb : PE X b (tE X.K call cb)) : PT X (.Compare a [.NotEq] [b] pos) (tT X.K call (.prim neP (.cons ca (.cons cb .nil)))) := pt_c2 (OpR.or op_ne (op_neD hu)) p2_ne ha hb (nobehind _ (by decide) (by decide))
/-- order: of ints, of texts -/
def ordS (g : List Nat → List Nat → Bool) : Prim := fun ds S => match ds with
  | [.str x, .str y] => some (.bool (g x.cps.toList y.cps.toList), S)
  | _ => none
theorem p2_ordS {g : List Nat → List Nat → Bool} : P2 K (fun x y H Q => ∃ i j, x = .str i ∧ y = .str j ∧ Q (.bl (g i.cps.toList j.cps.toList)) H) (ordS g) := fun W H x y dx dy d S' Q ok h1 h2 hf fin => by
  unfold ordS at hf
  split at hf
  · rename_i i j hds
    cases hds
    cases hf
    cases h1
    cases h2
    exact ⟨_, _, rfl, rfl, fin W _ H (Le.refl _) rfl ok (.bl _)⟩
  · cases hf
def ordI (g : Int → Int → Bool) : Prim := i2 fun i j => some (.bool (g i j))
def ltP : Prim := orP (ordI fun i j => decide (i < j)) (ordS fun i j => decide (i < j))
def leP : Prim := orP (ordI fun i j => decide (i ≤ j)) (ordS fun i j => !decide (j < i))
def gtP : Prim := orP (ordI fun i j => decide (j < i)) (ordS fun i j => decide (j < i))
def geP : Prim := orP (ordI fun i j => decide (j ≤ i)) (ordS fun i j => !decide (i < j))
theorem p2_lt : P2 K (fun x y H Q => rI0 (fun i j => .bl (decide (i < j))) x y H Q ∨ (∃ i j, x = .str i ∧ y = .str j ∧ Q (.bl (decide (i.cps.toList < j.cps.toList))) H)) ltP := p2_or (p2_rI0 fun _ _ _ _ => .bl _) p2_ordS
theorem p2_le : P2 K (fun x y H Q => rI0 (fun i j => .bl (decide (i ≤ j))) x y H Q ∨ (∃ i j, x = .str i ∧ y = .str j ∧ Q (.bl (!decide (j.cps.toList < i.cps.toList))) H)) leP := p2_or (p2_rI0 fun _ _ _ _ => .bl _) p2_ordS
theorem p2_gt : P2 K (fun x y H Q => rI0 (fun i j => .bl (decide (j < i))) x y H Q ∨ (∃ i j, x = .str i ∧ y = .str j ∧ Q (.bl (decide (j.cps.toList < i.cps.toList))) H)) gtP := p2_or (p2_rI0 fun _ _ _ _ => .bl _) p2_ordS
theorem p2_ge : P2 K (fun x y H Q => rI0 (fun i j => .bl (decide (j ≤ i))) x y H Q ∨ (∃ i j, x = .str i ∧ y = .str j ∧ Q (.bl (!decide (i.cps.toList < j.cps.toList))) H)) geP := p2_or (p2_rI0 fun _ _ _ _ => .bl _) p2_ordS
theorem v_lt (ha : PE X a (tE X.K call ca)) (hb : PE X b (tE X.K call cb)) : PE X (.Compare a [.Lt] [b] pos) (tE X.K call (.prim ltP (.cons ca (.cons cb .nil)))) := pe_c2 (OpR.or op_lt op_lt_str) p2_lt ha hb (nobehind _ (by decide) (by decide))
theorem v_le (ha : PE X a (tE X.K call ca)) (hb : PE X b (tE X.K call cb)) : PE X (.Compare a [.LtE] [b] pos) (tE X.K call (.prim leP (.cons ca (.cons cb .nil)))) := pe_c2 (OpR.or op_le op_le_str) p2_le ha hb (nobehind _ (by decide) (by decide))
theorem v_gt (ha : PE X a (tE X.K call ca)) (hb : PE X b (tE X.K call cb)) : PE X (.Compare a [.Gt] [b] pos) (tE X.K call (.prim gtP (.cons ca (.cons cb .nil)))) := pe_c2 (OpR.or op_gt op_gt_str) p2_gt ha hb (nobehind _ (by decide) (by decide))
theorem v_ge (ha : PE X a (tE X.K call ca)) (hb : PE X b (tE X.K call cb)) : PE X (.Compare a [.GtE] [b] pos) (tE X.K call (.prim geP (.cons ca (.cons cb .nil)))) := pe_c2 (OpR.or op_ge op_ge_str) p2_ge ha hb (nobehind _ (by decide) (by decide))
theorem t_lt (ha : PE X a (tE X.K call ca)) (hb : PE X b (tE X.K call cb)) : PT X (.Compare a [.Lt] [b] pos) (tT X.K call (.prim ltP (.cons ca (.cons cb .nil)))) := pt_c2 (OpR.or op_lt op_lt_str) p2_lt ha hb (nobehind _ (by decide) (by decide))
theorem t_le (ha : PE X a (tE X.K call ca)) (hb : PE X b (tE X.K call cb)) : PT X (.Compare a [.LtE] [b] pos) (tT X.K call (.prim leP (.cons ca (.cons cb .nil)))) := pt_c2 (OpR.or op_le op_le_str) p2_le ha hb (nobehind _ (by decide) (by decide))
theorem t_gt (ha : PE X a (tE X.K call ca)) (hb : PE X b (tE X.K call cb)) : PT X (.Compare a [.Gt] [b] pos) (tT X.K call (.prim gtP (.cons ca (.cons cb .nil)))) := pt_c2 (OpR.or op_gt op_gt_str) p2_gt ha hb (nobehind _ (by decide) (by decide))
theorem t_ge (ha : PE X a (tE X.K call ca)) (hb : PE X b (tE X.K call cb)) : PT X (.Compare a [.GtE] [b] pos) (tT X.K call (.prim geP (.cons ca (.cons cb .nil)))) := pt_c2 (OpR.or op_ge op_ge_str) p2_ge ha hb (nobehind _ (by decide) (by decide))
/-- is None, is a bool -/
def isNone : D → Bool
  | .none => true
  | _ => false
def isP : Prim := fun ds S => match ds with
  | [d, .none] => some (.bool (isNone d), S)
  | [.bool x, .bool y] => some (.bool (decide (x = y)), S)
  | _ => none
def isntP : Prim := fun ds S => match ds with
  | [d, .none] => some (.bool (!isNone d), S)
  | [.bool x, .bool y] => some (.bool (!decide (x = y)), S)
  | _ => none
theorem none_den {F : Hp} {ρ : List Addr} {x : V} {d : D} (h : Den K F ρ x d) : decide (x = .non) = isNone d := by
  cases h <;> simp [isNone]
theorem p2_is : P2 K (fun x y H Q => (y = .non ∧ Q (.bl (decide (x = .non))) H) ∨ rIsB x y H Q) isP := fun W H x y dx dy d S' Q ok h1 h2 hf fin => by
  unfold isP at hf
  split at hf
  · rename_i d' hds
    cases hds
    cases hf
    cases h2
    exact .inl ⟨rfl, by rw [none_den h1]; exact fin W _ H (Le.refl _) rfl ok (.bl _)⟩
  · rename_i i j hds
    cases hds
    cases hf
    cases h1
    cases h2
    exact .inr ⟨_, _, rfl, rfl, fin W _ H (Le.refl _) rfl ok (.bl _)⟩
  · cases hf
theorem p2_isnt : P2 K (fun x y H Q => (y = .non ∧ Q (.bl (!decide (x = .non))) H) ∨ rNotB x y H Q) isntP := fun W H x y dx dy d S' Q ok h1 h2 hf fin => by
  unfold isntP at hf
  split at hf
  · rename_i d' hds
    cases hds
    cases hf
    cases h2
    exact .inl ⟨rfl, by rw [none_den h1]; exact fin W _ H (Le.refl _) rfl ok (.bl _)⟩
  · rename_i i j hds
    cases hds
    cases hf
    cases h1
    cases h2
    exact .inr ⟨_, _, rfl, rfl, fin W _ H (Le.refl _) rfl ok (.bl _)⟩
  · cases hf
theorem v_is (ha : PE X a (tE X.K call ca)) (hb : PE X b (tE X.K call cb)) : PE X (.Compare a [.Is] [b] pos) (tE X.K call (.prim isP (.cons ca (.cons cb .nil)))) := pe_c2 (OpR.or op_isN op_isBl) p2_is ha hb (nobehind _ (by decide) (by decide))
theorem v_isnt (ha : PE X a (tE X.K call ca)) (hb : PE X b (tE X.K call cb)) : PE X (.Compare a [.IsNot] [b] pos) (tE X.K call (.prim isntP (.cons ca (.cons cb .nil)))) := pe_c2 (OpR.or op_notN op_notBl) p2_isnt ha hb (nobehind _ (by decide) (by decide))
theorem t_is (ha : PE X a (tE X.K call ca)) (hb : PE X b (tE X.K call cb)) : PT X (.Compare a [.Is] [b] pos) (tT X.K call (.prim isP (.cons ca (.cons cb .nil)))) := pt_c2 (OpR.or op_isN op_isBl) p2_is ha hb (nobehind _ (by decide) (by decide))
theorem t_isnt (ha : PE X a (tE X.K call ca)) (hb : PE X b (tE X.K call cb)) : PT X (.Compare a [.IsNot] [b] pos) (tT X.K call (.prim isntP (.cons ca (.cons cb .nil)))) := pt_c2 (OpR.or op_notN op_notBl) p2_isnt ha hb (nobehind _ (by decide) (by decide))
end
end Iv

set_option Elab.async false
set_option linter.all false
set_option maxRecDepth 100000
set_option maxHeartbeats 2000000
namespace Iv
open PySem PySem.Spec PyProof.Rows L2
open Evl (Ex ex_l ex_t)

section
variable {X : Cx} {call : CallT} {K : PySem.W.Frag} {σ : L2.St} {H : Hp} {ca cb cc ce : E} {a b c e : Expr} {es : List Expr} {pos : Pos}
theorem tchain {r r' : V → V → Hp → VK → Prop} {f g : Prim} {Q : VK} (p : P2 K r f) (p' : P2 K r' g) (h : tE K call (.chn f g ca cb cc) σ H Q) : tChain r r' (tE K call ca) (tE K call cb) (tE K call cc) σ H Q := by
  obtain ⟨W, η, d, S', ok, env, he, fin⟩ := h
  unfold ev at he
  obtain ⟨⟨dx, S1⟩, h1, he⟩ := bind_one he
  obtain ⟨⟨dy, S2⟩, h2, he⟩ := bind_one he
  obtain ⟨⟨dk, S3⟩, h3, he⟩ := bind_some he
  dsimp only at h2 h3 he
  refine ⟨W, η, dx, S1, ok, env, h1, fun W1 x H1 l1 s1 ok1 d1 => ⟨W1, η, dy, S2, ok1, env.mono l1, by rw [s1]; exact h2, fun W2 y H2 l2 s2 ok2 d2 => ?_⟩⟩
  refine p W2 H2 x y dx dy dk S3 _ ok2 (l2.den d1) d2 (by rw [s2]; exact h3) fun W3 v H3 l3 s3 ok3 d3 => ?_
  split at he
  · cases d3
    refine ⟨true, rfl, iteT ?_⟩
    obtain ⟨⟨dz, S4⟩, h4, he⟩ := bind_one he
    obtain ⟨⟨du, S5⟩, h5, he⟩ := bind_some he
    cases he
    refine ⟨W3, η, dz, S4, ok3, env.mono ((l1.trans l2).trans l3), by rw [s3]; exact h4, fun W4 z H4 l4 s4 ok4 d4 => ?_⟩
    exact p' W4 H4 y z dy dz _ _ _ ok4 ((l3.trans l4).den d2) d4 (by rw [s4]; exact h5) fun W5 u H5 l5 s5 ok5 d5 => fin W5 u H5 ((((l1.trans l2).trans l3).trans l4).trans l5) s5 ok5 d5
  · cases d3
    cases he
    exact ⟨false, rfl, iteF (fin W3 _ H3 ((l1.trans l2).trans l3) s3 ok3 (.bl false))⟩
  · cases he
theorem v_chn {op op' : CmpOp} {r r' : V → V → Hp → VK → Prop} {f g : Prim} (ho : OpR X (compareOp op) r) (ho' : OpR X (compareOp op') r') (p : P2 X.K r f) (p' : P2 X.K r' g) (ha : PE X a (tE X.K call ca)) (hb : PE X b (tE X.K call cb)) (hc : PE X c (tE X.K call cc)) (hl : lastMarks [op, op'] [b, c] = false := by rfl) :
    PE X (.Compare a [op, op'] [b, c] pos) (tE X.K call (.chn f g ca cb cc)) := peM (pe_chain ho ho' ha hb hc hl) fun σ H Q h => tchain p p' h
theorem t_chn {op op' : CmpOp} {r r' : V → V → Hp → VK → Prop} {f g : Prim} (ho : OpR X (compareOp op) r) (ho' : OpR X (compareOp op') r') (p : P2 X.K r f) (p' : P2 X.K r' g) (ha : PE X a (tE X.K call ca)) (hb : PE X b (tE X.K call cb)) (hc : PE X c (tE X.K call cc)) (hl : lastMarks [op, op'] [b, c] = false := by rfl) :
    PT X (.Compare a [op, op'] [b, c] pos) (tT X.K call (.chn f g ca cb cc)) := ptM (pt_chain ho ho' ha hb hc hl) fun σ H Q h => tchain p p' (te_bool h)
theorem v_lele (ha : PE X a (tE X.K call ca)) (hb : PE X b (tE X.K call cb)) (hc : PE X c (tE X.K call cc)) (hl : lastMarks [.LtE, .LtE] [b, c] = false := by rfl) : PE X (.Compare a [.LtE, .LtE] [b, c] pos) (tE X.K call (.chn leP leP ca cb cc)) := v_chn (OpR.or op_le op_le_str) (OpR.or op_le op_le_str) p2_le p2_le ha hb hc hl
theorem t_lele (ha : PE X a (tE X.K call ca)) (hb : PE X b (tE X.K call cb)) (hc : PE X c (tE X.K call cc)) (hl : lastMarks [.LtE, .LtE] [b, c] = false := by rfl) : PT X (.Compare a [.LtE, .LtE] [b, c] pos) (tT X.K call (.chn leP leP ca cb cc)) := t_chn (OpR.or op_le op_le_str) (OpR.or op_le op_le_str) p2_le p2_le ha hb hc hl
def tupP : Prim := fun ds S => if ds.length ≤ 100000 then some (.tuple ds, S) else none
def lstP : Prim := fun ds S => if ds.length ≤ 100000 then some (.list ds, S) else none
def newP : Prim := fun ds S => if ds.length ≤ 100000 then some (rf S.length, S ++ [.lst ds]) else none
theorem v_tup (h : PA X es (tA X.K call ca)) : PE X (.Tuple es 0 pos) (tE X.K call (.prim tupP ca)) := peM (pe_tup h) fun σ H Q q => by
  refine to_pn (r := fun xs H1 Q => xs.length ≤ sizeLine ∧ ∀ p, H1 p = none → Q (.ref p) (upd H1 p (.tup xs))) (fun W H vs ds d S' Q ok dn hf fin => ?_) q
  unfold tupP at hf
  split at hf
  · rename_i hz
    cases hf
    refine ⟨Evl.sz_of (by rw [dn.length]; exact hz), fun p hp => ?_⟩
    obtain ⟨ok2, l, s, e⟩ := ok.lay (o := .tup _) hp
    exact fin _ _ _ l s ok2 (.tup e (l.dena dn))
  · cases hf
theorem v_lst (h : PA X es (tA X.K call ca)) : PE X (.List es pos) (tE X.K call (.prim lstP ca)) := peM (pe_lst h) fun σ H Q q => by
  refine to_pn (r := fun xs H1 Q => xs.length ≤ sizeLine ∧ ∀ p, H1 p = none → Q (.ref p) (upd H1 p (.lst xs))) (fun W H vs ds d S' Q ok dn hf fin => ?_) q
  unfold lstP at hf
  split at hf
  · rename_i hz
    cases hf
    refine ⟨Evl.sz_of (by rw [dn.length]; exact hz), fun p hp => ?_⟩
    obtain ⟨ok2, l, s, e⟩ := ok.lay (o := .lst _) hp
    exact fin _ _ _ l s ok2 (.lst e (l.dena dn))
  · cases hf
theorem v_new (h : PA X es (tA X.K call ca)) : PE X (.List es pos) (tE X.K call (.prim newP ca)) := peM (pe_lst h) fun σ H Q q => by
  refine to_pn (r := fun xs H1 Q => xs.length ≤ sizeLine ∧ ∀ p, H1 p = none → Q (.ref p) (upd H1 p (.lst xs))) (fun W H vs ds d S' Q ok dn hf fin => ?_) q
  unfold newP at hf
  split at hf
  · rename_i hz
    cases hf
    refine ⟨Evl.sz_of (by rw [dn.length]; exact hz), fun p hp => ?_⟩
    obtain ⟨ok2, l, e⟩ := ok.push hp dn
    exact fin _ _ _ l rfl ok2 (.ref e)
  · cases hf
def dct0 : Prim := fun ds S => match ds with
  | [] => some (.dict [], S)
  | _ => none
theorem v_dct0 : PE X (.Dict [] [] pos) (tE X.K call (.prim dct0 .nil)) := peM pe_dnewK fun σ H Q h => by
  obtain ⟨W, ds, d, S', ok, dn, hf, fin⟩ := ta_nil (te_args h)
  cases dn
  cases hf
  intro p hp
  obtain ⟨ok2, l, s, e⟩ := ok.lay (o := .dK []) hp
  exact fin _ _ _ l s ok2 (.dct e)
def seqD (d : D) (S : List SO) : Option (List D) := match d with
  | .list xs => some xs
  | .tuple xs => some xs
  | .dict [(.none, .tuple xs)] => some xs
  | .dict [(.int (Int.ofNat i), .none)] => match S[i]? with
    | some (.obj (.lst xs)) => some xs
    | some (.fro xs) => some xs
    | _ => none
  | _ => none
theorem seq_den {W : Wd} {x : V} {d : D} {ds : List D} (ok : Wok K W H) (h : Den K W.F W.ρ x d) (hs : seqD d W.S = some ds) : ∃ p xs, x = .ref p ∧ (SqL K H p xs ∨ SqT K H p xs) ∧ DenA K W.F W.ρ xs ds := by
  cases h with
  | lst h r => cases hs; exact ⟨_, _, rfl, .inl (SqL.of (ok.ex _ _ h)), r⟩
  | tup h r => cases hs; exact ⟨_, _, rfl, .inr (SqT.of (ok.ex _ _ h)), r⟩
  | @ref i a h =>
    unfold seqD at hs
    dsimp only at hs
    split at hs
    · rename_i xs hx
      cases hs
      obtain ⟨a', ys, h1, h2, h3, h4⟩ := ok.lst i _ hx
      rw [h1] at h; cases h
      exact ⟨_, _, rfl, .inl (SqL.of h3), h4⟩
    · rename_i xs hx
      cases hs
      obtain ⟨a', ys, h1, h2, h4⟩ := ok.fro i _ hx
      rw [h1] at h; cases h
      exact ⟨_, _, rfl, .inl (ex_l ok.ex h2), h4⟩
    · cases hs
  | non => cases hs
  | bl => cases hs
  | int => cases hs
  | str => cases hs
  | dct => cases hs
  | exb => cases hs
  | exn => cases hs
  | dc1 => cases hs
  | tws h q r => cases hs; exact ⟨_, _, rfl, .inr (.inl (.inr ⟨_, ok.ex _ _ h⟩)), r⟩
def idxP : Prim := fun ds S => match ds with
  | [.str x, .int j] => if x.length ≤ 100000 then (atI x.cps.toList j).map fun c => (.str ⟨#[c]⟩, S) else none
  | [d, .int j] => (seqD d S).bind fun xs => (atI xs j).map fun y => (y, S)
  | _ => none
theorem at_den {F : Hp} {ρ : List Addr} {xs : List V} {ds : List D} {j : Int} {y : D} (r : DenA K F ρ xs ds) (h : atI ds j = some y) : ∃ v, atI xs j = some v ∧ Den K F ρ v y := by
  unfold atI at h
  obtain ⟨n, h1, h2⟩ := bind_some h
  obtain ⟨v, h3, h4⟩ := r.get h2
  refine ⟨v, ?_, h4⟩
  unfold atI
  rw [r.length, h1]
  exact h3
theorem p2_idx : P2 K (rIx K) idxP := fun W H x y dx dy d S' Q ok h1 h2 hf fin => by
  unfold idxP at hf
  split at hf
  · rename_i z j hds
    cases hds
    split at hf
    · rename_i hz
      cases h1
      cases h2
      cases hc : atI z.cps.toList j with
      | none => rw [hc] at hf; cases hf
      | some c =>
        rw [hc] at hf
        cases hf
        exact .inr (.inr ⟨_, _, c, rfl, rfl, Evl.sz_of hz, hc, fin W _ H (Le.refl _) rfl ok (.str _)⟩)
    · cases hf
  · rename_i d' j hne hds
    cases hds
    cases h2
    obtain ⟨ys, g1, g2⟩ := bind_some hf
    cases hc : atI ys j with
    | none => rw [hc] at g2; cases g2
    | some y =>
      rw [hc] at g2
      cases g2
      obtain ⟨p, xs, rfl, hs, r⟩ := seq_den ok h1 g1
      obtain ⟨v, g3, g4⟩ := at_den r hc
      rcases hs with hs | hs
      · exact .inl ⟨p, xs, j, v, rfl, rfl, hs, g3, fin W _ H (Le.refl _) rfl ok g4⟩
      · exact .inr (.inl ⟨p, xs, j, v, rfl, rfl, hs, g3, fin W _ H (Le.refl _) rfl ok g4⟩)
  · cases hf
theorem v_idx (ha : PE X a (tE X.K call ca)) (hb : PE X b (tE X.K call cb)) (hs : PlainIx b := by exact fun _ _ => rfl) : PE X (.Subscript a b pos) (tE X.K call (.prim idxP (.cons ca (.cons cb .nil)))) := pe_i2 ix_seq p2_idx ha hb hs
/-- xs[i] = v -/
def setL : List D → List SO → Option (List SO) := fun ds S => match ds with
  | [v, .dict [(.int (Int.ofNat i), .none)], .int j] => match S[i]? with
    | some (.obj (.lst xs)) => (ixN xs.length j).map fun n => S.set i (.lst (xs.set n v))
    | _ => none
  | _ => none
theorem s_setix {o i : Expr} {p : Pos} (he : PE X e (tE X.K call ce)) (ho : PE X o (tE X.K call ca)) (hi : PE X i (tE X.K call cb)) (hs : swapsWithSole [.Subscript o i p] e pos.line X.env = pure false := by rfl) (hw : swappedStores [.Subscript o i p] e X.env = pure none := by rfl)
    (ha : List.map (fun x => x.snd) (assignEach [.Subscript o i p] X.env) = [assign (.Subscript o i p) X.env] := by rfl)
    (hst : ∀ v, assign (o.Subscript i p) X.env v = (do let ov ← holding [v] (eval o X.env); let iv ← holding [v, ov] (eval i X.env); standAt p; holding [v, ov, iv] (setItem ov iv v); release [v, ov, iv] []) := by intro _; rfl) : PS X (.Assign [.Subscript o i p] e pos) (tS X.K call (.eff setL (.cons ce (.cons ca (.cons cb .nil))))) := psM (ps_asg he (pg_sub ho hi set_list hst) hs hw ha) fun D σ H h => by
  obtain ⟨W, η, r, ok, env, hev, fin⟩ := h
  unfold exc at hev
  obtain ⟨⟨ds, S4⟩, h1, h2⟩ := bind_some hev
  obtain ⟨S5, h3, h4⟩ := bind_some h2
  cases h4
  obtain ⟨dv, S1, r1, a1, q1, rfl⟩ := evc h1
  obtain ⟨dob, S2, r2, a2, q2, rfl⟩ := evc q1
  obtain ⟨di, S3, r3, a3, q3, rfl⟩ := evc q2
  obtain ⟨rfl, rfl⟩ := evn q3
  dsimp only at h3
  refine ⟨W, η, dv, S1, ok, env, a1, fun W1 v H1 l1 s1 ok1 d1 => ⟨W1, η, dob, S2, ok1, env.mono l1, by rw [s1]; exact a2, fun W2 o' H2 l2 s2 ok2 d2 => ⟨W2, η, di, _, ok2, env.mono (l1.trans l2), by rw [s2]; exact a3, fun W3 i' H3 l3 s3 ok3 d3 => ?_⟩⟩⟩
  unfold setL at h3
  split at h3
  · rename_i vv ii jj hds
    cases hds
    split at h3
    · rename_i xs hx
      cases hn : ixN xs.length jj with
      | none => rw [hn] at h3; cases h3
      | some n =>
        rw [hn] at h3
        cases h3
        cases d3
        rw [← s3] at hx
        obtain ⟨a', ys, g1, g2, g3, g4⟩ := ok3.lst ii _ hx
        cases l3.den d2 with
        | ref g5 =>
          rw [g1] at g5
          cases g5
          refine ⟨_, ys, jj, n, rfl, rfl, g3, by rw [g4.length]; exact hn, ?_⟩
          obtain ⟨ok4, l4⟩ := ok3.put hx g1 (g4.set ((l2.trans l3).den d1) n)
          exact fin _ _ (((l1.trans l2).trans l3).trans l4) (by show W3.S.set ii _ = _; rw [s3]) ok4 σ (env.mono (((l1.trans l2).trans l3).trans l4))
    · cases h3
  · cases h3
end
end Iv

set_option Elab.async false
set_option linter.all false
set_option maxRecDepth 100000
set_option maxHeartbeats 2000000
namespace Iv
open PySem PySem.Spec PyProof.Rows L2
open Evl (Ex ex_l ex_t)

section
variable {X : Cx} {call : CallT} {K : PySem.W.Frag} {σ : L2.St} {H : Hp} {ca cb cc ce : E} {a b c e : Expr} {es : List Expr} {pos : Pos}
def cutD (xs : List D) (lo hi : Option Int) : List D := (xs.drop (HT.sIx xs.length 0 lo)).take (HT.sIx xs.length xs.length hi - HT.sIx xs.length 0 lo)
theorem DenA.cut {F : Hp} {ρ : List Addr} {xs : List V} {ds : List D} (r : DenA K F ρ xs ds) (lo hi : Option Int) : DenA K F ρ (cutV xs lo hi) (cutD ds lo hi) := by
  unfold cutV cutD
  rw [r.length]
  exact (r.drop _).take _
theorem sIx_all {n : Nat} {lo hi : Option Int} {xs : List V} (hn : n = xs.length) (h : HT.sIx n 0 lo = 0 ∧ HT.sIx n n hi = n) : cutV xs lo hi = xs := by
  subst hn
  unfold cutV
  rw [h.1, h.2]
  simp
def slD (d : D) (S : List SO) (lo hi : Option Int) : Option D := match d with
  | .tuple xs => some (.tuple (cutD xs lo hi))
  | .dict [(.none, .tuple _)] => none
  | d => (seqD d S).map fun xs => .list (cutD xs lo hi)
theorem sl_den {W : Wd} {x : V} {dx d : D} {lo hi : Option Int} {Q : VK} (ok : Wok K W H) (h : Den K W.F W.ρ x dx) (hs : slD dx W.S lo hi = some d) (fin : FinV K W W.S d Q) : rSlL K x lo hi H Q ∨ rSlA K x lo hi H Q := by
  unfold slD at hs
  split at hs
  · cases hs
    cases h with
    | tup h r =>
      refine .inr ⟨_, _, rfl, SqT.of (ok.ex _ _ h), fun e => ?_, fun e p hp => ?_⟩
      · have e2 := sIx_all (lo := lo) (hi := hi) rfl e
        have r2 := r.cut lo hi
        rw [e2] at r2
        exact fin W _ H (Le.refl _) rfl ok (.tup h r2)
      · obtain ⟨ok2, l, s, e⟩ := ok.lay (o := .tup _) hp
        exact fin _ _ _ l s ok2 (.tup e (l.dena (r.cut lo hi)))
  · cases hs
  · rename_i hne hnw
    cases hc : seqD dx W.S with
    | none => rw [hc] at hs; cases hs
    | some ys =>
      rw [hc] at hs
      cases hs
      obtain ⟨p, xs, rfl, hq, r⟩ := seq_den ok h hc
      rcases hq with hq | hq
      · refine .inl ⟨p, xs, rfl, hq, fun q hq => ?_⟩
        obtain ⟨ok2, l, s, e⟩ := ok.lay (o := .lst _) hq
        exact fin _ _ _ l s ok2 (.lst e (l.dena (r.cut lo hi)))
      · cases h with
        | lst h' r' => exact .inl ⟨_, _, rfl, SqL.of (ok.ex _ _ h'), fun q hq => by
            obtain ⟨ok2, l, s, e⟩ := ok.lay (o := .lst _) hq
            cases hc
            exact fin _ _ _ l s ok2 (.lst e (l.dena (r'.cut lo hi)))⟩
        | tup h' r' => exact absurd rfl (hne _)
        | tws h' _ r' => exact absurd rfl (hnw _)
        | dct h' => cases hc
        | exb => cases hc
        | exn => cases hc
        | dc1 => cases hc
        | @ref i a h' =>
          unfold seqD at hc
          dsimp only at hc
          split at hc
          · rename_i zs hx
            cases hc
            obtain ⟨a', zs', h1, h2, h3, h4⟩ := ok.lst i _ hx
            rw [h1] at h'; cases h'
            refine .inl ⟨_, zs', rfl, SqL.of h3, fun q hq => ?_⟩
            obtain ⟨ok2, l, s, e⟩ := ok.lay (o := .lst _) hq
            exact fin _ _ _ l s ok2 (.lst e (l.dena (h4.cut lo hi)))
          · rename_i zs hx
            cases hc
            obtain ⟨a', zs', h1, h2, h4⟩ := ok.fro i _ hx
            rw [h1] at h'; cases h'
            refine .inl ⟨_, zs', rfl, ex_l ok.ex h2, fun q hq => ?_⟩
            obtain ⟨ok2, l, s, e⟩ := ok.lay (o := .lst _) hq
            exact fin _ _ _ l s ok2 (.lst e (l.dena (h4.cut lo hi)))
          · cases hc
def slAB : Prim := fun ds S => match ds with
  | [d, .int l, .int h] => (slD d S (some l) (some h)).map fun r => (r, S)
  | _ => none
def slA : Prim := fun ds S => match ds with
  | [d, .int l] => (slD d S (some l) none).map fun r => (r, S)
  | _ => none
def slB : Prim := fun ds S => match ds with
  | [d, .int h] => (slD d S none (some h)).map fun r => (r, S)
  | _ => none
def slC : Prim := fun ds S => match ds with
  | [d] => (slD d S none none).map fun r => (r, S)
  | _ => none
theorem v_slA {p2 : Pos} (ha : PE X a (tE X.K call ca)) (hb : PE X b (tE X.K call cb)) : PE X (.Subscript a (.Slice (some b) none none p2) pos) (tE X.K call (.prim slA (.cons ca (.cons cb .nil)))) := peM (pe_slice (SlR.or sl_list sl_tupA) ha (po_some hb) po_none) fun σ H Q h => by
  have q := to_p2 (r := fun x y H Q => ∃ i, y = .int i ∧ (rSlL X.K x (some i) none H Q ∨ rSlA X.K x (some i) none H Q)) (fun W H x y dx dy d S' Q ok h1 h2 hf fin => by
    unfold slA at hf
    split at hf
    · rename_i d' l hds
      cases hds
      cases h2
      cases hc : slD dx W.S (some l) none with
      | none => rw [hc] at hf; cases hf
      | some r =>
        rw [hc] at hf
        cases hf
        exact ⟨l, rfl, sl_den ok h1 hc fin⟩
    · cases hf) h
  obtain ⟨W, η, d, S', ok, env, he, fin⟩ := q
  refine ⟨W, η, d, S', ok, env, he, fun W1 x H1 l1 s1 ok1 d1 => ?_⟩
  obtain ⟨W2, η2, d2, S2, ok2, env2, he2, fin2⟩ := fin W1 x H1 l1 s1 ok1 d1
  refine ⟨W2, η2, d2, S2, ok2, env2, he2, fun W3 y H3 l3 s3 ok3 d3 => ?_⟩
  obtain ⟨i, rfl, q⟩ := fin2 W3 y H3 l3 s3 ok3 d3
  exact ⟨i, rfl, q⟩
theorem v_slB {p2 : Pos} (ha : PE X a (tE X.K call ca)) (hb : PE X b (tE X.K call cb)) : PE X (.Subscript a (.Slice none (some b) none p2) pos) (tE X.K call (.prim slB (.cons ca (.cons cb .nil)))) := peM (pe_slice (SlR.or sl_list sl_tupA) ha po_none (po_some hb)) fun σ H Q h => by
  have q := to_p2 (r := fun x y H Q => ∃ i, y = .int i ∧ (rSlL X.K x none (some i) H Q ∨ rSlA X.K x none (some i) H Q)) (fun W H x y dx dy d S' Q ok h1 h2 hf fin => by
    unfold slB at hf
    split at hf
    · rename_i d' l hds
      cases hds
      cases h2
      cases hc : slD dx W.S none (some l) with
      | none => rw [hc] at hf; cases hf
      | some r =>
        rw [hc] at hf
        cases hf
        exact ⟨l, rfl, sl_den ok h1 hc fin⟩
    · cases hf) h
  obtain ⟨W, η, d, S', ok, env, he, fin⟩ := q
  refine ⟨W, η, d, S', ok, env, he, fun W1 x H1 l1 s1 ok1 d1 => ?_⟩
  obtain ⟨W2, η2, d2, S2, ok2, env2, he2, fin2⟩ := fin W1 x H1 l1 s1 ok1 d1
  refine ⟨W2, η2, d2, S2, ok2, env2, he2, fun W3 y H3 l3 s3 ok3 d3 => ?_⟩
  obtain ⟨i, rfl, q⟩ := fin2 W3 y H3 l3 s3 ok3 d3
  exact ⟨i, rfl, q⟩
section
variable {x : Str} {p : Pos}
theorem v_cb {id : String} {r : List V → Hp → VK → Prop} {f : Prim} (hc : CallR X (.builtin id) r) (pn : PN X.K r f) (hm : X.mg x = none) (hv : bootBuiltins x = some (.builtin id)) (ha : PA X (e :: es) (tA X.K call ca)) (hg : Gl X x := by rfl) (hn : x ≠ "__name__" := by decide) (hd : (x == ("__debug__" : Str)) = false := by decide)
    (he : starEach (e :: es) X.env = (false, eval e X.env) :: starEach es X.env := by rfl) (hpl : (backTo pos (starEach es X.env)).any (·.1) = false := by rfl) : PE X (.Call (.Name x p) (e :: es) [] pos) (tE X.K call (.prim f ca)) :=
  peM (pe_callB hc hg hm hv ha hn hd he hpl) fun σ H Q h => to_pn pn h
theorem v_ct {T : String} {r : List V → Hp → VK → Prop} {f : Prim} (hc : CallR X (.type T) r) (pn : PN X.K r f) (hm : X.mg x = none) (hv : bootBuiltins x = some (.type T)) (ha : PA X (e :: es) (tA X.K call ca)) (hg : Gl X x := by rfl) (hn : x ≠ "__name__" := by decide) (hd : (x == ("__debug__" : Str)) = false := by decide)
    (he : starEach (e :: es) X.env = (false, eval e X.env) :: starEach es X.env := by rfl) (hpl : (backTo pos (starEach es X.env)).any (·.1) = false := by rfl) : PE X (.Call (.Name x p) (e :: es) [] pos) (tE X.K call (.prim f ca)) :=
  peM (pe_callTy hc hg hm hv ha hn hd he hpl) fun σ H Q h => to_pn pn h
end
def lenP : Prim := fun ds S => match ds with
  | [.str x] => if x.length ≤ 100000 then some (.int x.length, S) else none
  | [d] => (seqD d S).map fun xs => (.int xs.length, S)
  | _ => none
theorem pn_len : PN K (fun xs H Q => ∃ x n, xs = [x] ∧ LenV K x H n ∧ Q (.int n) H) lenP := fun W H vs ds d S' Q ok dn hf fin => by
  unfold lenP at hf
  split at hf
  · split at hf
    · rename_i hz
      cases hf
      cases dn with
      | cons h1 h2 =>
        cases h2
        cases h1
        exact ⟨_, _, rfl, ⟨Evl.sz_of hz, rfl⟩, fin W _ H (Le.refl _) rfl ok (.int _)⟩
    · cases hf
  · cases dn with
    | cons h1 h2 =>
      cases h2
      rename_i d' hne v
      cases hc : seqD d' W.S with
      | none => rw [hc] at hf; cases hf
      | some ys =>
        rw [hc] at hf
        cases hf
        obtain ⟨p, xs, rfl, hq, r⟩ := seq_den ok h1 hc
        refine ⟨_, xs.length, rfl, ?_, by rw [r.length]; exact fin W _ H (Le.refl _) rfl ok (.int _)⟩
        rcases hq with hq | hq
        · exact .inl ⟨xs, hq, rfl⟩
        · exact .inr ⟨xs, hq, rfl⟩
  · cases hf
/-- built-ins of ints -/
def b1 (g : Int → Int) : Prim := fun ds S => match ds with
  | [.int i] => some (.int (g i), S)
  | _ => none
def b2 (g : Int → Int → Int) : Prim := fun ds S => match ds with
  | [.int i, .int j] => some (.int (g i j), S)
  | _ => none
theorem pn_b1 {g : Int → Int} : PN K (fun xs H Q => ∃ i, xs = [.int i] ∧ Q (.int (g i)) H) (b1 g) := fun W H vs ds d S' Q ok dn hf fin => by
  unfold b1 at hf
  split at hf
  · cases hf
    cases dn with
    | cons h1 h2 =>
      cases h2
      cases h1
      exact ⟨_, rfl, fin W _ H (Le.refl _) rfl ok (.int _)⟩
  · cases hf
theorem pn_b2 {g : Int → Int → Int} : PN K (fun xs H Q => ∃ i j, xs = [.int i, .int j] ∧ Q (.int (g i j)) H) (b2 g) := fun W H vs ds d S' Q ok dn hf fin => by
  unfold b2 at hf
  split at hf
  · cases hf
    cases dn with
    | cons h1 h2 =>
      cases h2 with
      | cons h3 h4 =>
        cases h4
        cases h1
        cases h3
        exact ⟨_, _, rfl, fin W _ H (Le.refl _) rfl ok (.int _)⟩
  · cases hf
def absP : Prim := b1 fun i => if i < 0 then -i else i
def maxP : Prim := b2 fun i j => if j > i then j else i
def minP : Prim := b2 fun i j => if j < i then j else i
def gcdP : Prim := b2 fun i j => ((Nat.gcd i.natAbs j.natAbs : Nat) : Int)
def intP : Prim := fun ds S => match ds with
  | [.int i] => some (.int i, S)
  | [.bool k] => some (.int (if k then 1 else 0), S)
  | _ => none
theorem pn_int : PN K (fun xs H Q => (∃ i, xs = [.int i] ∧ Q (.int i) H) ∨ ∃ k, xs = [.bl k] ∧ Q (.int (if k then 1 else 0)) H) intP := fun W H vs ds d S' Q ok dn hf fin => by
  unfold intP at hf
  split at hf
  · cases hf
    cases dn with
    | cons h1 h2 =>
      cases h2
      cases h1
      exact .inl ⟨_, rfl, fin W _ H (Le.refl _) rfl ok (.int _)⟩
  · cases hf
    cases dn with
    | cons h1 h2 =>
      cases h2
      cases h1
      exact .inr ⟨_, rfl, fin W _ H (Le.refl _) rfl ok (.int _)⟩
  · cases hf
def boolsD : List D → Option (List Bool)
  | [] => some []
  | .bool b :: ds => (boolsD ds).map (b :: ·)
  | _ => none
theorem bools_den {F : Hp} {ρ : List Addr} : ∀ {xs : List V} {ds : List D} {bs : List Bool}, DenA K F ρ xs ds → boolsD ds = some bs → xs = bs.map V.bl
  | _, _, _, .nil, h => by cases h; rfl
  | _, _, _, .cons (d := .bool b) (ds := ds) h r, e => by
    unfold boolsD at e
    cases hb : boolsD ds with
    | none => rw [hb] at e; cases e
    | some bs =>
      rw [hb] at e
      cases e
      cases h
      rw [bools_den r hb]
      rfl
  | _, _, _, .cons (d := .none) _ _, e => by cases e
  | _, _, _, .cons (d := .int _) _ _, e => by cases e
  | _, _, _, .cons (d := .str _) _ _, e => by cases e
  | _, _, _, .cons (d := .list _) _ _, e => by cases e
  | _, _, _, .cons (d := .tuple _) _ _, e => by cases e
  | _, _, _, .cons (d := .dict _) _ _, e => by cases e
def allP : Prim := fun ds S => match ds with
  | [.list xs] => (boolsD xs).map fun bs => (.bool (bs.all id), S)
  | _ => none
def anyP : Prim := fun ds S => match ds with
  | [.list xs] => (boolsD xs).map fun bs => (.bool (bs.any id), S)
  | _ => none
theorem pn_all : PN K (rAll K) allP := fun W H vs ds d S' Q ok dn hf fin => by
  unfold allP at hf
  split at hf
  · rename_i xs
    cases hb : boolsD xs with
    | none => rw [hb] at hf; cases hf
    | some bs =>
      rw [hb] at hf
      cases hf
      cases dn with
      | cons h1 h2 =>
        cases h2
        cases h1 with
        | lst h r => exact ⟨_, bs, rfl, by rw [← bools_den r hb]; exact SqL.of (ok.ex _ _ h), fin W _ H (Le.refl _) rfl ok (.bl _)⟩
  · cases hf
theorem pn_any : PN K (rAny K) anyP := fun W H vs ds d S' Q ok dn hf fin => by
  unfold anyP at hf
  split at hf
  · rename_i xs
    cases hb : boolsD xs with
    | none => rw [hb] at hf; cases hf
    | some bs =>
      rw [hb] at hf
      cases hf
      cases dn with
      | cons h1 h2 =>
        cases h2
        cases h1 with
        | lst h r => exact ⟨_, bs, rfl, by rw [← bools_den r hb]; exact SqL.of (ok.ex _ _ h), fin W _ H (Le.refl _) rfl ok (.bl _)⟩
  · cases hf
/-- list(xs), list(text) -/
def listP : Prim := fun ds S => match ds with
  | [d] => (seqD d S).map fun xs => (.list xs, S)
  | _ => none
theorem pn_list : PN K (fun xs H Q => ∃ p ys, xs = [.ref p] ∧ (SqL K H p ys ∨ SqT K H p ys) ∧ ∀ l, H l = none → Q (.ref l) (upd H l (.lst ys))) listP := fun W H vs ds d S' Q ok dn hf fin => by
  unfold listP at hf
  split at hf
  · cases dn with
    | cons h1 h2 =>
      cases h2
      rename_i d' v
      cases hc : seqD d' W.S with
      | none => rw [hc] at hf; cases hf
      | some ys =>
        rw [hc] at hf
        cases hf
        obtain ⟨p, xs, rfl, hq, r⟩ := seq_den ok h1 hc
        refine ⟨p, xs, rfl, hq, fun l hl => ?_⟩
        obtain ⟨ok2, l2, s, e⟩ := ok.lay (o := .lst _) hl
        exact fin _ _ _ l2 s ok2 (.lst e (l2.dena r))
  · cases hf
def signs (x : Str) : List Str := x.cps.toList.map fun c => ⟨#[c]⟩
def listS : Prim := fun ds S => match ds with
  | [.str x] => if x.cps.size ≤ 100000 then some (.list ((signs x).map .str), S) else none
  | _ => none
theorem call_listS (hc : X.calm = true) : CallR X (.type "list") (fun xs H Q => ∃ x : Str, xs = [.str x] ∧ x.cps.size ≤ 100000 ∧ ∀ l, H l = none → Q (.ref l) (upd H l (.lst ((signs x).map V.str)))) := by
  intro pins s σ H xs us Q I r h
  obtain ⟨x, rfl, hz, q⟩ := h
  obtain ⟨u, rfl, t, rfl⟩ := vals1 r
  refine call_list_str (I.ok.hd hc) x t (fun h' tk acc' c' kp e hi => ?_) (Evl.sz_of hz)
  refine ⟨.ref s.heap.objs.size, _, I.laid (t' := tk) kp (Nat.le_refl _) (show ObjOk X.prog X.w _ h' _ (.lst ((signs x).map V.str)) from ⟨?_, acc'.toList, c', ?_, by rw [Array.toArray_toList]; exact e⟩), rfl, q _ (I.hok.fresh (Nat.le_refl _))⟩
  · rw [List.length_map]; unfold signs; rw [List.length_map, Array.length_toList]; exact Evl.sz_of hz
  · have hl : acc'.toList.length = x.cps.size := by rw [Array.length_toList]; exact hi.1
    refine vals_of_at (by simp [signs, hl]) fun j v u hv hu => ?_
    have := hi.2 j u (by rw [← hu, Array.getElem?_toList])
    obtain ⟨c, tu, hc, rfl⟩ := this
    unfold signs at hv
    rw [List.map_map, List.getElem?_map, Array.getElem?_toList, hc] at hv
    cases hv
    exact ⟨tu, rfl⟩
theorem pn_listS : PN K (fun xs H Q => ∃ x : Str, xs = [.str x] ∧ x.cps.size ≤ 100000 ∧ ∀ l, H l = none → Q (.ref l) (upd H l (.lst ((signs x).map V.str)))) listS := fun W H vs ds d S' Q ok dn hf fin => by
  unfold listS at hf
  split at hf
  · split at hf
    · rename_i x hz
      cases hf
      cases dn with
      | cons h1 h2 =>
        cases h2
        cases h1
        refine ⟨_, rfl, hz, fun l hl => ?_⟩
        obtain ⟨ok2, l2, s, e⟩ := ok.lay (o := .lst _) hl
        refine fin _ _ _ l2 s ok2 (.lst e ?_)
        have g : ∀ ys : List Str, DenA K (W.lay l (.lst ((signs x).map V.str))).F (W.lay l (.lst ((signs x).map V.str))).ρ (ys.map V.str) (ys.map .str) := by
          intro ys
          induction ys with
          | nil => exact .nil
          | cons y ys ih => exact .cons (.str y) ih
        exact g _
    · cases hf
  · cases hf
/-- list(range(..)) -/
def listR2 : Prim := fun ds S => match ds with
  | [.int i, .int j] => if (i < 2 ^ 40 ∧ -(2 ^ 40) ≤ i) ∧ (j < 2 ^ 40 ∧ -(2 ^ 40) ≤ j) ∧ (j - i).toNat ≤ 100000 then some (.list (upto i (j - i).toNat), S) else none
  | _ => none
def listR1 : Prim := fun ds S => match ds with
  | [.int j] => if (j < 2 ^ 40 ∧ -(2 ^ 40) ≤ j) ∧ (j - 0).toNat ≤ 100000 then some (.list (upto 0 (j - 0).toNat), S) else none
  | _ => none
theorem rg_den {F : Hp} {ρ : List Addr} {a b : Int} : DenA K F ρ (rgV a b) (upto a (b - a).toNat) := by
  unfold rgV upto
  have g : ∀ ys : List Nat, DenA K F ρ (ys.map fun i => V.int (a + (i : Nat))) (ys.map fun (k : Nat) => .int (a + k)) := by
    intro ys
    induction ys with
    | nil => exact .nil
    | cons y ys ih => exact .cons (.int _) ih
  exact g _
theorem v_listR2 {p pr rp : Pos} (hc : X.calm = true) (hml : X.mg "list" = none) (hmr : X.mg "range" = none) (ha : PE X a (tE X.K call ca)) (hb : PE X b (tE X.K call cb)) (hgl : Gl X "list" := by rfl) (hgr : Gl X "range" := by rfl)
    (na : starEach [a, b] X.env = (false, eval a X.env) :: starEach [b] X.env := by rfl) (na2 : starEach [b] X.env = (false, eval b X.env) :: starEach [] X.env := by rfl)
    (hp : ((backTo rp (starEach [b] X.env)).any fun x => x.fst) = false := by rfl)
    (nl : starEach [.Call (.Name "range" pr) [a, b] [] rp] X.env = (false, eval (.Call (.Name "range" pr) [a, b] [] rp) X.env) :: starEach [] X.env := by rfl) :
    PE X (.Call (.Name "list" p) [.Call (.Name "range" pr) [a, b] [] rp] [] pos) (tE X.K call (.prim listR2 (.cons ca (.cons cb .nil)))) := peM (pe_listRg hc hgl hml (prg_2 hgr hmr ha hb na na2 hp) nl) fun σ H Q h => by
  have q := to_p2 (r := fun x y H Q => ∃ i j, x = .int i ∧ y = .int j ∧ RgOk i j ∧ ∀ q, H q = none → Q (.ref q) (upd H q (.lst (rgV i j)))) (fun W H x y dx dy d S' Q ok h1 h2 hf fin => by
    unfold listR2 at hf
    split at hf
    · rename_i i j hds
      cases hds
      split at hf
      · rename_i hz
        cases hf
        cases h1
        cases h2
        refine ⟨i, j, rfl, rfl, ⟨by omega, by omega, by omega, by omega, by omega⟩, fun q hq => ?_⟩
        obtain ⟨ok2, l2, s, e⟩ := ok.lay (o := .lst (rgV i j)) hq
        exact fin _ _ _ l2 s ok2 (.lst e rg_den)
      · cases hf
    · cases hf) h
  obtain ⟨W, η, d, S', ok, env, he, fin⟩ := q
  refine ⟨W, η, d, S', ok, env, he, fun W1 x H1 l1 s1 ok1 d1 => ?_⟩
  obtain ⟨W2, η2, d2, S2, ok2, env2, he2, fin2⟩ := fin W1 x H1 l1 s1 ok1 d1
  refine ⟨W2, η2, d2, S2, ok2, env2, he2, fun W3 y H3 l3 s3 ok3 d3 => ?_⟩
  obtain ⟨i, j, rfl, rfl, h1, h2⟩ := fin2 W3 y H3 l3 s3 ok3 d3
  exact ⟨i, j, rfl, rfl, h1, h2⟩
def tyD (d : D) (S : List SO) : Option String := match d with
  | .none => some "NoneType"
  | .bool _ => some "bool"
  | .int _ => some "int"
  | .str _ => some "str"
  | .list _ => some "list"
  | .tuple _ => some "tuple"
  | .dict [] => some "dict"
  | .dict [(.none, .tuple _)] => some "tuple"
  | .dict [(.int (Int.ofNat i), .none)] => match S[i]? with
    | some (.obj (.lst _)) => some "list"
    | _ => none
  | _ => none
theorem ty_den {W : Wd} {x : V} {d : D} {t : String} (ok : Wok K W H) (h : Den K W.F W.ρ x d) (ht : tyD d W.S = some t) : TyX K H x (.type t) := by
  cases h with
  | non => cases ht; exact .base .non
  | bl b => cases ht; exact .base (.bl b)
  | int i => cases ht; exact .base (.int i)
  | str y => cases ht; exact .base (.str y)
  | lst h r => cases ht; exact .base (.lst (ok.ex _ _ h))
  | tup h r =>
    cases ht
    exact .base (.tup (ok.ex _ _ h))
  | @ref i a h =>
    unfold tyD at ht
    dsimp only at ht
    split at ht
    · rename_i ds hs
      cases ht
      obtain ⟨a', xs, h1, h2, h3, h4⟩ := ok.lst i ds hs
      rw [h1] at h; cases h
      exact .base (.lst h3)
    · cases ht
  | dct h => cases ht; exact .base (.dK (ok.ex _ _ h))
  | tws h q r => cases ht; exact .fTuple (ok.ex _ _ h)
  | exb => cases ht
  | exn => cases ht
  | dc1 => cases ht
def isiP (T : String) : Prim := fun ds S => match ds with
  | [d] => (tyD d S).bind fun t => (kitB t T).map fun b => (.bool b, S)
  | _ => none
theorem v_isi {T : String} {xt : Str} {p pt : Pos} (hm : X.mg "isinstance" = none) (hmt : X.mg xt = none) (hvt : bootBuiltins xt = some (.type T)) (ha : PE X a (tE X.K call ca)) (hg : Gl X "isinstance" := by rfl) (hgt : Gl X xt := by rfl) (hnt : xt ≠ "__name__" := by decide) (hdt : (xt == ("__debug__" : Str)) = false := by decide)
    (hv : bootBuiltins "isinstance" = some (.builtin "isinstance") := by decide +kernel)
    (he1 : starEach [a, .Name xt pt] X.env = (false, eval a X.env) :: starEach [.Name xt pt] X.env := by rfl) (he2 : starEach [.Name xt pt] X.env = (false, eval (.Name xt pt) X.env) :: starEach [] X.env := by rfl) (hpl : (backTo pos (starEach [.Name xt pt] X.env)).any (·.1) = false := by rfl) :
    PE X (.Call (.Name "isinstance" p) [a, .Name xt pt] [] pos) (tE X.K call (.prim (isiP T) (.cons ca .nil))) :=
  peM (pe_callB call_isi hg hm hv (pa_cons ha (pa_cons (pe_bltn (v := .ty T) hgt hmt hvt rfl hnt hdt) pa_nil he2) he1) (by decide) (by decide) he1 hpl) fun σ H Q h => by
    have q := to_p1 (r := fun x H Q => ∃ (t : String) (b : Bool), TyX X.K H x (.type t) ∧ kitB t T = some b ∧ Q (.bl b) H) (fun W H x dx d S' Q ok h1 hf fin => by
      unfold isiP at hf
      dsimp only at hf
      obtain ⟨t, h2, h3⟩ := bind_some hf
      cases hb : kitB t T with
      | none => rw [hb] at h3; cases h3
      | some b =>
        rw [hb] at h3
        cases h3
        exact ⟨t, b, ty_den ok h1 h2, hb, fin W _ H (Le.refl _) rfl ok (.bl b)⟩) h
    obtain ⟨W, η, d, S', ok, env, he, fin⟩ := q
    refine ⟨W, η, d, S', ok, env, he, fun W1 x H1 l1 s1 ok1 d1 => ?_⟩
    obtain ⟨t, b, h1, h2, h3⟩ := fin W1 x H1 l1 s1 ok1 d1
    exact ⟨x, .ty T, .type t, .type T, b, rfl, .ty T, h1, kit_ty h2, h3⟩
def strsD : List D → Option (List Str)
  | [] => some []
  | .str b :: ds => (strsD ds).map (b :: ·)
  | _ => none
theorem strs_den {F : Hp} {ρ : List Addr} : ∀ {xs : List V} {ds : List D} {bs : List Str}, DenA K F ρ xs ds → strsD ds = some bs → xs = bs.map V.str
  | _, _, _, .nil, h => by cases h; rfl
  | _, _, _, .cons (d := .str b) (ds := ds) h r, e => by
    unfold strsD at e
    cases hb : strsD ds with
    | none => rw [hb] at e; cases e
    | some bs =>
      rw [hb] at e
      cases e
      cases h
      rw [strs_den r hb]
      rfl
  | _, _, _, .cons (d := .none) _ _, e => by cases e
  | _, _, _, .cons (d := .int _) _ _, e => by cases e
  | _, _, _, .cons (d := .bool _) _ _, e => by cases e
  | _, _, _, .cons (d := .list _) _ _, e => by cases e
  | _, _, _, .cons (d := .tuple _) _ _, e => by cases e
  | _, _, _, .cons (d := .dict _) _ _, e => by cases e
def joinP (z : Str) : Prim := fun ds S => match ds with
  | [.list xs] => (strsD xs).bind fun ys => if (ys.map (·.length)).sum + ys.length * z.length ≤ 100000 then some (.str (Txt.join z ys), S) else none
  | _ => none
theorem v_join {z : Str} {j : Nat} {zp apos cpos : Pos} (ha : PE X a (tE X.K call ca)) (h1 : attributeBase (.Constant (.str z) j zp) "join" X.env (eval (.Constant (.str z) j zp) X.env) = eval (.Constant (.str z) j zp) X.env := by rfl)
    (h2 : (((backTo cpos (starEach [a] X.env)).all fun x => !x.fst) && (backToKw cpos (keywordEach [] X.env)).all fun x => x.fst.isSome) && decide (([a].length + ([] : List Keyword).length + if ([] : List Keyword).isEmpty = true then 0 else 1) < 30) = true := by rfl)
    (h3 : (apos.endLine == cpos.line) = true := by rfl) (h4 : starEach [a] X.env = (false, eval a X.env) :: starEach [] X.env := by rfl) (h5 : (backTo cpos (starEach [] X.env)).any (·.1) = false := by rfl) :
    PE X (.Call (.Attribute (.Constant (.str z) j zp) "join" apos) [a] [] cpos) (tE X.K call (.prim (joinP z) (.cons ca .nil))) :=
  peM (pe_bm PySem.F.plainAttrs_str PySem.F.slot_str_join PySem.F.type_str_join mt_join pe_str (pa_cons ha pa_nil h4) h1 h2 h3 h4 h5) fun σ H Q h => by
    have q := to_p1 (r := fun x H Q => ∃ (p : Addr) (ys : List Str), x = .ref p ∧ (SqL X.K H p (ys.map V.str) ∨ SqT X.K H p (ys.map V.str)) ∧ (ys.map (·.length)).sum + ys.length * z.length ≤ 16777216 ∧ Q (.str (Txt.join z ys)) H) (fun W H x dx d S' Q ok h1 hf fin => by
      unfold joinP at hf
      split at hf
      · rename_i xs hds
        cases hds
        obtain ⟨ys, h2, h3⟩ := bind_some hf
        split at h3
        · rename_i hz
          cases h3
          cases h1 with
          | lst h r => exact ⟨_, ys, rfl, .inl (by rw [← strs_den r h2]; exact SqL.of (ok.ex _ _ h)), by omega, fin W _ H (Le.refl _) rfl ok (.str _)⟩
        · cases h3
      · cases hf) h
    refine ⟨rfl, ?_⟩
    obtain ⟨W, η, d, S', ok, env, he, fin⟩ := q
    refine ⟨W, η, d, S', ok, env, he, fun W1 x H1 l1 s1 ok1 d1 => ?_⟩
    obtain ⟨p, ys, rfl, g1, g2, g3⟩ := fin W1 x H1 l1 s1 ok1 d1
    exact ⟨z, p, ys, rfl, rfl, g1, g2, g3⟩
theorem v_gcd {x : Str} {p : Pos} (hm : X.mg x = some (.builtin "math.gcd")) (ha : PA X (e :: es) (tA X.K call ca)) (hg : Gl X x := by rfl) (hd : (x == ("__debug__" : Str)) = false := by decide)
    (he : starEach (e :: es) X.env = (false, eval e X.env) :: starEach es X.env := by rfl) (hpl : (backTo pos (starEach es X.env)).any (·.1) = false := by rfl) : PE X (.Call (.Name x p) (e :: es) [] pos) (tE X.K call (.prim gcdP ca)) :=
  peM (pe_callBfun cr_gcd hg hm ha hd he hpl) fun σ H Q h => to_pn (r := rGcd) pn_b2 h
def itA : ItrP := fun ds S => match ds with
  | [.list xs] => some (xs, S)
  | [.tuple xs] => some (xs, S)
  | [.dict [(.none, .tuple xs)]] => some (xs, S)
  | [.str x] => some ((signs x).map .str, S)
  | [.dict [(.int (Int.ofNat i), .none)]] => match S[i]? with
    | some (.fro xs) => some (xs, S)
    | _ => none
  | _ => none
theorem goes_s {W : Wd} {x : Str} : Goes K (Its x) ((signs x).map .str) W := fun i W1 H l ok => by
  refine ⟨fun hi => (show x.cps.size ≤ i by simpa [signs] using hi), fun d hd => ?_⟩
  unfold signs at hd
  rw [List.map_map, List.getElem?_map, Array.getElem?_toList] at hd
  cases hc : x.cps[i]? with
  | none => rw [hc] at hd; cases hd
  | some c =>
    rw [hc] at hd
    cases hd
    refine ⟨(Array.getElem?_eq_some_iff.mp hc).1, fun v H' hy => ?_⟩
    obtain ⟨rfl, c', h1, rfl⟩ := hy
    rw [hc] at h1
    cases h1
    exact ⟨W1, Le.refl _, rfl, ok, .str _⟩
theorem i_any {tg : Expr} (h : PE X e (tE X.K call ca)) : PI X tg e (tI X.K call (.itr itA (.cons ca .nil))) := by
  have h1 := i_list (tg := tg) h
  have h2 := i_tup (tg := tg) h
  refine ⟨fun pins s σ H R I q => ?_⟩
  obtain ⟨W, η, items, S', ok, env, he, fin⟩ := q
  unfold ev at he
  obtain ⟨⟨ds, S1⟩, g1, g2⟩ := bind_some he
  obtain ⟨d, S2, ds', g3, g4, rfl⟩ := evc g1
  obtain ⟨rfl, rfl⟩ := evn g4
  unfold itA at g2
  dsimp only at g2
  split at g2
  · rename_i xs hx
    cases hx
    refine h1.run pins s σ H R I ⟨W, η, items, S', ok, env, ?_, fin⟩
    unfold ev
    rw [g1]
    exact g2
  · rename_i xs hx
    cases hx
    refine h2.run pins s σ H R I ⟨W, η, items, S', ok, env, ?_, fin⟩
    unfold ev
    rw [g1]
    exact g2
  · rename_i xs hx
    cases hx
    refine h2.run pins s σ H R I ⟨W, η, items, S', ok, env, ?_, fin⟩
    unfold ev
    rw [g1]
    exact g2
  · rename_i x hx
    cases hx
    cases g2
    refine (pi_str h).run pins s σ H R I ⟨W, η, _, _, ok, env, g3, fun W1 v H1 l1 s1 ok1 d1 => ?_⟩
    cases d1
    exact ⟨x, rfl, fin W1 _ H1 l1 s1 ok1 goes_s⟩
  · rename_i i hx
    cases hx
    refine h1.run pins s σ H R I ⟨W, η, items, S', ok, env, ?_, fin⟩
    unfold ev
    rw [g1]
    exact g2
  · cases g2
theorem p_nil : PTs X [] (tT X.K call (cD (.bool true))) := ⟨fun pins s σ H Q I h => pts_nil.run pins s σ H Q I (by
  obtain ⟨W, ok, fin⟩ := te_cD (te_bool h)
  obtain ⟨k, h1, h2⟩ := fin W _ H (Le.refl _) rfl ok (.bl true)
  cases h1
  exact h2)⟩
theorem p_one {c : Expr} (h : PT X c (tT X.K call cc)) : PTs X [c] (tT X.K call cc) := pts_one h
theorem v_lc {elt tg iter : Expr} {ifs : List Expr} {scope : Scope} {g : TG} {t : T} {it : E} (own : List (Str × Nat)) (hg : GOk X.K g t) (hc : X.calm = true) (hN : X.N.Nodup) (ok : BlkOk X.N X.env.scope scope own) (hin : t.inn (own.map (·.2)) = true) (hi : PI X tg iter (tI X.K call it))
    (hgp : ∀ (s : Shared) (H : Hp) (C : Addr) (cl : List (Str × Addr)) (fp : List Addr), PG (X.blk s H scope (compEnvC scope cl C X.env) fp) tg g)
    (ht : ∀ (s : Shared) (H : Hp) (C : Addr) (cl : List (Str × Addr)) (fp : List Addr), PTs (X.blk s H scope (compEnvC scope cl C X.env) fp) ifs (tT X.K call cc))
    (he : ∀ (s : Shared) (H : Hp) (C : Addr) (cl : List (Str × Addr)) (fp : List Addr), PE (X.blk s H scope (compEnvC scope cl C X.env) fp) elt (tE X.K call ce)) (hs : ∀ x, foldedSetIterable iter X.env x = pure x := by intro _; rfl) :
    PE X (.ListComp elt [⟨tg, iter, ifs, 0⟩] scope pos) (tE X.K call (.lc t it cc ce (own.map (·.2)))) := peM (pe_lc hc hN hi ok hgp ht he hs) fun σ H Q h => tlc hg hin (fun _ q => q) h
theorem s_setLc {i : Nat} {y : Str} {py spos : Pos} {elt tg iter : Expr} {ifs : List Expr} {scope : Scope} {g : TG} {t : T} {it : E} (own : List (Str × Nat)) (hg : GOk X.K g t) (hc : X.calm = true) (hN : X.N.Nodup) (ok : BlkOk X.N X.env.scope scope own) (hin : t.inn (own.map (·.2)) = true) (hi : PI X tg iter (tI X.K call it))
    (hgp : ∀ (s : Shared) (H : Hp) (C : Addr) (cl : List (Str × Addr)) (fp : List Addr), PG (X.blk s H scope (compEnvC scope cl C X.env) fp) tg g)
    (ht : ∀ (s : Shared) (H : Hp) (C : Addr) (cl : List (Str × Addr)) (fp : List Addr), PTs (X.blk s H scope (compEnvC scope cl C X.env) fp) ifs (tT X.K call cc))
    (he : ∀ (s : Shared) (H : Hp) (C : Addr) (cl : List (Str × Addr)) (fp : List Addr), PE (X.blk s H scope (compEnvC scope cl C X.env) fp) elt (tE X.K call ce))
    (hy : X.N[i]? = some y := by rfl) (hyl : X.env.scope.names.lookup y = some .local := by rfl)
    (hsw : swapsWith (.ListComp elt [⟨tg, iter, ifs, 0⟩] scope pos) (some (.Name y py)) spos.line X.env = pure true := by exact sw_true rfl rfl rfl (by decide +kernel)) (hs : ∀ x, foldedSetIterable iter X.env x = pure x := by intro _; rfl) :
    PS X (.Assign [.Name y py] (.ListComp elt [⟨tg, iter, ifs, 0⟩] scope pos) spos) (tS X.K call (.asg (.nm i) (.lc t it cc ce (own.map (·.2))))) := psM (ps_setLc hc hN hy hyl hsw hi ok hgp ht he hs) fun D σ H h => by
  obtain ⟨W, η, r, ok', env, he', fin⟩ := h
  unfold exc at he'
  obtain ⟨⟨d, S1⟩, h1, h2⟩ := bind_one he'
  obtain ⟨η1, h3, h4⟩ := bind_some h2
  cases h4
  exact tlc (Q := fun x H1 => gName i x σ H1 D.nx) hg hin (fun _ q => q) ⟨W, η, d, S1, ok', env, h1, fun W1 v H1 l1 s1 ok1 d1 => g_nm i W1 H1 η η1 σ v d _ ok1 (env.mono l1) d1 h3 fun σ' env' _ => fin W1 H1 l1 s1 ok1 σ' env'⟩
end
def spLaw (K : PySem.W.Frag) : Sp := fun vs H Q _ => ∃ (a : Addr) (ns : List Int), vs = [.ref a] ∧ SqL K H a (ns.map V.int) ∧ ns.length ≤ 63 ∧ ∀ H', Q (.bl true) H'
theorem ints_den {K : PySem.W.Frag} {F : Hp} {ρ : List Addr} : ∀ ns : List Int, DenA K F ρ (ns.map V.int) (ns.map .int)
  | [] => .nil
  | n :: ns => .cons (.int n) (ints_den ns)
theorem law_imp {P : Program} {w : World} {K : PySem.W.Frag} {mg : Str → Option Value} {base : Heap} {k j : Nat} {f : Addr} {fd : FuncData} {ps : List Str} {call : CallT} (G : FnOk P w K mg base CX0 k f fd ps (spK K call j))
    (M : ∀ ns : List Int, ns.length ≤ 63 → ∃ S1, call j [rf 0] [.fro (ns.map .int)] = some (.bool true, S1)) : FnOk P w K mg base CX0 k f fd ps (spLaw K) := by
  have imp : ∀ vs H Q E, spLaw K vs H Q E → spK K call j vs H Q E := fun vs H Q E h => by
    obtain ⟨a, ns, rfl, hS, hl, q⟩ := h
    obtain ⟨S1, hc⟩ := M ns hl
    let F : Hp := fun b => if b = a then H b else none
    have hF : F a = H a := by show (if a = a then H a else none) = H a; rw [if_pos rfl]
    have ex : Ex F H := fun b o e => by
      have e' : (if b = a then H b else none) = some o := e
      split at e'
      · exact e'
      · cases e'
    have hS2 : SqL K F a (ns.map V.int) := by
      rcases hS with (h | ⟨o, h⟩) | h
      · exact .inl (.inl (hF.trans h))
      · exact .inl (.inr ⟨o, hF.trans h⟩)
      · exact .inr h
    refine ⟨⟨F, [a], [.fro (ns.map .int)], fun _ => none⟩, [rf 0], .bool true, S1, ⟨ex, rfl, fun b o e => (nomatch e), fun b o e => (nomatch e), fun i ds e => ?_, fun i ds e => ?_, fun i j' d1 d2 b e1 _ _ _ => ?_, fun b o e => (nomatch e)⟩, .cons (.ref rfl) .nil, hc, fun W' v H' l s ok d => by cases d; exact q H'⟩
    · match i, e with
      | 0, e => cases e
      | n + 1, e => cases e
    · match i, e with
      | 0, e => cases e; exact ⟨a, _, rfl, hS2, ints_den ns⟩
      | n + 1, e => cases e
    · match i, e1 with
      | 0, e => cases e
      | n + 1, e => cases e
  exact ⟨fun vs H Q E q => G.len vs H Q E (imp _ _ _ _ q), fun A outer s H args us vs Q E hr e0 hb r q => G.run A outer s H args us vs Q E hr e0 hb r (imp _ _ _ _ q)⟩
end Iv

set_option Elab.async false
set_option linter.all false
set_option maxRecDepth 100000
set_option maxHeartbeats 2000000
namespace Iv
open PySem

def WE (call : CallT) (c : E) (η : En) (S : List SO) (Q : List D → List SO → Prop) : Prop := ∃ ds S1, ev call c η S = some (ds, S1) ∧ Q ds S1
def WP (f : Prim) (ds : List D) (S : List SO) (Q : D → List SO → Prop) : Prop := ∃ d S1, f ds S = some (d, S1) ∧ Q d S1
def WI (f : List D → List SO → Option (List D × List SO)) (ds : List D) (S : List SO) (Q : List D → List SO → Prop) : Prop := ∃ es S1, f ds S = some (es, S1) ∧ Q es S1
def WC (call : CallT) (j : Nat) (ds : List D) (S : List SO) (Q : D → List SO → Prop) : Prop := ∃ d S1, call j ds S = some (d, S1) ∧ Q d S1
def WL (fc fe : Ev1) (t : T) (η : En) (xs : List D) (S : List SO) (Q : List D → List SO → Prop) : Prop := ∃ ys S1, lcRun fc fe t η xs S = some (ys, S1) ∧ Q ys S1
def WS (call : CallT) (c : C) (η : En) (S : List SO) (Q : Fl → En → List SO → Prop) : Prop := ∃ fl η1 S1, exc call c η S = some (fl, η1, S1) ∧ Q fl η1 S1
def WF (f : Ex1) (t : T) (xs : List D) (η : En) (S : List SO) (Q : Fl → En → List SO → Prop) : Prop := ∃ fl η1 S1, loopF f t xs η S = some (fl, η1, S1) ∧ Q fl η1 S1
def WW (c : Ev1) (f : Ex1) (n : Nat) (η : En) (S : List SO) (Q : Fl → En → List SO → Prop) : Prop := ∃ fl η1 S1, loopW c f n η S = some (fl, η1, S1) ∧ Q fl η1 S1
def WO (f : List D → List SO → Option (List SO)) (ds : List D) (S : List SO) (Q : List SO → Prop) : Prop := ∃ S1, f ds S = some S1 ∧ Q S1
/-- one value; a bool; a name's value; a target bound -/
def O1 (ds : List D) (k : D → Prop) : Prop := ∃ d, ds = [d] ∧ k d
def OB (ds : List D) (k : Bool → Prop) : Prop := ∃ b, ds = [.bool b] ∧ k b
def OE (o : Option (Option D)) (k : D → Prop) : Prop := ∃ d, o = some (some d) ∧ k d
def OT (t : T) (d : D) (η : En) (k : En → Prop) : Prop := ∃ η1, bindT t d η = some η1 ∧ k η1
theorem O1_one {d : D} {k : D → Prop} : O1 [d] k ↔ k d := ⟨fun ⟨_, h, q⟩ => by cases h; exact q, fun q => ⟨d, rfl, q⟩⟩
theorem OB_one {b : Bool} {k : Bool → Prop} : OB [.bool b] k ↔ k b := ⟨fun ⟨_, h, q⟩ => by cases h; exact q, fun q => ⟨b, rfl, q⟩⟩
theorem OE_some {d : D} {k : D → Prop} : OE (some (some d)) k ↔ k d := ⟨fun ⟨_, h, q⟩ => by cases h; exact q, fun q => ⟨d, rfl, q⟩⟩
theorem OT_nm {i : Nat} {d : D} {η : En} {k : En → Prop} : OT (.nm i) d η k ↔ k (η.set i (some d)) := ⟨fun ⟨_, h, q⟩ => by cases h; exact q, fun q => ⟨_, rfl, q⟩⟩
theorem OT_tp {is : List Nat} {ds : List D} {η : En} {k : En → Prop} : OT (.tp is) (.tuple ds) η k ↔ ds.length = is.length ∧ k (setAll η is ds) := by
  unfold OT bindT
  constructor
  · rintro ⟨_, h, q⟩
    dsimp only at h
    split at h
    · rename_i hl; cases h; exact ⟨hl, q⟩
    · cases h
  · rintro ⟨hl, q⟩
    exact ⟨_, by dsimp only; rw [if_pos hl], q⟩
section
variable {call : CallT} {a b c e it : E} {η : En} {S : List SO} {Q : List D → List SO → Prop} {f g : Prim}
theorem WE_nil : WE call .nil η S Q ↔ Q [] S := ⟨fun ⟨_, _, h, q⟩ => by rw [ev] at h; cases h; exact q, fun q => ⟨[], S, by rw [ev], q⟩⟩
theorem WE_cons : WE call (.cons a b) η S Q ↔ WE call a η S fun ds S1 => O1 ds fun d => WE call b η S1 fun es S2 => Q (d :: es) S2 := by
  constructor
  · rintro ⟨ds, S1, h, q⟩
    obtain ⟨d, S2, ds', h1, h2, rfl⟩ := evc h
    exact ⟨[d], S2, h1, d, rfl, ds', S1, h2, q⟩
  · rintro ⟨ds, S1, h1, d, rfl, es, S2, h2, q⟩
    refine ⟨d :: es, S2, ?_, q⟩
    rw [ev, h1]
    show (ev call b η S1).bind _ = _
    rw [h2]; rfl
theorem WE_loc {i : Nat} : WE call (.loc i) η S Q ↔ OE η[i]? fun d => Q [d] S := by
  constructor
  · rintro ⟨ds, S1, h, q⟩
    rw [ev] at h
    split at h
    · rename_i d hd; cases h; exact ⟨d, hd, q⟩
    · cases h
  · rintro ⟨d, hd, q⟩
    exact ⟨[d], S, by rw [ev, hd], q⟩
theorem WE_prim : WE call (.prim f a) η S Q ↔ WE call a η S fun ds S1 => WP f ds S1 fun d S2 => Q [d] S2 := by
  constructor
  · rintro ⟨ds, S1, h, q⟩
    rw [ev] at h
    obtain ⟨⟨es, S2⟩, h1, h2⟩ := bind_some h
    obtain ⟨⟨d, S3⟩, h3, h4⟩ := bind_some h2
    cases h4
    exact ⟨es, S2, h1, d, _, h3, q⟩
  · rintro ⟨es, S2, h1, d, S3, h3, q⟩
    exact ⟨[d], S3, by rw [ev, h1]; show (f es S2).bind _ = _; rw [h3]; rfl, q⟩
theorem WE_itr {f : List D → List SO → Option (List D × List SO)} : WE call (.itr f a) η S Q ↔ WE call a η S fun ds S1 => WI f ds S1 Q := by
  constructor
  · rintro ⟨ds, S1, h, q⟩
    rw [ev] at h
    obtain ⟨⟨es, S2⟩, h1, h2⟩ := bind_some h
    exact ⟨es, S2, h1, _, _, h2, q⟩
  · rintro ⟨es, S2, h1, ds, S3, h3, q⟩
    exact ⟨ds, S3, by rw [ev, h1]; exact h3, q⟩
theorem WE_call {j : Nat} : WE call (.call j a) η S Q ↔ WE call a η S fun ds S1 => WC call j ds S1 fun d S2 => Q [d] S2 := by
  constructor
  · rintro ⟨ds, S1, h, q⟩
    rw [ev] at h
    obtain ⟨⟨es, S2⟩, h1, h2⟩ := bind_some h
    obtain ⟨⟨d, S3⟩, h3, h4⟩ := bind_some h2
    cases h4
    exact ⟨es, S2, h1, d, _, h3, q⟩
  · rintro ⟨es, S2, h1, d, S3, h3, q⟩
    exact ⟨[d], S3, by rw [ev, h1]; show (call j es S2).bind _ = _; rw [h3]; rfl, q⟩
theorem WE_and : WE call (.and a b) η S Q ↔ WE call a η S fun ds S1 => OB ds fun k => (k = true → WE call b η S1 fun es S2 => OB es fun j => Q [.bool j] S2) ∧ (k = false → Q [.bool false] S1) := by
  constructor
  · rintro ⟨ds, S1, h, q⟩
    rw [ev] at h
    obtain ⟨⟨x, S2⟩, h1, h2⟩ := bind_one h
    dsimp only at h1 h2
    split at h2
    · obtain ⟨⟨y, S3⟩, h3, h4⟩ := bind_one h2
      dsimp only at h3 h4
      split at h4
      · cases h4; exact ⟨_, S2, h1, true, rfl, fun _ => ⟨_, _, h3, _, rfl, q⟩, fun z => by cases z⟩
      · cases h4
    · cases h2; exact ⟨_, _, h1, false, rfl, fun z => (by cases z), fun _ => q⟩
    · cases h2
  · rintro ⟨ds, S1, h1, k, rfl, q1, q2⟩
    cases k with
    | true =>
      obtain ⟨es, S2, h2, j, rfl, q⟩ := q1 rfl
      refine ⟨_, S2, ?_, q⟩
      rw [ev, h1]
      show ((ev call b η S1).bind one).bind _ = _
      rw [h2]; rfl
    | false => exact ⟨_, S1, by rw [ev, h1]; rfl, q2 rfl⟩
theorem WE_or : WE call (.or a b) η S Q ↔ WE call a η S fun ds S1 => OB ds fun k => (k = false → WE call b η S1 fun es S2 => OB es fun j => Q [.bool j] S2) ∧ (k = true → Q [.bool true] S1) := by
  constructor
  · rintro ⟨ds, S1, h, q⟩
    rw [ev] at h
    obtain ⟨⟨x, S2⟩, h1, h2⟩ := bind_one h
    dsimp only at h1 h2
    split at h2
    · obtain ⟨⟨y, S3⟩, h3, h4⟩ := bind_one h2
      dsimp only at h3 h4
      split at h4
      · cases h4; exact ⟨_, S2, h1, false, rfl, fun _ => ⟨_, _, h3, _, rfl, q⟩, fun z => by cases z⟩
      · cases h4
    · cases h2; exact ⟨_, _, h1, true, rfl, fun z => (by cases z), fun _ => q⟩
    · cases h2
  · rintro ⟨ds, S1, h1, k, rfl, q1, q2⟩
    cases k with
    | false =>
      obtain ⟨es, S2, h2, j, rfl, q⟩ := q1 rfl
      refine ⟨_, S2, ?_, q⟩
      rw [ev, h1]
      show ((ev call b η S1).bind one).bind _ = _
      rw [h2]; rfl
    | true => exact ⟨_, S1, by rw [ev, h1]; rfl, q2 rfl⟩
theorem WE_ife : WE call (.ife c a b) η S Q ↔ WE call c η S fun ds S1 => OB ds fun k => (k = true → WE call a η S1 Q) ∧ (k = false → WE call b η S1 Q) := by
  constructor
  · rintro ⟨ds, S1, h, q⟩
    rw [ev] at h
    obtain ⟨⟨x, S2⟩, h1, h2⟩ := bind_one h
    dsimp only at h1 h2
    split at h2
    · exact ⟨_, S2, h1, true, rfl, fun _ => ⟨_, _, h2, q⟩, fun z => by cases z⟩
    · exact ⟨_, S2, h1, false, rfl, fun z => (by cases z), fun _ => ⟨_, _, h2, q⟩⟩
    · cases h2
  · rintro ⟨ds, S1, h1, k, rfl, q1, q2⟩
    cases k with
    | true =>
      obtain ⟨es, S2, h2, q⟩ := q1 rfl
      exact ⟨es, S2, by rw [ev, h1]; exact h2, q⟩
    | false =>
      obtain ⟨es, S2, h2, q⟩ := q2 rfl
      exact ⟨es, S2, by rw [ev, h1]; exact h2, q⟩
theorem WE_lc {t : T} {vs : List Nat} : WE call (.lc t it c e vs) η S Q ↔ WE call it η S fun xs S1 => xs.length ≤ 100000 ∧ WL (ev call c) (ev call e) t (wipeE η vs) xs S1 fun ys S2 => Q [.list ys] S2 := by
  constructor
  · rintro ⟨ds, S1, h, q⟩
    rw [ev] at h
    obtain ⟨⟨xs, S2⟩, h1, h2⟩ := bind_some h
    dsimp only at h2
    split at h2
    · rename_i hl
      obtain ⟨⟨ys, S3⟩, h3, h4⟩ := bind_some h2
      cases h4
      exact ⟨xs, S2, h1, hl, ys, _, h3, q⟩
    · cases h2
  · rintro ⟨xs, S1, h1, hl, ys, S2, h2, q⟩
    refine ⟨[.list ys], S2, ?_, q⟩
    rw [ev, h1]
    show (if xs.length ≤ 100000 then _ else none) = _
    rw [if_pos hl, h2]; rfl
theorem WE_chn : WE call (.chn f g a b c) η S Q ↔ WE call a η S fun ds S1 => O1 ds fun x => WE call b η S1 fun es S2 => O1 es fun y => WP f [x, y] S2 fun k S3 => OB [k] fun k => (k = true → WE call c η S3 fun us S4 => O1 us fun z => WP g [y, z] S4 fun u S5 => Q [u] S5) ∧ (k = false → Q [.bool false] S3) := by
  constructor
  · rintro ⟨ds, S1, h, q⟩
    rw [ev] at h
    obtain ⟨⟨x, S2⟩, h1, h⟩ := bind_one h
    obtain ⟨⟨y, S3⟩, h2, h⟩ := bind_one h
    obtain ⟨⟨k, S4⟩, h3, h⟩ := bind_some h
    dsimp only at h1 h2 h3 h
    refine ⟨_, _, h1, x, rfl, _, _, h2, y, rfl, k, S4, h3, ?_⟩
    split at h
    · obtain ⟨⟨z, S5⟩, h4, h⟩ := bind_one h
      obtain ⟨⟨u, S6⟩, h5, h⟩ := bind_some h
      cases h
      exact ⟨true, rfl, fun _ => ⟨_, _, h4, z, rfl, u, _, h5, q⟩, fun z => by cases z⟩
    · cases h; exact ⟨false, rfl, fun z => (by cases z), fun _ => q⟩
    · cases h
  · rintro ⟨_, S1, h1, x, rfl, _, S2, h2, y, rfl, k, S3, h3, k', hk, q1, q2⟩
    cases hk
    cases k' with
    | true =>
      obtain ⟨_, S4, h4, z, rfl, u, S5, h5, q⟩ := q1 rfl
      refine ⟨[u], S5, ?_, q⟩
      rw [ev, h1]
      show ((ev call b η S1).bind one).bind _ = _
      rw [h2]
      show (f [x, y] S2).bind _ = _
      rw [h3]
      show ((ev call c η S3).bind one).bind _ = _
      rw [h4]
      show (g [y, z] S4).bind _ = _
      rw [h5]; rfl
    | false =>
      refine ⟨_, S3, ?_, q2 rfl⟩
      rw [ev, h1]
      show ((ev call b η S1).bind one).bind _ = _
      rw [h2]
      show (f [x, y] S2).bind _ = _
      rw [h3]; rfl
variable {fc fe : Ev1} {t : T} {x : D} {xs : List D}
theorem WL_nil : WL fc fe t η [] S Q ↔ Q [] S := ⟨fun ⟨_, _, h, q⟩ => by cases h; exact q, fun q => ⟨[], S, rfl, q⟩⟩
theorem WL_cons : WL (ev call c) (ev call e) t η (x :: xs) S Q ↔ OT t x η fun η1 => WE call c η1 S fun ds S1 => OB ds fun k => (k = true → WE call e η1 S1 fun es S2 => O1 es fun y => WL (ev call c) (ev call e) t η xs S2 fun ys S3 => Q (y :: ys) S3) ∧ (k = false → WL (ev call c) (ev call e) t η xs S1 Q) := by
  constructor
  · rintro ⟨ys, S1, h, q⟩
    rw [lcRun] at h
    obtain ⟨η1, h1, h⟩ := bind_some h
    obtain ⟨⟨k, S2⟩, h2, h⟩ := bind_one h
    dsimp only at h2 h
    refine ⟨η1, h1, _, _, h2, ?_⟩
    split at h
    · obtain ⟨⟨y, S3⟩, h3, h⟩ := bind_one h
      obtain ⟨⟨zs, S4⟩, h4, h⟩ := bind_some h
      cases h
      exact ⟨true, rfl, fun _ => ⟨_, _, h3, y, rfl, zs, _, h4, q⟩, fun z => by cases z⟩
    · exact ⟨false, rfl, fun z => (by cases z), fun _ => ⟨_, _, h, q⟩⟩
    · cases h
  · rintro ⟨η1, h1, _, S2, h2, k, rfl, q1, q2⟩
    cases k with
    | true =>
      obtain ⟨_, S3, h3, y, rfl, zs, S4, h4, q⟩ := q1 rfl
      refine ⟨y :: zs, S4, ?_, q⟩
      rw [lcRun, h1]
      show ((ev call c η1 S).bind one).bind _ = _
      rw [h2]
      show ((ev call e η1 S2).bind one).bind _ = _
      rw [h3]
      show (lcRun _ _ t η xs S3).bind _ = _
      rw [h4]; rfl
    | false =>
      obtain ⟨ys, S3, h3, q⟩ := q2 rfl
      refine ⟨ys, S3, ?_, q⟩
      rw [lcRun, h1]
      show ((ev call c η1 S).bind one).bind _ = _
      rw [h2]; exact h3
end
section
variable {call : CallT} {a b c : C} {e it : E} {η : En} {S : List SO} {Q : Fl → En → List SO → Prop} {t : T}
/-- what is behind a statement: more, or the way out -/
def QN (Q : Fl → En → List SO → Prop) (k : En → List SO → Prop) : Fl → En → List SO → Prop
  | .nx, η, S => k η S
  | fl, η, S => Q fl η S
theorem QN_nx {k : En → List SO → Prop} : QN Q k .nx η S ↔ k η S := Iff.rfl
theorem QN_brk {k : En → List SO → Prop} : QN Q k .brk η S ↔ Q .brk η S := Iff.rfl
theorem QN_cnt {k : En → List SO → Prop} : QN Q k .cnt η S ↔ Q .cnt η S := Iff.rfl
theorem QN_ret {k : En → List SO → Prop} {d : D} : QN Q k (.ret d) η S ↔ Q (.ret d) η S := Iff.rfl
theorem WS_skip : WS call .skip η S Q ↔ Q .nx η S := ⟨fun ⟨_, _, _, h, q⟩ => by cases h; exact q, fun q => ⟨_, _, _, rfl, q⟩⟩
theorem WS_brk : WS call .brk η S Q ↔ Q .brk η S := ⟨fun ⟨_, _, _, h, q⟩ => by cases h; exact q, fun q => ⟨_, _, _, rfl, q⟩⟩
theorem WS_cnt : WS call .cnt η S Q ↔ Q .cnt η S := ⟨fun ⟨_, _, _, h, q⟩ => by cases h; exact q, fun q => ⟨_, _, _, rfl, q⟩⟩
theorem WS_retn : WS call .retn η S Q ↔ Q (.ret .none) η S := ⟨fun ⟨_, _, _, h, q⟩ => by cases h; exact q, fun q => ⟨_, _, _, rfl, q⟩⟩
theorem WS_abort : WS call .abort η S Q ↔ False := ⟨fun ⟨_, _, _, h, q⟩ => (by cases h), fun q => q.elim⟩
theorem WS_seq : WS call (.seq a b) η S Q ↔ WS call a η S (QN Q fun η1 S1 => WS call b η1 S1 Q) := by
  constructor
  · rintro ⟨fl, η1, S1, h, q⟩
    rw [exc] at h
    obtain ⟨⟨f, η2, S2⟩, h1, h2⟩ := bind_some h
    dsimp only at h2
    cases f with
    | nx => exact ⟨_, _, _, h1, ⟨_, _, _, h2, q⟩⟩
    | brk => cases h2; exact ⟨_, _, _, h1, q⟩
    | cnt => cases h2; exact ⟨_, _, _, h1, q⟩
    | ret d => cases h2; exact ⟨_, _, _, h1, q⟩
  · rintro ⟨fl, η1, S1, h1, q⟩
    cases fl with
    | nx =>
      obtain ⟨f2, η2, S2, h2, q⟩ := q
      exact ⟨f2, η2, S2, by rw [exc, h1]; exact h2, q⟩
    | brk => exact ⟨_, _, _, by rw [exc, h1]; rfl, q⟩
    | cnt => exact ⟨_, _, _, by rw [exc, h1]; rfl, q⟩
    | ret d => exact ⟨_, _, _, by rw [exc, h1]; rfl, q⟩
theorem WS_asg : WS call (.asg t e) η S Q ↔ WE call e η S fun ds S1 => O1 ds fun d => OT t d η fun η1 => Q .nx η1 S1 := by
  constructor
  · rintro ⟨fl, η1, S1, h, q⟩
    rw [exc] at h
    obtain ⟨⟨d, S2⟩, h1, h2⟩ := bind_one h
    obtain ⟨η2, h3, h4⟩ := bind_some h2
    cases h4
    exact ⟨_, _, h1, d, rfl, _, h3, q⟩
  · rintro ⟨_, S1, h1, d, rfl, η2, h3, q⟩
    exact ⟨_, η2, S1, by rw [exc, h1]; show (bindT t d η).bind _ = _; rw [h3]; rfl, q⟩
theorem WS_par {i j : Nat} : WS call (.par i j e) η S Q ↔ WE call e η S fun ds S1 => ∃ x y, ds = [x, y] ∧ Q .nx ((η.set i (some x)).set j (some y)) S1 := by
  constructor
  · rintro ⟨fl, η1, S1, h, q⟩
    rw [exc] at h
    obtain ⟨⟨ds, S2⟩, h1, h2⟩ := bind_some h
    dsimp only at h2
    split at h2
    · cases h2; exact ⟨_, _, h1, _, _, rfl, q⟩
    · cases h2
  · rintro ⟨_, S1, h1, x, y, rfl, q⟩
    exact ⟨_, _, S1, by rw [exc, h1]; rfl, q⟩
theorem WS_eff {f : List D → List SO → Option (List SO)} : WS call (.eff f e) η S Q ↔ WE call e η S fun ds S1 => WO f ds S1 fun S2 => Q .nx η S2 := by
  constructor
  · rintro ⟨fl, η1, S1, h, q⟩
    rw [exc] at h
    obtain ⟨⟨ds, S2⟩, h1, h2⟩ := bind_some h
    obtain ⟨S3, h3, h4⟩ := bind_some h2
    cases h4
    exact ⟨_, _, h1, _, h3, q⟩
  · rintro ⟨ds, S1, h1, S2, h2, q⟩
    exact ⟨_, _, S2, by rw [exc, h1]; show (f ds S1).bind _ = _; rw [h2]; rfl, q⟩
theorem WS_dex : WS call (.dex e) η S Q ↔ WE call e η S fun ds S1 => O1 ds fun _ => Q .nx η S1 := by
  constructor
  · rintro ⟨fl, η1, S1, h, q⟩
    rw [exc] at h
    obtain ⟨⟨d, S2⟩, h1, h2⟩ := bind_one h
    cases h2
    exact ⟨_, _, h1, d, rfl, q⟩
  · rintro ⟨_, S1, h1, d, rfl, q⟩
    exact ⟨_, _, S1, by rw [exc, h1]; rfl, q⟩
theorem WS_ite : WS call (.ite e a b) η S Q ↔ WE call e η S fun ds S1 => OB ds fun k => (k = true → WS call a η S1 Q) ∧ (k = false → WS call b η S1 Q) := by
  constructor
  · rintro ⟨fl, η1, S1, h, q⟩
    rw [exc] at h
    obtain ⟨⟨d, S2⟩, h1, h2⟩ := bind_one h
    dsimp only at h1 h2
    split at h2
    · exact ⟨_, S2, h1, true, rfl, fun _ => ⟨_, _, _, h2, q⟩, fun z => by cases z⟩
    · exact ⟨_, S2, h1, false, rfl, fun z => (by cases z), fun _ => ⟨_, _, _, h2, q⟩⟩
    · cases h2
  · rintro ⟨_, S1, h1, k, rfl, q1, q2⟩
    cases k with
    | true =>
      obtain ⟨fl, η1, S2, h2, q⟩ := q1 rfl
      exact ⟨fl, η1, S2, by rw [exc, h1]; exact h2, q⟩
    | false =>
      obtain ⟨fl, η1, S2, h2, q⟩ := q2 rfl
      exact ⟨fl, η1, S2, by rw [exc, h1]; exact h2, q⟩
theorem WS_ret : WS call (.ret e) η S Q ↔ WE call e η S fun ds S1 => O1 ds fun d => Q (.ret d) η S1 := by
  constructor
  · rintro ⟨fl, η1, S1, h, q⟩
    rw [exc] at h
    obtain ⟨⟨d, S2⟩, h1, h2⟩ := bind_one h
    cases h2
    exact ⟨_, _, h1, d, rfl, q⟩
  · rintro ⟨_, S1, h1, d, rfl, q⟩
    exact ⟨_, _, S1, by rw [exc, h1]; rfl, q⟩
theorem WS_for : WS call (.forr t it b) η S Q ↔ WE call it η S fun xs S1 => WF (exc call b) t xs η S1 Q := by
  constructor
  · rintro ⟨fl, η1, S1, h, q⟩
    rw [exc] at h
    obtain ⟨⟨xs, S2⟩, h1, h2⟩ := bind_some h
    exact ⟨_, _, h1, _, _, _, h2, q⟩
  · rintro ⟨xs, S1, h1, fl, η1, S2, h2, q⟩
    exact ⟨fl, η1, S2, by rw [exc, h1]; exact h2, q⟩
theorem WS_whl {n : Nat} : WS call (.whl n e b) η S Q ↔ WW (ev call e) (exc call b) n η S Q := Iff.rfl
theorem WF_nil {f : Ex1} : WF f t [] η S Q ↔ Q .nx η S := ⟨fun ⟨_, _, _, h, q⟩ => by cases h; exact q, fun q => ⟨_, _, _, rfl, q⟩⟩
/-- behind a loop's turn -/
def QL (Q : Fl → En → List SO → Prop) (k : En → List SO → Prop) : Fl → En → List SO → Prop
  | .nx, η, S => k η S
  | .cnt, η, S => k η S
  | .brk, η, S => Q .nx η S
  | .ret d, η, S => Q (.ret d) η S
theorem QL_nx {k : En → List SO → Prop} : QL Q k .nx η S ↔ k η S := Iff.rfl
theorem QL_cnt {k : En → List SO → Prop} : QL Q k .cnt η S ↔ k η S := Iff.rfl
theorem QL_brk {k : En → List SO → Prop} : QL Q k .brk η S ↔ Q .nx η S := Iff.rfl
theorem QL_ret {k : En → List SO → Prop} {d : D} : QL Q k (.ret d) η S ↔ Q (.ret d) η S := Iff.rfl
theorem WF_cons {x : D} {xs : List D} : WF (exc call b) t (x :: xs) η S Q ↔ OT t x η fun η1 => WS call b η1 S (QL Q fun η2 S2 => WF (exc call b) t xs η2 S2 Q) := by
  constructor
  · rintro ⟨fl, η1, S1, h, q⟩
    rw [loopF] at h
    obtain ⟨η2, h1, h⟩ := bind_some h
    obtain ⟨⟨f, η3, S3⟩, h2, h⟩ := bind_some h
    dsimp only at h
    refine ⟨η2, h1, f, η3, S3, h2, ?_⟩
    cases f with
    | nx => exact ⟨_, _, _, h, q⟩
    | cnt => exact ⟨_, _, _, h, q⟩
    | brk => cases h; exact q
    | ret d => cases h; exact q
  · rintro ⟨η2, h1, f, η3, S3, h2, q⟩
    cases f with
    | nx =>
      obtain ⟨fl, η4, S4, h3, q⟩ := q
      exact ⟨fl, η4, S4, by rw [loopF, h1]; show (exc call b η2 S).bind _ = _; rw [h2]; exact h3, q⟩
    | cnt =>
      obtain ⟨fl, η4, S4, h3, q⟩ := q
      exact ⟨fl, η4, S4, by rw [loopF, h1]; show (exc call b η2 S).bind _ = _; rw [h2]; exact h3, q⟩
    | brk => exact ⟨_, _, _, by rw [loopF, h1]; show (exc call b η2 S).bind _ = _; rw [h2]; rfl, q⟩
    | ret d => exact ⟨_, _, _, by rw [loopF, h1]; show (exc call b η2 S).bind _ = _; rw [h2]; rfl, q⟩
theorem WW_succ {n : Nat} : WW (ev call e) (exc call b) (n + 1) η S Q ↔ WE call e η S fun ds S1 => OB ds fun k => (k = true → WS call b η S1 (QL Q fun η2 S2 => WW (ev call e) (exc call b) n η2 S2 Q)) ∧ (k = false → Q .nx η S1) := by
  constructor
  · rintro ⟨fl, η1, S1, h, q⟩
    rw [loopW] at h
    obtain ⟨⟨d, S2⟩, h1, h⟩ := bind_one h
    dsimp only at h1 h
    refine ⟨_, _, h1, ?_⟩
    split at h
    · obtain ⟨⟨f, η3, S3⟩, h2, h⟩ := bind_some h
      dsimp only at h
      refine ⟨true, rfl, fun _ => ⟨f, η3, S3, h2, ?_⟩, fun z => by cases z⟩
      cases f with
      | nx => exact ⟨_, _, _, h, q⟩
      | cnt => exact ⟨_, _, _, h, q⟩
      | brk => cases h; exact q
      | ret d => cases h; exact q
    · cases h; exact ⟨false, rfl, fun z => (by cases z), fun _ => q⟩
    · cases h
  · rintro ⟨_, S1, h1, k, rfl, q1, q2⟩
    cases k with
    | true =>
      obtain ⟨f, η3, S3, h2, q⟩ := q1 rfl
      cases f with
      | nx =>
        obtain ⟨fl, η4, S4, h3, q⟩ := q
        exact ⟨fl, η4, S4, by rw [loopW, h1]; show (exc call b η S1).bind _ = _; rw [h2]; exact h3, q⟩
      | cnt =>
        obtain ⟨fl, η4, S4, h3, q⟩ := q
        exact ⟨fl, η4, S4, by rw [loopW, h1]; show (exc call b η S1).bind _ = _; rw [h2]; exact h3, q⟩
      | brk => exact ⟨_, _, _, by rw [loopW, h1]; show (exc call b η S1).bind _ = _; rw [h2]; rfl, q⟩
      | ret d => exact ⟨_, _, _, by rw [loopW, h1]; show (exc call b η S1).bind _ = _; rw [h2]; rfl, q⟩
    | false => exact ⟨_, _, _, by rw [loopW, h1]; rfl, q2 rfl⟩
end
/-- what is behind a def's body -/
def QR (Q : D → List SO → Prop) : Fl → En → List SO → Prop
  | .ret d, _, S => Q d S
  | .nx, _, S => Q .none S
  | _, _, _ => False
section
variable {Q : D → List SO → Prop} {η : En} {S : List SO} {tab : Nat → Option Def} {k j : Nat} {ds : List D}
theorem QR_ret {d : D} : QR Q (.ret d) η S ↔ Q d S := Iff.rfl
theorem QR_nx : QR Q .nx η S ↔ Q .none S := Iff.rfl
theorem wc_run {call : CallT} {d : Def} (h : WS call d.body (startE d.slots ds) S (QR Q)) : ∃ x S1, runD call d ds S = some (x, S1) ∧ Q x S1 := by
  obtain ⟨fl, η1, S1, h1, q⟩ := h
  unfold runD
  rw [h1]
  cases fl with
  | nx => exact ⟨_, _, rfl, q⟩
  | ret d => exact ⟨_, _, rfl, q⟩
  | brk => exact q.elim
  | cnt => exact q.elim
theorem wc_def {n ar : Nat} {c : C} (h : tab j = some ⟨n, ar, false, c⟩) (hl : ds.length = ar) (w : WS (callN tab k) c (startE n ds) S (QR Q)) : WC (callN tab (k + 1)) j ds S Q := by
  obtain ⟨x, S1, h1, q⟩ := wc_run (d := ⟨n, ar, false, c⟩) w
  refine ⟨x, S1, ?_, q⟩
  rw [callN, h]
  show (if ds.length = ar then _ else none) = _
  rw [if_pos hl]
  exact h1
theorem wc_star {n ar : Nat} {c : C} (h : tab j = some ⟨n, ar, true, c⟩) (hl : ar ≤ ds.length) (hm : ds.length ≤ 100000) (w : WS (callN tab k) c (startE n (ds.take ar ++ [.tuple (ds.drop ar)])) S (QR Q)) : WC (callN tab (k + 1)) j ds S Q := by
  obtain ⟨x, S1, h1, q⟩ := wc_run (d := ⟨n, ar, true, c⟩) w
  refine ⟨x, S1, ?_, q⟩
  rw [callN, h]
  show (if ar ≤ ds.length ∧ ds.length ≤ 100000 then _ else none) = _
  rw [if_pos ⟨hl, hm⟩]
  exact h1
theorem WC.mono {call : CallT} {Q' : D → List SO → Prop} (h : WC call j ds S Q) (m : ∀ d S1, Q d S1 → Q' d S1) : WC call j ds S Q' := by
  obtain ⟨d, S1, h1, q⟩ := h
  exact ⟨d, S1, h1, m d S1 q⟩
theorem WS.mono {call : CallT} {c : C} {R R' : Fl → En → List SO → Prop} (h : WS call c η S R) (m : ∀ f e s, R f e s → R' f e s) : WS call c η S R' := by
  obtain ⟨f, e, s, h1, q⟩ := h
  exact ⟨f, e, s, h1, m f e s q⟩
theorem WE.mono {call : CallT} {c : E} {R R' : List D → List SO → Prop} (h : WE call c η S R) (m : ∀ d s, R d s → R' d s) : WE call c η S R' := by
  obtain ⟨d, s, h1, q⟩ := h
  exact ⟨d, s, h1, m d s q⟩
theorem WF.mono {f : Ex1} {t : T} {xs : List D} {R R' : Fl → En → List SO → Prop} (h : WF f t xs η S R) (m : ∀ f e s, R f e s → R' f e s) : WF f t xs η S R' := by
  obtain ⟨f, e, s, h1, q⟩ := h
  exact ⟨f, e, s, h1, m f e s q⟩
theorem WL.mono {fc fe : Ev1} {t : T} {xs : List D} {R R' : List D → List SO → Prop} (h : WL fc fe t η xs S R) (m : ∀ d s, R d s → R' d s) : WL fc fe t η xs S R' := by
  obtain ⟨d, s, h1, q⟩ := h
  exact ⟨d, s, h1, m d s q⟩
theorem WW.mono {fc : Ev1} {f : Ex1} {n : Nat} {R R' : Fl → En → List SO → Prop} (h : WW fc f n η S R) (m : ∀ f e s, R f e s → R' f e s) : WW fc f n η S R' := by
  obtain ⟨f, e, s, h1, q⟩ := h
  exact ⟨f, e, s, h1, m f e s q⟩
theorem WC_of {call : CallT} {d : D} {S1 : List SO} (h : call j ds S = some (d, S1)) : WC call j ds S Q ↔ Q d S1 := ⟨fun ⟨_, _, h1, q⟩ => by rw [h] at h1; cases h1; exact q, fun q => ⟨_, _, h, q⟩⟩
theorem WC.eq {call : CallT} {x : D} (h : WC call j ds S fun d S1 => d = x ∧ S1 = S) : call j ds S = some (x, S) := by
  obtain ⟨d, S1, h1, rfl, rfl⟩ := h
  exact h1
theorem WE.eq {call : CallT} {c : E} {xs : List D} (h : WE call c η S fun d S1 => d = xs ∧ S1 = S) : ev call c η S = some (xs, S) := by
  obtain ⟨d, S1, h1, rfl, rfl⟩ := h
  exact h1
/-- a comprehension whose turns change nothing -/
theorem WL_pure {fc fe : Ev1} {t : T} {xs : List D} (p : D → Bool) (f : D → D) (h : ∀ x ∈ xs, ∃ η1, bindT t x η = some η1 ∧ fc η1 S = some ([.bool (p x)], S) ∧ (p x = true → fe η1 S = some ([f x], S))) : lcRun fc fe t η xs S = some ((xs.filter p).map f, S) := by
  induction xs with
  | nil => rfl
  | cons x xs ih =>
    obtain ⟨η1, h1, h2, h3⟩ := h x List.mem_cons_self
    have ih' := ih fun y hy => h y (List.mem_cons_of_mem _ hy)
    rw [lcRun, h1]
    show ((fc η1 S).bind one).bind _ = _
    rw [h2]
    cases hp : p x with
    | true =>
      show ((fe η1 S).bind one).bind _ = _
      rw [h3 hp]
      show (lcRun fc fe t η xs S).bind _ = _
      rw [ih', List.filter_cons, hp]
      rfl
    | false =>
      show lcRun fc fe t η xs S = _
      rw [ih', List.filter_cons, hp]
      rfl
theorem eqD_self {d : D} (h1 : plain (er d) = true) (h2 : SeqAt.shaped (er d) = true) : eqD d d = some true := by
  unfold eqD
  split
  · rename_i hs
    cases d <;> first | (cases hs; done) | simp [scalE]
  · rw [if_pos ⟨h1, h1, h2, h2⟩, SeqAt.eqv_refl _ (SeqAt.canLay_of_shaped h2)]
theorem WP_of {f : Prim} {d : D} {S1 : List SO} (h : f ds S = some (d, S1)) : WP f ds S Q ↔ Q d S1 := ⟨fun ⟨_, _, h1, q⟩ => by rw [h] at h1; cases h1; exact q, fun q => ⟨_, _, h, q⟩⟩
theorem WP_if {f : Prim} {d : D} {S1 : List SO} {p : Prop} [Decidable p] (h : f ds S = if p then some (d, S1) else none) : WP f ds S Q ↔ p ∧ Q d S1 := by
  unfold WP
  rw [h]
  constructor
  · rintro ⟨_, _, h1, q⟩
    split at h1
    · rename_i hp; cases h1; exact ⟨hp, q⟩
    · cases h1
  · rintro ⟨hp, q⟩
    exact ⟨d, S1, by rw [if_pos hp], q⟩
theorem map_if {α β : Type} {p : Prop} [Decidable p] {x : α} {g : α → β} : (if p then some x else none).map g = if p then some (g x) else none := by split <;> rfl
section
variable {i j : Int} {x y : Str} {xs ys : List D} {b b' : Bool} {d : D}
theorem wE_cD {call : CallT} {Q : List D → List SO → Prop} : WE call (cD d) η S Q ↔ Q [d] S := by
  unfold cD
  rw [WE_prim, WE_nil]
  exact WP_of rfl
theorem w_add : WP addP [.int i, .int j] S Q ↔ Q (.int (i + j)) S := WP_of rfl
theorem orP_some {f g : Prim} {r : D × List SO} (h : f ds S = some r) : orP f g ds S = some r := by unfold orP; rw [h]
theorem orP_none {f g : Prim} (h : f ds S = none) : orP f g ds S = g ds S := by unfold orP; rw [h]
theorem w_addS : WP addP [.str x, .str y] S Q ↔ x.length + y.length ≤ 100000 ∧ Q (.str (x ++ y)) S := WP_if (by
  unfold addP
  rw [orP_none rfl]
  by_cases hc : x.length + y.length ≤ 100000
  · rw [if_pos hc]
    exact orP_some (by show (if x.length + y.length ≤ 100000 then _ else _) = _; rw [if_pos hc])
  · rw [if_neg hc, orP_none (by show (if x.length + y.length ≤ 100000 then _ else _) = _; rw [if_neg hc])]
    rfl)
theorem w_addL : WP addP [.list xs, .list ys] S Q ↔ xs.length + ys.length ≤ 100000 ∧ Q (.list (xs ++ ys)) S := WP_if (by
  unfold addP
  rw [orP_none rfl, orP_none rfl]
  by_cases hc : xs.length + ys.length ≤ 100000
  · rw [if_pos hc]
    exact orP_some (by show (if xs.length + ys.length ≤ 100000 then _ else _) = _; rw [if_pos hc])
  · rw [if_neg hc, orP_none (by show (if xs.length + ys.length ≤ 100000 then _ else _) = _; rw [if_neg hc])]
    rfl)
theorem w_addT : WP addP [.tuple xs, .tuple ys] S Q ↔ (xs.length + ys.length ≤ 100000 ∧ xs.isEmpty = false) ∧ Q (.tuple (xs ++ ys)) S := WP_if rfl
theorem w_sub : WP subP [.int i, .int j] S Q ↔ Q (.int (i - j)) S := WP_of rfl
theorem w_mul : WP mulP [.int i, .int j] S Q ↔ mulB i j = true ∧ Q (.int (i * j)) S := WP_if (by
  unfold mulP
  by_cases hc : mulB i j = true
  · rw [if_pos hc]
    exact orP_some (by show (if mulB i j = true then some (PyData.int (i * j)) else none).map _ = _; rw [if_pos hc]; rfl)
  · rw [if_neg hc, orP_none (by show (if mulB i j = true then some (PyData.int (i * j)) else none).map _ = _; rw [if_neg hc]; rfl)]
    rfl)
theorem w_div : WP divP [.int i, .int j] S Q ↔ (0 < j ∧ j.natAbs.log2 < 9000) ∧ Q (.int (i / j)) S := WP_if map_if
theorem w_mod : WP modP [.int i, .int j] S Q ↔ 0 < j ∧ Q (.int (i % j)) S := WP_if map_if
theorem w_pow : WP powP [.int i, .int j] S Q ↔ powB i j = true ∧ Q (.int (i ^ j.toNat)) S := WP_if map_if
theorem w_neg : WP negP [.int i] S Q ↔ Q (.int (-i)) S := WP_of rfl
theorem w_not : WP notP [.bool b] S Q ↔ Q (.bool (!b)) S := WP_of rfl
theorem w_eqI : WP eqP [.int i, .int j] S Q ↔ Q (.bool (decide (i = j))) S := WP_of rfl
theorem w_neI : WP neP [.int i, .int j] S Q ↔ Q (.bool (!decide (i = j))) S := WP_of rfl
theorem w_eqS : WP eqP [.str x, .str y] S Q ↔ Q (.bool (decide (x = y))) S := WP_of rfl
theorem w_eqB : WP eqP [.bool b, .bool b'] S Q ↔ Q (.bool (decide (b = b'))) S := WP_of rfl
theorem w_ltI : WP ltP [.int i, .int j] S Q ↔ Q (.bool (decide (i < j))) S := WP_of rfl
theorem w_leI : WP leP [.int i, .int j] S Q ↔ Q (.bool (decide (i ≤ j))) S := WP_of rfl
theorem w_gtI : WP gtP [.int i, .int j] S Q ↔ Q (.bool (decide (j < i))) S := WP_of rfl
theorem w_geI : WP geP [.int i, .int j] S Q ↔ Q (.bool (decide (j ≤ i))) S := WP_of rfl
theorem w_leS : WP leP [.str x, .str y] S Q ↔ Q (.bool (!decide (y.cps.toList < x.cps.toList))) S := WP_of rfl
theorem w_isB : WP isP [.bool b, .bool b'] S Q ↔ Q (.bool (decide (b = b'))) S := WP_of rfl
theorem w_isN : WP isP [d, .none] S Q ↔ Q (.bool (isNone d)) S := WP_of (by cases d <;> rfl)
theorem w_tup : WP tupP xs S Q ↔ xs.length ≤ 100000 ∧ Q (.tuple xs) S := WP_if rfl
theorem w_lst : WP lstP xs S Q ↔ xs.length ≤ 100000 ∧ Q (.list xs) S := WP_if rfl
theorem w_new : WP newP xs S Q ↔ xs.length ≤ 100000 ∧ Q (rf S.length) (S ++ [.lst xs]) := WP_if rfl
theorem w_abs : WP absP [.int i] S Q ↔ Q (.int (if i < 0 then -i else i)) S := WP_of rfl
theorem w_max : WP maxP [.int i, .int j] S Q ↔ Q (.int (if j > i then j else i)) S := WP_of rfl
theorem w_min : WP minP [.int i, .int j] S Q ↔ Q (.int (if j < i then j else i)) S := WP_of rfl
theorem w_gcd : WP gcdP [.int i, .int j] S Q ↔ Q (.int ((Nat.gcd i.natAbs j.natAbs : Nat) : Int)) S := WP_of rfl
theorem w_int : WP intP [.int i] S Q ↔ Q (.int i) S := WP_of rfl
theorem w_intB : WP intP [.bool b] S Q ↔ Q (.int (if b then 1 else 0)) S := WP_of rfl
theorem w_truB : WP truP [.bool b] S Q ↔ Q (.bool b) S := WP_of rfl
theorem w_truL : WP truP [.list xs] S Q ↔ Q (.bool (!xs.isEmpty)) S := WP_of rfl
theorem w_truT : WP truP [.tuple xs] S Q ↔ Q (.bool (!xs.isEmpty)) S := WP_of rfl
theorem w_lenL : WP lenP [.list xs] S Q ↔ Q (.int xs.length) S := WP_of rfl
theorem w_lenT : WP lenP [.tuple xs] S Q ↔ Q (.int xs.length) S := WP_of rfl
theorem w_lenS : WP lenP [.str x] S Q ↔ x.length ≤ 100000 ∧ Q (.int x.length) S := WP_if rfl
theorem w_lenF {n : Nat} (h : S[n]? = some (.fro xs)) : WP lenP [.dict [(.int (Int.ofNat n), .none)]] S Q ↔ Q (.int xs.length) S := WP_of (by
  show (seqD _ S).map _ = _
  unfold seqD
  dsimp only
  rw [h]; rfl)
theorem w_idxL {d : D} (h : L2.atI xs j = some d) : WP idxP [.list xs, .int j] S Q ↔ Q d S := WP_of (by show (L2.atI xs j).map _ = _; rw [h]; rfl)
theorem w_idxT {d : D} (h : L2.atI xs j = some d) : WP idxP [.tuple xs, .int j] S Q ↔ Q d S := WP_of (by show (L2.atI xs j).map _ = _; rw [h]; rfl)
theorem w_idxF {n : Nat} {d : D} (hs : S[n]? = some (.fro xs)) (h : L2.atI xs j = some d) : WP idxP [.dict [(.int (Int.ofNat n), .none)], .int j] S Q ↔ Q d S := WP_of (by
  show (seqD _ S).bind _ = _
  unfold seqD
  dsimp only
  rw [hs]
  show (L2.atI xs j).map _ = _
  rw [h]; rfl)
theorem w_idxR {n : Nat} {d : D} (hs : S[n]? = some (.lst xs)) (h : L2.atI xs j = some d) : WP idxP [.dict [(.int (Int.ofNat n), .none)], .int j] S Q ↔ Q d S := WP_of (by
  show (seqD _ S).bind _ = _
  unfold seqD
  dsimp only
  rw [hs]
  show (L2.atI xs j).map _ = _
  rw [h]; rfl)
theorem w_set {n m : Nat} {v : D} {R : List SO → Prop} (hs : S[n]? = some (.lst xs)) (h : L2.ixN xs.length j = some m) : WO setL [v, .dict [(.int (Int.ofNat n), .none)], .int j] S R ↔ R (S.set n (.lst (xs.set m v))) := by
  have e : setL [v, .dict [(.int (Int.ofNat n), .none)], .int j] S = some (S.set n (.lst (xs.set m v))) := by
    unfold setL
    dsimp only
    rw [hs]
    show (L2.ixN xs.length j).map _ = _
    rw [h]; rfl
  unfold WO
  rw [e]
  exact ⟨fun ⟨_, h1, q⟩ => by cases h1; exact q, fun q => ⟨_, rfl, q⟩⟩
theorem WI_of {f : List D → List SO → Option (List D × List SO)} {R : List D → List SO → Prop} {es : List D} {S1 : List SO} (h : f ds S = some (es, S1)) : WI f ds S R ↔ R es S1 := ⟨fun ⟨_, _, h1, q⟩ => by rw [h] at h1; cases h1; exact q, fun q => ⟨_, _, h, q⟩⟩
theorem WI_if {f : List D → List SO → Option (List D × List SO)} {R : List D → List SO → Prop} {es : List D} {S1 : List SO} {p : Prop} [Decidable p] (h : f ds S = if p then some (es, S1) else none) : WI f ds S R ↔ p ∧ R es S1 := by
  unfold WI
  rw [h]
  constructor
  · rintro ⟨_, _, h1, q⟩
    split at h1
    · rename_i hp; cases h1; exact ⟨hp, q⟩
    · cases h1
  · rintro ⟨hp, q⟩
    exact ⟨es, S1, by rw [if_pos hp], q⟩
section
variable {R : List D → List SO → Prop}
theorem w_itAL : WI itA [.list xs] S R ↔ R xs S := WI_of rfl
theorem w_itAT : WI itA [.tuple xs] S R ↔ R xs S := WI_of rfl
theorem w_itAS : WI itA [.str x] S R ↔ R ((signs x).map .str) S := WI_of rfl
theorem w_itR1 : WI itR1 [.int j] S R ↔ (j < 2 ^ 40 ∧ -(2 ^ 40) ≤ j) ∧ R (upto 0 j.toNat) S := WI_if rfl
theorem w_itR2 : WI itR2 [.int i, .int j] S R ↔ ((i < 2 ^ 40 ∧ -(2 ^ 40) ≤ i) ∧ (j < 2 ^ 40 ∧ -(2 ^ 40) ≤ j)) ∧ R (upto i (j - i).toNat) S := WI_if rfl
end
theorem w_listR2 : WP listR2 [.int i, .int j] S Q ↔ ((i < 2 ^ 40 ∧ -(2 ^ 40) ≤ i) ∧ (j < 2 ^ 40 ∧ -(2 ^ 40) ≤ j) ∧ (j - i).toNat ≤ 100000) ∧ Q (.list (upto i (j - i).toNat)) S := WP_if rfl
theorem w_listL : WP listP [.list xs] S Q ↔ Q (.list xs) S := WP_of rfl
theorem w_listT : WP listP [.tuple xs] S Q ↔ Q (.list xs) S := WP_of rfl
theorem w_listS : WP listS [.str x] S Q ↔ x.cps.size ≤ 100000 ∧ Q (.list ((signs x).map .str)) S := WP_if rfl
theorem w_mulL : WP mulP [.list xs, .int j] S Q ↔ (-(2 ^ 63) ≤ j ∧ j < 2 ^ 63 ∧ xs.length * j.toNat ≤ 100000) ∧ Q (.list (List.replicate j.toNat xs).flatten) S := WP_if (by unfold mulP; rw [orP_none rfl]; rfl)
theorem w_dct0 : WP dct0 [] S Q ↔ Q (.dict []) S := WP_of rfl
theorem w_isiT {z : String} {b : Bool} (h : ((tyD d S).bind fun t => (L2.kitB t z)) = some b) : WP (isiP z) [d] S Q ↔ Q (.bool b) S := WP_of (by
  show ((tyD d S).bind fun t => (L2.kitB t z).map fun b => (PyData.bool b, S)) = _
  obtain ⟨t, h1, h2⟩ := bind_some h
  rw [h1]
  show (L2.kitB t z).map _ = _
  rw [h2]; rfl)
theorem w_neq {d : D} (h1 : plain (er d) = true) (h2 : SeqAt.shaped (er d) = true) : WP neP [d, d] S Q ↔ Q (.bool false) S := WP_of (by
  show (eqD d d).map _ = _
  rw [eqD_self h1 h2]; rfl)
theorem w_eqq {d : D} (h1 : plain (er d) = true) (h2 : SeqAt.shaped (er d) = true) : WP eqP [d, d] S Q ↔ Q (.bool true) S := WP_of (by
  show (eqD d d).map _ = _
  rw [eqD_self h1 h2]; rfl)
end
end
end Iv

set_option Elab.async false
set_option linter.all false
set_option maxRecDepth 100000
set_option maxHeartbeats 4000000
namespace Iv
open PySem
local macro_rules | `(tactic| walk_at "iv") => `(tactic| simp only [WE_nil, WE_cons, WE_loc, WE_prim, WE_itr, WE_call, WE_and, WE_or, WE_ife, WE_lc, WE_chn, WL_nil, WL_cons, WS_skip, WS_brk, WS_cnt, WS_retn, WS_abort, WS_seq, WS_asg, WS_par, WS_eff, WS_dex, WS_ite, WS_ret, WS_for, WS_whl, WF_nil, WF_cons, QN_nx, QN_brk, QN_cnt, QN_ret, QL_nx, QL_cnt, QL_brk, QL_ret, QR_ret, QR_nx, O1_one, OB_one, OE_some, OT_nm, OT_tp, wE_cD,
  w_add, w_addS, w_addL, w_addT, w_sub, w_mul, w_div, w_mod, w_pow, w_neg, w_not, w_eqI, w_neI, w_eqS, w_eqB, w_ltI, w_leI, w_gtI, w_geI, w_leS, w_isB, w_isN, w_tup, w_lst, w_new, w_abs, w_max, w_min, w_gcd, w_int, w_intB, w_truB, w_truL, w_truT, w_lenL, w_lenT, w_lenS,
  startE, setAll, wipeE, List.map_cons, List.map_nil, List.length_cons, List.length_nil, List.reduceReplicate, List.nil_append, List.cons_append, List.getElem?_cons_zero, List.getElem?_cons_succ, List.set_cons_zero, List.set_cons_succ, Nat.reduceAdd, Nat.reduceSub, Nat.reduceLeDiff, true_and, and_true, decide_eq_true_eq, decide_eq_false_iff_not])
theorem log_lt {i : Int} (h : -(2 ^ 100) < i ∧ i < 2 ^ 100) : i.natAbs.log2 < 101 := PySem.Flt.log2_lt_of (by decide) (show i.natAbs < 2 ^ 101 by omega)
theorem mulB_of {i j : Int} (h1 : -(2 ^ 100) < i ∧ i < 2 ^ 100) (h2 : -(2 ^ 100) < j ∧ j < 2 ^ 100) : mulB i j = true := by
  have a := log_lt h1
  have b := log_lt h2
  unfold mulB
  exact decide_eq_true (by omega)
theorem div_of {j : Int} (h : 0 < j) (h2 : j < 2 ^ 100) : 0 < j ∧ j.natAbs.log2 < 9000 := ⟨h, Nat.lt_trans (log_lt ⟨by omega, h2⟩) (by decide)⟩
theorem pw : powB 10 60 = true ∧ powB (10 ^ Int.toNat 60) 10 = true ∧ powB 10 18 = true := by decide +kernel
theorem pq : (0 : Int) < (10 ^ Int.toNat 60) ^ Int.toNat 10 ∧ ((10 : Int) ^ Int.toNat 60) ^ Int.toNat 10 < 2 ^ 2000 ∧ (0 : Int) < 10 ^ Int.toNat 18 ∧ (10 : Int) ^ Int.toNat 18 < 2 ^ 100 := by decide +kernel
def cDiceT : C := (.seq (.asg (.nm 3) (.prim modP (.cons (.prim intP (.cons (.prim absP (.cons (.loc 2) .nil)) .nil)) (.cons (.prim powP (.cons (.prim powP (.cons (cD (.int 10)) (.cons (cD (.int 60)) .nil))) (.cons (cD (.int 10)) .nil))) .nil))))
    (.seq (.asg (.nm 4) (.prim divP (.cons (.loc 3) (.cons (.prim powP (.cons (cD (.int 10)) (.cons (cD (.int 18)) .nil))) .nil))))
    (.seq (.asg (.nm 5) (.prim addP (.cons (.prim addP (.cons (.prim addP (.cons (.prim mulP (.cons (.prim modP (.cons (.loc 3) (.cons (cD (.int 2147482873)) .nil))) (.cons (cD (.int 60493)) .nil))) (.cons (.prim mulP (.cons (cD (.int 3491)) (.cons (.loc 1) .nil))) .nil))) (.cons (.prim mulP (.cons (cD (.int 67)) (.cons (.prim intP (.cons (.prim ltP (.cons (.loc 2) (.cons (cD (.int 0)) .nil))) .nil)) .nil))) .nil))) (.cons (cD (.int 97)) .nil))))
    (.ret (.prim newP (.cons (.loc 4) (.cons (.prim modP (.cons (.loc 5) (.cons (cD (.int 2147482867)) .nil))) (.cons (cD (.int 0)) .nil))))))))
def cDice : C := (.seq (.asg (.nm 2) (.prim addP (.cons (.prim mulP (.cons (cD (.int 89)) (.cons (.loc 1) .nil))) (.cons (cD (.int 61)) .nil))))
    (.seq (.ite (.prim ltP (.cons (.loc 1) (.cons (.prim lenP (.cons (.loc 0) .nil)) .nil))) (.asg (.nm 2) (.prim idxP (.cons (.loc 0) (.cons (.loc 1) .nil)))) .skip)
    cDiceT))
def cRoll : C := (.seq (.asg (.nm 2) (.prim intP (.cons (.loc 1) .nil)))
    (.seq (.ite (.prim gtP (.cons (.prim idxP (.cons (.loc 0) (.cons (cD (.int 0)) .nil))) (.cons (cD (.int 0)) .nil))) (.seq (.asg (.nm 3) (.prim modP (.cons (.prim idxP (.cons (.loc 0) (.cons (cD (.int 0)) .nil))) (.cons (.loc 2) .nil))))
    (.seq (.eff setL (.cons (.prim divP (.cons (.prim idxP (.cons (.loc 0) (.cons (cD (.int 0)) .nil))) (.cons (.loc 2) .nil))) (.cons (.loc 0) (.cons (cD (.int 0)) .nil))))
    (.ret (.prim intP (.cons (.loc 3) .nil))))) .skip)
    (.seq (.eff setL (.cons (.prim addP (.cons (.prim idxP (.cons (.loc 0) (.cons (cD (.int 2)) .nil))) (.cons (cD (.int 1)) .nil))) (.cons (.loc 0) (.cons (cD (.int 2)) .nil))))
    (.seq (.asg (.nm 4) (.prim modP (.cons (.prim addP (.cons (.prim idxP (.cons (.loc 0) (.cons (cD (.int 1)) .nil))) (.cons (.prim mulP (.cons (cD (.int 1000303)) (.cons (.prim idxP (.cons (.loc 0) (.cons (cD (.int 2)) .nil))) .nil))) .nil))) (.cons (cD (.int 2305843009213693951)) .nil))))
    (.seq (.asg (.nm 5) (.prim addP (.cons (.prim mulP (.cons (.prim modP (.cons (.prim mulP (.cons (.loc 4) (.cons (.loc 4) .nil))) (.cons (cD (.int 2305843009213693921)) .nil))) (.cons (.loc 4) .nil))) (.cons (.prim mulP (.cons (cD (.int 9461)) (.cons (.prim idxP (.cons (.loc 0) (.cons (cD (.int 2)) .nil))) .nil))) .nil))))
    (.seq (.asg (.nm 5) (.prim modP (.cons (.loc 5) (.cons (cD (.int 2305843009213693907)) .nil))))
    (.ret (.prim intP (.cons (.prim modP (.cons (.prim divP (.cons (.loc 5) (.cons (cD (.int 4096)) .nil))) (.cons (.loc 2) .nil))) .nil)))))))))
def cOneOf (r : Nat) : C := (.ret (.prim idxP (.cons (.loc 1) (.cons (.call r (.cons (.loc 0) (.cons (.prim lenP (.cons (.loc 1) .nil)) .nil))) .nil))))
/-- dice at i: at most n draws of the second kind made -/
def Dc (n : Nat) (S : List SO) (i : Nat) : Prop := ∃ l m c : Int, S[i]? = some (.lst [.int l, .int m, .int c]) ∧ (0 ≤ l ∧ l < 2 ^ 2000) ∧ (0 ≤ m ∧ m < 2 ^ 31) ∧ 0 ≤ c ∧ c ≤ n
/-- the dice at i have been rolled, all else stands -/
structure Nx (n : Nat) (S : List SO) (i : Nat) (S1 : List SO) : Prop where
  dc : Dc n S1 i
  oth : ∀ j, j ≠ i → S1[j]? = S[j]?
  len : S1.length = S.length
theorem Nx.trans {n m i : Nat} {S S1 S2 : List SO} (a : Nx n S i S1) (b : Nx m S1 i S2) : Nx m S i S2 := ⟨b.dc, fun j h => (b.oth j h).trans (a.oth j h), b.len.trans a.len⟩
section
variable {tab : Nat → Option Def} {k j : Nat}
theorem diceT_ok {call : CallT} {at_ : Nat} {z : Int} {S : List SO} (hat : at_ < 64) : WS call cDiceT [some (rf 0), some (.int at_), some (.int z), none, none, none] S (QR fun d S1 => ∃ l m : Int, d = rf S.length ∧ S1 = S ++ [.lst [.int l, .int m, .int 0]] ∧ (0 ≤ l ∧ l < 2 ^ 2000) ∧ (0 ≤ m ∧ m < 2 ^ 31)) := by
  unfold cDiceT
  walk_at "iv"
  obtain ⟨p1, p2, p3⟩ := pw
  obtain ⟨p4, p5, p6, p7⟩ := pq
  have g1 := Int.emod_nonneg (if z < 0 then -z else z) (show ((10 : Int) ^ Int.toNat 60) ^ Int.toNat 10 ≠ 0 by omega)
  have g2 := Int.emod_lt_of_pos (if z < 0 then -z else z) p4
  generalize hgr : (if z < 0 then -z else z) % (10 ^ Int.toNat 60) ^ Int.toNat 10 = gr at *
  have g3 : 0 ≤ gr / 10 ^ Int.toNat 18 := Int.ediv_nonneg g1 (by omega)
  have g4 : gr / 10 ^ Int.toNat 18 ≤ gr := Int.ediv_le_self _ g1
  have g5 := Int.emod_nonneg gr (show (2147482873 : Int) ≠ 0 by decide)
  have g6 := Int.emod_lt_of_pos gr (show (0 : Int) < 2147482873 by decide)
  have b : ∀ p : Prop, ∀ [Decidable p], (0 : Int) ≤ (if p then 1 else 0) ∧ (if p then (1 : Int) else 0) ≤ 1 := fun p _ => by split <;> omega
  refine ⟨p1, p2, p4, p3, div_of p6 p7, by decide, mulB_of (by omega) (by omega), mulB_of (by omega) (by omega), mulB_of (by omega) ?_, by decide, ?_⟩
  · split <;> omega
  · refine ⟨_, _, rfl, ⟨g3, by omega⟩, ?_, ?_⟩
    · exact Int.emod_nonneg _ (by decide)
    · exact Int.lt_trans (Int.emod_lt_of_pos _ (by decide)) (by decide)
theorem dice_ok (ht : tab j = some ⟨6, 2, false, cDice⟩) {ns : List Int} {at_ : Nat} {S : List SO} (h0 : S[0]? = some (.fro (ns.map .int))) (hat : at_ < 64) :
    WC (callN tab (k + 1)) j [rf 0, .int at_] S fun d S1 => ∃ l m : Int, d = rf S.length ∧ S1 = S ++ [.lst [.int l, .int m, .int 0]] ∧ (0 ≤ l ∧ l < 2 ^ 2000) ∧ (0 ≤ m ∧ m < 2 ^ 31) := by
  refine wc_def ht rfl ?_
  unfold cDice
  walk_at "iv"
  refine ⟨mulB_of (by omega) (by omega), (w_lenF h0).mpr ?_⟩
  walk_at "iv"
  refine ⟨fun h => ?_, fun h => diceT_ok hat⟩
  have hlt : at_ < ns.length := by
    have : (at_ : Int) < ((ns.map PyData.int).length : Nat) := h
    rw [List.length_map] at this
    omega
  refine (w_idxF (d := .int ns[at_]) h0 ?_).mpr (diceT_ok hat)
  exact L2.atI_nat (by rw [List.getElem?_map, List.getElem?_eq_getElem hlt]; rfl)
theorem Dc.set {n i : Nat} {S : List SO} {l m c : Int} (h : S[i]? ≠ none) (h1 : 0 ≤ l ∧ l < 2 ^ 2000) (h2 : 0 ≤ m ∧ m < 2 ^ 31) (h3 : 0 ≤ c ∧ c ≤ n) : Nx n S i (S.set i (.lst [.int l, .int m, .int c])) := by
  have hi : i < S.length := by
    rcases Nat.lt_or_ge i S.length with q | q
    · exact q
    · exact absurd (List.getElem?_eq_none q) h
  exact ⟨⟨l, m, c, by rw [List.getElem?_set_self hi], h1, h2, h3⟩, fun j hj => List.getElem?_set_ne (Ne.symm hj), by simp⟩
theorem roll_ok (ht : tab j = some ⟨6, 2, false, cRoll⟩) {n i : Nat} {t : Int} {S : List SO} (h : Dc n S i) (hn : n ≤ 2 ^ 30) (h1 : 1 ≤ t) (h2 : t ≤ 2 ^ 30) :
    WC (callN tab (k + 1)) j [rf i, .int t] S fun d S1 => ∃ r : Int, d = .int r ∧ (0 ≤ r ∧ r < t) ∧ Nx (n + 1) S i S1 := by
  obtain ⟨l, m, c, hs, hl, hm, hc⟩ := h
  have hne : S[i]? ≠ none := by rw [hs]; exact fun z => nomatch z
  have i0 : ∀ xs : List D, L2.atI (.int l :: xs) 0 = some (.int l) := fun xs => L2.atI_nat (j := 0) rfl
  refine wc_def ht rfl ?_
  unfold cRoll
  walk_at "iv"
  refine (w_idxR hs (i0 _)).mpr ?_
  walk_at "iv"
  refine ⟨fun hp => ?_, fun hp => ?_⟩
  · refine (w_idxR hs (i0 _)).mpr ?_
    walk_at "iv"
    refine ⟨by omega, (w_idxR hs (i0 _)).mpr ?_⟩
    walk_at "iv"
    refine ⟨div_of (by omega) (by omega), (w_set hs (m := 0) rfl).mpr ?_⟩
    walk_at "iv"
    have g1 := Int.ediv_nonneg hl.1 (show 0 ≤ t by omega)
    have g2 := Int.ediv_le_self t hl.1
    exact ⟨_, rfl, ⟨Int.emod_nonneg _ (by omega), Int.emod_lt_of_pos _ (by omega)⟩, Dc.set hne ⟨g1, by omega⟩ hm ⟨hc.1, by omega⟩⟩
  · refine (w_idxR hs (d := .int c) rfl).mpr ?_
    walk_at "iv"
    refine (w_set hs (m := 2) rfl).mpr ?_
    have nx1 := Dc.set (n := n + 1) hne hl hm (c := c + 1) ⟨by omega, by omega⟩
    have hs1 : (S.set i (.lst [.int l, .int m, .int (c + 1)]))[i]? = some (.lst [.int l, .int m, .int (c + 1)]) := List.getElem?_set_self (List.getElem?_eq_some_iff.mp hs).1
    show WP idxP _ (S.set i (.lst [.int l, .int m, .int (c + 1)])) _
    generalize S.set i (.lst [.int l, .int m, .int (c + 1)]) = S1 at *
    refine (w_idxR hs1 (d := .int m) rfl).mpr ((w_idxR hs1 (d := .int (c + 1)) rfl).mpr ?_)
    walk_at "iv"
    refine ⟨mulB_of (by omega) (by omega), by decide, ?_⟩
    have a1 := Int.emod_nonneg (m + 1000303 * (c + 1)) (show (2305843009213693951 : Int) ≠ 0 by decide)
    have a2 := Int.emod_lt_of_pos (m + 1000303 * (c + 1)) (show (0 : Int) < 2305843009213693951 by decide)
    generalize (m + 1000303 * (c + 1)) % 2305843009213693951 = one at *
    refine ⟨mulB_of (by omega) (by omega), by decide, ?_⟩
    have b1 := Int.emod_nonneg (one * one) (show (2305843009213693921 : Int) ≠ 0 by decide)
    have b2 := Int.emod_lt_of_pos (one * one) (show (0 : Int) < 2305843009213693921 by decide)
    generalize one * one % 2305843009213693921 = two at *
    refine ⟨mulB_of (by omega) (by omega), (w_idxR hs1 (d := .int (c + 1)) rfl).mpr ?_⟩
    walk_at "iv"
    refine ⟨mulB_of (by omega) (by omega), by decide, div_of (by decide) (by decide), by omega, ?_⟩
    exact ⟨_, rfl, ⟨Int.emod_nonneg _ (by omega), Int.emod_lt_of_pos _ (by omega)⟩, nx1⟩
theorem oneOf_ok {r : Nat} (ht : tab j = some ⟨2, 2, false, cOneOf r⟩) (hr : tab r = some ⟨6, 2, false, cRoll⟩) {n i : Nat} {xs : List D} {S : List SO} (h : Dc n S i) (hn : n ≤ 2 ^ 30) (h1 : 1 ≤ xs.length) (h2 : xs.length ≤ 2 ^ 30) :
    WC (callN tab (k + 2)) j [rf i, .list xs] S fun d S1 => ∃ m : Nat, xs[m]? = some d ∧ Nx (n + 1) S i S1 := by
  refine wc_def ht rfl ?_
  unfold cOneOf
  walk_at "iv"
  refine (roll_ok hr h hn (by omega) (by omega)).mono fun d S1 ⟨q, hd, hq, nx⟩ => ?_
  subst hd
  obtain ⟨m, rfl⟩ := Int.eq_ofNat_of_zero_le hq.1
  have hm : m < xs.length := by omega
  refine (w_idxL (L2.atI_nat (List.getElem?_eq_getElem hm))).mpr ?_
  exact ⟨m, List.getElem?_eq_getElem hm, nx⟩
end
end Iv

set_option Elab.async false
set_option linter.all false
set_option maxRecDepth 100000
set_option maxHeartbeats 2000000
namespace Iv
open PySem PySem.Spec PyProof.Rows L2
section
variable {X : Cx} {call : CallT} {K : PySem.W.Frag} {H : Hp} {W : Wd} {ca cb ce : E} {e o : Expr} {es : List Expr} {pos pos' apos p : Pos} {C : Addr} {f m x : Str}
abbrev Fds := List (Str × D)
/-- the instance of the class at C that d names -/
def insD (C : Addr) (d : D) (S : List SO) : Option (Nat × Fds) := match d with
  | .dict [(.int (Int.ofNat i), .none)] => match S[i]? with
    | some (.obj (.ins C' fs)) => if C' = C then some (i, fs) else none
    | _ => none
  | _ => none
structure InsAt (K : PySem.W.Frag) (W : Wd) (H : Hp) (C : Addr) (i : Nat) (fs : Fds) (a dx : Addr) (vs : List (Str × V)) : Prop where
  st : W.S[i]? = some (.obj (.ins C fs))
  ad : W.ρ[i]? = some a
  at_ : H a = some (.ins C dx vs)
  nm : fs.map Prod.fst = vs.map Prod.fst
  vl : DenA K W.F W.ρ (vs.map Prod.snd) (fs.map Prod.snd)
  ow : H dx = some (.own a) ∧ W.F dx = none ∧ W.R dx = none
theorem ins_at {i : Nat} {fs : Fds} (ok : Wok K W H) (h : W.S[i]? = some (.obj (.ins C fs))) : ∃ a dx vs, InsAt K W H C i fs a dx vs := by
  obtain ⟨a, ho, h1, h2, h3, h4⟩ := ok.obj i _ h
  cases h4 with
  | ins q r g1 g2 g3 => exact ⟨a, _, _, h, h1, h3, q, r, g1, g2, g3⟩
theorem ins_den {v : V} {d : D} {i : Nat} {fs : Fds} (ok : Wok K W H) (h : Den K W.F W.ρ v d) (hs : insD C d W.S = some (i, fs)) : d = rf i ∧ ∃ a dx vs, v = .ref a ∧ InsAt K W H C i fs a dx vs := by
  unfold insD at hs
  split at hs
  · rename_i j
    split at hs
    · rename_i C' gs hj
      split at hs
      · rename_i hc
        cases hs
        subst hc
        refine ⟨rfl, ?_⟩
        obtain ⟨a, dx, vs, q⟩ := ins_at ok hj
        cases h with
        | ref g => exact ⟨a, dx, vs, by rw [q.ad] at g; cases g; rfl, q⟩
      · cases hs
    · cases hs
  · cases hs
theorem look_den {F : Hp} {ρ : List Addr} {g : Str} : ∀ {vs : List (Str × V)} {fs : Fds}, fs.map Prod.fst = vs.map Prod.fst → DenA K F ρ (vs.map Prod.snd) (fs.map Prod.snd) →
    (∀ y, fs.lookup g = some y → ∃ v, vs.lookup g = some v ∧ Den K F ρ v y) ∧ (fs.lookup g = none → vs.lookup g = none)
  | [], [], _, _ => ⟨fun y h => (nomatch h), fun _ => rfl⟩
  | [], _ :: _, h, _ => nomatch h
  | _ :: _, [], h, _ => nomatch h
  | (a, v) :: vs, (b, d) :: fs, h, r => by
    rw [List.map_cons, List.map_cons] at h
    obtain ⟨h1, h2⟩ := List.cons.inj h
    have h1 : b = a := h1
    subst h1
    rw [List.map_cons, List.map_cons] at r
    cases r with
    | cons r1 r2 =>
      obtain ⟨ih1, ih2⟩ := look_den (g := g) h2 r2
      rw [List.lookup_cons, List.lookup_cons]
      cases g == b with
      | true => exact ⟨fun y q => by cases q; exact ⟨v, rfl, r1⟩, fun q => nomatch q⟩
      | false => exact ⟨ih1, ih2⟩
/-- an attribute -/
def fldP (C : Addr) (f : Str) : Prim := fun ds S => match ds with
  | [d] => (insD C d S).bind fun q => (q.2.lookup f).map fun y => (y, S)
  | _ => none
theorem v_fld (he : PE X e (tE X.K call ca)) (c : Cls X.K C) (na : NoAttr X.K C f) (hb : attributeBase e f X.env (eval e X.env) = eval e X.env := by rfl) : PE X (.Attribute e f pos) (tE X.K call (.prim (fldP C f) (.cons ca .nil))) :=
  peM (pe_fld he hb) fun σ H Q h => to_p1 (r := fun x H1 Q => ∃ a C dx fs v, x = .ref a ∧ H1 a = some (.ins C dx fs) ∧ Cls X.K C ∧ NoAttr X.K C f ∧ fs.lookup f = some v ∧ Q v H1) (fun W H v dv d S' Q ok dn hf fin => by
    unfold fldP at hf
    dsimp only at hf
    obtain ⟨⟨i, fs⟩, h1, h2⟩ := bind_some hf
    obtain ⟨rfl, a, dx, vs, rfl, q⟩ := ins_den ok dn h1
    dsimp only at h2
    cases hl : fs.lookup f with
    | none => rw [hl] at h2; cases h2
    | some y =>
      rw [hl] at h2
      cases h2
      obtain ⟨u, g1, g2⟩ := (look_den q.nm q.vl).1 _ hl
      exact ⟨a, C, dx, vs, u, rfl, q.at_, c, na, g1, fin W u H (Le.refl W) rfl ok g2⟩) h
/-- an attribute stored -/
def putFD (f : Str) (d : D) : Fds → Fds
  | [] => [(f, d)]
  | (g, y) :: r => if g = f then (g, d) :: r else (g, y) :: putFD f d r
theorem putFD_nm {v : V} {d : D} : ∀ {vs : List (Str × V)} {fs : Fds}, fs.map Prod.fst = vs.map Prod.fst → (putFD f d fs).map Prod.fst = (putF f v vs).map Prod.fst
  | [], [], _ => rfl
  | [], _ :: _, h => nomatch h
  | _ :: _, [], h => nomatch h
  | (a, u) :: vs, (b, y) :: fs, h => by
    obtain ⟨h1, h2⟩ := List.cons.inj h
    have h1 : b = a := h1
    subst h1
    unfold putFD putF
    by_cases hb : b = f
    · rw [if_pos hb, if_pos hb]; exact h
    · rw [if_neg hb, if_neg hb, List.map_cons, List.map_cons, putFD_nm (v := v) (d := d) h2]
theorem putFD_vl {F : Hp} {ρ : List Addr} {v : V} {d : D} (hd : Den K F ρ v d) : ∀ {vs : List (Str × V)} {fs : Fds}, fs.map Prod.fst = vs.map Prod.fst → DenA K F ρ (vs.map Prod.snd) (fs.map Prod.snd) → DenA K F ρ ((putF f v vs).map Prod.snd) ((putFD f d fs).map Prod.snd)
  | [], [], _, _ => .cons hd .nil
  | [], _ :: _, h, _ => nomatch h
  | _ :: _, [], h, _ => nomatch h
  | (a, u) :: vs, (b, y) :: fs, h, r => by
    obtain ⟨h1, h2⟩ := List.cons.inj h
    have h1 : b = a := h1
    subst h1
    rw [List.map_cons, List.map_cons] at r
    cases r with
    | cons r1 r2 =>
      unfold putFD putF
      by_cases hb : b = f
      · rw [if_pos hb, if_pos hb]; exact .cons hd r2
      · rw [if_neg hb, if_neg hb]; exact .cons r1 (putFD_vl hd h2 r2)
def putFP (C : Addr) (f : Str) : List D → List SO → Option (List SO) := fun ds S => match ds with
  | [v, d] => (insD C d S).bind fun q => if q.2.length < 900 then some (S.set q.1 (.obj (.ins C (putFD f v q.2)))) else none
  | _ => none
theorem s_fld (hv : PE X e (tE X.K call ce)) (ho : PE X o (tE X.K call ca)) (c : Cls X.K C) (na : NoAttr X.K C f) (hs : swapsWith e (some (.Attribute o f pos')) pos.line X.env = pure false := by rfl) :
    PS X (.Assign [.Attribute o f pos'] e pos) (tS X.K call (.eff (putFP C f) (.cons ce (.cons ca .nil)))) := psM (ps_fld ho hv hs) fun D σ H h => by
  obtain ⟨W, η, r, ok, env, hev, fin⟩ := h
  unfold exc at hev
  obtain ⟨⟨ds, S4⟩, h1, h2⟩ := bind_some hev
  obtain ⟨S5, h3, h4⟩ := bind_some h2
  cases h4
  obtain ⟨dv, S1, r1, a1, q1, rfl⟩ := evc h1
  obtain ⟨dob, S2, r2, a2, q2, rfl⟩ := evc q1
  obtain ⟨rfl, rfl⟩ := evn q2
  dsimp only at h3
  refine ⟨W, η, dv, S1, ok, env, a1, fun W1 v H1 l1 s1 ok1 d1 => ⟨W1, η, dob, _, ok1, env.mono l1, by rw [s1]; exact a2, fun W2 u H2 l2 s2 ok2 d2 => ?_⟩⟩
  unfold putFP at h3
  obtain ⟨⟨i, fs⟩, g1, g2⟩ := bind_some h3
  dsimp only at g2
  split at g2
  · rename_i hlen
    cases g2
    rw [← s2] at g1
    obtain ⟨rfl, a, dx, vs, rfl, q⟩ := ins_den ok2 d2 g1
    have hn : fs.length = vs.length := by
      have := congrArg List.length q.nm
      simpa using this
    have nd : dx ≠ a := fun z => by
      have g := q.ow.1
      rw [z, q.at_] at g; cases g
    obtain ⟨ok3, l3⟩ := ok2.putO (H' := upd H2 a (.ins C dx (putF f v vs))) (o := .ins C (putFD f dv fs)) q.st q.ad (fun b u nb e => by rw [upd_ne nb]; exact e) upd_same
      (.ins (putFD_nm q.nm) (putFD_vl (l2.den d1) q.nm q.vl) (by rw [upd_ne nd]; exact q.ow.1) q.ow.2.1 q.ow.2.2)
    refine ⟨a, C, dx, vs, rfl, q.at_, c, na, by omega, ?_⟩
    refine fin _ _ ((l1.trans l2).trans l3) ?_ ok3 σ ((env.mono (l1.trans l2)).mono l3)
    show W2.S.set i _ = _
    rw [s2]
  · cases g2
section
variable {j k : Nat} {g : Addr} {σ : L2.St} {Q : VK}
theorem call_args {E : XK} (h : tE K call (.call j ca) σ H Q) : tA K call ca σ H fun vs H1 => spK K call j vs H1 Q E := by
  obtain ⟨W, η, d, S', ok, env, hev, fin⟩ := h
  unfold ev at hev
  obtain ⟨z, h1, h2⟩ := bind_some hev
  obtain ⟨y, h3, h4⟩ := bind_some h2
  cases h4
  refine ⟨W, η, z.1, z.2, ok, env, h1, fun W1 vs H1 l1 s1 ok1 d1 => ⟨W1, z.1, y.1, y.2, ok1, d1, ?_, fun W2 v H2 l2 s2 ok2 d2 => fin W2 v H2 (l1.trans l2) s2 ok2 d2⟩⟩
  rw [s1]
  exact h3
/-- an instance that has no attribute of a method's name -/
def metP (C : Addr) (m : Str) : Prim := fun ds S => match ds with
  | [d] => (insD C d S).bind fun q => match q.2.lookup m with
    | none => some (d, S)
    | some _ => none
  | _ => none
def isnP (C : Addr) : Prim := fun ds S => match ds with
  | [d] => (insD C d S).map fun _ => (d, S)
  | _ => none
theorem p1_met : P1 K (fun x H1 Q => ∃ a dx vs, x = .ref a ∧ H1 a = some (.ins C dx vs) ∧ vs.lookup m = none ∧ Q x H1) (metP C m) := fun W H v dv d S' Q ok dn hf fin => by
  unfold metP at hf
  dsimp only at hf
  obtain ⟨⟨i, fs⟩, h1, h2⟩ := bind_some hf
  obtain ⟨hd, a, dx, vs, rfl, q⟩ := ins_den ok dn h1
  dsimp only at h2
  cases hl : fs.lookup m with
  | some y => rw [hl] at h2; cases h2
  | none =>
    rw [hl] at h2
    cases h2
    exact ⟨a, dx, vs, rfl, q.at_, (look_den q.nm q.vl).2 hl, fin W _ H (Le.refl W) rfl ok dn⟩
theorem p1_isn : P1 K (fun x H1 Q => ∃ a dx vs, x = .ref a ∧ H1 a = some (.ins C dx vs) ∧ Q x H1) (isnP C) := fun W H v dv d S' Q ok dn hf fin => by
  unfold isnP at hf
  dsimp only at hf
  cases h1 : insD C dv W.S with
  | none => rw [h1] at hf; cases hf
  | some q =>
    obtain ⟨i, fs⟩ := q
    rw [h1] at hf
    cases hf
    obtain ⟨hd, a, dx, vs, rfl, q⟩ := ins_den ok dn h1
    exact ⟨a, dx, vs, rfl, q.at_, fin W _ H (Le.refl W) rfl ok dn⟩
/-- o.m(a, ..) -/
theorem v_met {pl : Sem Bool} (ho : PE X o (tE X.K call ca)) (c : Cls X.K C) (hm : Meth X.K C m g) (F : FnR X.prog X.w X.K X.mg X.base CX0 k g (spK X.K call j)) (hr : Room k X.A) (ha : PA X (e :: es) (tA X.K call cb))
    (hst : starEach (e :: es) X.env = (false, eval e X.env) :: starEach es X.env := by rfl) (hpl : (backTo pos (starEach es X.env)).any (·.1) = false := by rfl)
    (ht : eval (.Call (.Attribute o m apos) (e :: es) [] pos) X.env = (do let ov ← eval o X.env; standAt apos.atName; let (fv, first) ← holding [ov] (getMethod ov m pl); callWith pos fv first (backTo pos (starEach (e :: es) X.env)) (backToKw pos (keywordEach [] X.env))) := by rfl) :
    PE X (.Call (.Attribute o m apos) (e :: es) [] pos) (tE X.K call (.call j (.cons (.prim (metP C m) (.cons ca .nil)) cb))) := by
  refine ⟨fun pins s σ H Q I h => ?_⟩
  have h2 := to_p1 (p1_met (K := X.K) (C := C) (m := m)) (ta_cons (call_args (E := fun _ _ _ => False) h))
  refine PySem.W.methodCall_KW (pl := pl) (thn (ho.run pins s σ H _ I h2) fun u s1 ⟨y, H1, I1, ry, a, dx, vs, ey, ea, ln, q⟩ => ?_) ht
  subst ey
  have hu : u = Value.ref a := ry
  subst hu
  refine getmeth_ok I1 ea c hm ln (PySem.W.callWith_K (first := [.ref a]) (h₀ := X.base) I.ok.mod.kin hm.kp (thn (ha.run pos pins s1 σ H1 _ I1 q) fun us s2 ⟨ws, H2, I2, rr, q2⟩ => ⟨I2.kIn, ?_⟩) hst hpl)
  exact wpAny_call (run_fnR (us := Value.ref a :: us) (vs := V.ref a :: ws) F hr pass0 I2 (.cons rfl rr) q2)
/-- o.m() -/
theorem v_met0 {pl : Sem Bool} (ho : PE X o (tE X.K call ca)) (c : Cls X.K C) (hm : Meth X.K C m g) (F : FnR X.prog X.w X.K X.mg X.base CX0 k g (spK X.K call j)) (hr : Room k X.A)
    (ht : eval (.Call (.Attribute o m apos) [] [] pos) X.env = (do let ov ← eval o X.env; standAt apos.atName; let (fv, first) ← holding [ov] (getMethod ov m pl); callWith pos fv first (backTo pos (starEach [] X.env)) (backToKw pos (keywordEach [] X.env))) := by rfl) :
    PE X (.Call (.Attribute o m apos) [] [] pos) (tE X.K call (.call j (.cons (.prim (metP C m) (.cons ca .nil)) .nil))) := by
  refine ⟨fun pins s σ H Q I h => ?_⟩
  have h2 := to_p1 (p1_met (K := X.K) (C := C) (m := m)) (ta_cons (call_args (E := fun _ _ _ => False) h))
  refine PySem.W.methodCall_KW (pl := pl) (thn (ho.run pins s σ H _ I h2) fun u s1 ⟨y, H1, I1, ry, a, dx, vs, ey, ea, ln, q⟩ => ?_) ht
  subst ey
  have hu : u = Value.ref a := ry
  subst hu
  exact getmeth_ok I1 ea c hm ln (PySem.W.callWith_K0 (first := [.ref a]) I1.kIn hm.kp (wpAny_call (run_fnR (us := [Value.ref a]) (vs := [V.ref a]) F hr pass0 I1 (.cons rfl .nil) (ta_nil q))))
/-- o.f, a property -/
theorem v_prop {pp : Addr} (ho : PE X o (tE X.K call ca)) (c : Cls X.K C) (hp : PropOf X.K C f pp g) (F : FnR X.prog X.w X.K X.mg X.base CX0 k g (spK X.K call j)) (hr : Room (k + 1) X.A) (hb : attributeBase o f X.env (eval o X.env) = eval o X.env := by rfl) :
    PE X (.Attribute o f pos) (tE X.K call (.call j (.cons (.prim (isnP C) (.cons ca .nil)) .nil))) := by
  refine ⟨fun pins s σ H Q I h => ?_⟩
  have h2 := to_p1 (p1_isn (K := X.K) (C := C)) (ta_cons (call_args (E := fun _ _ _ => False) h))
  refine attr_of hb (thn (ho.run pins s σ H _ I h2) fun u s1 ⟨y, H1, I1, ry, a, dx, vs, ey, ea, q⟩ => ?_)
  subst ey
  have hu : u = Value.ref a := ry
  subst hu
  obtain ⟨mA, O, _, _, _, _⟩ := ins_get I1.hok ea
  obtain ⟨od, J, _⟩ := O.look
  obtain ⟨rest, hrec⟩ := hp.rec_
  have It := I1.tok (s1.toks + 1)
  have hc : (PySem.W.clsIn X.K C).isSome = true := by
    obtain ⟨cd, z, _⟩ := PySem.W.any_some c.hd
    rw [z]
    rfl
  refine PySem.W.get_bind I1.kIn J (PySem.W.plainGet_of (c.get f)).1 (PySem.W.findObj_data hc hp.at_ hp.get hp.tak) (PySem.W.plainGet_of (c.get f)).2 (wpAny_call (PySem.W.prop_get (s := { s1 with toks := s1.toks + 1 }) I1.kIn hrec ?_))
  refine codeAny_mono (F X.A.in1 X.stack { s1 with toks := s1.toks + 1 } H1 [.ref a] [.ref a] Q _ hr.in1 It.env0.in1 (.cons rfl .nil) (ta_nil q)) fun rr s' hq => ?_
  cases rr with
  | error er => exact (show False from hq).elim
  | ok fl =>
    cases fl with
    | ret u =>
      obtain ⟨v, H', I3, rv, q3⟩ := It.after hq
      show wpAny _ _ (handedOut u) _ _ _
      rw [PySem.W.handedOut_of (handed_of rv)]
      exact wpAny_pure ⟨v, H', I3, rv, q3⟩
    | next => exact hq.elim
    | brk => exact hq.elim
    | cont => exact hq.elim
/-- what the evaluator asks where an instance is made -/
theorem mk_args {E : XK} (h : tE K call (.mk C j ca) σ H Q) : tA K call ca σ H fun vs H1 => ∀ y dx, H1 y = none → H1 dx = none → dx ≠ y → spK K call j (.ref y :: vs) (upd (upd H1 dx (.own y)) y (.ins C dx [])) (fun v H2 => v = .non ∧ Q (.ref y) H2) E := by
  obtain ⟨W, η, d, S', ok, env, hev, fin⟩ := h
  unfold ev at hev
  obtain ⟨⟨ds, S1⟩, h1, h2⟩ := bind_some hev
  obtain ⟨⟨d2, S2⟩, h3, h4⟩ := bind_some h2
  dsimp only at h3 h4
  have h5 : d2 = .none ∧ d = rf S1.length ∧ S' = S2 := by
    cases d2 <;> first | cases h4 | skip
    exact ⟨rfl, rfl, rfl⟩
  obtain ⟨rfl, rfl, rfl⟩ := h5
  refine ⟨W, η, ds, S1, ok, env, h1, fun W1 vs H1 l1 s1 ok1 d1 y dx hy hdx ne => ?_⟩
  have hdy : upd (upd H1 dx (.own y)) y (.ins C dx []) dx = some (.own y) := by rw [upd_ne ne, upd_same]
  obtain ⟨ok2, l2, last⟩ := ok1.pushO (p := y) (ho := .ins C dx []) (mo := .ins C []) (H' := upd (upd H1 dx (.own y)) y (.ins C dx [])) hy
    (fun b u z => by rw [upd_ne (ne_of_none z hy), upd_ne (ne_of_none z hdx)]; exact z) upd_same (.ins rfl .nil hdy (ok1.free hdx) (ok1.freeR hdx))
  have dn : Den K (W1.pushO y (.ins C [])).F (W1.pushO y (.ins C [])).ρ (.ref y) (rf W1.S.length) := .ref last
  refine ⟨W1.pushO y (.ins C []), rf S1.length :: ds, .none, S', ok2, .cons (by rw [← s1]; exact dn) (l2.dena d1), ?_, fun W3 v H3 l3 s3 ok3 d3 => ?_⟩
  · show call j (rf S1.length :: ds) (W1.S ++ [.obj (.ins C [])]) = _
    rw [s1]
    exact h3
  · cases d3
    refine ⟨rfl, fin W3 _ H3 ((l1.trans l2).trans l3) s3 ok3 ?_⟩
    rw [← s1]
    exact l3.den dn
theorem run_mk {pins : List (Addr × Obj)} {s : Shared} {us : List Value} {vs : List V} {sp : Sp} (M : Mk X.K C g) (F : FnR X.prog X.w X.K X.mg X.base CX0 k g sp) (hr : Room (k + 1) X.A) (I : Inv X pins σ H s) (r : Vals vs us)
    (h : ∀ y dx, H y = none → H dx = none → dx ≠ y → sp (.ref y :: vs) (upd (upd H dx (.own y)) y (.ins C dx [])) (fun v H2 => v = .non ∧ Q (.ref y) H2) (fun _ _ _ => False)) :
    wpAny (model X.prog X.w) X.A (PySem.call (.ref C) us) (EP X pins σ Q) X.xe s := by
  have hq := h (s.heap.objs.size + 1) s.heap.objs.size (I.hok.fresh (Nat.le_succ _)) (I.hok.fresh (Nat.le_refl _)) (Nat.ne_of_lt (Nat.lt_succ_self _))
  have J := Inv.made (C := C) I
  have r2 : Vals (V.ref (s.heap.objs.size + 1) :: vs) (Value.ref (s.heap.objs.size + 1) :: us) := .cons rfl r
  refine wpAny_call (make_map (f := g) I.kIn M.makes M.init (beq_iff_eq.mp M.fn) (codeAny_mono (F _ X.stack _ _ (Value.ref (s.heap.objs.size + 1) :: us) _ _ _ (hr.make C us []) (J.env0.make C us []) r2 hq) fun rr s' z => ?_))
  cases rr with
  | error er => exact (show False from z).elim
  | ok fl =>
    cases fl with
    | ret u =>
      obtain ⟨v, H', J2, rv, ev, q3⟩ := J.after z
      subst ev
      exact ⟨rv, ⟨V.ref (s.heap.objs.size + 1), H', J2, rfl, q3⟩⟩
    | next => exact z.elim
    | brk => exact z.elim
    | cont => exact z.elim
/-- C(a, ..) -/
theorem v_mk (M : Mk X.K C g) (F : FnR X.prog X.w X.K X.mg X.base CX0 k g (spK X.K call j)) (hr : Room (k + 1) X.A) (hm : X.mg x = some (.ref C)) (ha : PA X (e :: es) (tA X.K call ca)) (hg : Gl X x := by rfl) (hd : (x == ("__debug__" : Str)) = false := by decide)
    (he : starEach (e :: es) X.env = (false, eval e X.env) :: starEach es X.env := by rfl) (hpl : (backTo pos (starEach es X.env)).any (·.1) = false := by rfl) :
    PE X (.Call (.Name x p) (e :: es) [] pos) (tE X.K call (.mk C j ca)) := by
  refine ⟨fun pins s σ H Q I h => ?_⟩
  have h2 := mk_args (E := fun _ _ _ => False) h
  refine wpAny_Call_Name_kw (ld_glob I hg hm ?_ hd)
  exact PySem.W.callWith_K (h₀ := X.base) I.ok.mod.kin M.kp (thn (ha.run pos pins s σ H _ I h2) fun us s1 ⟨vs, H1, I1, rr, q⟩ => ⟨I1.kIn, run_mk M F hr I1 rr q⟩) he hpl
end
structure IsoC (K : PySem.W.Frag) (C : Addr) : Prop where
  cl : Cls K C
  ha : PySem.W.findIn K (.ref C) "__class__" = some (some (.builtin "object.__class__"))
  hn : PySem.W.specialIn K (.builtin "object.__class__") "__get__" = some (some (.builtin "getset_descriptor.__get__"))
  htk : PySem.W.takesIn K (.builtin "object.__class__") = some true
  hm : PySem.W.mroIn K C (.type "object") = some true
  no : ∀ t ∈ (["NoneType", "bool", "int", "str", "list", "tuple", "dict"] : List String), PySem.W.kitOne K (.type t) (.ref C) = some false
theorem kit_same {K : PySem.W.Frag} {C : Addr} : PySem.W.kitOne K (.ref C) (.ref C) = some true := by
  unfold PySem.W.kitOne
  rw [if_pos]
  exact beq_self_eq_true (Value.ref C)
theorem tyD_in {d : D} {S : List SO} {t : String} (h : tyD d S = some t) : t ∈ (["NoneType", "bool", "int", "str", "list", "tuple", "dict"] : List String) := by
  unfold tyD at h
  split at h
  all_goals first | (cases h; decide) | cases h | (split at h <;> first | (cases h; decide) | cases h)
def isoP (C : Addr) : Prim := fun ds S => match ds with
  | [d] => match insD C d S with
    | some _ => some (.bool true, S)
    | none => (tyD d S).map fun _ => (.bool false, S)
  | _ => none
theorem p1_iso (hi : IsoC K C) : P1 K (fun v H Q => ∃ (t : Value) (b : Bool), TyX K H v t ∧ PySem.W.kitOne K t (.ref C) = some b ∧ Q (.bl b) H) (isoP C) := fun W H v dv d S' Q ok dn hf fin => by
  unfold isoP at hf
  dsimp only at hf
  cases h1 : insD C dv W.S with
  | some q =>
    obtain ⟨i, fs⟩ := q
    rw [h1] at hf
    cases hf
    obtain ⟨hd, a, dx, vs, rfl, q⟩ := ins_den ok dn h1
    exact ⟨.ref C, true, .base (.ins q.at_ hi.cl hi.ha hi.hn hi.htk hi.hm), kit_same, fin W _ H (Le.refl W) rfl ok (.bl true)⟩
  | none =>
    rw [h1] at hf
    dsimp only at hf
    cases ht : tyD dv W.S with
    | none => rw [ht] at hf; cases hf
    | some t =>
      rw [ht] at hf
      cases hf
      exact ⟨.type t, false, ty_den ok dn ht, hi.no t (tyD_in ht), fin W _ H (Le.refl W) rfl ok (.bl false)⟩
theorem v_iso {xt : Str} {pt : Pos} (hi : IsoC X.K C) (hm : X.mg "isinstance" = none) (hmt : X.mg xt = some (.ref C)) (ha : PE X e (tE X.K call ca)) (hg : Gl X "isinstance" := by rfl) (hgt : Gl X xt := by rfl) (hdt : (xt == ("__debug__" : Str)) = false := by decide)
    (hv : bootBuiltins "isinstance" = some (.builtin "isinstance") := by decide +kernel)
    (he1 : starEach [e, .Name xt pt] X.env = (false, eval e X.env) :: starEach [.Name xt pt] X.env := by rfl) (he2 : starEach [.Name xt pt] X.env = (false, eval (.Name xt pt) X.env) :: starEach [] X.env := by rfl) (hpl : (backTo pos (starEach [.Name xt pt] X.env)).any (·.1) = false := by rfl) :
    PE X (.Call (.Name "isinstance" p) [e, .Name xt pt] [] pos) (tE X.K call (.prim (isoP C) (.cons ca .nil))) :=
  peM (pe_callB call_isi hg hm hv (pa_cons ha (pa_cons (pe_glob (v := .ref C) hgt hmt rfl hdt) pa_nil he2) he1) (by decide) (by decide) he1 hpl) fun σ H Q h => by
    obtain ⟨W, η, d, S', ok, env, he, fin⟩ := to_p1 (p1_iso hi) h
    refine ⟨W, η, d, S', ok, env, he, fun W1 v H1 l1 s1 ok1 d1 => ?_⟩
    obtain ⟨t, b, h1, h2, h3⟩ := fin W1 v H1 l1 s1 ok1 d1
    exact ⟨v, .ref C, t, .ref C, b, rfl, .own C, h1, h2, h3⟩
end
end Iv

set_option Elab.async false
set_option linter.all false
set_option maxRecDepth 100000
set_option maxHeartbeats 2000000
namespace Iv
open PySem PySem.Spec PyProof.Rows L2
open Evl (Ex ex_l ex_t)
section
variable {X : Cx} {call : CallT} {K : PySem.W.Frag} {H : Hp} {W : Wd} {ca cb ce : E} {a b e o : Expr} {es : List Expr} {pos apos cpos p : Pos} {f m x : Str}
def borP : Prim := i2 fun i j => some (.int (Builtin.bitOr i j))
def bandP : Prim := i2 fun i j => some (.int (Builtin.bitAnd i j))
def shrP : Prim := i2 fun i j => if 0 ≤ j then some (.int (i / 2 ^ j.toNat)) else none
def shlP : Prim := i2 fun i j => if 0 ≤ j ∧ j ≤ 1000000 ∧ i.natAbs < 2 ^ 64 then some (.int (i * 2 ^ j.toNat)) else none
def invP : Prim := fun ds S => match ds with
  | [.int i] => some (.int (Builtin.bitNot i), S)
  | _ => none
theorem v_bor (ha : PE X a (tE X.K call ca)) (hb : PE X b (tE X.K call cb)) : PE X (.BinOp a .BitOr b pos) (tE X.K call (.prim borP (.cons ca (.cons cb .nil)))) := pe_bin op_or (p2_rI0 fun _ _ _ _ => .int _) ha hb
theorem v_band (ha : PE X a (tE X.K call ca)) (hb : PE X b (tE X.K call cb)) : PE X (.BinOp a .BitAnd b pos) (tE X.K call (.prim bandP (.cons ca (.cons cb .nil)))) := pe_bin op_and (p2_rI0 fun _ _ _ _ => .int _) ha hb
theorem v_shr (ha : PE X a (tE X.K call ca)) (hb : PE X b (tE X.K call cb)) : PE X (.BinOp a .RShift b pos) (tE X.K call (.prim shrP (.cons ca (.cons cb .nil)))) :=
  pe_bin op_shr (p2_rI (hd := fun i j => .int (i / 2 ^ j.toNat)) (fun _ _ _ _ => .int _) fun i j d e => by
    split at e
    · rename_i hb
      cases e
      exact ⟨hb, rfl⟩
    · cases e) ha hb
theorem v_shl (ha : PE X a (tE X.K call ca)) (hb : PE X b (tE X.K call cb)) : PE X (.BinOp a .LShift b pos) (tE X.K call (.prim shlP (.cons ca (.cons cb .nil)))) :=
  pe_bin op_shl (p2_rI (hd := fun i j => .int (i * 2 ^ j.toNat)) (fun _ _ _ _ => .int _) fun i j d e => by
    split at e
    · rename_i hb
      cases e
      exact ⟨hb, rfl⟩
    · cases e) ha hb
theorem v_inv (ha : PE X a (tE X.K call ca)) : PE X (.UnaryOp .Invert a pos) (tE X.K call (.prim invP (.cons ca .nil))) := pe_u1 un_inv (fun W H x dx d S' Q ok h1 hf fin => by
  unfold invP at hf
  split at hf
  · rename_i i hds
    cases hds
    cases hf
    cases h1
    exact ⟨_, rfl, fin W _ H (Le.refl _) rfl ok (.int _)⟩
  · cases hf) ha
def bitsP : Prim := fun ds S => match ds with
  | [.int i] => some (.int (Builtin.Int.intBits i : Nat), S)
  | _ => none
theorem v_bits (ha : PE X a (tE X.K call ca)) (hb : attributeBase a "bit_length" X.env (eval a X.env) = eval a X.env := by rfl) (hl : (apos.endLine == pos.line) = true := by rfl) : PE X (.Call (.Attribute a "bit_length" apos) [] [] pos) (tE X.K call (.prim bitsP (.cons ca .nil))) := peM (pe_bits ha (hbase := hb) (hline := hl)) fun σ H Q h => by
  exact to_p1 (r := fun x H1 Q => ∃ i, x = .int i ∧ Q (.int (Builtin.Int.intBits i : Nat)) H1) (fun W H v dv d S' Q ok dn hf fin => by
    unfold bitsP at hf
    split at hf
    · rename_i i hds
      cases hds
      cases hf
      cases dn
      exact ⟨_, rfl, fin W _ H (Le.refl _) rfl ok (.int _)⟩
    · cases hf) h
theorem seql_den {v : V} {d : D} {ds : List D} (ok : Wok K W H) (h : Den K W.F W.ρ v d) (hn : ∀ ts, d ≠ .tuple ts) (hw : ∀ ts, d ≠ .dict [(.none, .tuple ts)]) (hs : seqD d W.S = some ds) : ∃ q xs, v = .ref q ∧ SqL K H q xs ∧ DenA K W.F W.ρ xs ds := by
  cases h with
  | lst h r => cases hs; exact ⟨_, _, rfl, SqL.of (ok.ex _ _ h), r⟩
  | tup h r => exact absurd rfl (hn _)
  | @ref i q h =>
    unfold seqD at hs
    dsimp only at hs
    split at hs
    · rename_i xs hx
      cases hs
      obtain ⟨q', ys, h1, h2, h3, h4⟩ := ok.lst i _ hx
      rw [h1] at h; cases h
      exact ⟨_, _, rfl, SqL.of h3, h4⟩
    · rename_i xs hx
      cases hs
      obtain ⟨q', ys, h1, h2, h4⟩ := ok.fro i _ hx
      rw [h1] at h; cases h
      exact ⟨_, _, rfl, ex_l ok.ex h2, h4⟩
    · cases hs
  | non => cases hs
  | bl => cases hs
  | int => cases hs
  | str => cases hs
  | dct => cases hs
  | exb => cases hs
  | exn => cases hs
  | dc1 => cases hs
  | tws => exact absurd rfl (hw _)
def tupleP : Prim := fun ds S => match ds with
  | [d] => match d with
    | .tuple xs => some (.tuple xs, S)
    | .dict [(.none, .tuple xs)] => some (.dict [(.none, .tuple xs)], S)
    | d => (seqD d S).map fun xs => (.tuple xs, S)
  | _ => none
theorem pn_tuple : PN K (fun xs H Q => ∃ p ys, xs = [.ref p] ∧ ((SqL K H p ys ∧ ∀ l, H l = none → Q (.ref l) (upd H l (.tup ys))) ∨ (SqT K H p ys ∧ Q (.ref p) H))) tupleP := fun W H vs ds d S' Q ok dn hf fin => by
  unfold tupleP at hf
  split at hf
  · rename_i d0
    cases dn with
    | cons h1 h2 =>
      cases h2
      split at hf
      · cases hf
        cases h1 with
        | tup h r => exact ⟨_, _, rfl, .inr ⟨SqT.of (ok.ex _ _ h), fin W _ H (Le.refl _) rfl ok (.tup h r)⟩⟩
      · cases hf
        cases h1 with
        | tws h q r => exact ⟨_, _, rfl, .inr ⟨.inl (.inr ⟨_, ok.ex _ _ h⟩), fin W _ H (Le.refl _) rfl ok (.tws h q r)⟩⟩
      · rename_i hn hw
        cases hc : seqD d0 W.S with
        | none => rw [hc] at hf; cases hf
        | some ys =>
          rw [hc] at hf
          cases hf
          obtain ⟨q, xs, rfl, hq, r⟩ := seql_den ok h1 (fun ts z => hn ts z) (fun ts z => hw ts z) hc
          refine ⟨q, xs, rfl, .inl ⟨hq, fun l hl => ?_⟩⟩
          obtain ⟨ok2, l2, s, e⟩ := ok.lay (o := .tup xs) hl
          exact fin _ _ _ l2 s ok2 (.tup e (l2.dena r))
  · cases hf
def lisP : Prim := fun ds S => match ds with
  | [d] => match d with
    | .tuple _ => none
    | .dict [(.none, .tuple _)] => none
    | d => (seqD d S).map fun _ => (d, S)
  | _ => none
theorem p1_lis : P1 K (fun x H1 Q => tyV K "list" x H1 ∧ Q x H1) lisP := fun W H v dv d S' Q ok dn hf fin => by
  unfold lisP at hf
  dsimp only at hf
  split at hf
  · cases hf
  · cases hf
  · rename_i hn hw
    cases hc : seqD dv W.S with
    | none => rw [hc] at hf; cases hf
    | some ys =>
      rw [hc] at hf
      cases hf
      obtain ⟨q, xs, rfl, hq, r⟩ := seql_den ok dn (fun ts z => hn ts z) (fun ts z => hw ts z) hc
      exact ⟨.inl ⟨rfl, xs, hq⟩, fin W _ H (Le.refl _) rfl ok dn⟩
theorem v_lm1 {name : Str} {id : String} {r : V → List V → Hp → VK → Prop} {fP : Prim} (slot : Slot "list" name id) (hty : typeOf (.builtin id) = pure (.type "method_descriptor")) (hm : MtR X id r) (pp : P2 X.K (fun x y H Q => r x [y] H Q) fP)
    (ho : PE X o (tE X.K call ca)) (he : PE X e (tE X.K call cb)) (hbase : attributeBase o name X.env (eval o X.env) = eval o X.env := by rfl)
    (hfew : (((backTo cpos (starEach [e] X.env)).all fun x => !x.fst) && (backToKw cpos (keywordEach [] X.env)).all fun x => x.fst.isSome) && decide (([e].length + ([] : List Keyword).length + if ([] : List Keyword).isEmpty = true then 0 else 1) < 30) = true := by rfl)
    (hline : (apos.endLine == cpos.line) = true := by rfl) (hs : starEach [e] X.env = (false, eval e X.env) :: starEach [] X.env := by rfl) (hp : (backTo cpos (starEach [] X.env)).any (·.1) = false := by rfl) :
    PE X (.Call (.Attribute o name apos) [e] [] cpos) (tE X.K call (.prim fP (.cons (.prim lisP (.cons ca .nil)) (.cons cb .nil)))) :=
  peM (pe_bm PySem.F.plainAttrs_list slot hty hm ho (pa_cons he pa_nil hs) hbase hfew hline hs hp) fun σ H Q h => to_p1 (p1_lis (K := X.K)) (to_p2 pp h)
/-- xs.append(y) -/
def appP : Prim := fun ds S => match ds with
  | [.dict [(.int (Int.ofNat i), .none)], y] => match S[i]? with
    | some (.obj (.lst xs)) => if xs.length < 100000 then some (.none, S.set i (.obj (.lst (xs ++ [y])))) else none
    | _ => none
  | _ => none
theorem p2_app : P2 K (fun x y H Q => rAppend x [y] H Q) appP := fun W H v u dv du d S' Q ok h1 h2 hf fin => by
  unfold appP at hf
  split at hf
  · rename_i i dy hds
    cases hds
    split at hf
    · rename_i xs hx
      split at hf
      · rename_i hz
        cases hf
        obtain ⟨a', ys, g1, g2, g3, g4⟩ := ok.lst i _ hx
        cases h1 with
        | ref h =>
          rw [g1] at h; cases h
          obtain ⟨ok2, l2⟩ := ok.put (xs := ys ++ [u]) hx g1 (g4.append (.cons h2 .nil))
          exact ⟨_, ys, u, rfl, rfl, g3, Nat.lt_of_lt_of_le (by rw [g4.length]; exact hz) (Evl.sz_of (Nat.le_refl 100000)), fin _ _ _ l2 rfl ok2 .non⟩
      · cases hf
    · cases hf
  · cases hf
/-- xs.pop(i) -/
def popP : Prim := fun ds S => match ds with
  | [.dict [(.int (Int.ofNat i), .none)], .int j] => match S[i]? with
    | some (.obj (.lst xs)) => if -(2 ^ 63) ≤ j ∧ j < 2 ^ 63 then (seqIndex? j xs.length).bind fun k => (xs[k]?).map fun y => (y, S.set i (.obj (.lst (xs.eraseIdx k)))) else none
    | _ => none
  | _ => none
theorem DenA.erase {F : Hp} {ρ : List Addr} : ∀ {vs : List V} {ds : List D} (k : Nat), DenA K F ρ vs ds → DenA K F ρ (vs.eraseIdx k) (ds.eraseIdx k)
  | _, _, _, .nil => .nil
  | _, _, 0, .cons _ r => r
  | _, _, k + 1, .cons h r => .cons h (DenA.erase k r)
theorem p2_pop : P2 K (fun x y H Q => rPopAt x [y] H Q) popP := fun W H v u dv du d S' Q ok h1 h2 hf fin => by
  unfold popP at hf
  split at hf
  · rename_i i j hds
    cases hds
    split at hf
    · rename_i xs hx
      split at hf
      · rename_i hz
        obtain ⟨k, hk, hf⟩ := bind_some hf
        cases hy : xs[k]? with
        | none => rw [hy] at hf; cases hf
        | some y =>
          rw [hy] at hf
          cases hf
          cases h2
          obtain ⟨a', ys, g1, g2, g3, g4⟩ := ok.lst i _ hx
          cases h1 with
          | ref h =>
            rw [g1] at h; cases h
            obtain ⟨v', q1, q2⟩ := g4.get hy
            obtain ⟨ok2, l2⟩ := ok.put (xs := ys.eraseIdx k) hx g1 (g4.erase k)
            exact ⟨_, ys, j, k, v', rfl, rfl, g3, hz.1, hz.2, by rw [g4.length]; exact hk, q1, fin _ _ _ l2 rfl ok2 (l2.den q2)⟩
      · cases hf
    · cases hf
  · cases hf
/-- xs.extend(ys) -/
def extP : Prim := fun ds S => match ds with
  | [.dict [(.int (Int.ofNat i), .none)], .list ys] => match S[i]? with
    | some (.obj (.lst xs)) => if xs.length + ys.length ≤ 100000 then some (.none, S.set i (.obj (.lst (xs ++ ys)))) else none
    | _ => none
  | _ => none
theorem p2_ext : P2 K (fun x y H Q => rExtend x [y] H Q) extP := fun W H v u dv du d S' Q ok h1 h2 hf fin => by
  unfold extP at hf
  split at hf
  · rename_i i dy hds
    cases hds
    split at hf
    · rename_i xs hx
      split at hf
      · rename_i hz
        cases hf
        obtain ⟨a', ys, g1, g2, g3, g4⟩ := ok.lst i _ hx
        cases h1 with
        | ref h =>
          rw [g1] at h; cases h
          cases h2 with
          | lst q r =>
            obtain ⟨ok2, l2⟩ := ok.put hx g1 (g4.append r)
            exact ⟨_, _, ys, _, rfl, rfl, g3, ok.ex _ _ q, Evl.sz_of (by rw [g4.length, r.length]; exact hz), fin _ _ _ l2 rfl ok2 .non⟩
      · cases hf
    · cases hf
  · cases hf
def flatD : D → Bool
  | .none => true
  | .bool _ => true
  | .int _ => true
  | .str _ => true
  | _ => false
def eqF : D → D → Bool
  | .none, .none => true
  | .bool a, .bool b => a == b
  | .bool a, .int b => (if a then 1 else 0) == b
  | .int a, .bool b => a == (if b then 1 else 0)
  | .int a, .int b => a == b
  | .str a, .str b => a == b
  | _, _ => false
theorem flat_den {F : Hp} {ρ : List Addr} {v : V} {d : D} (h : Den K F ρ v d) (hf : flatD d = true) : flatV v = true := by
  cases h <;> first | rfl | cases hf
theorem eqF_den {F : Hp} {ρ : List Addr} {v u : V} {d e : D} (h : Den K F ρ v d) (h2 : Den K F ρ u e) (hf : flatD d = true) (hg : flatD e = true) : eqV v u = eqF d e := by
  cases h <;> first | (cases hf; done) | skip
  all_goals (cases h2 <;> first | (cases hg; done) | rfl)
def inD (x : D) (xs : List D) : Bool := xs.any fun y => eqF y x
theorem inD_den {F : Hp} {ρ : List Addr} {u : V} {x : D} (h : Den K F ρ u x) (hf : flatD x = true) : ∀ {vs : List V} {ds : List D}, DenA K F ρ vs ds → ds.all flatD = true → vs.all flatV = true ∧ inV u vs = inD x ds
  | _, _, .nil, _ => ⟨rfl, rfl⟩
  | _, _, .cons q r, hg => by
    rw [List.all_cons, Bool.and_eq_true] at hg
    obtain ⟨i1, i2⟩ := inD_den h hf r hg.2
    refine ⟨by rw [List.all_cons, flat_den q hg.1, i1]; rfl, ?_⟩
    unfold inV inD at *
    rw [List.any_cons, List.any_cons, eqF_den q h hg.1 hf, i2]
def memP (neg : Bool) : Prim := fun ds S => match ds with
  | [x, s] => (seqD s S).bind fun xs => if flatD x = true ∧ xs.all flatD = true then some (.bool (if neg then !inD x xs else inD x xs), S) else none
  | _ => none
theorem p2_mem {neg : Bool} : P2 K (rIn K neg) (memP neg) := fun W H v u dv du d S' Q ok h1 h2 hf fin => by
  unfold memP at hf
  dsimp only at hf
  obtain ⟨xs, hx, hf⟩ := bind_some hf
  split at hf
  · rename_i hz
    cases hf
    obtain ⟨q, ys, rfl, hq, r⟩ := seq_den ok h2 hx
    obtain ⟨i1, i2⟩ := inD_den h1 hz.1 r hz.2
    refine ⟨q, ys, rfl, hq, flat_den h1 hz.1, i1, fin W _ H (Le.refl _) rfl ok ?_⟩
    rw [i2]
    exact .bl _
  · cases hf
def sumIs : List D → Option (List Int)
  | [] => some []
  | .int b :: ds => (sumIs ds).map (b :: ·)
  | _ :: _ => none
theorem sumI_den {F : Hp} {ρ : List Addr} : ∀ {xs : List V} {ds : List D} {bs : List Int}, DenA K F ρ xs ds → sumIs ds = some bs → xs = bs.map V.int
  | _, _, _, .nil, e => by cases e; rfl
  | _, _, bs, .cons (d := .int b) (ds := ds) h r, e => by
    unfold sumIs at e
    cases hb : sumIs ds with
    | none => rw [hb] at e; cases e
    | some cs =>
      rw [hb] at e
      cases e
      cases h
      rw [sumI_den r hb]
      rfl
  | _, _, _, .cons (d := .none) _ _, e => nomatch e
  | _, _, _, .cons (d := .bool _) _ _, e => nomatch e
  | _, _, _, .cons (d := .str _) _ _, e => nomatch e
  | _, _, _, .cons (d := .list _) _ _, e => nomatch e
  | _, _, _, .cons (d := .tuple _) _ _, e => nomatch e
  | _, _, _, .cons (d := .dict _) _ _, e => nomatch e
def sumP : Prim := fun ds S => match ds with
  | [d] => match d with
    | .tuple _ => none
    | .dict [(.none, .tuple _)] => none
    | d => (seqD d S).bind fun xs => (sumIs xs).map fun ns => (.int ns.sum, S)
  | _ => none
theorem pn_sum : PN K (rSum K) sumP := fun W H vs ds d S' Q ok dn hf fin => by
  unfold sumP at hf
  split at hf
  · rename_i d'
    cases dn with
    | cons h1 h2 =>
      cases h2
      split at hf
      · cases hf
      · cases hf
      · rename_i hn hw
        obtain ⟨xs, hx, hf⟩ := bind_some hf
        cases hb : sumIs xs with
        | none => rw [hb] at hf; cases hf
        | some ns =>
          rw [hb] at hf
          cases hf
          obtain ⟨q, ys, rfl, hq, r⟩ := seql_den ok h1 (fun ts z => hn ts z) (fun ts z => hw ts z) hx
          exact ⟨q, ns, rfl, by rw [← sumI_den r hb]; exact hq, fin W _ H (Le.refl _) rfl ok (.int _)⟩
  · cases hf
def leTx (a b : Str) : Bool := !ltCps b.cps.toList a.cps.toList
theorem leTx_iff {a b : Str} : leTx a b = true ↔ a.cps.toList ≤ b.cps.toList := by
  unfold leTx
  rw [ltCps_eq, Bool.not_eq_true', decide_eq_false_iff_not]
  exact List.not_lt
theorem leTx_trans (a b c : Str) (h : leTx a b = true) (g : leTx b c = true) : leTx a c = true := leTx_iff.mpr (List.le_trans (leTx_iff.mp h) (leTx_iff.mp g))
theorem leTx_total (a b : Str) : (leTx a b || leTx b a) = true := by
  rw [Bool.or_eq_true, leTx_iff, leTx_iff]
  exact List.le_total _ _
theorem leTx_anti {a b : Str} (h : leTx a b = true) (g : leTx b a = true) : a = b := by
  have e := List.le_antisymm (leTx_iff.mp h) (leTx_iff.mp g)
  cases a
  cases b
  congr 1
  exact Array.toList_inj.mp e
def sortT (xs : List Str) : List Str := xs.mergeSort leTx
theorem rising_pw : ∀ (x : Str) (xs : List Str), risingS x xs = true → (∀ y ∈ xs, leTx x y = true) ∧ xs.Pairwise fun a b => leTx a b = true
  | _, [], _ => ⟨fun _ h => (nomatch h), .nil⟩
  | x, y :: ys, h => by
    unfold risingS at h
    rw [Bool.and_eq_true] at h
    obtain ⟨i1, i2⟩ := rising_pw y ys h.2
    have hxy : leTx x y = true := h.1
    refine ⟨fun z hz => ?_, .cons i1 i2⟩
    rcases List.mem_cons.mp hz with rfl | hz
    · exact hxy
    · exact leTx_trans _ _ _ hxy (i1 z hz)
theorem sorted_one {xs ys : List Str} (hp : ys.Perm xs) (h : sortedS ys = true) : ys = sortT xs := by
  have pw : ys.Pairwise fun a b => leTx a b = true := by
    cases ys with
    | nil => exact .nil
    | cons y ys =>
      obtain ⟨i1, i2⟩ := rising_pw y ys h
      exact .cons i1 i2
  exact List.Perm.eq_of_pairwise (fun a b _ _ => leTx_anti) pw (List.pairwise_mergeSort leTx_trans leTx_total xs) (hp.trans (List.mergeSort_perm xs leTx).symm)
def srtP : Prim := fun ds S => match ds with
  | [d] => match d with
    | .tuple _ => none
    | .dict [(.none, .tuple _)] => none
    | d => (seqD d S).bind fun xs => (strsD xs).bind fun ss => if ss.length < 64 then some (.list ((sortT ss).map .str), S) else none
  | _ => none
theorem strs_dena {F : Hp} {ρ : List Addr} : ∀ xs : List Str, DenA K F ρ (xs.map V.str) (xs.map PyData.str)
  | [] => .nil
  | x :: xs => .cons (.str x) (strs_dena xs)
theorem pn_srt : PN K (rSortedS K) srtP := fun W H vs ds d S' Q ok dn hf fin => by
  unfold srtP at hf
  split at hf
  · rename_i d'
    cases dn with
    | cons h1 h2 =>
      cases h2
      split at hf
      · cases hf
      · cases hf
      · rename_i hn hw
        obtain ⟨xs, hx, hf⟩ := bind_some hf
        obtain ⟨ss, hs, hf⟩ := bind_some hf
        split at hf
        · rename_i hz
          cases hf
          obtain ⟨q, ys, rfl, hq, r⟩ := seql_den ok h1 (fun ts z => hn ts z) (fun ts z => hw ts z) hx
          refine ⟨q, ss, rfl, by rw [← strs_den r hs]; exact hq, hz, fun zs l hp hsd hl => ?_⟩
          obtain ⟨ok2, l2, s, e⟩ := ok.lay (o := .lst (zs.map V.str)) hl
          refine fin _ _ _ l2 s ok2 (.lst e ?_)
          rw [sorted_one hp hsd]
          exact strs_dena _
        · cases hf
  · cases hf
end
end Iv

set_option Elab.async false
set_option linter.all false
set_option maxRecDepth 100000
set_option maxHeartbeats 2000000
namespace Iv
open PySem PySem.Spec PyProof.Rows L2 Builtin
section
variable {P : Program} {w : World} {A : Around} {E : Value → Shared → Prop} {s : Shared}
theorem collect_tup {l : Addr} {us : List Value} {Q : List Value → Shared → Prop} (ht : IsTup s.heap l us.toArray) (hz : us.length ≤ sizeLine)
    (h : Q us { s with heap := (s.heap.push (seqObj "list" #[] 0)).update s.heap.objs.size (Obj.mapSeq fun v => v ++ us.toArray) }) : wpAny (model P w) A (collect (.ref l)) Q E s := by
  obtain ⟨o, e1, e2, k, e3⟩ := ht
  have e1' : (s.heap.push (seqObj "list" #[] 0)).get? l = some o := Heap.get?_push_of_some _ e1
  have new : (s.heap.push (seqObj "list" #[] 0)).get? s.heap.objs.size = some (seqObj "list" #[] 0) := Heap.get?_push_size _ rfl
  unfold collect
  refine wpAny_bind (wpAny_runValue (codeAny_builtin entry_proto_collect' (show wpAny _ _ (do again (.builtin "list.__iadd__" ⟨[← newList [], .ref l], []⟩)) _ _ s from wpAny_bind (wpAny_newList (wpAny_pure ⟨Code.quiet_builtin _ (by decide +kernel), codeAny_builtin entry_list_iadd' ?_⟩)))))
  show wpAny _ _ (List.listExtendWith (.ref s.heap.objs.size) (.ref l) (.ref s.heap.objs.size)) _ _ { s with heap := s.heap.push (seqObj "list" #[] 0) }
  unfold List.listExtendWith
  refine wpAny_bind (wpAny_typeOf (T := "tuple") ⟨o, e1', e2⟩ ?_)
  have tt : (Value.type "tuple" == Value.type "tuple") = true := by rfl
  rw [if_pos (by rw [tt, Bool.or_true])]
  refine wpAny_bind (listItems_at e1' e3 (wpAny_bind (listItems_at new rfl ?_)))
  rw [if_neg (by simp)]
  refine wpAny_bind (listUpdate_at new rfl (wpAny_pure ?_) (Nat.zero_le _) (by rw [Array.size_append]; show 0 + us.toArray.size ≤ _; rw [List.size_toArray]; omega))
  show wpAny (model P w) A (do let ob ← load s.heap.objs.size; match ob.data with | .seq ys _ => pure ys.toList | _ => unsupported "internal:collect") Q E { s with heap := (s.heap.push (seqObj "list" #[] 0)).update s.heap.objs.size (Obj.mapSeq fun v => v ++ us.toArray) }
  refine wpAny_bind (wpAny_load (get?_update_seq new _) ?_)
  show wpAny _ _ (pure ((#[] : Array Value) ++ us.toArray).toList) Q E _
  rw [show ((#[] : Array Value) ++ us.toArray).toList = us by simp]
  exact wpAny_pure h
theorem sorted_tup {l : Addr} {us : List Value} {ss : List Str} {Q : Value → Shared → Prop} (ht : IsTup s.heap l us.toArray) (hS : StrsAre us ss) (hz : us.length < 64)
    (h : ∀ (out : Array Value) (zs : List Str), StrsAre out.toList zs → zs.Perm ss → sortedS zs = true → Q (.ref (s.heap.objs.size + 1)) { s with heap := sortedAll s.heap us out }) : wpAny (model P w) A (PySem.call (.builtin "sorted") [.ref l]) Q E s := by
  refine Calls.call_function_entry kind_sorted plain_sorted entry_sorted (args_sorted1 _) ?_
  unfold Builtin.«sorted»
  refine wpAny_bind (m := checkCount "sorted" 1 1 _) (wpAny_pure (wpAny_bind (collect_tup ht (Nat.le_trans (Nat.le_of_lt hz) (by decide)) (wpAny_bind (wpAny_newList ?_)))))
  have z1 : ((s.heap.push (seqObj "list" #[] 0)).update s.heap.objs.size (Obj.mapSeq (fun v => v ++ us.toArray))).objs.size = s.heap.objs.size + 1 := by rw [Heap.size_update, size_push']
  have oL : (((s.heap.push (seqObj "list" #[] 0)).update s.heap.objs.size (Obj.mapSeq (fun v => v ++ us.toArray))).push (seqObj "list" us.toArray 0)).get? (s.heap.objs.size + 1) = some (seqObj "list" us.toArray 0) := by
    rw [← z1]
    exact Heap.get?_push_size _ rfl
  show wpAny _ _ _ _ _ { s with heap := ((s.heap.push (seqObj "list" #[] 0)).update s.heap.objs.size (Obj.mapSeq (fun v => v ++ us.toArray))).push (seqObj "list" us.toArray 0) }
  rw [z1]
  refine wpAny_bind (wpAny_holding (wpAny_call_entry slot_list_sort ⟨_, oL, rfl⟩ entry_list_sort (list_sort_treeK strKind_oneLt oL hS.keysOf (fun a b r e => keyKind_strs (by rw [← e]; exact hS)) hz fun st hp hs => ⟨_, rfl, ?_⟩) (args_list_sort _)))
  obtain ⟨zs, g1, g2, g3⟩ := sorted_out_str hS hp hs
  exact wpAny_pure ⟨_, rfl, h _ zs g1 g2 g3⟩
end
section
variable {X : Cx}
def rSortTp (K : PySem.W.Frag) : List V → Hp → VK → Prop := fun vs H Q => ∃ (a : Addr) (xs : List Str), vs = [V.ref a] ∧ SqT K H a (xs.map V.str) ∧ xs.length < 64 ∧ ∀ (zs : List Str) (p : Addr), zs.Perm xs → sortedS zs = true → H p = none → Q (.ref p) (upd H p (.lst (zs.map V.str)))
theorem cr_sortTp : CallR X (.builtin "sorted") (rSortTp X.K) := by
  intro pins s σ H vs us Q I r h
  obtain ⟨a, xs, rfl, hs, hz, q⟩ := h
  obtain ⟨its, rv, pl, _⟩ := I.tuple hs
  rw [Vals.ref1 r]
  have n0 := rv.length
  rw [List.length_map] at n0
  refine sorted_tup pl rv.strs (by rw [← n0]; exact hz) fun out zs g1 g2 g3 => ?_
  obtain ⟨ep, at_⟩ := sortedAll_at s.heap its out
  have nz : (zs.map V.str).length ≤ sizeLine := by rw [List.length_map, g2.length_eq]; exact Nat.le_trans (Nat.le_of_lt hz) (by decide)
  exact ⟨.ref _, upd H (s.heap.objs.size + 1) (.lst (zs.map V.str)), I.laid (t' := s.toks) (fun _ _ => sortedAll_old) (Nat.le_succ _) ⟨nz, out.toList, ep, vals_of_strs g1, at_⟩, rfl, q zs _ g2 g3 (I.hok.fresh (Nat.le_succ _))⟩
end
section
open Evl (Ex ex_l ex_t)
variable {X : Cx} {call : CallT} {K : PySem.W.Frag} {H : Hp} {W : Wd} {ca cb ce : E} {a b e o : Expr} {es : List Expr} {pos apos cpos p : Pos}
/-- tuple(xs), xs a list -/
def rTupS (K : PySem.W.Frag) : List V → Hp → VK → Prop := fun xs H Q => ∃ p ys, xs = [V.ref p] ∧ SqL K H p ys ∧ ∀ (l : Addr) (ob : Obj), H l = none → ob.dict = none → Q (.ref l) (upd H l (.frz ob (.tup ys)))
theorem call_tupS : CallR X (.type "tuple") (rTupS X.K) := by
  intro pins s σ H xs us Q I r h
  obtain ⟨q0, ys, rfl, hq, k⟩ := h
  obtain ⟨u, rfl, ru⟩ := vals1 r
  cases ru
  obtain ⟨its, rv, pl, hz⟩ := I.list hq
  refine call_tuple_list pl.isList (fun h' kp => ?_) (by rw [List.size_toArray, ← rv.length]; exact hz)
  have I1 : Inv X pins σ H { s with heap := h' } := I.kept (t' := s.toks) kp
  have I2 : Inv X pins σ (upd H h'.objs.size (.frz { cls := .type "tuple", data := .seq its.toArray } (.tup ys))) { s with heap := h'.push { cls := .type "tuple", data := .seq its.toArray } } :=
    I1.laid (t' := s.toks) (fun _ _ z => Heap.get?_push_of_some _ z) (Nat.le_refl _) ⟨Heap.get?_push_size _ rfl, ⟨hz, its, rv, IsTup.new _ _⟩⟩
  exact ⟨.ref h'.objs.size, _, I2, rfl, k _ _ (I1.hok.fresh (Nat.le_refl _)) rfl⟩
def tupSP : Prim := fun ds S => match ds with
  | [d] => match d with
    | .tuple _ => none
    | .dict [(.none, .tuple _)] => none
    | d => (seqD d S).map fun xs => (tw xs, S)
  | _ => none
theorem pn_tupS : PN K (rTupS K) tupSP := fun W H vs ds d S' Q ok dn hf fin => by
  unfold tupSP at hf
  split at hf
  · rename_i d0
    cases dn with
    | cons h1 h2 =>
      cases h2
      split at hf
      · cases hf
      · cases hf
      · rename_i hn hw
        cases hc : seqD d0 W.S with
        | none => rw [hc] at hf; cases hf
        | some ys =>
          rw [hc] at hf
          cases hf
          obtain ⟨q, xs, rfl, hq, r⟩ := seql_den ok h1 (fun ts z => hn ts z) (fun ts z => hw ts z) hc
          refine ⟨q, xs, rfl, hq, fun l ob hl hd => ?_⟩
          obtain ⟨ok2, l2, s, e⟩ := ok.lay (o := .frz ob (.tup xs)) hl
          exact fin _ _ _ l2 s ok2 (.tws e hd (l2.dena r))
  · cases hf
/-- t + u -/
def rCatS (K : PySem.W.Frag) : V → V → Hp → VK → Prop := fun x y H Q => ∃ p q xs ys, x = V.ref p ∧ y = V.ref q ∧ SqT K H p xs ∧ SqT K H q ys ∧ xs ≠ [] ∧ ys ≠ [] ∧ xs.length + ys.length ≤ sizeLine ∧
  ∀ (l : Addr) (ob : Obj), H l = none → ob.dict = none → Q (.ref l) (upd H l (.frz ob (.tup (xs ++ ys))))
theorem op_catS : OpR X (binaryOp .Add) (rCatS X.K) := by
  intro pins s σ H x y v u Q I rx ry h
  obtain ⟨p0, q0, xs, ys, rfl, rfl, hx, hy, nx, ny, hz, k⟩ := h
  cases rx
  cases ry
  obtain ⟨is1, r1, p1, _⟩ := I.tuple hx
  obtain ⟨is2, r2, p2, _⟩ := I.tuple hy
  refine HT.cat_tup p1 p2 (fun z => nx (r1.nil_iff.mp z)) (fun z => absurd (r2.nil_iff.mp z) ny) (fun z => ?_) (by rw [← r1.length, ← r2.length]; exact hz)
  have at_ := Heap.get?_push_size s.heap (o := { cls := .type "tuple", data := .seq (is1 ++ is2).toArray }) rfl
  refine ⟨.ref s.heap.objs.size, _, I.laid (t' := s.toks) (o := .frz { cls := .type "tuple", data := .seq (is1 ++ is2).toArray } (.tup (xs ++ ys))) (fun _ _ q => Heap.get?_push_of_some _ q) (Nat.le_refl _) ⟨?_, ⟨by rw [List.length_append]; exact hz, _, r1.append r2, ?_⟩⟩, rfl, k _ _ (I.hok.fresh (Nat.le_refl _)) rfl⟩
  · simpa using at_
  · exact ⟨_, by simpa using at_, rfl, _, rfl⟩
def tupsD : D → Option (List D)
  | .tuple xs => some xs
  | .dict [(.none, .tuple xs)] => some xs
  | _ => none
theorem tups_den {v : V} {d : D} {ds : List D} (ok : Wok K W H) (h : Den K W.F W.ρ v d) (hs : tupsD d = some ds) : ∃ q xs, v = .ref q ∧ SqT K H q xs ∧ DenA K W.F W.ρ xs ds := by
  unfold tupsD at hs
  split at hs
  · cases hs
    cases h with
    | tup h r => exact ⟨_, _, rfl, SqT.of (ok.ex _ _ h), r⟩
  · cases hs
    cases h with
    | tws h q r => exact ⟨_, _, rfl, .inl (.inr ⟨_, ok.ex _ _ h⟩), r⟩
  · cases hs
def catSP : Prim := fun ds S => match ds with
  | [x, y] => (tupsD x).bind fun xs => (tupsD y).bind fun ys => if xs.isEmpty = false ∧ ys.isEmpty = false ∧ xs.length + ys.length ≤ 100000 then some (tw (xs ++ ys), S) else none
  | _ => none
theorem p2_catS : P2 K (rCatS K) catSP := fun W H v u dv du d S' Q ok h1 h2 hf fin => by
  unfold catSP at hf
  dsimp only at hf
  obtain ⟨xs, g1, hf⟩ := bind_some hf
  obtain ⟨ys, g2, hf⟩ := bind_some hf
  split at hf
  · rename_i hz
    cases hf
    obtain ⟨p0, vs, rfl, q1, r1⟩ := tups_den ok h1 g1
    obtain ⟨q0, us, rfl, q2, r2⟩ := tups_den ok h2 g2
    refine ⟨p0, q0, vs, us, rfl, rfl, q1, q2, ?_, ?_, Evl.sz_of (by rw [r1.length, r2.length]; exact hz.2.2), fun l ob hl hd => ?_⟩
    · intro z
      subst z
      cases r1
      cases hz.1
    · intro z
      subst z
      cases r2
      cases hz.2.1
    · obtain ⟨ok2, l2, s, e⟩ := ok.lay (o := .frz ob (.tup (vs ++ us))) hl
      exact fin _ _ _ l2 s ok2 (.tws e hd (l2.dena (r1.append r2)))
  · cases hf
theorem v_catS (ha : PE X a (tE X.K call ca)) (hb : PE X b (tE X.K call cb)) : PE X (.BinOp a .Add b pos) (tE X.K call (.prim catSP (.cons ca (.cons cb .nil)))) := pe_bin op_catS p2_catS ha hb
/-- t.index(x), t a tuple of texts -/
def tixP : Prim := fun ds S => match ds with
  | [.dict [(.none, .tuple xs)], .str z] => (strsD xs).bind fun ys => (ys.findIdx? fun y => y == z).map fun j => (.int (j : Nat), S)
  | _ => none
def stgP : Prim := fun ds S => match ds with
  | [.dict [(.none, .tuple xs)]] => some (.dict [(.none, .tuple xs)], S)
  | _ => none
theorem p1_stg : P1 K (fun x H1 Q => (∃ q ob xs, x = V.ref q ∧ H1 q = some (.frz ob (.tup xs)) ∧ ob.dict = none) ∧ Q x H1) stgP := fun W H v dv d S' Q ok dn hf fin => by
  unfold stgP at hf
  split at hf
  · rename_i xs hds
    cases hds
    cases hf
    cases dn with
    | tws h q r => exact ⟨⟨_, _, _, rfl, ok.ex _ _ h, q⟩, fin W _ H (Le.refl _) rfl ok (.tws h q r)⟩
  · cases hf
def rTix (K : PySem.W.Frag) : V → List V → Hp → VK → Prop := fun x xs H Q => ∃ p, ∃ ys : List Str, ∃ z j, x = .ref p ∧ xs = [.str z] ∧ SqT K H p (ys.map V.str) ∧ ys[j]? = some z ∧ (∀ m, m < j → ys[m]? ≠ some z) ∧ Q (.int (j : Nat)) H
theorem p2_tix : P2 K (fun x y H Q => rTix K x [y] H Q) tixP := fun W H v u dv du d S' Q ok h1 h2 hf fin => by
  unfold tixP at hf
  split at hf
  · rename_i xs z hds
    cases hds
    obtain ⟨ys, g1, hf⟩ := bind_some hf
    cases hj : ys.findIdx? (fun y => y == z) with
    | none => rw [hj] at hf; cases hf
    | some j =>
      rw [hj] at hf
      cases hf
      cases h1 with
      | tws h q r =>
        cases h2
        obtain ⟨hlt, hz, hno⟩ := List.findIdx?_eq_some_iff_getElem.mp hj
        refine ⟨_, ys, z, j, rfl, rfl, ?_, ?_, fun m hm e => ?_, fin W _ H (Le.refl _) rfl ok (.int _)⟩
        · rw [← strs_den r g1]
          exact .inl (.inr ⟨_, ok.ex _ _ h⟩)
        · rw [List.getElem?_eq_getElem hlt, eq_of_beq hz]
        · have q2 := hno m hm
          rw [List.getElem?_eq_getElem (Nat.lt_trans hm hlt)] at e
          rw [Option.some.inj e] at q2
          simp at q2
  · cases hf
theorem v_tix (ho : PE X o (tE X.K call ca)) (he : PE X e (tE X.K call cb)) (hbase : attributeBase o "index" X.env (eval o X.env) = eval o X.env := by rfl)
    (hfew : (((backTo cpos (starEach [e] X.env)).all fun x => !x.fst) && (backToKw cpos (keywordEach [] X.env)).all fun x => x.fst.isSome) && decide (([e].length + ([] : List Keyword).length + if ([] : List Keyword).isEmpty = true then 0 else 1) < 30) = true := by rfl)
    (hline : (apos.endLine == cpos.line) = true := by rfl) (hs : starEach [e] X.env = (false, eval e X.env) :: starEach [] X.env := by rfl) (hp : (backTo cpos (starEach [] X.env)).any (·.1) = false := by rfl) :
    PE X (.Call (.Attribute o "index" apos) [e] [] cpos) (tE X.K call (.prim tixP (.cons (.prim stgP (.cons ca .nil)) (.cons cb .nil)))) := by
  refine ⟨fun pins s σ H Q I h => ?_⟩
  have h2 := to_p1 (p1_stg (K := X.K)) (to_p2 (p2_tix (K := X.K)) h)
  refine wpAny_Call_method_late hbase hfew hline rfl (thn (ho.run pins s σ H _ I h2) fun v s1 ⟨x, H1, I1, rx, ⟨q0, ob, xs, ex, eq, ed⟩, k⟩ => ?_)
  subst ex
  have hv : v = Value.ref q0 := rx
  subst hv
  obtain ⟨g1, _, its, _, ob', e1, e2, _⟩ := (show ObjOk X.prog X.w H1 s1.heap q0 (.frz ob (.tup xs)) from I1.hok q0 _ eq)
  refine ⟨"tuple", "tuple.index", PySem.F.plainAttrs_tuple, PySem.F.slot_tuple_index, PySem.F.type_tuple_index, ⟨ob', e1, e2⟩, fun b z => by cases z; exact ⟨ob, g1, ed⟩, ?_⟩
  have k2 : tCons (tE X.K call cb) tNil σ H1 (fun vs H2 => rTix X.K (V.ref q0) vs H2 Q) := k
  have hA := (pa_cons he pa_nil hs).run cpos pins s1 σ H1 (fun vs H2 => rTix X.K (V.ref q0) vs H2 Q) I1 k2
  rw [hs] at hA ⊢
  refine Calls.callWith_builtin (by show (false || (backTo cpos (starEach [] X.env)).any (·.1)) = false; rw [hp]; rfl) (Calls.evalArgs_plain (thn hA fun us s2 ⟨vs, H2, I2, r2, w⟩ => ?_))
  exact mt_tup_index pins s2 σ H2 (V.ref q0) vs (Value.ref q0) us Q I2 rfl r2 w
end
end Iv

set_option Elab.async false
set_option linter.all false
set_option maxRecDepth 100000
set_option maxHeartbeats 2000000
namespace Iv
open PySem PySem.Spec PyProof.Rows L2
section
variable {X : Cx} {call : CallT} {K : PySem.W.Frag} {H : Hp} {W : Wd} {ca cb ce cc : E} {a b e o : Expr} {es : List Expr} {pos apos cpos p : Pos}
theorem v_lcn {elt tg iter : Expr} {ifs : List Expr} {scope : Scope} {g : TG} {t : T} {it : E} (own : List (Str × Nat)) (hg : GOk X.K g t) (hc : X.calm = true) (hN : X.N.Nodup) (ok : BlkOk X.N X.env.scope scope own) (hin : t.inn (own.map (·.2)) = true) (hi : PI X tg iter (tI X.K call it))
    (hgp : ∀ (s : Shared) (H : Hp) (C : Addr) (cl : List (Str × Addr)) (fp : List Addr), PG (X.blk s H scope (compEnvC scope cl C X.env) fp) tg g)
    (ht : ∀ (s : Shared) (H : Hp) (C : Addr) (cl : List (Str × Addr)) (fp : List Addr), PTs (X.blk s H scope (compEnvC scope cl C X.env) fp) ifs (tT X.K call cc))
    (he : ∀ (s : Shared) (H : Hp) (C : Addr) (cl : List (Str × Addr)) (fp : List Addr), PE (X.blk s H scope (compEnvC scope cl C X.env) fp) elt (tE X.K call ce)) (hs : ∀ x, foldedSetIterable iter X.env x = pure x := by intro _; rfl) :
    PE X (.ListComp elt [⟨tg, iter, ifs, 0⟩] scope pos) (tE X.K call (.lcn t it cc ce (own.map (·.2)))) := peM (pe_lc hc hN hi ok hgp ht he hs) fun σ H Q h => tlcn hg hin (fun _ q => q) h
/-- a list that changes no more -/
def frzP : Prim := fun ds S => match ds with
  | [.dict [(.int (Int.ofNat i), .none)]] => match S[i]? with
    | some (.obj (.lst xs)) => some (.list xs, S.set i .dead)
    | _ => none
  | _ => none
theorem v_frz (h : PE X e (tE X.K call ca)) : PE X e (tE X.K call (.prim frzP (.cons ca .nil))) := peM h fun σ H Q q => to_p1 (r := fun x H1 Q => Q x H1) (fun W H v dv d S' Q ok dn hf fin => by
  unfold frzP at hf
  split at hf
  · rename_i i hds
    cases hds
    split at hf
    · rename_i xs hx
      cases hf
      cases dn with
      | ref h0 =>
        obtain ⟨ys, ok2, l2, dn2⟩ := ok.frz hx h0
        exact fin _ _ _ l2 rfl ok2 dn2
    · cases hf
  · cases hf) q
/-- [x] * n, made to change -/
def mulN : Prim := fun ds S => match ds with
  | [.list xs, .int k] => if -(2 ^ 63) ≤ k ∧ k < 2 ^ 63 ∧ xs.length * k.toNat ≤ 100000 then some (rf S.length, S ++ [.obj (.lst (List.replicate k.toNat xs).flatten)]) else none
  | _ => none
theorem p2_mulN : P2 K rRep mulN := fun W H x y dx dy d S' Q ok h1 h2 hf fin => by
  unfold mulN at hf
  split at hf
  · rename_i xs k hds
    cases hds
    split at hf
    · rename_i hz
      cases hf
      cases h2
      cases h1 with
      | lst q r =>
        refine ⟨_, _, _, rfl, rfl, ok.ex _ _ q, hz.1, hz.2.1, Evl.sz_of (by rw [r.length]; exact hz.2.2), fun l hl => ?_⟩
        obtain ⟨ok2, l2, last⟩ := ok.push (p := l) hl (r.flatten k.toNat)
        exact fin _ _ _ l2 rfl ok2 (.ref last)
    · cases hf
  · cases hf
theorem v_mulN (ha : PE X a (tE X.K call ca)) (hb : PE X b (tE X.K call cb)) : PE X (.BinOp a .Mult b pos) (tE X.K call (.prim mulN (.cons ca (.cons cb .nil)))) := pe_bin op_rep p2_mulN ha hb
/-- list(xs), made to change -/
def listN : Prim := fun ds S => match ds with
  | [d] => (seqD d S).map fun xs => (rf S.length, S ++ [.obj (.lst xs)])
  | _ => none
theorem pn_listN : PN K (fun xs H Q => ∃ p ys, xs = [.ref p] ∧ (SqL K H p ys ∨ SqT K H p ys) ∧ ∀ l, H l = none → Q (.ref l) (upd H l (.lst ys))) listN := fun W H vs ds d S' Q ok dn hf fin => by
  unfold listN at hf
  split at hf
  · cases dn with
    | cons h1 h2 =>
      cases h2
      rename_i d' v
      cases hc : seqD d' W.S with
      | none => rw [hc] at hf; cases hf
      | some ys =>
        rw [hc] at hf
        cases hf
        obtain ⟨q, xs, rfl, hq, r⟩ := seq_den ok h1 hc
        refine ⟨q, xs, rfl, hq, fun l hl => ?_⟩
        obtain ⟨ok2, l2, last⟩ := ok.push (p := l) hl r
        exact fin _ _ _ l2 rfl ok2 (.ref last)
  · cases hf
/-- sorted(t), t a tuple of texts -/
def srtTP : Prim := fun ds S => match ds with
  | [d] => (tupsD d).bind fun xs => (strsD xs).bind fun ss => if ss.length < 64 then some (.list ((sortT ss).map .str), S) else none
  | _ => none
theorem pn_srtT : PN K (rSortTp K) srtTP := fun W H vs ds d S' Q ok dn hf fin => by
  unfold srtTP at hf
  split at hf
  · cases dn with
    | cons h1 h2 =>
      cases h2
      obtain ⟨xs, hx, hf⟩ := bind_some hf
      obtain ⟨ss, hs, hf⟩ := bind_some hf
      split at hf
      · rename_i hz
        cases hf
        obtain ⟨q, ys, rfl, hq, r⟩ := tups_den ok h1 hx
        refine ⟨q, ss, rfl, by rw [← strs_den r hs]; exact hq, hz, fun zs l hp hsd hl => ?_⟩
        obtain ⟨ok2, l2, s, e⟩ := ok.lay (o := .lst (zs.map V.str)) hl
        refine fin _ _ _ l2 s ok2 (.lst e ?_)
        rw [sorted_one hp hsd]
        exact strs_dena _
      · cases hf
  · cases hf
def enumD (ds : List D) : List D := (List.range ds.length).map fun (i : Nat) => .tuple [.int (i : Nat), (ds[i]?).getD .none]
theorem enumD_get {ds : List D} {i : Nat} {d : D} (h : (enumD ds)[i]? = some d) : ∃ y, ds[i]? = some y ∧ d = .tuple [.int (i : Nat), y] := by
  unfold enumD at h
  rw [List.getElem?_map] at h
  cases hr : (List.range ds.length)[i]? with
  | none => rw [hr] at h; cases h
  | some j =>
    rw [hr] at h
    cases h
    obtain ⟨h1, h2⟩ := List.getElem?_eq_some_iff.mp hr
    rw [List.getElem_range] at h2
    subst h2
    rw [List.length_range] at h1
    refine ⟨ds[i], List.getElem?_eq_getElem h1, ?_⟩
    dsimp only
    rw [List.getElem?_eq_getElem h1]
    rfl
theorem enumD_len (ds : List D) : (enumD ds).length = ds.length := by
  unfold enumD
  rw [List.length_map, List.length_range]
theorem goes_e {W : Wd} {q : Addr} {xs : List V} {ds : List D} (h : SqL K W.F q xs) (r : DenA K W.F W.ρ xs ds) : Goes K (Ite K q) (enumD ds) W := fun i W1 H l ok => by
  have hs : SqL K H q xs := Evl.ex_l (l.ex.trans ok.ex) h
  refine ⟨fun hi => ⟨xs, hs, by rw [r.length, ← enumD_len]; exact hi⟩, fun d hd => ?_⟩
  obtain ⟨y, g1, rfl⟩ := enumD_get hd
  obtain ⟨v, h1, h2⟩ := r.get g1
  refine ⟨⟨xs, v, hs, h1⟩, fun x H' hy => ?_⟩
  obtain ⟨T, x', rfl, hT, rfl, f⟩ := hy
  have : x' = v := Option.some.inj ((f xs hs).symm.trans h1)
  subst this
  obtain ⟨ok2, l2, s2, e2⟩ := ok.lay (o := .tup [.int (i : Nat), x']) hT
  exact ⟨_, l2, s2, ok2, .tup e2 (.cons (.int _) (.cons (l2.den (l.den h2)) .nil))⟩
def froL (d : D) (S : List SO) : Option (List D) := match d with
  | .list xs => some xs
  | .dict [(.int (Int.ofNat i), .none)] => match S[i]? with
    | some (.fro xs) => some xs
    | _ => none
  | _ => none
theorem froL_den {v : V} {d : D} {ds : List D} (ok : Wok K W H) (h : Den K W.F W.ρ v d) (hs : froL d W.S = some ds) : ∃ q xs, v = .ref q ∧ SqL K W.F q xs ∧ DenA K W.F W.ρ xs ds := by
  unfold froL at hs
  split at hs
  · cases hs
    cases h with
    | lst h r => exact ⟨_, _, rfl, SqL.of h, r⟩
  · split at hs
    · rename_i hx
      cases hs
      cases h with
      | ref h0 =>
        obtain ⟨q', ys, g1, g2, g3⟩ := ok.fro _ _ hx
        rw [g1] at h0; cases h0
        exact ⟨_, ys, rfl, g2, g3⟩
    · cases hs
  · cases hs
def itE : ItrP := fun ds S => match ds with
  | [d] => (froL d S).map fun xs => (enumD xs, S)
  | _ => none
theorem i_enum {tpos p : Pos} {elts : List Expr} {kk : Nat} (hm : X.mg "enumerate" = none) (ha : PA X [e] (tA X.K call ca)) (hg : Gl X "enumerate" := by rfl) (hs : starEach [e] X.env = [(false, eval e X.env)] := by rfl) :
    PI X (.Tuple elts kk tpos) (.Call (.Name "enumerate" p) [e] [] pos) (tI X.K call (.itr itE ca)) := piM (pi_enum hg hm ha hs) fun σ H R q => by
  obtain ⟨W, η, ds, S', ok, env, he, fin⟩ := ti_args q
  refine ⟨W, η, ds, S', ok, env, he, fun W1 vs H1 l s o dn => ?_⟩
  obtain ⟨W2, ds2, items, S2, ok2, dn2, hf, fin2⟩ := fin W1 vs H1 l s o dn
  unfold itE at hf
  split at hf
  · rename_i d0
    cases dn2 with
    | cons h1 h2 =>
      cases h2
      cases hc : froL d0 W2.S with
      | none => rw [hc] at hf; cases hf
      | some xs =>
        rw [hc] at hf
        cases hf
        obtain ⟨q0, ys, rfl, g1, g2⟩ := froL_den ok2 h1 hc
        exact ⟨q0, ys, rfl, Evl.ex_l ok2.ex g1, fin2 W2 _ H1 (Le.refl _) rfl ok2 (goes_e g1 g2)⟩
  · cases hf
def zipD (xs ys : List D) : List D := (List.range (min xs.length ys.length)).map fun (i : Nat) => .tuple [(xs[i]?).getD .none, (ys[i]?).getD .none]
theorem zipD_get {xs ys : List D} {i : Nat} {d : D} (h : (zipD xs ys)[i]? = some d) : ∃ x y, xs[i]? = some x ∧ ys[i]? = some y ∧ d = .tuple [x, y] := by
  unfold zipD at h
  rw [List.getElem?_map] at h
  cases hr : (List.range (min xs.length ys.length))[i]? with
  | none => rw [hr] at h; cases h
  | some j =>
    rw [hr] at h
    cases h
    obtain ⟨h1, h2⟩ := List.getElem?_eq_some_iff.mp hr
    rw [List.getElem_range] at h2
    subst h2
    rw [List.length_range] at h1
    have a1 : i < xs.length := by omega
    have a2 : i < ys.length := by omega
    refine ⟨xs[i], ys[i], List.getElem?_eq_getElem a1, List.getElem?_eq_getElem a2, ?_⟩
    dsimp only
    rw [List.getElem?_eq_getElem a1, List.getElem?_eq_getElem a2]
    rfl
theorem goes_z {W : Wd} {q q2 : Addr} {xs ys : List V} {ds es : List D} (h : SqL K W.F q xs) (r : DenA K W.F W.ρ xs ds) (h2 : SqL K W.F q2 ys) (r2 : DenA K W.F W.ρ ys es) : Goes K (Itz K q q2) (zipD ds es) W := fun i W1 H l ok => by
  have hs : SqL K H q xs := Evl.ex_l (l.ex.trans ok.ex) h
  have hs2 : SqL K H q2 ys := Evl.ex_l (l.ex.trans ok.ex) h2
  refine ⟨fun hi => ⟨xs, ys, hs, hs2, ?_⟩, fun d hd => ?_⟩
  · unfold zipD at hi
    rw [List.length_map, List.length_range] at hi
    rw [r.length, r2.length]
    omega
  · obtain ⟨x, y, g1, g2, rfl⟩ := zipD_get hd
    obtain ⟨v, a1, a2⟩ := r.get g1
    obtain ⟨u, b1, b2⟩ := r2.get g2
    refine ⟨⟨xs, ys, v, u, hs, hs2, a1, b1⟩, fun x0 H' hy => ?_⟩
    obtain ⟨T, x', y', rfl, hT, rfl, f1, f2⟩ := hy
    have e1 : x' = v := Option.some.inj ((f1 xs hs).symm.trans a1)
    have e2 : y' = u := Option.some.inj ((f2 ys hs2).symm.trans b1)
    subst e1 e2
    obtain ⟨ok2, l2, s2, e2⟩ := ok.lay (o := .tup [x', y']) hT
    exact ⟨_, l2, s2, ok2, .tup e2 (.cons (l2.den (l.den a2)) (.cons (l2.den (l.den b2)) .nil))⟩
def itZ : ItrP := fun ds S => match ds with
  | [d, d2] => (froL d S).bind fun xs => (froL d2 S).map fun ys => (zipD xs ys, S)
  | _ => none
theorem i_zip {e2 : Expr} {tpos p : Pos} {elts : List Expr} {kk : Nat} (hm : X.mg "zip" = none) (ha : PA X [e, e2] (tA X.K call ca)) (hg : Gl X "zip" := by rfl) (hs : starEach [e, e2] X.env = (false, eval e X.env) :: starEach [e2] X.env := by rfl) (hpl : (backTo pos (starEach [e2] X.env)).any (·.1) = false := by rfl) :
    PI X (.Tuple elts kk tpos) (.Call (.Name "zip" p) [e, e2] [] pos) (tI X.K call (.itr itZ ca)) := piM (pi_zip hg hm ha hs hpl) fun σ H R q => by
  obtain ⟨W, η, ds, S', ok, env, he, fin⟩ := ti_args q
  refine ⟨W, η, ds, S', ok, env, he, fun W1 vs H1 l s o dn => ?_⟩
  obtain ⟨W2, ds2, items, S2, ok2, dn2, hf, fin2⟩ := fin W1 vs H1 l s o dn
  unfold itZ at hf
  split at hf
  · rename_i d0 d1
    cases dn2 with
    | cons h1 h2 =>
      cases h2 with
      | cons h3 h4 =>
        cases h4
        obtain ⟨xs, hx, hf⟩ := bind_some hf
        cases hc : froL d1 W2.S with
        | none => rw [hc] at hf; cases hf
        | some ys =>
          rw [hc] at hf
          cases hf
          obtain ⟨q0, us, rfl, g1, g2⟩ := froL_den ok2 h1 hx
          obtain ⟨q1, vs, rfl, g3, g4⟩ := froL_den ok2 h3 hc
          exact ⟨q0, q1, us, vs, rfl, Evl.ex_l ok2.ex g1, Evl.ex_l ok2.ex g3, fin2 W2 _ H1 (Le.refl _) rfl ok2 (goes_z g1 g2 g3 g4)⟩
  · cases hf
end
end Iv

set_option Elab.async false
set_option linter.all false
set_option maxRecDepth 100000
set_option maxHeartbeats 2000000
namespace Iv
open PySem PySem.Spec PyProof.Rows L2
section
variable {X : Cx} {call : CallT} {K : PySem.W.Frag} {H : Hp} {W : Wd} {ca cb cc : E} {a b e o i : Expr} {es : List Expr} {pos apos cpos p : Pos}
def keyA : D → Option Key
  | .int i => some (.inl i)
  | .str x => some (.inr x)
  | _ => none
theorem keyA_eq {d : D} {k : Key} (h : keyA d = some k) : d = keyD k := by
  unfold keyA at h
  split at h <;> cases h <;> rfl
theorem keyA_of (k : Key) : keyA (keyD k) = some k := by cases k <;> rfl
def keysA : List D → Option (List Key)
  | [] => some []
  | d :: ds => (keyA d).bind fun k => (keysA ds).map fun ks => k :: ks
theorem keysA_eq : ∀ {ds : List D} {ks : List Key}, keysA ds = some ks → ds = ks.map keyD
  | [], _, h => by cases h; rfl
  | d :: ds, ks, h => by
    unfold keysA at h
    obtain ⟨k, h1, h⟩ := bind_some h
    cases h2 : keysA ds with
    | none => rw [h2] at h; cases h
    | some ks' =>
      rw [h2] at h
      cases h
      rw [keyA_eq h1, keysA_eq h2]
      rfl
theorem keysA_of : ∀ ks : List Key, keysA (ks.map keyD) = some ks
  | [] => rfl
  | k :: ks => by
    show (keyA (keyD k)).bind _ = _
    rw [keyA_of, keysA_of ks]
    rfl
def keyT : D → Option (List Key)
  | .tuple ds => keysA ds
  | _ => none
theorem keyT_eq {d : D} {ks : List Key} (h : keyT d = some ks) : d = .tuple (ks.map keyD) := by
  unfold keyT at h
  split at h
  · rw [keysA_eq h]
  · cases h
theorem keyT_of (ks : List Key) : keyT (.tuple (ks.map keyD)) = some ks := keysA_of ks
/-- the value at a key; f reads keys -/
def valD {κ : Type} [DecidableEq κ] (f : D → Option κ) (kvs : List (D × D)) (k : κ) : Option D := match kvs with
  | [] => none
  | (q, y) :: r => if f q = some k then some y else valD f r k
def putD {κ : Type} [DecidableEq κ] (f : D → Option κ) (kvs : List (D × D)) (q : D) (k : κ) (v : D) : List (D × D) :=
  if (valD f kvs k).isSome then kvs.map (fun kv => if f kv.1 = some k then (kv.1, v) else kv) else kvs ++ [(q, v)]
theorem valD_den {κ : Type} [DecidableEq κ] {f : D → Option κ} {g : κ → D} (hfg : ∀ k, f (g k) = some k) {F : Hp} {ρ : List Addr} {k : κ} : ∀ {kv : List (κ × V)} {kvs : List (D × D)}, kvs.map Prod.fst = kv.map (fun q => g q.1) → DenA K F ρ (kv.map Prod.snd) (kvs.map Prod.snd) →
    (∀ y, valD f kvs k = some y → ∃ v, valV kv k = some v ∧ Den K F ρ v y) ∧ (valD f kvs k = none → valV kv k = none)
  | [], [], _, _ => ⟨fun y h => (nomatch h), fun _ => rfl⟩
  | [], _ :: _, h, _ => nomatch h
  | _ :: _, [], h, _ => nomatch h
  | (c, v) :: kv, (q, y) :: kvs, h, r => by
    obtain ⟨h1, h2⟩ := List.cons.inj h
    have h1 : q = g c := h1
    subst h1
    rw [List.map_cons, List.map_cons] at r
    cases r with
    | cons r1 r2 =>
      obtain ⟨i1, i2⟩ := valD_den hfg (k := k) h2 r2
      unfold valD
      rw [hfg c]
      by_cases hc : c = k
      · rw [if_pos (by rw [hc]), valV_pos (p := (c, v)) hc]
        exact ⟨fun z hz => ⟨v, rfl, by cases hz; exact r1⟩, fun z => nomatch z⟩
      · rw [if_neg (by intro z; exact hc (Option.some.inj z)), valV_neg (p := (c, v)) hc]
        exact ⟨i1, i2⟩
theorem valD_same {κ : Type} [DecidableEq κ] {f : D → Option κ} {g : κ → D} (hfg : ∀ k, f (g k) = some k) {F : Hp} {ρ : List Addr} {k : κ} {kv : List (κ × V)} {kvs : List (D × D)} (h : kvs.map Prod.fst = kv.map (fun q => g q.1)) (r : DenA K F ρ (kv.map Prod.snd) (kvs.map Prod.snd)) :
    (valV kv k).isSome = (valD f kvs k).isSome := by
  obtain ⟨i1, i2⟩ := valD_den (k := k) hfg h r
  cases hv : valD f kvs k with
  | none => rw [i2 hv]; rfl
  | some y =>
    obtain ⟨v, g1, _⟩ := i1 y hv
    rw [g1]; rfl
theorem mapD_nm {κ : Type} [DecidableEq κ] {f : D → Option κ} {g : κ → D} (hfg : ∀ k, f (g k) = some k) {k : κ} {v : V} {d : D} : ∀ {kv : List (κ × V)} {kvs : List (D × D)}, kvs.map Prod.fst = kv.map (fun q => g q.1) →
    (kvs.map (fun z => if f z.1 = some k then (z.1, d) else z)).map Prod.fst = (kv.map (fun z => if z.1 = k then (z.1, v) else z)).map (fun q => g q.1)
  | [], [], _ => rfl
  | [], _ :: _, h => nomatch h
  | _ :: _, [], h => nomatch h
  | (c, u) :: kv, (q, y) :: kvs, h => by
    obtain ⟨h1, h2⟩ := List.cons.inj h
    have h1 : q = g c := h1
    subst h1
    rw [List.map_cons, List.map_cons, List.map_cons, List.map_cons, mapD_nm hfg (v := v) (d := d) h2]
    congr 1
    rw [hfg c]
    by_cases hc : c = k
    · rw [if_pos hc, if_pos (by rw [hc])]
    · rw [if_neg hc, if_neg (by intro z; exact hc (Option.some.inj z))]
theorem mapD_vl {κ : Type} [DecidableEq κ] {f : D → Option κ} {g : κ → D} (hfg : ∀ k, f (g k) = some k) {F : Hp} {ρ : List Addr} {k : κ} {v : V} {d : D} (hd : Den K F ρ v d) : ∀ {kv : List (κ × V)} {kvs : List (D × D)}, kvs.map Prod.fst = kv.map (fun q => g q.1) → DenA K F ρ (kv.map Prod.snd) (kvs.map Prod.snd) →
    DenA K F ρ ((kv.map (fun z => if z.1 = k then (z.1, v) else z)).map Prod.snd) ((kvs.map (fun z => if f z.1 = some k then (z.1, d) else z)).map Prod.snd)
  | [], [], _, _ => .nil
  | [], _ :: _, h, _ => nomatch h
  | _ :: _, [], h, _ => nomatch h
  | (c, u) :: kv, (q, y) :: kvs, h, r => by
    obtain ⟨h1, h2⟩ := List.cons.inj h
    have h1 : q = g c := h1
    subst h1
    rw [List.map_cons, List.map_cons] at r
    cases r with
    | cons r1 r2 =>
      rw [List.map_cons, List.map_cons, List.map_cons, List.map_cons]
      refine .cons ?_ (mapD_vl hfg hd h2 r2)
      rw [hfg c]
      by_cases hc : c = k
      · rw [if_pos hc, if_pos (by rw [hc])]; exact hd
      · rw [if_neg hc, if_neg (by intro z; exact hc (Option.some.inj z))]; exact r1
theorem putD_den {κ : Type} [DecidableEq κ] {f : D → Option κ} {g : κ → D} (hfg : ∀ k, f (g k) = some k) {F : Hp} {ρ : List Addr} {k : κ} {v : V} {d : D} (hd : Den K F ρ v d) {kv : List (κ × V)} {kvs : List (D × D)} (h : kvs.map Prod.fst = kv.map (fun q => g q.1)) (r : DenA K F ρ (kv.map Prod.snd) (kvs.map Prod.snd)) :
    (putD f kvs (g k) k d).map Prod.fst = (putK kv k v).map (fun q => g q.1) ∧ DenA K F ρ ((putK kv k v).map Prod.snd) ((putD f kvs (g k) k d).map Prod.snd) := by
  have hs := valD_same (k := k) hfg h r
  unfold putD putK
  rw [valV_any, hs]
  split
  · exact ⟨mapD_nm hfg h, mapD_vl hfg hd h r⟩
  · rw [List.map_append, List.map_append, List.map_append, List.map_append, h]
    exact ⟨rfl, r.append (.cons hd .nil)⟩
theorem keyD_den {F : Hp} {ρ : List Addr} {v : V} : ∀ {k : Key}, Den K F ρ v (keyD k) → v = kV k
  | .inl i, h => by cases h; rfl
  | .inr x, h => by cases h; rfl
theorem keysD_den {F : Hp} {ρ : List Addr} : ∀ {xs : List V} {ks : List Key}, DenA K F ρ xs (ks.map keyD) → xs = ks.map kV
  | [], [], _ => rfl
  | [], _ :: _, h => nomatch h
  | _ :: _, [], h => nomatch h
  | x :: xs, k :: ks, h => by
    rw [List.map_cons] at h
    cases h with
    | cons h1 h2 => rw [keyD_den h1, keysD_den h2]; rfl
def dlook (d k : D) (S : List SO) : Option (Option D) := match d with
  | .dict [(.int (Int.ofNat i), .none)] => match S[i]? with
    | some (.obj (.dct false kvs)) => (keyA k).map fun q => valD keyA kvs q
    | some (.obj (.dct true kvs)) => (keyT k).map fun q => valD keyT kvs q
    | _ => none
  | _ => none
theorem dlook_den {vd vk : V} {d k : D} {r : Option D} (ok : Wok K W H) (h1 : Den K W.F W.ρ vd d) (h2 : Den K W.F W.ρ vk k) (hs : dlook d k W.S = some r) : ∃ q o, vd = .ref q ∧ DGet H q vk o ∧ (r = none → o = none) ∧ ∀ y, r = some y → ∃ v, o = some v ∧ Den K W.F W.ρ v y := by
  unfold dlook at hs
  split at hs
  · rename_i j
    cases h1 with
    | ref h0 =>
      split at hs
      · rename_i kvs hj
        cases hk : keyA k with
        | none => rw [hk] at hs; cases hs
        | some q =>
          rw [hk] at hs
          cases hs
          have e := keyA_eq hk
          subst e
          have ev := keyD_den h2
          subst ev
          obtain ⟨a', ho, g1, g2, g3, g4⟩ := ok.obj j _ hj
          rw [g1] at h0; cases h0
          cases g4 with
          | dK n1 n2 =>
            obtain ⟨i1, i2⟩ := valD_den (k := q) keyA_of n1 n2
            exact ⟨_, _, rfl, DGet.k g3, i2, i1⟩
      · rename_i kvs hj
        cases hk : keyT k with
        | none => rw [hk] at hs; cases hs
        | some q =>
          rw [hk] at hs
          cases hs
          have e := keyT_eq hk
          subst e
          cases h2 with
          | tup t1 t2 =>
            have ev := keysD_den t2
            subst ev
            obtain ⟨a', ho, g1, g2, g3, g4⟩ := ok.obj j _ hj
            rw [g1] at h0; cases h0
            cases g4 with
            | dT n1 n2 =>
              obtain ⟨i1, i2⟩ := valD_den (g := fun ks => .tuple (ks.map keyD)) (k := q) keyT_of n1 n2
              exact ⟨_, _, rfl, DGet.t g3 (ok.ex _ _ t1), i2, i1⟩
      · cases hs
  · cases hs
def dgetP : Prim := fun ds S => match ds with
  | [d, k] => match dlook d k S with
    | some (some y) => some (y, S)
    | _ => none
  | _ => none
theorem v_dget (hu : X.A.units + 1 < cLine) (ho : PE X o (tE X.K call ca)) (hi : PE X i (tE X.K call cb)) (hs : NoSl i := by exact fun _ _ => rfl) : PE X (.Subscript o i pos) (tE X.K call (.prim dgetP (.cons ca (.cons cb .nil)))) :=
  peM (pe_dget hu ho hi hs) fun σ H Q h => to_p2 (r := fun x y H2 Q => ∃ a v, x = .ref a ∧ DGet H2 a y (some v) ∧ Q v H2) (fun W H v u dv du d S' Q ok h1 h2 hf fin => by
    unfold dgetP at hf
    dsimp only at hf
    split at hf
    · rename_i y hl
      cases hf
      obtain ⟨q, oo, rfl, g, _, g2⟩ := dlook_den ok h1 h2 hl
      obtain ⟨w, rfl, dw⟩ := g2 _ rfl
      exact ⟨q, w, rfl, g, fin W _ H (Le.refl _) rfl ok dw⟩
    · cases hf) h
def dinP (neg : Bool) : Prim := fun ds S => match ds with
  | [k, d] => (dlook d k S).map fun r => (.bool (if neg then !r.isSome else r.isSome), S)
  | _ => none
theorem p2_din {neg : Bool} : P2 K (fun y x H2 Q => ∃ a o, x = .ref a ∧ DGet H2 a y o ∧ Q (.bl (if neg then !o.isSome else o.isSome)) H2) (dinP neg) := fun W H v u dv du d S' Q ok h1 h2 hf fin => by
  unfold dinP at hf
  dsimp only at hf
  cases hl : dlook du dv W.S with
  | none => rw [hl] at hf; cases hf
  | some r =>
    rw [hl] at hf
    cases hf
    obtain ⟨q, oo, rfl, g, g1, g2⟩ := dlook_den ok h2 h1 hl
    have e : oo.isSome = r.isSome := by
      cases r with
      | none => rw [g1 rfl]; rfl
      | some y => obtain ⟨w, rfl, _⟩ := g2 y rfl; rfl
    refine ⟨q, oo, rfl, g, fin W _ H (Le.refl _) rfl ok ?_⟩
    rw [e]
    exact .bl _
theorem op_din (hu : X.A.units + 1 < cLine) : OpR X (compareOp .In) (fun y x H2 Q => ∃ a o, x = .ref a ∧ DGet H2 a y o ∧ Q (.bl (if false then !o.isSome else o.isSome)) H2) := by
  intro pins s σ H x y v u Q I rx ry h
  obtain ⟨q, oo, rfl, g, k⟩ := h
  have hv : u = Value.ref q := ry
  subst hv
  exact d_in hu I g rx fun s' I' => ⟨.bl _, H, I', rfl, k⟩
theorem op_dnin (hu : X.A.units + 1 < cLine) : OpR X (compareOp .NotIn) (fun y x H2 Q => ∃ a o, x = .ref a ∧ DGet H2 a y o ∧ Q (.bl (if true then !o.isSome else o.isSome)) H2) := by
  intro pins s σ H x y v u Q I rx ry h
  obtain ⟨q, oo, rfl, g, k⟩ := h
  have hv : u = Value.ref q := ry
  subst hv
  exact d_notIn hu I g rx fun s' I' => ⟨.bl _, H, I', rfl, k⟩
/-- x in y, x not in y: lists, tuples, dicts -/
def mmP (neg : Bool) : Prim := orP (memP neg) (dinP neg)
theorem v_in (hu : X.A.units + 64 < cLine) (ha : PE X a (tE X.K call ca)) (hb : PE X b (tE X.K call cb)) (hm : behindInMarks .In b = false := by rfl) : PE X (.Compare a [.In] [b] pos) (tE X.K call (.prim (mmP false) (.cons ca (.cons cb .nil)))) := pe_c2 (OpR.or op_in_seq (op_din (by omega))) (p2_or p2_mem p2_din) ha hb hm
theorem v_nin (hu : X.A.units + 64 < cLine) (ha : PE X a (tE X.K call ca)) (hb : PE X b (tE X.K call cb)) (hm : behindInMarks .NotIn b = false := by rfl) : PE X (.Compare a [.NotIn] [b] pos) (tE X.K call (.prim (mmP true) (.cons ca (.cons cb .nil)))) := pe_c2 (OpR.or op_notIn_seq (op_dnin (by omega))) (p2_or p2_mem p2_din) ha hb hm
theorem t_in (hu : X.A.units + 64 < cLine) (ha : PE X a (tE X.K call ca)) (hb : PE X b (tE X.K call cb)) (hm : behindInMarks .In b = false := by rfl) : PT X (.Compare a [.In] [b] pos) (tT X.K call (.prim (mmP false) (.cons ca (.cons cb .nil)))) := pt_c2 (OpR.or op_in_seq (op_din (by omega))) (p2_or p2_mem p2_din) ha hb hm
theorem t_nin (hu : X.A.units + 64 < cLine) (ha : PE X a (tE X.K call ca)) (hb : PE X b (tE X.K call cb)) (hm : behindInMarks .NotIn b = false := by rfl) : PT X (.Compare a [.NotIn] [b] pos) (tT X.K call (.prim (mmP true) (.cons ca (.cons cb .nil)))) := pt_c2 (OpR.or op_notIn_seq (op_dnin (by omega))) (p2_or p2_mem p2_din) ha hb hm
def dputP : List D → List SO → Option (List SO) := fun ds S => match ds with
  | [v, .dict [(.int (Int.ofNat i), .none)], k] => match S[i]? with
    | some (.obj (.dct false kvs)) => (keyA k).bind fun q => if kvs.length < 100000 then some (S.set i (.obj (.dct false (putD keyA kvs k q v)))) else none
    | some (.obj (.dct true kvs)) => (keyT k).bind fun q => if kvs.length < 100000 then some (S.set i (.obj (.dct true (putD keyT kvs k q v)))) else none
    | _ => none
  | _ => none
theorem dput_den {vd vk vv : V} {d k v : D} {S' : List SO} (ok : Wok K W H) (h1 : Den K W.F W.ρ vd d) (h2 : Den K W.F W.ρ vk k) (h3 : Den K W.F W.ρ vv v) (hs : dputP [v, d, k] W.S = some S') : ∃ q H', vd = .ref q ∧ DPut H q vk vv H' ∧ ∃ W', Wok K W' H' ∧ Le W W' ∧ W'.S = S' := by
  unfold dputP at hs
  split at hs
  · rename_i v' j k' hds
    cases hds
    cases h1 with
    | ref h0 =>
      split at hs
      · rename_i kvs hj
        obtain ⟨q, hk, hs⟩ := bind_some hs
        split at hs
        · rename_i hz
          cases hs
          have e := keyA_eq hk
          subst e
          have ev := keyD_den h2
          subst ev
          obtain ⟨a', ho, g1, g2, g3, g4⟩ := ok.obj j _ hj
          rw [g1] at h0; cases h0
          cases g4 with
          | @dK kv _ n1 n2 =>
            obtain ⟨m1, m2⟩ := putD_den (k := q) keyA_of h3 n1 n2
            have hl : kvs.length = kv.length := by have := congrArg List.length n1; simpa using this
            have lt : kv.length < sizeLine := Nat.lt_of_lt_of_le (by rw [← hl]; exact hz) (Evl.sz_of (Nat.le_refl 100000))
            obtain ⟨ok2, l2⟩ := ok.putO (H' := upd H _ (.dK (putK kv q vv))) (o := .dct false (putD keyA kvs (keyD q) q v)) hj g1 (fun b u nb z => by rw [upd_ne nb]; exact z) upd_same (.dK m1 m2)
            exact ⟨_, _, rfl, DPut.k g3 lt, _, ok2, l2, rfl⟩
        · cases hs
      · rename_i kvs hj
        obtain ⟨q, hk, hs⟩ := bind_some hs
        split at hs
        · rename_i hz
          cases hs
          have e := keyT_eq hk
          subst e
          cases h2 with
          | tup t1 t2 =>
            have ev := keysD_den t2
            subst ev
            obtain ⟨a', ho, g1, g2, g3, g4⟩ := ok.obj j _ hj
            rw [g1] at h0; cases h0
            cases g4 with
            | @dT kv _ n1 n2 =>
              obtain ⟨m1, m2⟩ := putD_den (g := fun ks => .tuple (ks.map keyD)) (k := q) keyT_of h3 n1 n2
              have hl : kvs.length = kv.length := by have := congrArg List.length n1; simpa using this
              have lt : kv.length < sizeLine := Nat.lt_of_lt_of_le (by rw [← hl]; exact hz) (Evl.sz_of (Nat.le_refl 100000))
              obtain ⟨ok2, l2⟩ := ok.putO (H' := upd H _ (.dT (putK kv q vv))) (o := .dct true (putD keyT kvs (.tuple (q.map keyD)) q v)) hj g1 (fun b u nb z => by rw [upd_ne nb]; exact z) upd_same (.dT m1 m2)
              exact ⟨_, _, rfl, DPut.t g3 (ok.ex _ _ t1) lt, _, ok2, l2, rfl⟩
        · cases hs
      · cases hs
  · cases hs
theorem s_dput {pos' : Pos} (hu : X.A.units + 1 < cLine) (hv : PE X e (tE X.K call cc)) (ho : PE X o (tE X.K call ca)) (hi : PE X i (tE X.K call cb)) (hs : swapsWith e (some (.Subscript o i pos')) pos.line X.env = pure false := by rfl) :
    PS X (.Assign [.Subscript o i pos'] e pos) (tS X.K call (.eff dputP (.cons cc (.cons ca (.cons cb .nil))))) := psM (ps_dput hu ho hi hv hs) fun D σ H h => by
  obtain ⟨W, η, r, ok, env, hev, fin⟩ := h
  unfold exc at hev
  obtain ⟨⟨ds, S4⟩, h1, h2⟩ := bind_some hev
  obtain ⟨S5, h3, h4⟩ := bind_some h2
  cases h4
  obtain ⟨dv, S1, r1, a1, q1, rfl⟩ := evc h1
  obtain ⟨dob, S2, r2, a2, q2, rfl⟩ := evc q1
  obtain ⟨di, S3, r3, a3, q3, rfl⟩ := evc q2
  obtain ⟨rfl, rfl⟩ := evn q3
  dsimp only at h3
  refine ⟨W, η, dv, S1, ok, env, a1, fun W1 v H1 l1 s1 ok1 d1 => ⟨W1, η, dob, S2, ok1, env.mono l1, by rw [s1]; exact a2, fun W2 u H2 l2 s2 ok2 d2 => ⟨W2, η, di, _, ok2, env.mono (l1.trans l2), by rw [s2]; exact a3, fun W3 w H3 l3 s3 ok3 d3 => ?_⟩⟩⟩
  rw [← s3] at h3
  obtain ⟨q, H', rfl, g, W', ok', l', s'⟩ := dput_den ok3 (l3.den d2) d3 ((l2.trans l3).den d1) h3
  exact ⟨q, H', rfl, g, fin W' H' (((l1.trans l2).trans l3).trans l') s' ok' σ ((env.mono ((l1.trans l2).trans l3)).mono l')⟩
def dnewP (t : Bool) : Prim := fun ds S => match ds with
  | [] => some (rf S.length, S ++ [.obj (.dct t [])])
  | _ => none
theorem v_dnewK : PE X (.Dict [] [] pos) (tE X.K call (.prim (dnewP false) .nil)) := peM pe_dnewK fun σ H Q h => by
  obtain ⟨W, ds, d, S', ok, dn, hf, fin⟩ := ta_nil (te_args h)
  intro p hp
  unfold dnewP at hf
  split at hf
  · cases hf
    obtain ⟨ok2, l2, last⟩ := ok.pushO (p := p) (ho := .dK []) (mo := .dct false []) (H' := upd H p (.dK [])) hp (fun b u z => by rw [upd_ne (ne_of_none z hp)]; exact z) upd_same (.dK rfl .nil)
    exact fin _ _ _ l2 rfl ok2 (.ref last)
  · cases hf
theorem v_dnewT : PE X (.Dict [] [] pos) (tE X.K call (.prim (dnewP true) .nil)) := peM pe_dnewT fun σ H Q h => by
  obtain ⟨W, ds, d, S', ok, dn, hf, fin⟩ := ta_nil (te_args h)
  intro p hp
  unfold dnewP at hf
  split at hf
  · cases hf
    obtain ⟨ok2, l2, last⟩ := ok.pushO (p := p) (ho := .dT []) (mo := .dct true []) (H' := upd H p (.dT [])) hp (fun b u z => by rw [upd_ne (ne_of_none z hp)]; exact z) upd_same (.dT rfl .nil)
    exact fin _ _ _ l2 rfl ok2 (.ref last)
  · cases hf
end
end Iv

set_option Elab.async false
set_option linter.all false
set_option maxRecDepth 100000
set_option maxHeartbeats 2000000
namespace Iv
open PySem PySem.Spec PyProof.Rows L2
theorem paired_at {α β : Type} {R : α → β → Prop} : ∀ {l : List α} {m : List β} {j : Nat} {y : β}, Paired R l m → m[j]? = some y → ∃ x, l[j]? = some x ∧ R x y
  | _, _, _, _, .nil, h => by simp at h
  | _, _, 0, _, .cons (a := x) r _, h => by simp at h; subst h; exact ⟨x, rfl, r⟩
  | _, _, j + 1, _, .cons _ t, h => paired_at (j := j) t h
theorem paired_mem {α β : Type} {R : α → β → Prop} : ∀ {l : List α} {m : List β} {y : β}, Paired R l m → y ∈ m → ∃ x ∈ l, R x y
  | _, _, _, .nil, h => nomatch h
  | _, _, y, .cons (a := x) r t, h => by
    rcases List.mem_cons.mp h with rfl | h
    · exact ⟨x, List.mem_cons_self, r⟩
    · obtain ⟨z, hz, q⟩ := paired_mem t h
      exact ⟨z, List.mem_cons_of_mem _ hz, q⟩
/-- a pair, its key's tuple, the key, the value -/
abbrev PrT := Addr × Addr × List Key × V
def PrOk (K : PySem.W.Frag) (H : Hp) (q : PrT) : Prop := SqT K H q.1 [.ref q.2.1, q.2.2.2] ∧ H q.2.1 = some (.tup (q.2.2.1.map kV))
def PrRel (h : Heap) (q : PrT) (x : List Key × Addr × Value) : Prop := q.2.2.1 = x.1 ∧ q.2.1 = x.2.1 ∧ RelV q.2.2.2 x.2.2 ∧ IsTup h q.1 #[.ref x.2.1, x.2.2]
section
variable {X : Cx} {pins : List (Addr × Obj)} {σ : L2.St} {H : Hp} {s : Shared}
theorem prs_of (I : Inv X pins σ H s) : ∀ {L : List PrT}, (∀ q ∈ L, PrOk X.K H q) → ∃ prs, Paired (PrRel s.heap) L prs
  | [], _ => ⟨[], .nil⟩
  | q :: L, h => by
    obtain ⟨prs, r⟩ := prs_of I (L := L) fun z hz => h z (List.mem_cons_of_mem _ hz)
    obtain ⟨h1, h2⟩ := h q List.mem_cons_self
    obtain ⟨its, rv, tp, _⟩ := I.tuple h1
    obtain ⟨u, y, rfl, ru, ry⟩ := rv.two
    have eu : u = Value.ref q.2.1 := ru
    subst eu
    exact ⟨(q.2.2.1, q.2.1, y) :: prs, .cons ⟨rfl, rfl, ry, tp⟩ r⟩
def mergeT (kvs more : List (List Key × V)) : List (List Key × V) := more.foldl (fun acc kv => putK acc kv.1 kv.2) kvs
theorem mergeT_len : ∀ (more kvs : List (List Key × V)), (mergeT kvs more).length ≤ kvs.length + more.length
  | [], kvs => Nat.le_refl _
  | q :: more, kvs => by
    have h1 := mergeT_len more (putK kvs q.1 q.2)
    have h2 := length_putK kvs q.1 q.2
    show (mergeT (putK kvs q.1 q.2) more).length ≤ _
    rw [List.length_cons]
    omega
theorem merge_kt {h : Heap} : ∀ {L : List PrT} {prs : List (List Key × Addr × Value)} {kvs : List (List Key × V)} {xs : List (List Key × Addr × Value)}, Paired (PrRel h) L prs → (∀ q ∈ L, H q.2.1 = some (.tup (q.2.2.1.map kV))) → KT H kvs xs →
    KT H (mergeT kvs (L.map fun q => (q.2.2.1, q.2.2.2))) (storedAllH xs prs)
  | _, _, _, _, .nil, _, r => r
  | _, _, kvs, xs, .cons (a := q) (b := x) z t, hk, r => by
    obtain ⟨e1, e2, e3, _⟩ := z
    have q1 := r.put q.2.2.1 (hk q List.mem_cons_self) e3
    have q2 := merge_kt t (fun w hw => hk w (List.mem_cons_of_mem _ hw)) q1
    show KT H (mergeT (putK kvs q.2.2.1 q.2.2.2) _) (storedAllH (storedH xs x.1 x.2.1 x.2.2) _)
    rw [← e1, ← e2]
    exact q2
def rDictT (K : PySem.W.Frag) : List V → Hp → VK → Prop := fun vs H Q => ∃ (a : Addr) (L : List PrT), vs = [V.ref a] ∧ H a = some (.lst (L.map fun q => V.ref q.1)) ∧ (∀ q ∈ L, PrOk K H q) ∧ ∀ p, H p = none → Q (.ref p) (upd H p (.dT (mergeT [] (L.map fun q => (q.2.2.1, q.2.2.2)))))
theorem cr_dictT (hcalm : X.calm = true) (hu : X.A.units + 64 < cLine) : CallR X (.type "dict") (rDictT X.K) := by
  intro pins s σ H vs us Q I r h
  obtain ⟨a, L, rfl, ha, hL, k⟩ := h
  rw [Vals.ref1 r]
  obtain ⟨hz, its, n, rv, ho⟩ := (show ObjOk X.prog X.w H s.heap a (.lst (L.map fun q => V.ref q.1)) from I.hok a _ ha)
  have ei : its = (L.map fun q => q.1).map Value.ref := refs_at (by rw [List.map_map]; exact rv)
  subst ei
  obtain ⟨prs, rel⟩ := prs_of I hL
  have hl : L.length = prs.length := Paired.length rel
  rw [List.length_map] at hz
  have key : ∀ x ∈ prs, H x.2.1 = some (.tup (x.1.map kV)) := fun x hx => by
    obtain ⟨q, hq, e1, e2, _⟩ := paired_mem rel hx
    rw [← e1, ← e2]
    exact (hL q hq).2
  refine call_dict_pairsH (knd := tupleKind (mixKind X.prog X.w)) (ps := prs) (PairArg.list a ((L.map fun q => q.1).map Value.ref).toArray (fun j => ((L[j]?).map fun q => q.1).getD 0) (prs.map fun x => (Value.ref x.2.1, x.2.2))) (I.ok.hd hcalm) ?_ ⟨⟨_, n, ho, rfl, rfl, rfl⟩, ?_, ?_⟩ ⟨?_, ?_⟩ ?_ ?_ ?_
  · exact tupleKind_room_in1 (A := X.A.in1) (by show X.A.units + 1 + 1 < cLine; omega)
  · simp [hl]
  · intro j u v e
    rw [List.getElem?_map] at e
    cases hx : prs[j]? with
    | none => rw [hx] at e; cases e
    | some x =>
      rw [hx] at e
      cases e
      obtain ⟨q, hq, e1, e2, e3, e4⟩ := paired_at rel hx
      refine ⟨?_, .inl ?_⟩
      · simp [hq]
      · dsimp only
        rw [hq]
        exact e4
  · simp
  · intro j u v e
    have e : (prs.map fun x => (Value.ref x.2.1, x.2.2))[j]? = some (u, v) := e
    rw [List.getElem?_map] at e
    cases hx : prs[j]? with
    | none => rw [hx] at e; cases e
    | some x =>
      rw [hx] at e
      cases e
      exact ⟨x.1, x.2.1, rfl, rfl⟩
  · intro h' kp x hx
    obtain ⟨ob, vs, m, g1, g2, g3, g4⟩ := key_of I.hok (key x hx)
    exact ⟨ob, vs, m, kp _ _ (Nat.ne_of_lt (Heap.lt_size g1)) (fun z => nomatch z) g1, g2, g3, g4⟩
  · rw [List.length_map, ← hl]
    exact hz
  · intro h' tk hd' kp
    have hm : (s.heap.objs.size == sysModules) = false := beq_eq_false_iff_ne.mpr (Nat.ne_of_gt I.big)
    have fresh := I.hok.fresh (Nat.le_refl s.heap.objs.size)
    obtain ⟨ob, es, ep, g1, g2, g3, g4, _, g5⟩ := hd'
    have kt := (merge_kt rel (fun q hq => (hL q hq).2) (.nil : KT H [] [])).keeps (H' := upd H s.heap.objs.size (.dT (mergeT [] (L.map fun q => (q.2.2.1, q.2.2.2))))) fun c ys ec => by rw [upd_ne (ne_of_none ec fresh)]; exact ec
    refine ⟨.ref s.heap.objs.size, _, I.laid (t' := tk) (fun b u e => kp b u (fun z => nomatch z) e) (Nat.le_refl _) (show ObjOk X.prog X.w _ h' _ (.dT _) from ⟨?_, hm, _, kt, ob, es, ep, g1, g2, g3, g4, g5⟩), rfl, k _ fresh⟩
    refine Nat.le_trans (mergeT_len _ _) ?_
    rw [List.length_nil, Nat.zero_add, List.length_map]
    exact hz
end
section
variable {X : Cx} {call : CallT} {K : PySem.W.Frag} {H : Hp} {W : Wd} {F : Hp} {ρ : List Addr}
def prD : D → Option (List Key × D)
  | .tuple [q, v] => (keyT q).map fun k => (k, v)
  | _ => none
def prsD : List D → Option (List (List Key × D))
  | [] => some []
  | d :: ds => (prD d).bind fun q => (prsD ds).map fun r => q :: r
theorem prD_den (ok : Wok K W H) {u : V} {d : D} {z : List Key × D} (h : Den K W.F W.ρ u d) (hs : prD d = some z) : ∃ q : PrT, u = .ref q.1 ∧ PrOk K H q ∧ q.2.2.1 = z.1 ∧ Den K W.F W.ρ q.2.2.2 z.2 := by
  unfold prD at hs
  split at hs
  · rename_i kq v
    cases hk : keyT kq with
    | none => rw [hk] at hs; cases hs
    | some k =>
      rw [hk] at hs
      cases hs
      have e := keyT_eq hk
      subst e
      cases h with
      | tup t1 t2 =>
        cases t2 with
        | cons a1 a2 =>
          cases a2 with
          | cons b1 b2 =>
            cases b2
            cases a1 with
            | tup c1 c2 =>
              have ev := keysD_den c2
              subst ev
              exact ⟨(_, _, k, _), rfl, ⟨SqT.of (ok.ex _ _ t1), ok.ex _ _ c1⟩, rfl, b1⟩
  · cases hs
theorem prsD_den (ok : Wok K W H) : ∀ {us : List V} {ds : List D} {zs : List (List Key × D)}, DenA K W.F W.ρ us ds → prsD ds = some zs → ∃ L : List PrT, us = L.map (fun q => V.ref q.1) ∧ (∀ q ∈ L, PrOk K H q) ∧ L.map (fun q => q.2.2.1) = zs.map Prod.fst ∧ DenA K W.F W.ρ (L.map fun q => q.2.2.2) (zs.map Prod.snd)
  | _, _, zs, .nil, h => by
    cases h
    exact ⟨[], rfl, ⟨(fun _ z => nomatch z), rfl, DenA.nil⟩⟩
  | _, _, zs, .cons (ds := ds) h1 h2, h => by
    unfold prsD at h
    obtain ⟨z, g1, h⟩ := bind_some h
    cases g2 : prsD ds with
    | none => rw [g2] at h; cases h
    | some zs' =>
      rw [g2] at h
      cases h
      obtain ⟨q, rfl, i1, i2, i3⟩ := prD_den ok h1 g1
      obtain ⟨L, rfl, j1, j2, j3⟩ := prsD_den ok h2 g2
      refine ⟨q :: L, rfl, fun w hw => ?_, by rw [List.map_cons, List.map_cons, i2, j2], .cons i3 j3⟩
      rcases List.mem_cons.mp hw with rfl | hw
      · exact i1
      · exact j1 w hw
def mergeD (kvs : List (D × D)) (zs : List (List Key × D)) : List (D × D) := zs.foldl (fun acc z => putD keyT acc (.tuple (z.1.map keyD)) z.1 z.2) kvs
theorem mergeD_den : ∀ {L : List PrT} {zs : List (List Key × D)} {kv : List (List Key × V)} {kvs : List (D × D)}, L.map (fun q => q.2.2.1) = zs.map Prod.fst → DenA K F ρ (L.map fun q => q.2.2.2) (zs.map Prod.snd) →
    kvs.map Prod.fst = kv.map (fun q => .tuple (q.1.map keyD)) → DenA K F ρ (kv.map Prod.snd) (kvs.map Prod.snd) →
    (mergeD kvs zs).map Prod.fst = (mergeT kv (L.map fun q => (q.2.2.1, q.2.2.2))).map (fun q => .tuple (q.1.map keyD)) ∧ DenA K F ρ ((mergeT kv (L.map fun q => (q.2.2.1, q.2.2.2))).map Prod.snd) ((mergeD kvs zs).map Prod.snd)
  | [], [], _, _, _, _, h, r => ⟨h, r⟩
  | [], _ :: _, _, _, e, _, _, _ => nomatch e
  | _ :: _, [], _, _, e, _, _, _ => nomatch e
  | q :: L, z :: zs, kv, kvs, e, v, h, r => by
    obtain ⟨e1, e2⟩ := List.cons.inj e
    have e1 : q.2.2.1 = z.1 := e1
    rw [List.map_cons, List.map_cons] at v
    cases v with
    | cons v1 v2 =>
      obtain ⟨m1, m2⟩ := putD_den (f := keyT) (g := fun ks => PyData.tuple (ks.map keyD)) keyT_of (k := z.1) v1 h r
      have := mergeD_den (L := L) (zs := zs) e2 v2 m1 m2
      show (mergeD (putD keyT kvs (.tuple (z.1.map keyD)) z.1 z.2) zs).map Prod.fst = (mergeT (putK kv q.2.2.1 q.2.2.2) _).map _ ∧ DenA K F ρ ((mergeT (putK kv q.2.2.1 q.2.2.2) _).map _) _
      rw [e1]
      exact this
/-- dict([..]), a dict of the store -/
def dictTP : Prim := fun ds S => match ds with
  | [.list xs] => (prsD xs).map fun zs => (rf S.length, S ++ [.obj (.dct true (mergeD [] zs))])
  | _ => none
theorem pn_dictT : PN K (rDictT K) dictTP := fun W H vs ds d S' Q ok dn hf fin => by
  unfold dictTP at hf
  split at hf
  · rename_i xs
    cases hz : prsD xs with
    | none => rw [hz] at hf; cases hf
    | some zs =>
      rw [hz] at hf
      cases hf
      cases dn with
      | cons h1 h2 =>
        cases h2
        cases h1 with
        | lst q r =>
          obtain ⟨L, rfl, j1, j2, j3⟩ := prsD_den ok r hz
          refine ⟨_, L, rfl, ok.ex _ _ q, j1, fun p hp => ?_⟩
          obtain ⟨m1, m2⟩ := mergeD_den (kv := []) (kvs := []) j2 j3 rfl .nil
          obtain ⟨ok2, l2, last⟩ := ok.pushO (p := p) (mo := .dct true (mergeD [] zs)) (H' := upd H p (.dT (mergeT [] (L.map fun q => (q.2.2.1, q.2.2.2))))) hp (fun b u z => by rw [upd_ne (ne_of_none z hp)]; exact z) upd_same (.dT m1 m2)
          exact fin _ _ _ l2 rfl ok2 (.ref last)
  · cases hf
end
end Iv

set_option Elab.async false
set_option linter.all false
set_option maxRecDepth 100000
set_option maxHeartbeats 2000000
namespace Iv
open PySem
section
variable {call : CallT} {η : En} {S : List SO} {a c e it : E} {Q : List D → List SO → Prop}
theorem WE_mk {C : Addr} {j : Nat} : WE call (.mk C j a) η S Q ↔ WE call a η S fun ds S1 => WC call j (rf S1.length :: ds) (S1 ++ [.obj (.ins C [])]) fun d S2 => d = .none ∧ Q [rf S1.length] S2 := by
  constructor
  · rintro ⟨ds, S1, h, q⟩
    rw [ev] at h
    obtain ⟨⟨es, S2⟩, h1, h2⟩ := bind_some h
    obtain ⟨⟨d, S3⟩, h3, h4⟩ := bind_some h2
    dsimp only at h3 h4
    cases d <;> first | (cases h4; done) | skip
    cases h4
    exact ⟨es, S2, h1, .none, _, h3, rfl, q⟩
  · rintro ⟨es, S2, h1, d, S3, h3, rfl, q⟩
    exact ⟨[rf S2.length], S3, by rw [ev, h1]; show (call j _ _).bind _ = _; rw [h3]; rfl, q⟩
theorem WE_lcn {t : T} {vs : List Nat} : WE call (.lcn t it c e vs) η S Q ↔ WE call it η S fun xs S1 => xs.length ≤ 100000 ∧ WL (ev call c) (ev call e) t (wipeE η vs) xs S1 fun ys S2 => Q [rf S2.length] (S2 ++ [.obj (.lst ys)]) := by
  constructor
  · rintro ⟨ds, S1, h, q⟩
    rw [ev] at h
    obtain ⟨⟨xs, S2⟩, h1, h2⟩ := bind_some h
    dsimp only at h2
    split at h2
    · rename_i hl
      obtain ⟨⟨ys, S3⟩, h3, h4⟩ := bind_some h2
      cases h4
      exact ⟨xs, S2, h1, hl, ys, _, h3, q⟩
    · cases h2
  · rintro ⟨xs, S1, h1, hl, ys, S2, h2, q⟩
    refine ⟨[rf S2.length], S2 ++ [.obj (.lst ys)], ?_, q⟩
    rw [ev, h1]
    show (if xs.length ≤ 100000 then _ else none) = _
    rw [if_pos hl, h2]; rfl
end
section
variable {S : List SO} {Q : D → List SO → Prop} {R : List SO → Prop} {C : Addr} {f m : Str} {n : Nat} {fs : Fds} {xs ys : List D} {d v y : D} {i j : Int}
abbrev rr (n : Nat) : D := .dict [(.int (Int.ofNat n), .none)]
theorem insD_at (h : S[n]? = some (.obj (.ins C fs))) : insD C (rr n) S = some (n, fs) := by
  unfold insD
  dsimp only
  rw [h]
  dsimp only
  rw [if_pos rfl]
theorem w_fld (h : S[n]? = some (.obj (.ins C fs))) (hl : fs.lookup f = some y) : WP (fldP C f) [rr n] S Q ↔ Q y S := WP_of (by
  show (insD C (rr n) S).bind _ = _
  rw [insD_at h]
  show (fs.lookup f).map _ = _
  rw [hl]; rfl)
theorem w_met (h : S[n]? = some (.obj (.ins C fs))) (hl : fs.lookup m = none) : WP (metP C m) [rr n] S Q ↔ Q (rr n) S := WP_of (by
  show (insD C (rr n) S).bind _ = _
  rw [insD_at h]
  show (match fs.lookup m with | none => some (rr n, S) | some _ => none) = _
  rw [hl])
theorem w_isn (h : S[n]? = some (.obj (.ins C fs))) : WP (isnP C) [rr n] S Q ↔ Q (rr n) S := WP_of (by
  show (insD C (rr n) S).map _ = _
  rw [insD_at h]; rfl)
theorem w_iso (h : S[n]? = some (.obj (.ins C fs))) : WP (isoP C) [rr n] S Q ↔ Q (.bool true) S := WP_of (by
  show (match insD C (rr n) S with | some _ => some (PyData.bool true, S) | none => _) = _
  rw [insD_at h])
theorem WO_of {g : List D → List SO → Option (List SO)} {ds : List D} {S1 : List SO} (h : g ds S = some S1) : WO g ds S R ↔ R S1 := ⟨fun ⟨_, h1, q⟩ => by rw [h] at h1; cases h1; exact q, fun q => ⟨_, h, q⟩⟩
theorem w_putF (h : S[n]? = some (.obj (.ins C fs))) (hl : fs.length < 900) : WO (putFP C f) [v, rr n] S R ↔ R (S.set n (.obj (.ins C (putFD f v fs)))) := WO_of (by
  show (insD C (rr n) S).bind _ = _
  rw [insD_at h]
  show (if fs.length < 900 then _ else none) = _
  rw [if_pos hl])
theorem w_bor : WP borP [.int i, .int j] S Q ↔ Q (.int (Builtin.bitOr i j)) S := WP_of rfl
theorem w_band : WP bandP [.int i, .int j] S Q ↔ Q (.int (Builtin.bitAnd i j)) S := WP_of rfl
theorem w_inv : WP invP [.int i] S Q ↔ Q (.int (Builtin.bitNot i)) S := WP_of rfl
theorem w_bits : WP bitsP [.int i] S Q ↔ Q (.int (Builtin.Int.intBits i : Nat)) S := WP_of rfl
theorem w_shr : WP shrP [.int i, .int j] S Q ↔ 0 ≤ j ∧ Q (.int (i / 2 ^ j.toNat)) S := WP_if map_if
theorem w_shl : WP shlP [.int i, .int j] S Q ↔ (0 ≤ j ∧ j ≤ 1000000 ∧ i.natAbs < 2 ^ 64) ∧ Q (.int (i * 2 ^ j.toNat)) S := WP_if map_if
theorem w_app (h : S[n]? = some (.obj (.lst xs))) : WP appP [rr n, y] S Q ↔ xs.length < 100000 ∧ Q .none (S.set n (.obj (.lst (xs ++ [y])))) := WP_if (by
  unfold appP
  dsimp only
  rw [h])
theorem w_frz (h : S[n]? = some (.obj (.lst xs))) : WP frzP [rr n] S Q ↔ Q (.list xs) (S.set n .dead) := WP_of (by
  unfold frzP
  dsimp only
  rw [h])
theorem w_lisR (h : S[n]? = some (.obj (.lst xs))) : WP lisP [rr n] S Q ↔ Q (rr n) S := WP_of (by
  show (seqD (rr n) S).map _ = _
  unfold seqD
  dsimp only
  rw [h]; rfl)
theorem w_tupleT : WP tupleP [.tuple xs] S Q ↔ Q (.tuple xs) S := WP_of rfl
theorem w_tupleL : WP tupleP [.list xs] S Q ↔ Q (.tuple xs) S := WP_of rfl
theorem w_tupSL : WP tupSP [.list xs] S Q ↔ Q (tw xs) S := WP_of rfl
theorem w_listNL : WP listN [.list xs] S Q ↔ Q (rf S.length) (S ++ [.obj (.lst xs)]) := WP_of rfl
theorem w_stg : WP stgP [tw xs] S Q ↔ Q (tw xs) S := WP_of rfl
end
end Iv

set_option Elab.async false
set_option linter.all false
set_option maxRecDepth 100000
set_option maxHeartbeats 4000000
namespace Iv
open PySem PySem.Spec PyProof.Rows PySem.HandSPX
open PySem.W PySem.Calls
open Builtin Builtin.ObjectAttr
/-- what of the class it hangs on -/
structure MroHas (bm bmB : List Value) (Bn B : String) : Prop where
  hn : bm.contains (.type Bn) = true
  hb : bm.contains (.type B) = true
  na : bm.contains (.type "AttributeError") = false
  nn : bm.contains (.type "NameError") = false
/-- what of the built-in class whose __init__ is called -/
structure IniF (B ini : String) : Prop where
  kind : builtinKind ini = some .slot
  split : splitId ini = some (B, "__init__")
  sig : Manifest.signature? ini = some ⟨.positional, "*", B, .self, [⟨"args", .varPos, false⟩]⟩
  plain : plainId ini = true
  entry : entryFor table ini = some Builtin.«BaseException.__init__»
  star : (B != "*") = true
theorem iniF_of {B nw ini : String} {bmB : List Value} (F : ExcBaseFacts B nw ini bmB) : IniF B ini := ⟨F.initKind, F.initSplit, F.initRow, F.init.plain, F.initEntry, F.noStar⟩
theorem iniF_KeyError : IniF "KeyError" "KeyError.__init__" :=
  have F := PyProof.Rows.excClass_KeyError
  ⟨F.initKind, F.initSplit, F.initSig, F.init.plain, F.initEntry, F.notStar⟩
section
variable {M : Model} {A : Around} {E : Value → Shared → Prop} {hp : Heap} {gs : Array GenState} {dr : Drawn} {tk : Nat} {os : OsState}
variable {cn cq : Str} {C Ns : Addr} {bs bm bmN bmB : List Value} {hd : Bool} {sn : List Str} {sb : List Value} {ab : Bool} {co : Option Bool} {dd : Option Addr} {k0 k1 k2 k3 k5 : Option Value} {Bn nw ini0 B ini : String}
theorem ck_new (F : ExcBaseFacts Bn nw ini0 bmN) (m : MroHas bm bmB Bn B) {us : List Value} {Q : Unit → Shared → Prop}
    (hC : hp.get? C = some (excClassObj cn cq C Ns bs bm hd sn sb ab co dd k0 k1 k2 k3 k5 nw)) (q : Q () ⟨hp, gs, dr, tk, os⟩) : wpAny M A (checkBuiltinCall nw ⟨.ref C :: us, []⟩) Q E ⟨hp, gs, dr, tk, os⟩ := by
  have hin : (Value.ref C :: bm).contains (.type Bn) = true := by rw [List.contains_cons, m.hn, Bool.or_true]
  have hst := F.noStar
  simp only [checkBuiltinCall, F.newKind, F.newSplit, F.newRow]
  repeat (first
    | refine wpAny_loadPart_at hC ?_
    | (refine wpAny_isSubtype_exc hC ?_; rw [hin])
    | refine wpAny_staticBase_exc hC ?_
    | refine wpAny_madeBy_exc hC ?_
    | simp only [bne_self_eq_false, Bool.false_eq_true, if_false]
    | wp_step)
  exact q
theorem ck_ini (F : IniF B ini) (hb : bm.contains (.type B) = true) {e : Addr} {oe : Obj} {us : List Value} {Q : Unit → Shared → Prop}
    (hC : hp.get? C = some (excClassObj cn cq C Ns bs bm hd sn sb ab co dd k0 k1 k2 k3 k5 nw)) (he : hp.get? e = some oe) (hc : oe.cls = .ref C) (q : Q () ⟨hp, gs, dr, tk, os⟩) :
    wpAny M A (checkBuiltinCall ini ⟨.ref e :: us, []⟩) Q E ⟨hp, gs, dr, tk, os⟩ := by
  have hin : (Value.ref C :: bm).contains (.type B) = true := by rw [List.contains_cons, hb, Bool.or_true]
  have hst := F.star
  simp only [checkBuiltinCall, F.kind, F.split, F.sig]
  repeat (first
    | (with_reducible refine wpAny_loadPart_at he ?_; rw [hc])
    | with_reducible refine wpAny_loadPart_at hC ?_
    | (with_reducible refine wpAny_isSubtype_exc hC ?_; rw [hin])
    | wp_step)
  refine wpAny_onRaise ?_
  have ck : ∀ (a b : String) (n : Nat), Bind.check ⟨.positional, "*", B, .self, [⟨"args", .varPos, false⟩]⟩ a b n (List.map (fun x => x.fst) ({ pos := Value.ref e :: us } : Args).kw) = pure () := fun a b n => check_star_args _ _ _ _ _ _
  rw [ck]
  exact wpAny_pure q
end
section
variable {prog : Program} {w : World} {A : Around} {E : Value → Shared → Prop} {R : Result → Shared → Prop} {hp : Heap} {gs : Array GenState} {dr : Drawn} {tk : Nat} {os : OsState}
variable {cn cq : Str} {C Ns : Addr} {bs bm bmN bmB : List Value} {hd : Bool} {sn : List Str} {sb : List Value} {ab : Bool} {co : Option Bool} {dd : Option Addr} {k0 k1 k2 k3 k5 : Option Value} {Bn nw ini0 B ini : String}
theorem run_new (F : ExcBaseFacts Bn nw ini0 bmN) (m : MroHas bm bmB Bn B) {us : List Value}
    (hC : hp.get? C = some (excClassObj cn cq C Ns bs bm hd sn sb ab co dd k0 k1 k2 k3 k5 nw))
    (q : R (.ok (.ret (.ref (hp.objs.size + 1)))) ⟨(hp.push (W.kdv_tup us)).push (excO C hp.objs.size), gs, dr, tk, os⟩) (hl : us.length ≤ sizeLine) :
    codeAny (model prog w) A (.builtin nw ⟨.ref C :: us, []⟩) R ⟨hp, gs, dr, tk, os⟩ := by
  have he := F.ends
  have i1 : (Value.ref C :: bm).contains (.type Bn) = true := by rw [List.contains_cons, m.hn, Bool.or_true]
  have i2 : (Value.ref C :: bm).contains (.type "AttributeError") = false := by rw [List.contains_cons, m.na]; rfl
  have i3 : (Value.ref C :: bm).contains (.type "NameError") = false := by rw [List.contains_cons, m.nn]; rfl
  refine codeAny_builtinAt F.entry ?_
  unfold Builtin.«BaseException.__new__»
  refine PySem.wpAt_bind ?_
  show PySem.wpAt _ _ _ (stack >>= _) _ _ _
  refine PySem.wpAt_bind (PySem.wpAt_stack fun p below => PySem.wpAt_of_wpAny ?_)
  wp_walk
  refine PySem.wpAt_of_wpAny ?_
  rw [F.owner]
  repeat (first
    | with_reducible refine wpAny_madeHere_exc F.canon hC ?_
    | with_reducible refine wpAny_loadPart_at hC ?_
    | (with_reducible refine wpAny_isSubtype_exc hC ?_; first | rw [i1] | rw [i2] | rw [i3])
    | wp_step)
  show R _ _
  rw [Heap.size_push]
  exact q
theorem run_type (F : ExcBaseFacts Bn nw ini0 bmN) (m : MroHas bm bmB Bn B) {us : List Value} {fI : Addr} {Q : Fin → Shared → Prop}
    (hC : hp.get? C = some (excClassObj cn cq C Ns bs bm hd sn sb ab co dd k0 k1 k2 k3 k5 nw))
    (hi : W.Looks (model prog w) hp (typeLookup (.ref C) "__init__") (some (.ref fI))) (hb : ∀ x, W.Looks (model prog w) hp (bindSpecial (.ref fI) x) (.ref fI, [x])) (hl : us.length ≤ sizeLine)
    (q : codeAny (model prog w) A (.call (.ref fI) ⟨.ref (hp.objs.size + 1) :: us, []⟩)
      (fun r s2 => match r with | .ok (.ret v) => v = .none ∧ Q (.done (.ret (.ref (hp.objs.size + 1)))) s2 | .ok _ => False | .error x => E x s2) ⟨(hp.push (W.kdv_tup us)).push (excO C hp.objs.size), gs, dr, tk, os⟩) :
    wpAny (model prog w) A (Builtin.«type.__call__» ⟨.ref C :: us, []⟩) Q E ⟨hp, gs, dr, tk, os⟩ := by
  repeat (first
    | with_reducible refine wpAny_loadPart_at hC ?_
    | with_reducible refine wpAny_madeBy_exc hC ?_
    | wp_step)
  refine codeAny_call_builtin_code (Code.quiet_builtin _ F.quiet) (ck_new (bmB := bmB) F m hC ?_)
  refine run_new F m hC ?_ hl
  show wpAny _ _ _ _ _ _
  have kp : ∀ b o, hp.get? b = some o → ((hp.push (W.kdv_tup us)).push (excO C hp.objs.size)).get? b = some o := fun b o z => Heap.get?_push_of_some _ (Heap.get?_push_of_some _ z)
  have hC2 := kp _ _ hC
  have hg : ((hp.push (W.kdv_tup us)).push (excO C hp.objs.size)).get? (hp.objs.size + 1) = some (excO C hp.objs.size) := by heap_get
  have hs : (Value.ref C :: bm).contains (.ref C) = true := by simp
  have i2 := hi.keeps kp
  have b2 := (hb (.ref (hp.objs.size + 1))).keeps kp
  unfold isInstance
  repeat (first
    | with_reducible refine wpAny_loadPart_at hg ?_
    | (with_reducible refine wpAny_isSubtype_exc hC2 ?_; rw [hs])
    | wp_step)
  show wpAny _ _ (typeLookup (.ref C) _) _ _ _
  refine i2.at ?_
  refine wpAny_holding (wpAny_bind (b2.at ?_))
  refine wpAny_bind (wpAny_call (codeAny_mono q fun r s2 z => ?_))
  rcases r with x | (v | _ | _ | _) <;> first | exact z | exact z.elim | skip
  obtain ⟨rfl, z⟩ := z
  first
    | exact wpAny_pure (wpAny_pure z)
    | (wp_walk; exact z)
theorem run_cls (F : ExcBaseFacts Bn nw ini0 bmN) (m : MroHas bm bmB Bn B) {us : List Value} {fI : Addr}
    (hC : hp.get? C = some (excClassObj cn cq C Ns bs bm hd sn sb ab co dd k0 k1 k2 k3 k5 nw))
    (hi : W.Looks (model prog w) hp (typeLookup (.ref C) "__init__") (some (.ref fI))) (hb : ∀ x, W.Looks (model prog w) hp (bindSpecial (.ref fI) x) (.ref fI, [x])) (hl : us.length ≤ sizeLine)
    (q : codeAny (model prog w) (A.under (.builtin "type.__call__" ⟨.ref C :: us, []⟩)) (.call (.ref fI) ⟨.ref (hp.objs.size + 1) :: us, []⟩) (W.InitBack (hp.objs.size + 1) R) ⟨(hp.push (W.kdv_tup us)).push (excO C hp.objs.size), gs, dr, tk, os⟩) :
    codeAny (model prog w) A (.call (.ref C) ⟨us, []⟩) R ⟨hp, gs, dr, tk, os⟩ := by
  have z1 := tc_lookup
  have z2 := tc_bind (.ref C)
  have hT : (⟨hp, gs, dr, tk, os⟩ : Shared).TypeIs (.ref C) "type" := ⟨_, hC, rfl⟩
  refine codeAny_of_tree ?_
  show wpAny _ _ (callAny (.ref C) _) _ _ _
  repeat (any_goals (first
    | assumption
    | with_reducible refine wpAny_loadPart_at hC ?_
    | wp_step))
  refine ⟨rfl, ?_⟩
  refine codeAny_call_builtin_at (Code.quiet_builtin _ (by decide +kernel)) entry_typeCall (wpAny_check_type_call_sub hC (run_type (bmB := bmB) F m hC hi hb hl ?_))
  refine codeAny_mono q fun r s2 z => ?_
  rcases r with x | (v | _ | _ | _) <;> exact z
/-- B.__init__(e, ..) -/
theorem run_ini (F : IniF B ini) (hb : bm.contains (.type B) = true) {e t0 : Addr} {us : List Value}
    (hC : hp.get? C = some (excClassObj cn cq C Ns bs bm hd sn sb ab co dd k0 k1 k2 k3 k5 nw)) (he : hp.get? e = some (excO C t0)) (hl : us.length ≤ sizeLine)
    (q : ∀ h2 t1, (∀ b o, b ≠ e → hp.get? b = some o → h2.get? b = some o) → h2.get? e = some (excO C t1) → R (.ok (.ret .none)) ⟨h2, gs, dr, tk, os⟩) :
    codeAny (model prog w) A (.call (.builtin ini) ⟨.ref e :: us, []⟩) R ⟨hp, gs, dr, tk, os⟩ := by
  refine codeAny_call_builtin F.plain F.entry (ck_ini F hb hC he rfl ?_)
  wp_walk
  refine q _ hp.objs.size (fun b o nb ho => ?_) ?_
  · rw [Heap.get?_update_other _ _ (Ne.symm nb)]
    exact Heap.get?_push_of_some _ ho
  · rw [Heap.get?_update_self _ (Heap.get?_push_of_some _ he) rfl]
    rfl
/-- self.f = v, the first one -/
theorem run_sto {K : W.Frag} {bmS : List Value} {BS : String} {f : Str} {tf : Tok} {v : Value} {x C : Addr} {fv : Array Value} (SF : StoreFacts BS bmS "object.__setattr__" "object")
    (X : K.In hp) (hx : hp.get? x = some { cls := .ref C, data := .fields fv }) (ho : W.excOver K C bmS = true) (hdI : W.hasDictIn K C = true) (ht : W.takerIn K C f = some none)
    (q : ∀ h2 t2 dx, (∀ b o, b ≠ x → hp.get? b = some o → h2.get? b = some o) → hp.objs.size ≤ dx → dx ≠ x → h2.get? x = some { cls := .ref C, dict := some dx, data := .fields fv } → h2.Ns1 dx (fun y => if y = f then some v else none) → R (.ok (.ret .none)) ⟨h2, gs, dr, t2, os⟩) :
    codeAny (model prog w) A (.call (.builtin "object.__setattr__") ⟨[.ref x, .str f tf, v], []⟩) R ⟨hp, gs, dr, tk, os⟩ := by
  have I : W.InstAt hp x { cls := .ref C, data := .fields fv } C none := ⟨hx, rfl, rfl, trivial⟩
  have nx : x ≠ hp.objs.size := Nat.ne_of_lt (Heap.lt_size hx)
  refine W.osa_openX SF X I ho ht fun b => ?_
  obtain ⟨cd, hcd, hh⟩ := W.any_some hdI
  have lk : W.Looks (model prog w) hp (classData C) cd := W.looks_clsIn X hcd
  dsimp only
  obtain ⟨nm, bs, mro, ns, qn, hdd, sn, sb, ab, col, del⟩ := cd
  dsimp only at hh
  subst hh
  unfold storeInOwnDict ownDictForStores
  repeat (first
    | with_reducible refine store_in_new ?_ ?_
    | with_reducible refine wpAny_loadPart_at hx ?_
    | with_reducible refine lk.at ?_
    | wp_step)
  · exact ⟨_, #[], _, (Heap.get?_update_ne _ _ _ _ nx.symm).trans (Heap.get?_push_at rfl rfl), rfl, fun e he => absurd he (by simp), fun _ => rfl⟩
  · intro h2 t2 hn hs
    have hx2 : (hp.push { cls := .type "dict", data := .dict #[] }).get? x = some { cls := .ref C, data := .fields fv } := Heap.get?_push_of_some _ hx
    refine q h2 t2 hp.objs.size (fun b o hb ho => ?_) (Nat.le_refl _) nx.symm ?_ hn
    · exact (hs.2 b (Nat.ne_of_lt (Heap.lt_size ho))).trans ((Heap.get?_update_ne _ _ _ _ hb).trans (Heap.get?_push_of_some _ ho))
    · exact (hs.2 x nx).trans (Heap.get?_update_self _ hx2 rfl)
end
section
open PySem.F
theorem sto_K : StoreFacts "KeyError" [.type "KeyError", .type "LookupError", .type "Exception", .type "BaseException", .type "object"] "object.__setattr__" "object" :=
  have F := store_LookupError
  { mro := by kernel_rfl
    slot := .of (owner := "object") (n := "__setattr__") (by rw [typeLookup_type, builtinLookup_eq_fast]; kernel_rfl) (by decide +kernel) (by decide +kernel) (by decide +kernel) (.inl (by decide +kernel)) (by rw [isSubtype_type]; kernel_rfl)
    entry := F.entry, kind := F.kind, split := F.split
    hasOwner := by decide +kernel
    args := F.args
    passes := fun x => by kernel_rfl }
theorem sto_A : StoreFacts "ArithmeticError" [.type "ArithmeticError", .type "Exception", .type "BaseException", .type "object"] "object.__setattr__" "object" :=
  have F := store_LookupError
  { mro := by kernel_rfl
    slot := .of (owner := "object") (n := "__setattr__") (by rw [typeLookup_type, builtinLookup_eq_fast]; kernel_rfl) (by decide +kernel) (by decide +kernel) (by decide +kernel) (.inl (by decide +kernel)) (by rw [isSubtype_type]; kernel_rfl)
    entry := F.entry, kind := F.kind, split := F.split
    hasOwner := by decide +kernel
    args := F.args
    passes := fun x => by kernel_rfl }
end
end Iv

set_option Elab.async false
set_option linter.all false
set_option maxRecDepth 100000
set_option maxHeartbeats 4000000
namespace Iv
open PySem PySem.Spec PyProof.Rows L2
/-- what the written part says of a class whose instances are asked and read -/
structure XaK (K : PySem.W.Frag) (C : Addr) : Prop where
  rd : XfC K C
  ic : (PySem.W.clsIn K C).isSome = true
  ha : PySem.W.findIn K (.ref C) "__class__" = some (some (.builtin "object.__class__"))
  hn : PySem.W.specialIn K (.builtin "object.__class__") "__get__" = some (some (.builtin "getset_descriptor.__get__"))
  ht : PySem.W.takesIn K (.builtin "object.__class__") = some true
  hm : PySem.W.mroIn K C (.type "object") = some true
def xaB (K : PySem.W.Frag) (C : Addr) : Bool := xfB K C && ((PySem.W.clsIn K C).isSome && (decide (PySem.W.findIn K (.ref C) "__class__" = some (some (.builtin "object.__class__"))) && (decide (PySem.W.specialIn K (.builtin "object.__class__") "__get__" = some (some (.builtin "getset_descriptor.__get__"))) && (decide (PySem.W.takesIn K (.builtin "object.__class__") = some true) && decide (PySem.W.mroIn K C (.type "object") = some true)))))
theorem xaB_ok {K : PySem.W.Frag} {C : Addr} (h : xaB K C = true) : XaK K C := by
  obtain ⟨h1, h⟩ := Bool.and_eq_true_iff.mp h
  obtain ⟨h2, h⟩ := Bool.and_eq_true_iff.mp h
  obtain ⟨h3, h⟩ := Bool.and_eq_true_iff.mp h
  obtain ⟨h4, h⟩ := Bool.and_eq_true_iff.mp h
  obtain ⟨h5, h6⟩ := Bool.and_eq_true_iff.mp h
  exact ⟨xfB_ok h1, h2, of_decide_eq_true h3, of_decide_eq_true h4, of_decide_eq_true h5, of_decide_eq_true h6⟩
/-- what it says of a class whose __init__ (at fI) keeps its one argument as f -/
structure XcK (K : PySem.W.Frag) (C fI : Addr) (f : Str) (bmS : List Value) (nw : String) : Prop where
  cls : PySem.W.excInitIn K C bmS nw = true
  ov : PySem.W.excOver K C bmS = true
  hd : PySem.W.hasDictIn K C = true
  tk : PySem.W.takerIn K C f = some none
  sa : PySem.W.findIn K (.ref C) "__setattr__" = some (some (.builtin "object.__setattr__"))
  ii : PySem.W.findIn K (.ref C) "__init__" = some (some (.ref fI))
  ti : PySem.W.typeIn K (.ref fI) = some (.type "function")
  kp : PySem.W.keepIn K (.ref C) = true
  no : PySem.W.findIn K (.ref C) f = some none
def xcB (K : PySem.W.Frag) (C fI : Addr) (f : Str) (bmS : List Value) (nw : String) : Bool := PySem.W.excInitIn K C bmS nw && (PySem.W.excOver K C bmS && (PySem.W.hasDictIn K C && (decide (PySem.W.takerIn K C f = some none) && (decide (PySem.W.findIn K (.ref C) "__setattr__" = some (some (.builtin "object.__setattr__"))) &&
  (decide (PySem.W.findIn K (.ref C) "__init__" = some (some (.ref fI))) && (decide (PySem.W.typeIn K (.ref fI) = some (.type "function")) && (PySem.W.keepIn K (.ref C) && decide (PySem.W.findIn K (.ref C) f = some none))))))))
theorem xcB_ok {K : PySem.W.Frag} {C fI : Addr} {f : Str} {bmS : List Value} {nw : String} (h : xcB K C fI f bmS nw = true) : XcK K C fI f bmS nw := by
  obtain ⟨h1, h⟩ := Bool.and_eq_true_iff.mp h
  obtain ⟨h2, h⟩ := Bool.and_eq_true_iff.mp h
  obtain ⟨h3, h⟩ := Bool.and_eq_true_iff.mp h
  obtain ⟨h4, h⟩ := Bool.and_eq_true_iff.mp h
  obtain ⟨h5, h⟩ := Bool.and_eq_true_iff.mp h
  obtain ⟨h6, h⟩ := Bool.and_eq_true_iff.mp h
  obtain ⟨h7, h⟩ := Bool.and_eq_true_iff.mp h
  obtain ⟨h8, h9⟩ := Bool.and_eq_true_iff.mp h
  exact ⟨h1, h2, h3, of_decide_eq_true h4, of_decide_eq_true h5, of_decide_eq_true h6, of_decide_eq_true h7, h8, of_decide_eq_true h9⟩
section
variable {X : Cx} {pins : List (Addr × Obj)} {σ : L2.St} {H : Hp} {s : Shared} {a C fI dx : Addr} {f : Str} {y : V} {u : Value} {A : Around} {E : Value → Shared → Prop} {bmS bmN : List Value} {nw ini0 : String} {BS Bn B ini : String}
/-- B.__init__(self, ..) -/
theorem ini_run {us : List Value} {Q : Value → Shared → Prop} (T : XcK X.K C fI f bmS nw) (G : IniF B ini) (hb : ∀ bm : List Value, (∀ Y : String, bm.contains (.type Y) = bmS.contains (.type Y)) → bm.contains (.type B) = true)
    (I : Inv X pins σ H s) (e : H a = some (exo a C none)) (hl : us.length ≤ sizeLine) (h : ∀ s', Inv X pins σ H s' → Q .none s') : wpAny (model X.prog X.w) A (call (.builtin ini) (.ref a :: us)) Q E s := by
  obtain ⟨cn, N, qn, bs, bm, hdc, sn, sb, ab, co, dd, k0, k1, k2, k3, k5, hC, hT⟩ := PySem.W.excInit_of I.kIn T.cls
  obtain ⟨t1, ho⟩ := exo_at I.hok e
  obtain ⟨hp, g, d, t, os⟩ := s
  refine wpAny_call (run_ini G (hb bm hT) hC ho hl fun h2 t2 k hx => ?_)
  have J := I.write (t' := t) (x := a) (e := a) (o := exo a C none) (by rw [e]; exact True.intro) (.inl rfl) k ⟨_, hx⟩ (exo_ok hx)
  have same : upd H a (exo a C none) = H := by
    funext b
    by_cases hb : b = a
    · rw [hb, upd_same, e]
    · rw [upd_ne hb]
  rw [same] at J
  exact h _ J
/-- self.f = y -/
theorem sto_run {Q : Unit → Shared → Prop} (T : XcK X.K C fI f bmS nw) (SF : StoreFacts BS bmS "object.__setattr__" "object") (I : Inv X pins σ H s) (e : H a = some (exo a C none)) (ry : RelV y u)
    (h : ∀ dx s', H dx = none → dx ≠ a → Inv X pins σ (upd (upd H dx (exd dx [(f, y)])) a (exo a C (some dx))) s' → Q () s') : wpAny (model X.prog X.w) A (setAttr (.ref a) f u) Q E s := by
  obtain ⟨t1, ho⟩ := exo_at I.hok e
  obtain ⟨hp, g, d, t, os⟩ := s
  refine PySem.W.set_plain I.kIn (ox := { cls := .ref C, dict := none, data := .fields #[.ref t1, .none, .none, .none, .bool false, .none] }) (od := none) ⟨ho, rfl, rfl, trivial⟩ T.sa ?_
  refine run_sto SF I.kIn ho T.ov T.hd T.tk fun h2 t2 dx k dn dne hx hn => ?_
  have free : H dx = none := I.hok.fresh dn
  have far : ∀ {b : Addr} {o : Obj}, hp.get? b = some o → b ≠ dx := fun {b o} z => Nat.ne_of_lt (Nat.lt_of_lt_of_le (Heap.lt_size z) dn)
  have nota : ∀ {b : Addr}, H b = none → b ≠ a := fun {b} n z => by rw [z, e] at n; cases n
  have U : Un X.fs [] H (upd (upd H dx (exd dx [(f, y)])) a (exo a C (some dx))) hp h2 := by
    refine ⟨fun b o z n _ _ => k b o (nota n) z, fun b o z n _ _ => ⟨o.slots, k b o (nota n) z⟩, fun b o z n _ => ?_, fun b o z _ => ?_, fun b xs z => ?_, fun b o v z => ?_, fun b ps z => ⟨#[], ?_⟩⟩
    · rw [upd_ne (nota n), upd_ne (far z)]; exact n
    · by_cases hb : b = a
      · rw [hb]; exact ⟨_, hx⟩
      · exact ⟨o, k b o hb z⟩
    · rw [upd_ne (at_ne e z exo_tup), upd_ne (ne_of_none z free)]; exact z
    · rw [upd_ne (at_ne e z exo_frz), upd_ne (ne_of_none z free)]; exact z
    · rw [upd_ne (at_ne e z exo_tbl), upd_ne (ne_of_none z free), z]; simp
  refine h dx _ free dne (I.un (t' := t2) U fun b o z => ?_)
  by_cases hb : b = a
  · subst hb
    rw [upd_same] at z; cases z
    exact exo_ok hx
  rw [upd_ne hb] at z
  by_cases hd : b = dx
  · subst hd
    rw [upd_same] at z; cases z
    exact exd_ok hn (relO_put (fs := []) ry fun g => True.intro)
  rw [upd_ne hd] at z
  refine (I.hok b o z).stay (fun c v hc w => k c v ?_ w) (fun c hc => ?_) fun c xs hc => ?_
  · rcases hc with hc | hc
    · rw [hc]; exact hb
    · exact at_ne e hc exo_own
  · rw [upd_ne (at_ne e hc exo_own), upd_ne (ne_of_none hc free)]; exact hc
  · rw [upd_ne (at_ne e hc exo_tup), upd_ne (ne_of_none hc free)]; exact hc
end
/-- what the __init__ keeps -/
def spI (C : Addr) (f : Str) : Sp := fun vs H Q _ => ∃ (a : Addr) (v : V), vs = [.ref a, v] ∧ H a = some (exo a C none) ∧ ∀ dx, H dx = none → dx ≠ a → Q .non (upd (upd H dx (exd dx [(f, v)])) a (exo a C (some dx)))
def tIn (C : Addr) (ta : TA) : TE := fun σ H Q => ta σ H fun vs H1 => ∃ (a : Addr) (ws : List V), vs = .ref a :: ws ∧ ws.length ≤ 1000 ∧ H1 a = some (exo a C none) ∧ Q .non H1
def tSt (C : Addr) (f : Str) (to te : TE) : TS := fun D σ H => te σ H fun y H1 => to σ H1 fun x H2 => ∃ a : Addr, x = .ref a ∧ H2 a = some (exo a C none) ∧ ∀ dx, H2 dx = none → dx ≠ a → D.nx σ (upd (upd H2 dx (exd dx [(f, y)])) a (exo a C (some dx)))
section
variable {X : Cx} {C fI O : Addr} {f : Str} {o e : Expr} {es : List Expr} {ta : TA} {to te : TE} {p p' p1 p2 pos : Pos} {bmS bmN : List Value} {nw ini0 : String} {BS Bn B ini : String}
theorem ini_pe {W : Str} {pl : Sem Bool} {c : Value} (T : XcK X.K C fI f bmS nw) (G : IniF B ini) (hb : ∀ bm : List Value, (∀ Y : String, bm.contains (.type Y) = bmS.contains (.type Y)) → bm.contains (.type B) = true)
    (hw : ∀ (pins : List (Addr × Obj)) (σ : L2.St) (H : Hp) (s : Shared) (Q : Value → Shared → Prop), Inv X pins σ H s → Q c s → wpAny (model X.prog X.w) X.A (eval (.Name W p1) X.env) Q X.xe s)
    (hc : ∀ (pins : List (Addr × Obj)) (σ : L2.St) (H : Hp) (s : Shared) (Q : Value × List Value → Shared → Prop), Inv X pins σ H s → (∀ t', Q (.builtin ini, []) { s with toks := t' }) → wpAny (model X.prog X.w) X.A (getMethod c "__init__" pl) Q X.xe s) (ha : PA X (e :: es) ta)
    (he : eval (.Call (.Attribute (.Name W p1) "__init__" p2) (e :: es) [] pos) X.env = (do
      let ov ← eval (.Name W p1) X.env
      standAt p2.atName
      let (g, first) ← holding [ov] (getMethod ov "__init__" pl)
      callWith pos g first (backTo pos (starEach (e :: es) X.env)) (backToKw pos (keywordEach [] X.env))) := by rfl)
    (h1 : starEach (e :: es) X.env = (false, eval e X.env) :: starEach es X.env := by rfl) (h2 : (backTo pos (starEach es X.env)).any (·.1) = false := by rfl) :
    PE X (.Call (.Attribute (.Name W p1) "__init__" p2) (e :: es) [] pos) (tIn C ta) := by
  refine ⟨fun pins s σ H Q I h => ?_⟩
  refine PySem.W.methodCall_KW (hw pins σ H s _ I ?_) he
  refine hc pins σ H s _ I fun t' => ?_
  show wpAny _ _ (callWith pos (Value.builtin ini) [] (backTo pos (starEach (e :: es) X.env)) []) _ _ _
  refine PyProof.Rows.callWith_method1 (thn (ha.run pos pins _ σ H _ (I.tok _) h) fun us s1 ⟨vs, H1, I1, r1, a, ws, ev, hl, ea, q⟩ => ?_) h1 h2
  subst ev
  cases r1 with
  | @cons _ u0 _ ur ra rw' =>
    obtain rfl : u0 = Value.ref a := ra
    exact ini_run T G hb I1 ea (by rw [← Paired.length rw', sizeLine_eq]; omega) fun s' J => ⟨.non, H1, J, rfl, q⟩
/-- .. of a built-in class -/
theorem ini_peB {W : Str} {c : String} {pl : Sem Bool} (T : XcK X.K C fI f bmS nw) (G : IniF B ini) (hb : ∀ bm : List Value, (∀ Y : String, bm.contains (.type Y) = bmS.contains (.type Y)) → bm.contains (.type B) = true)
    (hg : Gl X W) (hm : X.mg W = none) (hbt : bootBuiltins W = some (.type c)) (hn : W ≠ "__name__") (hd : (W == ("__debug__" : Str)) = false) (hty : typeOf (.type c) = pure (.type "type")) (hst : Manifest.isStub c = false)
    (vV : PySem.W.findCls X.K (.type c) (.type "type") "__init__" = some (.val (.builtin ini))) (hh : PySem.W.handedIn (.builtin ini) = true) (ha : PA X (e :: es) ta)
    (he : eval (.Call (.Attribute (.Name W p1) "__init__" p2) (e :: es) [] pos) X.env = (do
      let ov ← eval (.Name W p1) X.env
      standAt p2.atName
      let (g, first) ← holding [ov] (getMethod ov "__init__" pl)
      callWith pos g first (backTo pos (starEach (e :: es) X.env)) (backToKw pos (keywordEach [] X.env))) := by rfl)
    (h1 : starEach (e :: es) X.env = (false, eval e X.env) :: starEach es X.env := by rfl) (h2 : (backTo pos (starEach es X.env)).any (·.1) = false := by rfl) :
    PE X (.Call (.Attribute (.Name W p1) "__init__" p2) (e :: es) [] pos) (tIn C ta) :=
  ini_pe T G hb (fun pins σ H s Q I q => ld_blt I hg hm hbt q hn hd) (fun pins σ H s Q I q => by
    obtain ⟨m, fr⟩ := I.fr
    exact PySem.W.method_type fr I.ok.mod.kin hty hst vV hh (q _)) ha he h1 h2
/-- .. of an own class -/
theorem ini_peO {W : Str} {pl : Sem Bool} (T : XcK X.K C fI f bmS nw) (G : IniF B ini) (hb : ∀ bm : List Value, (∀ Y : String, bm.contains (.type Y) = bmS.contains (.type Y)) → bm.contains (.type B) = true)
    (hg : Gl X W) (hm : X.mg W = some (.ref O)) (hd : (W == ("__debug__" : Str)) = false) (hsp : PySem.W.specialIn X.K (.ref O) "__getattribute__" = some (some (.builtin "type.__getattribute__"))) (hrd : PySem.W.readsIn X.K O (.type "type") = true)
    (vV : PySem.W.findCls X.K (.ref O) (.type "type") "__init__" = some (.val (.builtin ini))) (hh : PySem.W.handedIn (.builtin ini) = true) (ha : PA X (e :: es) ta)
    (he : eval (.Call (.Attribute (.Name W p1) "__init__" p2) (e :: es) [] pos) X.env = (do
      let ov ← eval (.Name W p1) X.env
      standAt p2.atName
      let (g, first) ← holding [ov] (getMethod ov "__init__" pl)
      callWith pos g first (backTo pos (starEach (e :: es) X.env)) (backToKw pos (keywordEach [] X.env))) := by rfl)
    (h1 : starEach (e :: es) X.env = (false, eval e X.env) :: starEach es X.env := by rfl) (h2 : (backTo pos (starEach es X.env)).any (·.1) = false := by rfl) :
    PE X (.Call (.Attribute (.Name W p1) "__init__" p2) (e :: es) [] pos) (tIn C ta) :=
  ini_pe T G hb (fun pins σ H s Q I q => ld_glob I hg hm q hd) (fun pins σ H s Q I q => PySem.W.method_cls I.kIn hsp (PySem.W.cls_value I.kIn hrd vV hh (q _))) ha he h1 h2
theorem sto_ps (T : XcK X.K C fI f bmS nw) (SF : StoreFacts BS bmS "object.__setattr__" "object") (ho : PE X o to) (he : PE X e te) (hs : swapsWith e (some (.Attribute o f p')) pos.line X.env = pure false := by rfl) : PS X (.Assign [.Attribute o f p'] e pos) (tSt C f to te) := by
  refine ⟨fun pins s σ H D I h => ?_⟩
  refine plainObj_wpAny_Assign_Attribute (thn (he.run pins s σ H _ I h) fun v s1 ⟨y, H1, I1, r1, q1⟩ => thn (ho.run pins s1 σ H1 _ I1 q1) fun u s2 ⟨x, H2, I2, r2, a, ex, ea, q⟩ => ?_) hs
  subst ex
  obtain rfl : u = Value.ref a := r2
  exact sto_run T SF I2 ea r1 fun dx s' n ne J => ⟨σ, _, J, q dx n ne⟩
end
/-- def __init__(self, x): B.__init__(self, 'text'); self.f = x -/
theorem fn_ini {P : Program} {w : World} {K : PySem.W.Frag} {mg : Str → Option Value} {base : Heap} {k : Nat} {qual x1 x2 f : Str} {st : Stmt} {fI C : Addr} {fd : FuncData} {e1 : Expr} {o2 e2 : Expr} {q1 q2 q3 : Pos} {txt : Str}
    (F : Fun K "__init__" qual st fI fd) (S : FnScope [x1, x2] [x1, x2] (defScope st)) (hb : Binds K fd [x1, x2] []) (hbody : defBody st = [.Expr e1 q1, .Assign [.Attribute o2 f q2] e2 q3])
    (r1 : ∀ (cdv : Value) (A : Around) (outer : List Env) (s : Shared) (H : Hp) (E : XK), PS (cxOf CX0 P w K mg base [x1, x2] qual (defScope st) fI cdv A outer s H E).nox (.Expr e1 q1) (tDrop (tIn C (tCons (tVar 0) (tCons (tC (.str txt)) tNil)))))
    (r2 : ∀ (cdv : Value) (A : Around) (outer : List Env) (s : Shared) (H : Hp) (E : XK), PS (cxOf CX0 P w K mg base [x1, x2] qual (defScope st) fI cdv A outer s H E).nox (.Assign [.Attribute o2 f q2] e2 q3) (tSt C f (tVar 0) (tVar 1))) :
    FnR P w K mg base CX0 (k + 1) fI (spI C f) := by
  have ok : FnOk P w K mg base CX0 (k + 1) fI fd [x1, x2] (spI C f) := by
    refine F.ok S (fun vs H Q E h => ?_) fun cdv A outer s H vs Q E hr h => ⟨tSeq (tDrop (tIn C (tCons (tVar 0) (tCons (tC (.str txt)) tNil)))) (tSt C f (tVar 0) (tVar 1)), ?_, ?_⟩
    · obtain ⟨a, v, rfl, _⟩ := h
      rfl
    · rw [hbody]
      exact pss_cons (r1 cdv A outer s H E) (pss_one (r2 cdv A outer s H E))
    · obtain ⟨a, v, rfl, ea, q⟩ := h
      exact ⟨.ref a, rfl, a, [.str txt], rfl, (by simp : [V.str txt].length ≤ 1000), ea, v, rfl, .ref a, rfl, a, rfl, ea, fun dx n ne => q dx n ne⟩
  refine (ok.raw hb (dvs := []) .nil).imp fun vs H Q E h => ?_
  show spI C f (vs ++ []) H Q E
  rw [List.append_nil]
  exact h
end Iv

set_option Elab.async false
set_option linter.all false
set_option maxRecDepth 100000
set_option maxHeartbeats 4000000
namespace Iv
open PySem PySem.Spec PyProof.Rows L2
open Evl (Ex ex_l ex_t)
section
variable {X : Cx} {C fI : Addr} {x nm f : Str} {e : Expr} {es : List Expr} {te : TE} {ta : TA} {p pos : Pos} {bmS bmN bmB : List Value} {nw ini0 : String} {BS Bn B ini newId initId : String} {k : Nat} {call : CallT} {ca : E}
/-- C(e), C() without own __init__ -/
theorem pe_xb1 (F : ExcBaseFacts B newId initId bmB) (q : PySem.W.excIn X.K C bmB newId = true) (gC : X.mg x = some (.ref C)) (kC : PySem.W.keepIn X.K (.ref C) = true) (he : PE X e te) (hg : Gl X x := by rfl)
    (hs : starEach [e] X.env = (false, eval e X.env) :: starEach [] X.env := by rfl) (hd : (x == ("__debug__" : Str)) = false := by decide) :
    PE X (.Call (.Name x p) [e] [] pos) (fun σ H Q => te σ H fun _ H1 => ∀ a, H1 a = none → Q (.ref a) (upd H1 a (exo a C none))) := by
  refine ⟨fun pins s σ H Q I h => ?_⟩
  refine wpAny_Call_Name_kw (ld_glob I hg gC ?_ hd)
  refine PySem.W.callWith_K (h₀ := X.base) I.ok.mod.kin kC ?_ hs (by rfl)
  rw [hs]
  show wpAny _ _ (spliced ((false, eval e X.env) :: backTo pos (starEach [] X.env))) _ _ s
  refine Calls.spliced_cons (thn (he.run pins s σ H _ I h) fun u s1 ⟨v, H1, I1, r1, q1⟩ => ?_)
  refine Calls.spliced_nil ⟨I1.kIn, ?_⟩
  show wpAny _ _ (PySem.call (.ref C) [u]) _ _ _
  obtain ⟨bm, N, cn, qn, bs, hdc, sn, sb, ab, co, dd, k0, k1, k2, k3, k5, mN, hC, hN, hni, T⟩ := exc_obj I1.kIn q
  refine wpAny_call_exc_subT F T hC hN hni (fun h2 a hm => ?_) (by show 1 ≤ sizeLine; rw [sizeLine_eq]; omega)
  have hn : H1 a = none := I1.hok.gone hm.new
  obtain ⟨t, ht, _, _⟩ := hm.there
  exact ⟨.ref a, upd H1 a (exo a C none), I1.laidN hm.keeps hm.new hn (exo_ok ht), rfl, q1 a hn⟩
theorem pe_xb0 (F : ExcBaseFacts B newId initId bmB) (q : PySem.W.excIn X.K C bmB newId = true) (gC : X.mg x = some (.ref C)) (kC : PySem.W.keepIn X.K (.ref C) = true) (hg : Gl X x := by rfl) (hd : (x == ("__debug__" : Str)) = false := by decide) :
    PE X (.Call (.Name x p) [] [] pos) (fun σ H Q => ∀ a, H a = none → Q (.ref a) (upd H a (exo a C none))) := by
  refine ⟨fun pins s σ H Q I h => ?_⟩
  refine wpAny_Call_Name_kw (ld_glob I hg gC ?_ hd)
  refine PySem.W.callWith_K0 I.kIn kC ?_
  obtain ⟨bm, N, cn, qn, bs, hdc, sn, sb, ab, co, dd, k0, k1, k2, k3, k5, mN, hC, hN, hni, T⟩ := exc_obj I.kIn q
  refine wpAny_call_exc_subT F T hC hN hni (fun h2 a hm => ?_) (by show 0 ≤ sizeLine; omega)
  have hn : H a = none := I.hok.gone hm.new
  obtain ⟨t, ht, _, _⟩ := hm.there
  exact ⟨.ref a, upd H a (exo a C none), I.laidN hm.keeps hm.new hn (exo_ok ht), rfl, h a hn⟩
/-- C(e), C's own __init__ keeping e as f -/
theorem pe_xn (T : XcK X.K C fI f bmS nw) (FB : ExcBaseFacts Bn nw ini0 bmN) (m : ∀ bm : List Value, (∀ Y : String, bm.contains (.type Y) = bmS.contains (.type Y)) → MroHas bm bmS Bn B) (F : FnR X.prog X.w X.K X.mg X.base CX0 k fI (spI C f)) (hr : Room (k + 1) X.A) (gC : X.mg x = some (.ref C)) (he : PE X e te) (hg : Gl X x := by rfl)
    (hs : starEach [e] X.env = (false, eval e X.env) :: starEach [] X.env := by rfl) (hd : (x == ("__debug__" : Str)) = false := by decide) :
    PE X (.Call (.Name x p) [e] [] pos) (fun σ H Q => te σ H fun v H1 => ∀ a dx, H1 a = none → H1 dx = none → dx ≠ a → Q (.ref a) (upd (upd H1 dx (exd dx [(f, v)])) a (exo a C (some dx)))) := by
  refine ⟨fun pins s σ H Q I h => ?_⟩
  refine wpAny_Call_Name_kw (ld_glob I hg gC ?_ hd)
  refine PySem.W.callWith_K (h₀ := X.base) I.ok.mod.kin T.kp ?_ hs (by rfl)
  rw [hs]
  show wpAny _ _ (spliced ((false, eval e X.env) :: backTo pos (starEach [] X.env))) _ _ s
  refine Calls.spliced_cons (thn (he.run pins s σ H _ I h) fun u s1 ⟨v, H1, I1, r1, q1⟩ => ?_)
  refine Calls.spliced_nil ⟨I1.kIn, ?_⟩
  show wpAny _ _ (PySem.call (.ref C) [u]) _ _ _
  obtain ⟨cn, N, qn, bs, bm, hdc, sn, sb, ab, co, dd, k0, k1, k2, k3, k5, hC, hT⟩ := PySem.W.excInit_of I1.kIn T.cls
  obtain ⟨hp, g, dr, tk, os⟩ := s1
  have hsz : hp.objs.size ≤ hp.objs.size + 1 := Nat.le_succ _
  have hn : H1 (hp.objs.size + 1) = none := I1.hok.fresh hsz
  have kk : ∀ b o, hp.get? b = some o → ((hp.push (PySem.W.kdv_tup [u])).push (PySem.HandSPX.excO C hp.objs.size)).get? b = some o := fun b o z => Heap.get?_push_of_some _ (Heap.get?_push_of_some _ z)
  have hget : ((hp.push (PySem.W.kdv_tup [u])).push (PySem.HandSPX.excO C hp.objs.size)).get? (hp.objs.size + 1) = some (PySem.HandSPX.excO C hp.objs.size) := by heap_get
  have I2 : Inv X pins σ (upd H1 (hp.objs.size + 1) (exo (hp.objs.size + 1) C none)) ⟨(hp.push (PySem.W.kdv_tup [u])).push (PySem.HandSPX.excO C hp.objs.size), g, dr, tk, os⟩ :=
    I1.laid (t' := tk) (a := hp.objs.size + 1) (o := exo (hp.objs.size + 1) C none) (h' := (hp.push (PySem.W.kdv_tup [u])).push (PySem.HandSPX.excO C hp.objs.size)) kk hsz (exo_ok hget)
  have r2 : Vals [V.ref (hp.objs.size + 1), v] [Value.ref (hp.objs.size + 1), u] := .cons rfl (.cons r1 .nil)
  have hq : spI C f [V.ref (hp.objs.size + 1), v] (upd H1 (hp.objs.size + 1) (exo (hp.objs.size + 1) C none)) (fun z H2 => z = .non ∧ Q (.ref (hp.objs.size + 1)) H2) (fun _ _ _ => False) := by
    refine ⟨_, _, rfl, upd_same, fun dx n ne => ⟨rfl, ?_⟩⟩
    rw [upd_ne ne] at n
    have e3 : upd (upd (upd H1 (hp.objs.size + 1) (exo (hp.objs.size + 1) C none)) dx (exd dx [(f, v)])) (hp.objs.size + 1) (exo (hp.objs.size + 1) C (some dx)) = upd (upd H1 dx (exd dx [(f, v)])) (hp.objs.size + 1) (exo (hp.objs.size + 1) C (some dx)) := by
      funext b
      by_cases hb : b = hp.objs.size + 1
      · subst hb
        rw [upd_same, upd_same]
      · rw [upd_ne hb, upd_ne hb]
        by_cases hx : b = dx
        · subst hx
          rw [upd_same, upd_same]
        · rw [upd_ne hx, upd_ne hx, upd_ne hb]
    rw [e3]
    exact q1 _ dx hn n ne
  refine wpAny_call (run_cls (bmB := bmS) FB (m bm hT) hC (PySem.W.looks_findIn I1.kIn T.ii) (fun z => PySem.W.bind_fn I1.kIn z T.ti) (by show 1 ≤ sizeLine; rw [sizeLine_eq]; omega)
    (codeAny_mono (F _ X.stack _ _ [Value.ref (hp.objs.size + 1), u] _ _ _ (hr.make C [u] []) (I2.env0.make C [u] []) r2 hq) fun rr s2 z => ?_))
  cases rr with
  | error er => exact (show False from z).elim
  | ok fl =>
    cases fl with
    | ret w =>
      obtain ⟨y, H', J2, rv, ev, q3⟩ := I2.after z
      subst ev
      exact ⟨rv, ⟨V.ref (hp.objs.size + 1), H', J2, rfl, q3⟩⟩
    | next => exact z.elim
    | brk => exact z.elim
    | cont => exact z.elim
abbrev xbD (nm : Str) : D := .dict [(.bool true, .str nm)]
abbrev xnD (nm f : Str) (d : D) : D := .dict [(.bool true, .str nm), (.str f, d)]
def xb1P (nm : Str) : Prim := fun ds S => match ds with
  | [_] => some (xbD nm, S)
  | _ => none
def xb0P (nm : Str) : Prim := fun ds S => match ds with
  | [] => some (xbD nm, S)
  | _ => none
def xnP (nm f : Str) : Prim := fun ds S => match ds with
  | [d] => some (xnD nm f d, S)
  | _ => none
theorem v_xb1 (F : ExcBaseFacts B newId initId bmB) (q : PySem.W.excIn X.K C bmB newId = true) (hN : PySem.W.nsIn X.K mainGlobals nm = some (some (.ref C))) (gC : X.mg nm = some (.ref C)) (kC : PySem.W.keepIn X.K (.ref C) = true) (he : PE X e (tE X.K call ca)) (hg : Gl X nm := by rfl)
    (hs : starEach [e] X.env = (false, eval e X.env) :: starEach [] X.env := by rfl) (hd : (nm == ("__debug__" : Str)) = false := by decide) :
    PE X (.Call (.Name nm p) [e] [] pos) (tE X.K call (.prim (xb1P nm) (.cons ca .nil))) := peM (pe_xb1 F q gC kC he hg hs hd) fun σ H Q h =>
  to_p1 (r := fun x H1 Q => ∀ a, H1 a = none → Q (.ref a) (upd H1 a (exo a C none))) (fun W H v dv d S' Q ok dn hf fin a ha => by
    cases hf
    obtain ⟨ok2, l, s2, e2⟩ := ok.lay (o := exo a C none) ha
    exact fin _ _ _ l s2 ok2 (.exb hN e2)) h
theorem v_xb0 (F : ExcBaseFacts B newId initId bmB) (q : PySem.W.excIn X.K C bmB newId = true) (hN : PySem.W.nsIn X.K mainGlobals nm = some (some (.ref C))) (gC : X.mg nm = some (.ref C)) (kC : PySem.W.keepIn X.K (.ref C) = true) (hg : Gl X nm := by rfl) (hd : (nm == ("__debug__" : Str)) = false := by decide) :
    PE X (.Call (.Name nm p) [] [] pos) (tE X.K call (.prim (xb0P nm) .nil)) := peM (pe_xb0 F q gC kC hg hd) fun σ H Q h => by
  obtain ⟨W, ds, d, S', ok, dn, hf, fin⟩ := ta_nil (te_args h)
  cases dn
  cases hf
  intro a ha
  obtain ⟨ok2, l, s2, e2⟩ := ok.lay (o := exo a C none) ha
  exact fin _ _ _ l s2 ok2 (.exb hN e2)
theorem v_xn (T : XcK X.K C fI f bmS nw) (FB : ExcBaseFacts Bn nw ini0 bmN) (m : ∀ bm : List Value, (∀ Y : String, bm.contains (.type Y) = bmS.contains (.type Y)) → MroHas bm bmS Bn B) (F : FnR X.prog X.w X.K X.mg X.base CX0 k fI (spI C f)) (hr : Room (k + 1) X.A)
    (hN : PySem.W.nsIn X.K mainGlobals nm = some (some (.ref C))) (gC : X.mg nm = some (.ref C)) (he : PE X e (tE X.K call ca)) (hg : Gl X nm := by rfl) (hs : starEach [e] X.env = (false, eval e X.env) :: starEach [] X.env := by rfl) (hd : (nm == ("__debug__" : Str)) = false := by decide) :
    PE X (.Call (.Name nm p) [e] [] pos) (tE X.K call (.prim (xnP nm f) (.cons ca .nil))) := peM (pe_xn T FB m F hr gC he hg hs hd) fun σ H Q h =>
  to_p1 (r := fun v H1 Q => ∀ a dx, H1 a = none → H1 dx = none → dx ≠ a → Q (.ref a) (upd (upd H1 dx (exd dx [(f, v)])) a (exo a C (some dx)))) (fun W H v dv d S' Q ok dn hf fin a dx ha hx ne => by
    cases hf
    obtain ⟨ok2, l2, s2, e2⟩ := ok.lay (o := exd dx [(f, v)]) hx
    have ha2 : upd H dx (exd dx [(f, v)]) a = none := by rw [upd_ne (Ne.symm ne)]; exact ha
    obtain ⟨ok3, l3, s3, e3⟩ := ok2.lay (o := exo a C (some dx)) ha2
    exact fin _ _ _ (l2.trans l3) (s3.trans s2) ok3 (.exn hN e3 (l3.ex _ _ e2) ((l2.trans l3).den dn))) h
end
end Iv

set_option Elab.async false
set_option linter.all false
set_option maxRecDepth 100000
set_option maxHeartbeats 4000000
namespace Iv
open PySem PySem.Spec PyProof.Rows L2
open Evl (Ex ex_l ex_t)
/-- an error of the class at C stands at a -/
def ExAt (H : Hp) (a C : Addr) : Prop := H a = some (exo a C none) ∨ ∃ dd fs, H a = some (exo a C (some dd)) ∧ H dd = some (exd dd fs)
theorem inst_of {X : Cx} {pins : List (Addr × Obj)} {σ : L2.St} {H : Hp} {s : Shared} {a C : Addr} (I : Inv X pins σ H s) (h : ExAt H a C) : ∃ ox od, PySem.W.InstAt s.heap a ox C od := by
  rcases h with h | ⟨dd, fs, h, h2⟩
  · obtain ⟨t1, ho⟩ := exo_at I.hok h
    exact ⟨_, none, ho, rfl, rfl, trivial⟩
  · obtain ⟨t1, ho⟩ := exo_at I.hok h
    obtain ⟨mA, hns, hr⟩ := exd_at I.hok h2
    obtain ⟨od, hod, hl⟩ := lookIn_ns hns
    exact ⟨_, some od, ho, rfl, rfl, hod⟩
def rIsX (K : PySem.W.Frag) : List V → Hp → VK → Prop := fun xs H Q => ∃ (a C : Addr) (c : V) (cv : Value) (b : Bool), xs = [.ref a, c] ∧ ExAt H a C ∧ XaK K C ∧ (∀ u, RelV c u → u = cv) ∧ PySem.W.kitOne K (.ref C) cv = some b ∧ Q (.bl b) H
theorem call_isX {X : Cx} : CallR X (.builtin "isinstance") (rIsX X.K) := by
  intro pins s σ H xs us Q I r h
  obtain ⟨a, C, c, cv, b, rfl, hx, T, hcv, e, q⟩ := h
  cases r with
  | cons rx rr =>
    cases rr with
    | cons rt rr =>
      cases rr
      cases rx
      have ec := hcv _ rt
      subst ec
      obtain ⟨ox, od, J⟩ := inst_of I hx
      exact PySem.W.kia_one (PySem.W.kitx_exc (ox := ox) (od := od) T.ic T.rd.ga T.rd.gg T.rd.exC T.ha T.hn T.ht T.hm) I.kIn J e (fun z => nomatch z) fun tk => ⟨.bl b, H, I.kept (t' := tk) fun _ _ z => z, rfl, q⟩
section
variable {X : Cx} {C : Addr} {x xt nm f : Str} {e : Expr} {es : List Expr} {p pt pos : Pos} {call : CallT} {ca cb : E} {K : PySem.W.Frag} {W : Wd} {H : Hp}
theorem exat_den {v : V} {nm : Str} {rest : List (D × D)} (ok : Wok K W H) (h : Den K W.F W.ρ v (.dict ((.bool true, .str nm) :: rest))) : ∃ a C, v = .ref a ∧ PySem.W.nsIn K mainGlobals nm = some (some (.ref C)) ∧ ExAt H a C := by
  cases h with
  | exb g h => exact ⟨_, _, rfl, g, .inl (ok.ex _ _ h)⟩
  | exn g h h2 r => exact ⟨_, _, rfl, g, .inr ⟨_, _, ok.ex _ _ h, ok.ex _ _ h2⟩⟩
def isxP (row : Str → Option Bool) : Prim := fun ds S => match ds with
  | [.dict ((.bool true, .str nm) :: _)] => (row nm).map fun b => (.bool b, S)
  | _ => none
theorem v_isx {c : V} {cv : Value} {row : Str → Option Bool} (hrow : ∀ nm b, row nm = some b → ∃ C, PySem.W.nsIn X.K mainGlobals nm = some (some (.ref C)) ∧ XaK X.K C ∧ PySem.W.kitOne X.K (.ref C) cv = some b) (hc : PE X (.Name xt pt) (tC c)) (hcv : ∀ u, RelV c u → u = cv)
    (hm : X.mg "isinstance" = none) (ha : PE X e (tE X.K call ca)) (hg : Gl X "isinstance" := by rfl) (hv : bootBuiltins "isinstance" = some (.builtin "isinstance") := by decide +kernel)
    (he1 : starEach [e, .Name xt pt] X.env = (false, eval e X.env) :: starEach [.Name xt pt] X.env := by rfl) (he2 : starEach [.Name xt pt] X.env = (false, eval (.Name xt pt) X.env) :: starEach [] X.env := by rfl) (hpl : (backTo pos (starEach [.Name xt pt] X.env)).any (·.1) = false := by rfl) :
    PE X (.Call (.Name "isinstance" p) [e, .Name xt pt] [] pos) (tE X.K call (.prim (isxP row) (.cons ca .nil))) :=
  peM (pe_callB call_isX hg hm hv (pa_cons ha (pa_cons hc pa_nil he2) he1) (by decide) (by decide) he1 hpl) fun σ H Q h => by
    have q : tE X.K call ca σ H fun x H1 => ∃ (a C : Addr) (b : Bool), x = .ref a ∧ ExAt H1 a C ∧ XaK X.K C ∧ PySem.W.kitOne X.K (.ref C) cv = some b ∧ Q (.bl b) H1 := to_p1 (r := fun x H1 Q => ∃ (a C : Addr) (b : Bool), x = .ref a ∧ ExAt H1 a C ∧ XaK X.K C ∧ PySem.W.kitOne X.K (.ref C) cv = some b ∧ Q (.bl b) H1) (fun W H v dv d S' Q ok dn hf fin => by
      unfold isxP at hf
      split at hf
      · rename_i nm rest hd
        cases hd
        cases hr : row nm with
        | none => rw [hr] at hf; cases hf
        | some b =>
          rw [hr] at hf
          cases hf
          obtain ⟨a, C, rfl, g, hx⟩ := exat_den ok dn
          obtain ⟨C', g', T, hk⟩ := hrow _ _ hr
          rw [g] at g'
          cases g'
          exact ⟨a, C, b, rfl, hx, T, hk, fin W _ H (Le.refl _) rfl ok (.bl b)⟩
      · cases hf) h
    obtain ⟨W, η, d, S', ok, env, he, fin⟩ := q
    refine ⟨W, η, d, S', ok, env, he, fun W1 v H1 l1 s1 ok1 d1 => ?_⟩
    obtain ⟨a, C, b, rfl, hx, T, hk, q⟩ := fin W1 v H1 l1 s1 ok1 d1
    exact ⟨a, C, c, cv, b, rfl, hx, T, hcv, hk, q⟩
/-- the reading: a field of an error -/
def tFx (K : PySem.W.Frag) (f : Str) (te : TE) : TE := fun σ H Q => te σ H fun x H1 => ∃ (a C dd : Addr) (v : V), x = .ref a ∧ H1 a = some (exo a C (some dd)) ∧ H1 dd = some (exd dd [(f, v)]) ∧ XfC K C ∧ PySem.W.findIn K (.ref C) f = some none ∧ Q v H1
theorem pe_fx {te : TE} (he : PE X e te) (hb : attributeBase e f X.env (eval e X.env) = eval e X.env := by rfl) : PE X (.Attribute e f pos) (tFx X.K f te) := by
  refine ⟨fun pins s σ H Q I h => ?_⟩
  refine attr_of hb (thn (he.run pins s σ H _ I h) fun u s1 hh => ?_)
  obtain ⟨x, H1, I1, rx, a, C, dd, v, ex, ea, ed, T, hno, q⟩ := hh
  subst ex
  obtain rfl : u = Value.ref a := rx
  obtain ⟨t1, ho⟩ := exo_at I1.hok ea
  obtain ⟨mA, hns, hr⟩ := exd_at I1.hok ed
  obtain ⟨od, hod, hl⟩ := lookIn_ns hns
  have lk : List.lookup f [(f, v)] = some v := by simp [List.lookup]
  obtain ⟨u, hu, ru⟩ := RelO.some_of (v := v) (o := mA f) (by rw [← lk]; exact hr f)
  have J : PySem.W.InstAt s1.heap a _ C (some od) := ⟨ho, rfl, rfl, hod⟩
  exact HandSPX.exc_get I1.kIn J T.ga T.gg T.exC (PySem.W.findObj_own T.hdC hno rfl (by rw [hl, hu])) (handed_of ru) ⟨v, H1, I1.tok _, ru, q⟩
def fxP (nm f : Str) : Prim := fun ds S => match ds with
  | [.dict [(.bool true, .str nm'), (.str f', d)]] => if nm' = nm ∧ f' = f then some (d, S) else none
  | _ => none
theorem v_fx (hN : PySem.W.nsIn X.K mainGlobals nm = some (some (.ref C))) (T : XfC X.K C) (hno : PySem.W.findIn X.K (.ref C) f = some none) (he : PE X e (tE X.K call ca)) (hb : attributeBase e f X.env (eval e X.env) = eval e X.env := by rfl) :
    PE X (.Attribute e f pos) (tE X.K call (.prim (fxP nm f) (.cons ca .nil))) := peM (pe_fx he hb) fun σ H Q h =>
  to_p1 (r := fun x H1 Q => ∃ (a C dd : Addr) (v : V), x = .ref a ∧ H1 a = some (exo a C (some dd)) ∧ H1 dd = some (exd dd [(f, v)]) ∧ XfC X.K C ∧ PySem.W.findIn X.K (.ref C) f = some none ∧ Q v H1) (fun W H v dv d S' Q ok dn hf fin => by
    unfold fxP at hf
    split at hf
    · rename_i nm' f' d' hd
      cases hd
      split at hf
      · rename_i hh
        obtain ⟨rfl, rfl⟩ := hh
        cases hf
        cases dn with
        | exn g h1 h2 r =>
          rw [hN] at g
          cases g
          exact ⟨_, _, _, _, rfl, ok.ex _ _ h1, ok.ex _ _ h2, T, hno, fin W _ H (Le.refl _) rfl ok r⟩
      · cases hf
    · cases hf) h
end
end Iv

set_option Elab.async false
set_option linter.all false
set_option maxRecDepth 100000
set_option maxHeartbeats 4000000
namespace Iv
open PySem PySem.Spec PyProof.Rows L2
open Evl (Ex ex_l ex_t)
section
variable {X : Cx} {x xt nm f : Str} {a b e : Expr} {es : List Expr} {p pt pos p1 p2 : Pos} {call : CallT} {ca cb : E} {K : PySem.W.Frag} {W : Wd} {H : Hp}
/-- {'k': ()} -/
def dc1P (k : Str) : Prim := fun ds S => match ds with
  | [] => some (.dict [(.bool false, .none), (.str k, .tuple [])], S)
  | _ => none
theorem v_dc1 {k : Str} {j j2 : Nat} : PE X (.Dict [some (.Constant (.str k) j p1)] [.Tuple [] j2 p2] pos) (tE X.K call (.prim (dc1P k) .nil)) :=
  peM (pe_disp (trs := [(tC (.str k), tTup tNil)]) (pps_cons pe_str (pe_tup pa_nil) pps_nil) rfl rfl (by simp) (by simp)) fun σ H Q h => by
    obtain ⟨W, ds, d, S', ok, dn, hf, fin⟩ := ta_nil (te_args h)
    cases dn
    cases hf
    intro q hq
    show _ ∧ ∀ t, upd H q (.dK []) t = none → _
    refine ⟨by show ([] : List V).length ≤ sizeLine; simp, fun t ht => ?_⟩
    have nt : t ≠ q := fun z => by rw [z, upd_same] at ht; cases ht
    rw [upd_ne nt] at ht
    obtain ⟨ok2, l2, s2, e2⟩ := ok.lay (o := .tup []) ht
    have hq2 : upd H t (.tup []) q = none := by rw [upd_ne (Ne.symm nt)]; exact hq
    obtain ⟨ok3, l3, s3, e3⟩ := ok2.lay (o := .dK [(.inr k, .ref t)]) hq2
    refine ⟨by rw [upd_ne (Ne.symm nt), upd_same], [(.inr k, .ref t)], rfl, by simp, ?_⟩
    have same : upd (upd (upd H q (.dK [])) t (.tup [])) q (.dK (mergeK [] [(.inr k, V.ref t)])) = upd (upd H t (.tup [])) q (.dK [(.inr k, .ref t)]) := by
      funext c
      by_cases hc : c = q
      · rw [hc, upd_same, upd_same]; rfl
      · rw [upd_ne hc, upd_ne hc]
        by_cases hd : c = t
        · rw [hd, upd_same, upd_same]
        · rw [upd_ne hd, upd_ne hd, upd_ne hc]
    rw [same]
    exact fin _ _ _ (l2.trans l3) (s3.trans s2) ok3 (.dc1 e3 (.tup (l3.ex _ _ e2) .nil))
/-- [..] * n -/
def mulD : Prim := fun ds S => match ds with
  | [.list xs, .int k] => if (-(2 ^ 63) ≤ k ∧ k < 2 ^ 63) ∧ xs.length * k.toNat ≤ 100000 then some (.list (List.replicate k.toNat xs).flatten, S) else none
  | _ => none
theorem DenA.flat {F : Hp} {ρ : List Addr} {vs : List V} {ds : List D} (h : DenA K F ρ vs ds) : ∀ n : Nat, DenA K F ρ (List.replicate n vs).flatten (List.replicate n ds).flatten
  | 0 => .nil
  | n + 1 => by
    rw [List.replicate_succ, List.replicate_succ, List.flatten_cons, List.flatten_cons]
    exact h.append (DenA.flat h n)
theorem v_mulD (ha : PE X a (tE X.K call ca)) (hb : PE X b (tE X.K call cb)) : PE X (.BinOp a .Mult b pos) (tE X.K call (.prim mulD (.cons ca (.cons cb .nil)))) := pe_bin op_rep (fun W H x y dx dy d S' Q ok h1 h2 hf fin => by
  unfold mulD at hf
  split at hf
  · rename_i xs k hds
    cases hds
    split at hf
    · rename_i hz
      cases hf
      cases h2
      cases h1 with
      | lst q r =>
        refine ⟨_, _, _, rfl, rfl, ok.ex _ _ q, hz.1.1, hz.1.2, Evl.sz_of (by rw [r.length]; exact hz.2), fun l hl => ?_⟩
        obtain ⟨ok2, l2, s2, e2⟩ := ok.lay (o := .lst _) hl
        exact fin _ _ _ l2 s2 ok2 (.lst e2 (l2.dena (r.flat k.toNat)))
    · cases hf
  · cases hf) ha hb
def leafD : D → Bool
  | .none => true
  | .bool _ => true
  | .int _ => true
  | .str _ => true
  | _ => false
def rd1 : D → D
  | .dict [(.bool false, .none), (.str k, d)] => .dict [(.str k, d)]
  | d => d
def okD : D → Bool
  | .tuple ds => ds.all leafD
  | .list ds => ds.all leafD
  | .dict [(.bool false, .none), (.str _, .tuple [])] => true
  | d => leafD d
def isL : D → Bool
  | .list _ => true
  | _ => false
variable {pins : List (Addr × Obj)} {σ : L2.St} {s : Shared}
theorem reads_leaf {h : Heap} {F : Hp} {ρ : List Addr} {v : V} {d : D} {u : Value} (r : Den K F ρ v d) (l : leafD d = true) (ru : RelV v u) : Reads h u d [] := by
  cases r with
  | non => obtain rfl : u = .none := ru; exact .none
  | bl b => obtain rfl : u = .bool b := ru; exact .bool b
  | int i => obtain ⟨t, rfl⟩ : ∃ t, u = Value.int i t := ru; exact .int i t
  | str x => obtain ⟨t, rfl⟩ : ∃ t, u = Value.str x t := ru; exact .str x t
  | lst => cases l
  | tup => cases l
  | ref => cases l
  | dct => cases l
  | tws => cases l
  | exb => cases l
  | exn => cases l
  | dc1 => cases l
theorem reads_leaves {h : Heap} {F : Hp} {ρ : List Addr} : ∀ {vs : List V} {ds : List D} {us : List Value}, DenA K F ρ vs ds → ds.all leafD = true → Vals vs us → ReadsAll h us ds []
  | _, _, _, .nil, _, .nil => .nil
  | _, _, _, .cons r1 r2, l, .cons q1 q2 => by
    rw [List.all_cons, Bool.and_eq_true] at l
    exact .cons (as := []) (bs := []) (reads_leaf r1 l.1 q1) (reads_leaves r2 l.2 q2)
theorem reads_ok {v : V} {d : D} {u : Value} (I : Inv X pins σ H s) (ok : Wok X.K W H) (r : Den X.K W.F W.ρ v d) (l : okD d = true) (ru : RelV v u) : ∃ as, Reads s.heap u (rd1 d) as ∧ (isL d = false → sysModules ∉ as) := by
  cases r with
  | non => exact ⟨[], reads_leaf (K := X.K) (F := W.F) (ρ := W.ρ) .non rfl ru, fun _ z => nomatch z⟩
  | bl b => exact ⟨[], reads_leaf (K := X.K) (F := W.F) (ρ := W.ρ) (.bl b) rfl ru, fun _ z => nomatch z⟩
  | int i => exact ⟨[], reads_leaf (K := X.K) (F := W.F) (ρ := W.ρ) (.int i) rfl ru, fun _ z => nomatch z⟩
  | str x => exact ⟨[], reads_leaf (K := X.K) (F := W.F) (ρ := W.ρ) (.str x) rfl ru, fun _ z => nomatch z⟩
  | @lst a xs ds h r =>
    obtain rfl : u = Value.ref a := ru
    obtain ⟨its, rv, ⟨o, n, h1, h2, _, h3⟩, _⟩ := I.list (SqL.of (ok.ex _ _ h))
    exact ⟨_, .list h1 h2 h3 (reads_leaves r l rv), fun z => by cases z⟩
  | @tup a xs ds h r =>
    obtain rfl : u = Value.ref a := ru
    obtain ⟨its, rv, ⟨o, h1, h2, n, h3⟩, _⟩ := I.tuple (SqT.of (ok.ex _ _ h))
    exact ⟨_, .tuple h1 h2 h3 (reads_leaves r l rv), fun _ z => nomatch z⟩
  | ref => cases l
  | dct => cases l
  | tws => cases l
  | exb => cases l
  | exn => cases l
  | @dc1 a k v dv h r =>
    obtain rfl : u = Value.ref a := ru
    obtain ⟨_, hd, vs, rk, o, es, ep, h1, ⟨hcl, _, _⟩, h3, _, hp, _⟩ := dk_of I.hok (ok.ex _ _ h)
    have na : a ≠ sysModules := fun z => by rw [z] at hd; exact absurd hd (by decide)
    cases dv with
    | tuple ds =>
      cases ds with
      | cons => cases l
      | nil =>
        unfold KV at rk
        rcases vs with _ | ⟨⟨kk, vv⟩, rest⟩
        · cases rk
        cases rk with
        | cons g1 g2 =>
          cases g2
          obtain ⟨es⟩ := es
          dsimp only at hp h3
          cases hp with
          | @cons en kv es' kvs' p1 p2 p3 =>
            cases p3
            obtain ⟨gk, gv⟩ := g1
            dsimp only at gk gv p1 p2
            subst gk
            rcases keyIs_shape (show keyIs (.inr k) en.key = true from p1) with ⟨i, t, z, _⟩ | ⟨y, t, z, ek⟩
            · cases z
            · cases z
              cases r with
              | @tup ta xs ds ht rt =>
                cases rt
                obtain rfl : vv = Value.ref ta := gv
                obtain ⟨its, rv, ⟨o2, t1, t2, n2, t3⟩, _⟩ := I.tuple (SqT.of (ok.ex _ _ ht))
                cases rv
                refine ⟨_, .dict (kvs := [(.str k, .tuple [])]) h1 hcl h3 (as := []) (bs := []) ?_ ?_, fun _ z => ?_⟩
                · show ReadsAll s.heap [en.key] [.str k] []
                  rw [ek]
                  exact .cons (as := []) (bs := []) (.str k t) .nil
                · show ReadsAll s.heap [en.val] [.tuple []] []
                  rw [p2]
                  exact .cons (as := []) (bs := []) (.tuple t1 t2 t3 .nil) .nil
                · have z' : sysModules ∈ [a] := z
                  rw [List.mem_singleton] at z'
                  exact na z'.symm
    | _ => cases l
theorem reads_all (I : Inv X pins σ H s) (ok : Wok X.K W H) : ∀ {vs : List V} {ds : List D} {us : List Value}, DenA X.K W.F W.ρ vs ds → ds.all okD = true → Vals vs us → ∃ as, ReadsAll s.heap us (ds.map rd1) as ∧ (ds.all (fun d => !isL d) = true → sysModules ∉ as)
  | _, _, _, .nil, _, .nil => ⟨[], .nil, fun _ z => nomatch z⟩
  | _, _, _, .cons r1 r2, l, .cons q1 q2 => by
    rw [List.all_cons, Bool.and_eq_true] at l
    obtain ⟨as, g1, n1⟩ := reads_ok I ok r1 l.1 q1
    obtain ⟨bs, g2, n2⟩ := reads_all I ok r2 l.2 q2
    refine ⟨as ++ bs, .cons g1 g2, fun z => ?_⟩
    rw [List.all_cons, Bool.and_eq_true] at z
    intro m
    rcases List.mem_append.mp m with m | m
    · exact n1 (by simpa using z.1) m
    · exact n2 z.2 m
/-- what repr is asked -/
structure ShowOk (xs : List D) : Prop where
  ok : xs.all okD = true
  sys : xs.all (fun d => !isL d) = true ∨ PyData.hasDictAll (xs.map rd1) = false
  sh : PyData.showableAll (xs.map rd1) = true
  ln : (PyData.list (xs.map rd1)).shown.length ≤ 100000
  dp : (PyData.list (xs.map rd1)).depth ≤ 60
  ne : xs ≠ []
instance {xs : List D} : Decidable (ShowOk xs) :=
  if h : xs.all okD = true ∧ (xs.all (fun d => !isL d) = true ∨ PyData.hasDictAll (xs.map rd1) = false) ∧ PyData.showableAll (xs.map rd1) = true ∧ (PyData.list (xs.map rd1)).shown.length ≤ 100000 ∧ (PyData.list (xs.map rd1)).depth ≤ 60 ∧ xs ≠ [] then
    isTrue ⟨h.1, h.2.1, h.2.2.1, h.2.2.2.1, h.2.2.2.2.1, h.2.2.2.2.2⟩
  else isFalse fun z => h ⟨z.ok, z.sys, z.sh, z.ln, z.dp, z.ne⟩
def rRepr (X : Cx) : List V → Hp → VK → Prop := fun vs H Q => ∃ (W : Wd) (a : Addr) (xs : List V) (ds : List D), vs = [.ref a] ∧ Wok X.K W H ∧ SqL X.K H a xs ∧ DenA X.K W.F W.ρ xs ds ∧ ShowOk ds ∧ Q (.str (PyData.list (ds.map rd1)).shown) H
theorem call_reprL (hg : X.A.guards = some []) (hu : X.A.units + 64 < cLine) : CallR X (.builtin "repr") (rRepr X) := by
  intro pins s σ H vs us Q I r h
  obtain ⟨W, a, xs, ds, rfl, ok, hs, dn, so, q⟩ := h
  cases r with
  | cons rx rr =>
    cases rr
    rename_i u
    obtain rfl : u = Value.ref a := rx
    obtain ⟨its, rv, ⟨o, n, h1, h2, _, h3⟩, _⟩ := I.list hs
    obtain ⟨as, ra, nsy⟩ := reads_all I ok dn so.ok rv
    have hz : (PyData.list (ds.map rd1)).shown.length ≤ sizeLine := Evl.sz_of so.ln
    have hz' : (listText (PyData.shownAll (ds.map rd1))).length ≤ sizeLine := by simpa only [PyData.shown] using hz
    have hdp := so.dp
    obtain ⟨bs, hb, hk⟩ := ReprAllK.of_readsAll (prog := X.prog) (w := X.w) ra so.sh (fun hx => by
      rcases so.sys with z | z
      · exact nsy z
      · rw [z] at hx; cases hx) (fun t ht => Nat.le_trans (listText_mem_le ht) hz')
    have hna : a ∉ bs := not_mem_of_deeper (.list h1 h2 h3 ra) (by simp only [PyData.depth]; omega) hb
    refine call_repr_slot (by omega) ⟨o, h1, h2⟩ F.slot_list_repr.toG ?_
    cases its with
    | nil =>
      cases rv
      cases dn
      exact absurd rfl so.ne
    | cons y l =>
      refine call_list_reprK h1 h2 h3 hna (by simpa using hk.length_eq) (fun i y e => hk.item i y (by simpa using e)) (g := []) hg (fun b _ => Clear.nil b) (by
        simp only [PyData.depth] at hdp
        show X.A.units + 1 + _ < cLine
        omega) (fun _ _ z => z) (fun h' u tk k => ⟨_, _, rfl, ?_⟩) hz'
      refine ⟨.str (PyData.list (ds.map rd1)).shown, H, I.kept (t' := tk) k, ⟨u, ?_⟩, q⟩
      simp only [PyData.shown]
def lstOf (d : D) (S : List SO) : Option (List D) := match d with
  | .list xs => some xs
  | .dict [(.int (Int.ofNat i), .none)] => match S[i]? with
    | some (.obj (.lst xs)) => some xs
    | _ => none
  | _ => none
def repP : Prim := fun ds S => match ds with
  | [d] => (lstOf d S).bind fun xs => if ShowOk xs then some (.str (PyData.list (xs.map rd1)).shown, S) else none
  | _ => none
theorem v_rep (hgd : X.A.guards = some []) (hu : X.A.units + 64 < cLine) (hm : X.mg "repr" = none) (ha : PE X e (tE X.K call ca)) (hg : Gl X "repr" := by rfl) (hv : bootBuiltins "repr" = some (.builtin "repr") := by decide +kernel)
    (he : starEach [e] X.env = (false, eval e X.env) :: starEach [] X.env := by rfl) : PE X (.Call (.Name "repr" p) [e] [] pos) (tE X.K call (.prim repP (.cons ca .nil))) :=
  peM (pe_callB (call_reprL hgd hu) hg hm hv (pa_cons ha pa_nil he) (by decide) (by decide) he) fun σ H Q h =>
    to_p1 (r := fun v H1 Q => rRepr X [v] H1 Q) (fun W H v dv d S' Q ok dn hf fin => by
      unfold repP at hf
      obtain ⟨xs, h1, h2⟩ := bind_some hf
      split at h2
      · rename_i so
        cases h2
        unfold lstOf at h1
        split at h1
        · rename_i ys
          cases h1
          cases dn with
          | lst q r => exact ⟨W, _, _, _, rfl, ok, SqL.of (ok.ex _ _ q), r, so, fin W _ H (Le.refl W) rfl ok (.str _)⟩
        · rename_i i
          split at h1
          · rename_i ys hy
            cases h1
            obtain ⟨a, vs, g1, g2, g3, g4⟩ := ok.lst i _ hy
            cases dn with
            | ref g =>
              rw [g1] at g
              cases g
              exact ⟨W, _, _, _, rfl, ok, SqL.of g3, g4, so, fin W _ H (Le.refl W) rfl ok (.str _)⟩
          · cases h1
        · cases h1
      · cases h2) h
end
end Iv

set_option Elab.async false
set_option linter.all false
set_option maxRecDepth 100000
set_option maxHeartbeats 4000000
namespace Iv
open PySem PySem.Spec PyProof.Rows L2
open Evl (Ex ex_l ex_t)
/-- a def's promise where nothing guards -/
def FnG (P : Program) (w : World) (K : PySem.W.Frag) (mg : Str → Option Value) (base : Heap) (k : Nat) (f : Addr) (sp : Sp) : Prop :=
  ∀ (A : Around) (outer : List Env) (s : Shared) (H : Hp) (us : List Value) (vs : List V) (Q : VK) (E : XK), A.guards = some [] → Room k A → Env0 P w K mg base A outer s H → Vals vs us → sp vs H Q E → codeAny (model P w) A (.call (.ref f) ⟨us, []⟩) (CR CX0 outer P w H s Q E) s
theorem FnG.of {P : Program} {w : World} {K : PySem.W.Frag} {mg : Str → Option Value} {base : Heap} {k : Nat} {f : Addr} {sp : Sp} (F : FnR P w K mg base CX0 k f sp) : FnG P w K mg base k f sp := fun A outer s H us vs Q E _ hr e0 r h => F A outer s H us vs Q E hr e0 r h
section
variable {P : Program} {w : World} {K : PySem.W.Frag} {mg : Str → Option Value} {base : Heap} {tab : Nat → Option Def} {j k : Nat} {d : Def} {x qual : Str} {st : Stmt} {f : Addr} {fd : FuncData} {N ps : List Str}
theorem fn_g (F : Fun K x qual st f fd) (S : FnScope N ps (defScope st)) (hb : Binds K fd ps []) (htab : tab j = some d) (hstar : d.star = false) (hslots : d.slots = N.length) (har : d.ar = ps.length)
    (hbody : ∀ (cdv : Value) (A : Around) (outer : List Env) (s : Shared) (H : Hp) (E : XK), A.guards = some [] → Room k (A.deeper (envOfC qual (defScope st) s.heap.objs.size f cdv)) →
      PSs (cxOf CX0 P w K mg base N qual (defScope st) f cdv A outer s H E) (defBody st) (tS K (callN tab k) d.body)) : FnG P w K mg base (k + 1) f (spK K (callN tab (k + 1)) j) := by
  intro A outer s H us vs Q E hg hr e0 r h
  obtain ⟨W, ds, y, S', ok, dn, hc, fin⟩ := h
  unfold callN at hc
  rw [htab] at hc
  dsimp only at hc
  rw [hstar] at hc
  dsimp only at hc
  split at hc
  · rename_i hl
    obtain ⟨oc, od, kV, doc, pm, an, cdv, ct, osl, rfl, lk, hcd⟩ := F.ex
    have hin : K.In s.heap := e0.mod.kin.keeps fun b o z => (e0.bs b o z).1
    have lim : s.heap.NoLimit := e0.mod.nolimit.keeps fun b o z => (e0.bs b o z).1
    have lu : us.length = ps.length := by rw [← r.length, dn.length, hl, har]
    have kinds : ∀ z ∈ ps.zip us, (defScope st).names.lookup z.1 = some .local ∨ ((defScope st).names.lookup z.1 = some .cell ∧ ((cellsFrom (s.heap.objs.size + 1) (defScope st).names []).lookup z.1).isSome = true) := fun ⟨n, v⟩ hz => by
      rcases S.par n (List.of_mem_zip hz).1 with q | q
      · exact .inl q
      · exact .inr ⟨q, PySem.W.cellsFrom_some _ _ _ (.inl q)⟩
    have bd := hb s us hin (by rw [List.append_nil]; exact lu)
    rw [List.append_nil] at bd
    refine codeAny_call_function hr.depth (hin _ _ lk) rfl S.co S.gen rfl (PySem.W.codeRec_of hin hcd) (bd _ _ _ _ ?_)
    refine wpAny_newFunctionEnv_cells S.kind kinds fun env he s1 xx => ?_
    subst he
    refine ⟨lim.keeps xx.toInCall.keep, codeAny_func ?_⟩
    have body := hbody cdv A outer s H E hg (hr.deeper _)
    have I : Inv (cxOf CX0 P w K mg base N qual (defScope st) f cdv A outer s H E) [] (L2.start N vs) H s1 := inv_start S hr.hd e0 (by rw [dn.length, hl, har]) r xx
    have last : ∀ {σ' : L2.St} {H' : Hp} {v : V} {u : Value} {s' : Shared}, Inv (cxOf CX0 P w K mg base N qual (defScope st) f cdv A outer s H E) [] σ' H' s' → RelV v u → Q v H' → CE outer P w H s Q u s' :=
      fun {σ' H' v u s'} J rv q => ⟨v, H', J.os, J.bare, J.base, J.hok, rv, q⟩
    refine wpAny_mono (body.run [] s1 (L2.start N vs) H _ I (run_den hslots ok dn hc fin)) (fun fl s' hs => ?_) fun e s' hs => hs
    cases fl with
    | ret u =>
      obtain ⟨v, σ', H', J, rv, q⟩ := hs
      exact last J rv q
    | next =>
      obtain ⟨σ', H', J, q⟩ := hs
      exact last (v := V.non) (u := Value.none) J rfl q
    | brk =>
      obtain ⟨_, _, _, q⟩ := hs
      exact q.elim
    | cont =>
      obtain ⟨_, _, _, q⟩ := hs
      exact q.elim
  · cases hc
end
section
variable {X : Cx} {pins : List (Addr × Obj)} {σ : L2.St} {H : Hp} {s : Shared} {k j : Nat} {f : Addr} {x : Str} {p pos : Pos} {e : Expr} {es : List Expr} {call : CallT} {ca : E}
theorem run_g {sp : Sp} {Q : VK} {us : List Value} {vs : List V} (F : FnG X.prog X.w X.K X.mg X.base k f sp) (hgd : X.A.guards = some []) (hr : Room k X.A) (I : Inv X pins σ H s) (r : Vals vs us) (h : sp vs H Q (fun _ _ _ => False)) :
    codeAny (model X.prog X.w) X.A (.call (.ref f) ⟨us, []⟩) (fun z s' => match z with | .ok (.ret v) => EP X pins σ Q v s' | .ok _ => False | .error e => X.xe e s') s := by
  refine codeAny_mono (F X.A X.stack s H us vs Q _ hgd hr I.env0 r h) fun z s' hq => ?_
  rcases z with er | (_ | _ | _ | u)
  · exact (show False from hq).elim
  · exact hq.elim
  · exact hq.elim
  · exact hq.elim
  · exact I.after hq
theorem own_g (F : FnG X.prog X.w X.K X.mg X.base k f (spK X.K call j)) (hgd : X.A.guards = some []) (hr : Room k X.A) (hk : PySem.W.keepIn X.K (.ref f) = true) (hm : X.mg x = some (.ref f)) (ha : PA X (e :: es) (tA X.K call ca)) (hg : Gl X x := by rfl) (hd : (x == ("__debug__" : Str)) = false := by decide) (h1 : starEach (e :: es) X.env = (false, eval e X.env) :: starEach es X.env := by rfl) (h2 : (backTo pos (starEach es X.env)).any (·.1) = false := by rfl) :
    PE X (.Call (.Name x p) (e :: es) [] pos) (tE X.K call (.call j ca)) := by
  refine ⟨fun pins s σ H Q I h => ?_⟩
  obtain ⟨W, η, y, S', ok, env, hev, fin⟩ := h
  unfold ev at hev
  obtain ⟨z, g1, g2⟩ := bind_some hev
  obtain ⟨t, g3, g4⟩ := bind_some g2
  cases g4
  have q : tA X.K call ca σ H fun vs J => spK X.K call j vs J Q (fun _ _ _ => False) := ⟨W, η, z.1, z.2, ok, env, g1, fun W1 vs H1 l1 s1 ok1 d1 => ⟨W1, z.1, t.1, t.2, ok1, d1, by rw [s1]; exact g3, fun W2 v H2 l2 s2 ok2 d2 => fin W2 v H2 (l1.trans l2) s2 ok2 d2⟩⟩
  exact wpAny_Call_Name_kw (ld_glob I hg hm (PySem.W.callWith_K (h₀ := X.base) I.ok.mod.kin hk (thn (ha.run pos pins s σ H _ I q) fun us z ⟨ws, J, I1, r, q⟩ => ⟨I1.kIn, wpAny_call (run_g F hgd hr I1 r q)⟩) h1 h2) hd)
end
/-- the law's own call, from a promise that stands where nothing guards -/
theorem head_g {P : Program} {w : World} {K : PySem.W.Frag} {mg mb : Str → Option Value} {k : Nat} {fa a : Addr} {sp : Sp} {s1 : Shared} {us : List Value} {ns : List Int}
    (hK : K.In s1.heap) (hN : s1.heap.Ns mainGlobals mg) (hB : s1.heap.Ns builtinsNs mb) (hBt : ∀ x : Str, x ≠ "__name__" → mb x = bootBuiltins x) (hL : s1.heap.NoLimit) (hG : s1.gens = #[])
    (ha : s1.heap.get? a = some { cls := .type "list", data := .seq us.toArray }) (hi : IntsAre us ns) (hl : ns.length ≤ sizeLine) (hr : Room k callerA)
    (F : ∀ base : Heap, K.In base → base.Ns mainGlobals mg → FnG P w K mg base k fa sp) (hsp : ∀ H : Hp, Only H → SqL K H a (ns.map V.int) → sp [.ref a] H (fun v _ => v = .bl true) fun _ _ _ => False) :
    codeAny (model P w) callerA (.call (.ref fa) ⟨[.ref a], []⟩) (fun r s' => r = .ok (.ret (.bool true)) ∧ OldK s1.heap s'.heap ∧ s'.os = s1.os ∧ AllBare s'.gens) s1 := by
  have rv := vals_ints hi
  have lu := hi.length
  have main : ∀ H : Hp, Only H → SqL K H a (ns.map V.int) → HOk P w H s1.heap → (∀ b, H b ≠ none → b = a ∧ K.lookup a = none) →
      codeAny (model P w) callerA (.call (.ref fa) ⟨[.ref a], []⟩) (fun r s' => r = .ok (.ret (.bool true)) ∧ OldK s1.heap s'.heap ∧ s'.os = s1.os ∧ AllBare s'.gens) s1 := by
    intro H only sq hok one
    have get : ∀ {b : Addr} {o : Obj}, s1.heap.get? b = some o → H b = none → (hidT s1.heap H).get? b = some o := fun z n => hidT_get z n
    have dictNo : ∀ {b : Addr} {o : Obj} {es : Array DictEntry} {n : Nat}, s1.heap.get? b = some o → o.data = .dict es n → H b = none := fun {b o es n} z dd => by
      cases hb : H b with
      | none => rfl
      | some u =>
        obtain ⟨rfl, _⟩ := one b (by rw [hb]; simp)
        rw [ha] at z; cases z
        exact absurd (show Data.seq us.toArray _ = Data.dict es n from dd) (fun z => nomatch z)
    have ns2 : ∀ {b : Addr} {m : Str → Option Value}, s1.heap.Ns b m → (hidT s1.heap H).Ns b m := fun {b m} ⟨o, es, n, z, dd, rr⟩ => ⟨o, es, n, get z (dictNo z dd), dd, rr⟩
    have kin : K.In (hidT s1.heap H) := fun b o z => get (hK b o z) (by
      cases hb : H b with
      | none => rfl
      | some u =>
        obtain ⟨rfl, z2⟩ := one b (by rw [hb]; simp)
        rw [z2] at z; cases z)
    have md : Mod K mg (hidT s1.heap H) := ⟨kin, ns2 hN, ⟨mb, ns2 hB, hBt⟩, let ⟨mc, g1, g2⟩ := hL; ⟨mc, ns2 g1, g2⟩⟩
    have env : Env0 P w K mg (hidT s1.heap H) callerA [] s1 H := ⟨rfl, md, fun b o z => of_hidT z, Nat.le_of_eq (hidT_size _ _), trivial, fun b hb => absurd (show b ∈ ([] : List Addr) from hb) (by simp), hok, .of_eq hG⟩
    refine codeAny_mono (F _ kin (ns2 hN) callerA [] s1 H [.ref a] [.ref a] _ _ rfl hr env (.cons rfl .nil) (hsp H only sq)) fun r s' h => ?_
    rcases r with er | (_ | _ | _ | u)
    · exact (show False from h).elim
    · exact h.elim
    · exact h.elim
    · exact h.elim
    · obtain ⟨v, H', os, bare, un, hok2, rr, q⟩ := h
      obtain rfl : v = .bl true := q
      obtain rfl : u = Value.bool true := rr
      refine ⟨rfl, OldK.of_keep fun b o z => ?_, os, bare⟩
      cases hb : H b with
      | none => exact un.keep b o z hb (fun m => absurd (show b ∈ ([] : List Addr) from m) (by simp)) (by simp)
      | some u =>
        rcases only b with n | ⟨ob, xs, n⟩
        · rw [hb] at n; cases n
        · have n2 := un.frzs b ob _ n
          obtain ⟨z1, _⟩ := hok b _ n
          obtain ⟨z2, _⟩ := hok2 b _ n2
          rw [z] at z1; cases z1
          exact z2
  cases hk : K.lookup a with
  | some o =>
    have z := hK a o hk
    rw [ha] at z; cases z
    exact main (fun _ => none) (fun _ => .inl rfl) (.inr ⟨_, us.toArray, _, hk, rfl, rfl, rfl, by rw [List.size_toArray, lu]; exact hl, by simpa using rv⟩) (fun b u z => nomatch (show (none : Option HO) = some u from z)) fun b z => absurd rfl z
  | none =>
    have nb : ∀ {b : Addr}, b ≠ a → (if b = a then some (HO.frz { cls := .type "list", data := .seq us.toArray } (.lst (ns.map V.int))) else none) = none := fun h => if_neg h
    refine main (fun b => if b = a then some (.frz { cls := .type "list", data := .seq us.toArray } (.lst (ns.map V.int))) else none) (fun b => ?_) (.inl (.inr ⟨{ cls := .type "list", data := .seq us.toArray }, if_pos rfl⟩)) (fun b u z => ?_) fun b z => ?_
    · by_cases hb : b = a
      · exact .inr ⟨_, _, if_pos hb⟩
      · exact .inl (nb hb)
    · by_cases hb : b = a
      · have z' := (if_pos hb).symm.trans z
        cases z'
        subst hb
        exact ⟨ha, by rw [List.length_map]; exact hl, us, _, rv, ha⟩
      · have z' := (nb hb).symm.trans z
        cases z'
    · by_cases hb : b = a
      · exact ⟨hb, hk⟩
      · exact absurd (nb hb) z
theorem walk_g {l : PySem.W.OpenLaw} {n k : Nat} {q : Program} {loose : List Str} {XP : (Str → Option Value) → Heap → Prop} {YP : World → Heap → Prop} {d : DefRec} {K : Params → PySem.W.Frag} {sp : World → Sp}
    (hn : l.most = some n) (hn2 : n ≤ sizeLine) (hdf : d.params.defaults = []) (hr : Room k callerA) (hY : ∀ (w : World) (h : Heap), YP w h → (K w.params).In h)
    (F : ∀ (w : World) (mg : Str → Option Value) (fa : Addr) (h : Heap), (K w.params).In h → h.Ns mainGlobals mg → mg d.name = some (.ref fa) → ∀ base : Heap, (K w.params).In base → base.Ns mainGlobals mg → FnG l.prog w (K w.params) mg base k fa (sp w))
    (hsp : ∀ (w : World) (H : Hp) (a : Addr) (ns : List Int), ns.length ≤ n → Only H → SqL (K w.params) H a (ns.map V.int) → sp w [.ref a] H (fun v _ => v = .bl true) fun _ _ _ => False) :
    PySem.W.WalkO q loose XP YP l.row.toRowW d [] (fun f vs => PySem.call f vs) := by
  refine Att.attach_call hn hdf fun w s₀ s1 mg mb fa o pm cd doc a us ns G Y ho hd hcd hmg hobj hints hlen hg => ?_
  have kx := hY w _ Y
  exact head_g kx G.T.g G.T.b G.T.builtins G.T.nolimit hg hobj hints (Nat.le_trans hlen hn2) hr (fun base h1 h2 => F w mg fa _ kx G.T.g hmg base h1 h2) fun H hO hS => hsp w H a ns hlen hO hS
end Iv

set_option Elab.async false
set_option linter.all false
set_option maxRecDepth 100000
set_option maxHeartbeats 4000000
namespace Iv
open PySem PySem.Spec PyProof.Rows L2
open Evl (Ex ex_l ex_t)
section
variable {X : Cx} {a b o e : Expr} {es : List Expr} {pos cpos apos : Pos} {call : CallT} {ca cb : E} {K : PySem.W.Frag}
/-- xs + ys, made to change -/
def catN : Prim := fun ds S => match ds with
  | [.list xs, .list ys] => if xs.length + ys.length ≤ 100000 then some (rf S.length, S ++ [.obj (.lst (xs ++ ys))]) else none
  | _ => none
theorem v_catN (ha : PE X a (tE X.K call ca)) (hb : PE X b (tE X.K call cb)) : PE X (.BinOp a .Add b pos) (tE X.K call (.prim catN (.cons ca (.cons cb .nil)))) := pe_bin op_cat (fun W H x y dx dy d S' Q ok h1 h2 hf fin => by
  unfold catN at hf
  split at hf
  · rename_i i j hds
    cases hds
    split at hf
    · rename_i hz
      cases hf
      cases h1 with
      | lst a1 r1 =>
        cases h2 with
        | lst a2 r2 =>
          refine ⟨_, _, _, _, rfl, rfl, ok.ex _ _ a1, ok.ex _ _ a2, Evl.sz_of (by rw [r1.length, r2.length]; exact hz), fun p hp => ?_⟩
          obtain ⟨ok2, l, last⟩ := ok.push hp (r1.append r2)
          exact fin _ _ _ l rfl ok2 (.ref last)
    · cases hf
  · cases hf) ha hb
theorem v_app (ho : PE X o (tE X.K call ca)) (he : PE X e (tE X.K call cb)) (hbase : attributeBase o "append" X.env (eval o X.env) = eval o X.env := by rfl)
    (hfew : (((backTo cpos (starEach [e] X.env)).all fun x => !x.fst) && (backToKw cpos (keywordEach [] X.env)).all fun x => x.fst.isSome) && decide (([e].length + ([] : List Keyword).length + if ([] : List Keyword).isEmpty = true then 0 else 1) < 30) = true := by rfl)
    (hline : (apos.endLine == cpos.line) = true := by rfl) (hs : starEach [e] X.env = (false, eval e X.env) :: starEach [] X.env := by rfl) (hp : (backTo cpos (starEach [] X.env)).any (·.1) = false := by rfl) :
    PE X (.Call (.Attribute o "append" apos) [e] [] cpos) (tE X.K call (.prim appP (.cons (.prim lisP (.cons ca .nil)) (.cons cb .nil)))) :=
  v_lm1 PySem.F.slot_list_append PySem.F.type_list_append L2.mt_append p2_app ho he hbase hfew hline hs hp
/-- a list of the store changes no more -/
theorem Wok.wake {W : Wd} {H : Hp} (h : Wok K W H) {i : Nat} {p : Addr} {xs : List V} {ds : List D} (hi : W.S[i]? = some .dead) (ha : W.ρ[i]? = some p) (q : SqL K W.F p xs) (r : DenA K W.F W.ρ xs ds) :
    Wok K { W with S := W.S.set i (.fro ds) } H ∧ Le W { W with S := W.S.set i (.fro ds) } := by
  have hlt := (List.getElem?_eq_some_iff.mp hi).1
  have back : ∀ j (o : MO), (W.S.set i (SO.fro ds))[j]? = some (SO.obj o) → W.S[j]? = some (SO.obj o) := fun j o e => by
    by_cases hj : i = j
    · subst hj
      rw [List.getElem?_set_self hlt] at e; cases e
    · rw [List.getElem?_set_ne hj] at e; exact e
  refine ⟨⟨h.ex, by simp [h.len], h.rex, h.rdis, fun j o e => h.obj j o (back j o e), fun j es e => ?_, fun j k o o' p' e1 e2 e3 e4 => h.inj j k o o' p' (back j o e1) (back k o' e2) e3 e4, h.rl⟩, Ex.refl _, ⟨[], by simp⟩, rfl⟩
  by_cases hj : i = j
  · subst hj
    have e' : (W.S.set i (SO.fro ds))[i]? = some (SO.fro es) := e
    rw [List.getElem?_set_self hlt] at e'
    cases e'
    exact ⟨p, xs, ha, q, r⟩
  · have e' : (W.S.set i (SO.fro ds))[j]? = some (SO.fro es) := e
    rw [List.getElem?_set_ne hj] at e'
    exact h.fro j es e'
def frzF : Prim := fun ds S => match ds with
  | [.dict [(.int (Int.ofNat i), .none)]] => match S[i]? with
    | some (.obj (.lst xs)) => some (rf i, S.set i (.fro xs))
    | _ => none
  | _ => none
theorem v_frzF (h : PE X e (tE X.K call ca)) : PE X e (tE X.K call (.prim frzF (.cons ca .nil))) := peM h fun σ H Q q => to_p1 (r := fun x H1 Q => Q x H1) (fun W H v dv d S' Q ok dn hf fin => by
  unfold frzF at hf
  split at hf
  · rename_i i hds
    cases hds
    split at hf
    · rename_i xs hx
      cases hf
      cases dn with
      | @ref _ p h0 =>
        have hlt := (List.getElem?_eq_some_iff.mp hx).1
        obtain ⟨ys, ok2, l2, dn2⟩ := ok.frz hx h0
        cases dn2 with
        | @lst _ zs _ g1 g2 =>
          obtain ⟨ok3, l3⟩ := ok2.wake (i := i) (p := p) (ds := xs) (List.getElem?_set_self hlt) h0 (SqL.of g1) g2
          refine fin _ _ _ (l2.trans l3) ?_ ok3 (.ref h0)
          show (W.S.set i .dead).set i (.fro xs) = W.S.set i (.fro xs)
          rw [List.set_set]
    · cases hf
  · cases hf) q
end
section
variable {S : List SO} {Q : D → List SO → Prop} {R : List D → List SO → Prop} {n : Nat} {xs ys rest : List D} {d x y : D} {nm f : Str} {b : Bool} {kvs : List (D × D)}
theorem w_catN : WP catN [.list xs, .list ys] S Q ↔ xs.length + ys.length ≤ 100000 ∧ Q (rf S.length) (S ++ [.obj (.lst (xs ++ ys))]) := by
  unfold WP
  have e : catN [.list xs, .list ys] S = if xs.length + ys.length ≤ 100000 then some (rf S.length, S ++ [.obj (.lst (xs ++ ys))]) else none := rfl
  rw [e]
  constructor
  · rintro ⟨_, _, h1, q⟩
    split at h1
    · rename_i hp; cases h1; exact ⟨hp, q⟩
    · cases h1
  · rintro ⟨hp, q⟩
    exact ⟨_, _, by rw [if_pos hp], q⟩
theorem w_xb1 : WP (xb1P nm) [x] S Q ↔ Q (xbD nm) S := WP_of rfl
theorem w_xb0 : WP (xb0P nm) [] S Q ↔ Q (xbD nm) S := WP_of rfl
theorem w_xn : WP (xnP nm f) [x] S Q ↔ Q (xnD nm f x) S := WP_of rfl
theorem w_fx : WP (fxP nm f) [xnD nm f x] S Q ↔ Q x S := WP_of (by
  show (if nm = nm ∧ f = f then some (x, S) else none) = _
  rw [if_pos ⟨rfl, rfl⟩])
theorem w_isx {row : Str → Option Bool} (h : row nm = some b) : WP (isxP row) [.dict ((.bool true, .str nm) :: kvs)] S Q ↔ Q (.bool b) S := WP_of (by
  show (row nm).map _ = _
  rw [h]; rfl)
theorem w_dc1 {k : Str} : WP (dc1P k) [] S Q ↔ Q (.dict [(.bool false, .none), (.str k, .tuple [])]) S := WP_of rfl
theorem w_itAF (h : S[n]? = some (.fro xs)) : WI itA [.dict [(.int (Int.ofNat n), .none)]] S R ↔ R xs S := WI_of (by
  unfold itA
  dsimp only
  rw [h])
theorem w_frzF (h : S[n]? = some (.obj (.lst xs))) : WP frzF [.dict [(.int (Int.ofNat n), .none)]] S Q ↔ Q (rf n) (S.set n (.fro xs)) := WP_of (by
  show (match S[n]? with | some (.obj (.lst xs)) => some (rf n, S.set n (.fro xs)) | _ => none) = _
  rw [h])
theorem w_repL (h : ShowOk xs) : WP repP [.list xs] S Q ↔ Q (.str (PyData.list (xs.map rd1)).shown) S := WP_of (by
  show (if ShowOk xs then some _ else none) = _
  rw [if_pos h])
theorem w_repR (h : S[n]? = some (.obj (.lst xs))) (h2 : ShowOk xs) : WP repP [.dict [(.int (Int.ofNat n), .none)]] S Q ↔ Q (.str (PyData.list (xs.map rd1)).shown) S := WP_of (by
  have e : lstOf (.dict [(.int (Int.ofNat n), .none)]) S = some xs := by
    unfold lstOf
    dsimp only
    rw [h]
  show (lstOf _ S).bind _ = _
  rw [e]
  show (if ShowOk xs then some _ else none) = _
  rw [if_pos h2])
end
end Iv

set_option Elab.async false
set_option linter.all false
set_option maxRecDepth 100000
set_option maxHeartbeats 4000000
namespace K00
open PySem L2 Iv
open PySem.Spec PyProof.Rows
def topS (i : Nat) : Stmt := PySem.Challenge.pw_downsets_k00_errors_and_what_they_keep.main.body.getD i (.Pass ⟨0, 0, 0, 0⟩)
def bodyOf : Stmt → List Stmt
  | .ClassDef _ _ _ b _ _ _ _ _ _ _ => b
  | _ => []
def inS (i : Nat) : Stmt := (bodyOf (topS i)).getD 0 (.Pass ⟨0, 0, 0, 0⟩)
abbrev i_5 : Stmt := inS 6
theorem si_5 : FnScope ["self", "line"] ["self", "line"] (defScope i_5) := ⟨rfl, rfl, rfl, by decide +kernel, rfl, by decide +kernel, by decide +kernel⟩
abbrev tl_5 : List Value := [.type "ValueError", .type "Exception", .type "BaseException", .type "object"]
theorem mh_5 : ∀ bm : List Value, (∀ Y : String, bm.contains (.type Y) = tl_5.contains (.type Y)) → MroHas bm tl_5 "ValueError" "ValueError" := fun bm h => ⟨by rw [h]; decide +kernel, by rw [h]; decide +kernel, by rw [h]; decide +kernel, by rw [h]; decide +kernel⟩
abbrev fb_5 := F.excBase_ValueError
theorem ii_5 : IniF "ValueError" "ValueError.__init__" := iniF_of F.excBase_ValueError
theorem sf_5 : StoreFacts "ValueError" tl_5 "object.__setattr__" "object" := F.store_ValueError
abbrev i_6 : Stmt := inS 7
theorem si_6 : FnScope ["self", "place"] ["self", "place"] (defScope i_6) := ⟨rfl, rfl, rfl, by decide +kernel, rfl, by decide +kernel, by decide +kernel⟩
abbrev tl_6 : List Value := [.type "KeyError", .type "LookupError", .type "Exception", .type "BaseException", .type "object"]
theorem mh_6 : ∀ bm : List Value, (∀ Y : String, bm.contains (.type Y) = tl_6.contains (.type Y)) → MroHas bm tl_6 "LookupError" "KeyError" := fun bm h => ⟨by rw [h]; decide +kernel, by rw [h]; decide +kernel, by rw [h]; decide +kernel, by rw [h]; decide +kernel⟩
abbrev fb_6 := F.excBase_LookupError
theorem ii_6 : IniF "KeyError" "KeyError.__init__" := iniF_KeyError
theorem sf_6 : StoreFacts "KeyError" tl_6 "object.__setattr__" "object" := sto_K
abbrev i_7 : Stmt := inS 8
theorem si_7 : FnScope ["self", "value"] ["self", "value"] (defScope i_7) := ⟨rfl, rfl, rfl, by decide +kernel, rfl, by decide +kernel, by decide +kernel⟩
abbrev tl_7 : List Value := [.type "ArithmeticError", .type "Exception", .type "BaseException", .type "object"]
theorem mh_7 : ∀ bm : List Value, (∀ Y : String, bm.contains (.type Y) = tl_7.contains (.type Y)) → MroHas bm tl_7 "ArithmeticError" "ArithmeticError" := fun bm h => ⟨by rw [h]; decide +kernel, by rw [h]; decide +kernel, by rw [h]; decide +kernel, by rw [h]; decide +kernel⟩
abbrev fb_7 := F.excBase_ArithmeticError
theorem ii_7 : IniF "ArithmeticError" "ArithmeticError.__init__" := iniF_of F.excBase_ArithmeticError
theorem sf_7 : StoreFacts "ArithmeticError" tl_7 "object.__setattr__" "object" := sto_A
abbrev i_8 : Stmt := inS 9
theorem si_8 : FnScope ["self", "circle"] ["self", "circle"] (defScope i_8) := ⟨rfl, rfl, rfl, by decide +kernel, rfl, by decide +kernel, by decide +kernel⟩
abbrev tl_8 : List Value := [.type "LookupError", .type "Exception", .type "BaseException", .type "object"]
theorem mh_8 : ∀ bm : List Value, (∀ Y : String, bm.contains (.type Y) = tl_8.contains (.type Y)) → MroHas bm tl_8 "LookupError" "LookupError" := fun bm h => ⟨by rw [h]; decide +kernel, by rw [h]; decide +kernel, by rw [h]; decide +kernel, by rw [h]; decide +kernel⟩
abbrev fb_8 := F.excBase_LookupError
theorem ii_8 : IniF "LookupError" "LookupError.__init__" := iniF_of F.excBase_LookupError
theorem sf_8 : StoreFacts "LookupError" tl_8 "object.__setattr__" "object" := F.store_LookupError
abbrev i_9 : Stmt := inS 10
theorem si_9 : FnScope ["self", "limit"] ["self", "limit"] (defScope i_9) := ⟨rfl, rfl, rfl, by decide +kernel, rfl, by decide +kernel, by decide +kernel⟩
abbrev tl_9 : List Value := [.type "OverflowError", .type "ArithmeticError", .type "Exception", .type "BaseException", .type "object"]
theorem mh_9 : ∀ bm : List Value, (∀ Y : String, bm.contains (.type Y) = tl_9.contains (.type Y)) → MroHas bm tl_9 "OverflowError" "OverflowError" := fun bm h => ⟨by rw [h]; decide +kernel, by rw [h]; decide +kernel, by rw [h]; decide +kernel, by rw [h]; decide +kernel⟩
abbrev fb_9 := F.excBase_OverflowError
theorem ii_9 : IniF "OverflowError" "OverflowError.__init__" := iniF_of F.excBase_OverflowError
theorem sf_9 : StoreFacts "OverflowError" tl_9 "object.__setattr__" "object" := F.store_OverflowError
abbrev i_10 : Stmt := inS 11
theorem si_10 : FnScope ["self", "many"] ["self", "many"] (defScope i_10) := ⟨rfl, rfl, rfl, by decide +kernel, rfl, by decide +kernel, by decide +kernel⟩
abbrev tl_10 : List Value := [.type "IndexError", .type "LookupError", .type "Exception", .type "BaseException", .type "object"]
theorem mh_10 : ∀ bm : List Value, (∀ Y : String, bm.contains (.type Y) = tl_10.contains (.type Y)) → MroHas bm tl_10 "IndexError" "IndexError" := fun bm h => ⟨by rw [h]; decide +kernel, by rw [h]; decide +kernel, by rw [h]; decide +kernel, by rw [h]; decide +kernel⟩
abbrev fb_10 := F.excBase_IndexError
theorem ii_10 : IniF "IndexError" "IndexError.__init__" := iniF_of F.excBase_IndexError
theorem sf_10 : StoreFacts "IndexError" tl_10 "object.__setattr__" "object" := F.store_IndexError
abbrev i_11 : Stmt := inS 12
theorem si_11 : FnScope ["self", "reason"] ["self", "reason"] (defScope i_11) := ⟨rfl, rfl, rfl, by decide +kernel, rfl, by decide +kernel, by decide +kernel⟩
abbrev tl_11 : List Value := [.type "RuntimeError", .type "Exception", .type "BaseException", .type "object"]
theorem mh_11 : ∀ bm : List Value, (∀ Y : String, bm.contains (.type Y) = tl_11.contains (.type Y)) → MroHas bm tl_11 "RuntimeError" "RuntimeError" := fun bm h => ⟨by rw [h]; decide +kernel, by rw [h]; decide +kernel, by rw [h]; decide +kernel, by rw [h]; decide +kernel⟩
abbrev fb_11 := F.excBase_RuntimeError
theorem ii_11 : IniF "RuntimeError" "RuntimeError.__init__" := iniF_of F.excBase_RuntimeError
theorem sf_11 : StoreFacts "RuntimeError" tl_11 "object.__setattr__" "object" := F.store_RuntimeError
def exs : List (Str × Nat) := [("InvalidOrder", 1), ("InvalidLot", 2), ("InvalidLineup", 3), ("InvalidOperation", 4), ("ParseError", 5), ("UnknownPlace", 6), ("InvalidNumber", 7), ("Circle", 8), ("TooMany", 9), ("NothingToUndo", 10), ("Refused", 11)]
def tbl : Nat → List Bool
  | 1 => [true, false, false, false, false, true, true, false, false, false, false, false, false, false, false, false, false, false, false]
  | 2 => [false, true, false, false, false, true, true, false, false, false, false, false, false, false, false, false, false, false, false]
  | 3 => [false, false, true, false, false, true, true, false, false, false, false, false, false, false, false, false, false, false, false]
  | 4 => [false, false, false, true, false, true, true, false, false, false, false, false, false, false, false, false, false, false, false]
  | 5 => [false, false, false, false, true, true, true, false, false, false, false, false, false, false, false, false, false, false, false]
  | 6 => [false, false, false, false, false, false, false, true, false, false, false, false, false, true, false, true, false, false, false]
  | 7 => [false, false, false, false, false, false, false, false, true, false, false, false, false, false, true, false, false, false, false]
  | 8 => [false, false, false, false, false, false, false, false, false, true, false, false, false, false, false, true, false, false, false]
  | 9 => [false, false, false, false, false, false, false, false, false, false, true, false, false, false, true, false, true, false, false]
  | 10 => [false, false, false, false, false, false, false, false, false, false, false, true, false, false, false, true, false, true, false]
  | 11 => [false, false, false, false, false, false, false, false, false, false, false, false, true, false, false, false, false, false, true]
  | _ => []
def row (t : Nat) (nm : Str) : Option Bool := (exs.lookup nm).bind fun i => (tbl i)[t]?
def tv (ca : Nat → Addr) : Nat → Value
  | 0 => .ref (ca 1)
  | 1 => .ref (ca 2)
  | 2 => .ref (ca 3)
  | 3 => .ref (ca 4)
  | 4 => .ref (ca 5)
  | 5 => .ref (ca 0)
  | 6 => .type "ValueError"
  | 7 => .ref (ca 6)
  | 8 => .ref (ca 7)
  | 9 => .ref (ca 8)
  | 10 => .ref (ca 9)
  | 11 => .ref (ca 10)
  | 12 => .ref (ca 11)
  | 13 => .type "KeyError"
  | 14 => .type "ArithmeticError"
  | 15 => .type "LookupError"
  | 16 => .type "OverflowError"
  | 17 => .type "IndexError"
  | 18 => .type "RuntimeError"
  | _ => .none
def kits (K : PySem.W.Frag) (ca : Nat → Addr) : Bool := (List.range 11).all fun i => (List.range 19).all fun t => PySem.W.kitOne K (.ref (ca (i + 1))) (tv ca t) == (tbl (i + 1))[t]?
def xas (K : PySem.W.Frag) (ca : Nat → Addr) : Bool := (List.range 11).all fun i => xaB K (ca (i + 1))
abbrev s_0 : Stmt := topS 14
abbrev n_0 : List Str := ["_law_script", "_law_at", "_law_cell", "_law_great", "_law_left", "_law_mixed"]
theorem sc_0 : FnScope n_0 ["_law_script", "_law_at"] (defScope s_0) := ⟨rfl, rfl, rfl, by decide +kernel, rfl, by decide +kernel, by decide +kernel⟩
/-- _law_dice -/
def c_0 : C := (.seq (.asg (.nm 2) (.prim addP (.cons (.prim mulP (.cons (cD (.int 89)) (.cons (.loc 1) .nil))) (.cons (cD (.int 61)) .nil))))
    (.seq (.ite (.prim ltP (.cons (.loc 1) (.cons (.prim lenP (.cons (.loc 0) .nil)) .nil))) (.asg (.nm 2) (.prim idxP (.cons (.loc 0) (.cons (.loc 1) .nil)))) .skip)
    (.seq (.asg (.nm 3) (.prim modP (.cons (.prim intP (.cons (.prim absP (.cons (.loc 2) .nil)) .nil)) (.cons (.prim powP (.cons (.prim powP (.cons (cD (.int 10)) (.cons (cD (.int 60)) .nil))) (.cons (cD (.int 10)) .nil))) .nil))))
    (.seq (.asg (.nm 4) (.prim divP (.cons (.loc 3) (.cons (.prim powP (.cons (cD (.int 10)) (.cons (cD (.int 18)) .nil))) .nil))))
    (.seq (.asg (.nm 5) (.prim addP (.cons (.prim addP (.cons (.prim addP (.cons (.prim mulP (.cons (.prim modP (.cons (.loc 3) (.cons (cD (.int 2147482873)) .nil))) (.cons (cD (.int 60493)) .nil))) (.cons (.prim mulP (.cons (cD (.int 3491)) (.cons (.loc 1) .nil))) .nil))) (.cons (.prim mulP (.cons (cD (.int 67)) (.cons (.prim intP (.cons (.prim ltP (.cons (.loc 2) (.cons (cD (.int 0)) .nil))) .nil)) .nil))) .nil))) (.cons (cD (.int 97)) .nil))))
    (.ret (.prim newP (.cons (.loc 4) (.cons (.prim modP (.cons (.loc 5) (.cons (cD (.int 2147482867)) .nil))) (.cons (cD (.int 0)) .nil))))))))))
abbrev s_1 : Stmt := topS 15
abbrev n_1 : List Str := ["_law_dice_here", "_law_total", "_law_size", "_law_drawn", "_law_one", "_law_two"]
theorem sc_1 : FnScope n_1 ["_law_dice_here", "_law_total"] (defScope s_1) := ⟨rfl, rfl, rfl, by decide +kernel, rfl, by decide +kernel, by decide +kernel⟩
/-- _law_roll -/
def c_1 : C := (.seq (.asg (.nm 2) (.prim intP (.cons (.loc 1) .nil)))
    (.seq (.ite (.prim gtP (.cons (.prim idxP (.cons (.loc 0) (.cons (cD (.int 0)) .nil))) (.cons (cD (.int 0)) .nil))) (.seq (.asg (.nm 3) (.prim modP (.cons (.prim idxP (.cons (.loc 0) (.cons (cD (.int 0)) .nil))) (.cons (.loc 2) .nil))))
    (.seq (.eff setL (.cons (.prim divP (.cons (.prim idxP (.cons (.loc 0) (.cons (cD (.int 0)) .nil))) (.cons (.loc 2) .nil))) (.cons (.loc 0) (.cons (cD (.int 0)) .nil))))
    (.ret (.prim intP (.cons (.loc 3) .nil))))) .skip)
    (.seq (.eff setL (.cons (.prim addP (.cons (.prim idxP (.cons (.loc 0) (.cons (cD (.int 2)) .nil))) (.cons (cD (.int 1)) .nil))) (.cons (.loc 0) (.cons (cD (.int 2)) .nil))))
    (.seq (.asg (.nm 4) (.prim modP (.cons (.prim addP (.cons (.prim idxP (.cons (.loc 0) (.cons (cD (.int 1)) .nil))) (.cons (.prim mulP (.cons (cD (.int 1000303)) (.cons (.prim idxP (.cons (.loc 0) (.cons (cD (.int 2)) .nil))) .nil))) .nil))) (.cons (cD (.int 2305843009213693951)) .nil))))
    (.seq (.asg (.nm 5) (.prim addP (.cons (.prim mulP (.cons (.prim modP (.cons (.prim mulP (.cons (.loc 4) (.cons (.loc 4) .nil))) (.cons (cD (.int 2305843009213693921)) .nil))) (.cons (.loc 4) .nil))) (.cons (.prim mulP (.cons (cD (.int 9461)) (.cons (.prim idxP (.cons (.loc 0) (.cons (cD (.int 2)) .nil))) .nil))) .nil))))
    (.seq (.asg (.nm 5) (.prim modP (.cons (.loc 5) (.cons (cD (.int 2305843009213693907)) .nil))))
    (.ret (.prim intP (.cons (.prim modP (.cons (.prim divP (.cons (.loc 5) (.cons (cD (.int 4096)) .nil))) (.cons (.loc 2) .nil))) .nil)))))))))
abbrev s_2 : Stmt := topS 16
abbrev n_2 : List Str := ["_law_dice_here", "_law_items"]
theorem sc_2 : FnScope n_2 ["_law_dice_here", "_law_items"] (defScope s_2) := ⟨rfl, rfl, rfl, by decide +kernel, rfl, by decide +kernel, by decide +kernel⟩
/-- _law_one_of -/
def c_2 : C := (.ret (.prim idxP (.cons (.loc 1) (.cons (.call 1 (.cons (.loc 0) (.cons (.prim lenP (.cons (.loc 1) .nil)) .nil))) .nil))))
abbrev s_3 : Stmt := topS 17
abbrev n_3 : List Str := ["_law_error", "_law_told", "_law_one"]
theorem sc_3 : FnScope n_3 ["_law_error"] (defScope s_3) := ⟨rfl, rfl, rfl, by decide +kernel, rfl, by decide +kernel, by decide +kernel⟩
/-- _law_kinds -/
def c_3 : C := (.seq (.asg (.nm 1) (.prim lstP (.cons (.prim (isxP (row 0)) (.cons (.loc 0) .nil)) (.cons (.prim (isxP (row 1)) (.cons (.loc 0) .nil)) (.cons (.prim (isxP (row 2)) (.cons (.loc 0) .nil)) .nil)))))
    (.seq (.asg (.nm 1) (.prim addP (.cons (.loc 1) (.cons (.prim lstP (.cons (.prim (isxP (row 3)) (.cons (.loc 0) .nil)) (.cons (.prim (isxP (row 4)) (.cons (.loc 0) .nil)) (.cons (.prim (isxP (row 5)) (.cons (.loc 0) .nil)) .nil)))) .nil))))
    (.seq (.asg (.nm 1) (.prim addP (.cons (.loc 1) (.cons (.prim lstP (.cons (.prim (isxP (row 6)) (.cons (.loc 0) .nil)) (.cons (.prim (isxP (row 7)) (.cons (.loc 0) .nil)) (.cons (.prim (isxP (row 8)) (.cons (.loc 0) .nil)) .nil)))) .nil))))
    (.seq (.asg (.nm 1) (.prim addP (.cons (.loc 1) (.cons (.prim lstP (.cons (.prim (isxP (row 9)) (.cons (.loc 0) .nil)) (.cons (.prim (isxP (row 10)) (.cons (.loc 0) .nil)) (.cons (.prim (isxP (row 11)) (.cons (.loc 0) .nil)) .nil)))) .nil))))
    (.seq (.asg (.nm 1) (.prim addP (.cons (.loc 1) (.cons (.prim lstP (.cons (.prim (isxP (row 12)) (.cons (.loc 0) .nil)) (.cons (.prim (isxP (row 13)) (.cons (.loc 0) .nil)) (.cons (.prim (isxP (row 14)) (.cons (.loc 0) .nil)) .nil)))) .nil))))
    (.seq (.asg (.nm 1) (.prim catN (.cons (.loc 1) (.cons (.prim lstP (.cons (.prim (isxP (row 15)) (.cons (.loc 0) .nil)) (.cons (.prim (isxP (row 16)) (.cons (.loc 0) .nil)) (.cons (.prim (isxP (row 17)) (.cons (.loc 0) .nil)) .nil)))) .nil))))
    (.seq (.dex (.prim appP (.cons (.prim lisP (.cons (.loc 1) .nil)) (.cons (.prim (isxP (row 18)) (.cons (.loc 0) .nil)) .nil))))
    (.ret (.prim (joinP ("" : PySem.Str)) (.cons (.lc (.nm 2) (.itr itA (.cons (.prim frzF (.cons (.loc 1) .nil)) .nil)) (cD (.bool true)) (.ife (.prim truP (.cons (.loc 2) .nil)) (cD (.str ("x" : PySem.Str))) (cD (.str ("." : PySem.Str)))) [2]) .nil))))))))))
abbrev s_4 : Stmt := topS 18
abbrev n_4 : List Str := ["_law_dice_here", "_law_thing", "_law_base", "_law_due", "_law_none", "_law_others", "_law_kept", "_law_one"]
theorem sc_4 : FnScope n_4 ["_law_dice_here"] (defScope s_4) := ⟨rfl, rfl, rfl, by decide +kernel, rfl, by decide +kernel, by decide +kernel⟩
/-- _law_right -/
def c_4 : C := (.seq (.asg (.nm 1) (.call 2 (.cons (.loc 0) (.cons (.prim lstP (.cons (cD (.int 0)) (.cons (cD (.str ("" : PySem.Str))) (.cons (cD (.str ("a" : PySem.Str))) (.cons (cD .none) (.cons (.prim tupP .nil) (.cons (.prim tupP (.cons (cD (.str ("a" : PySem.Str))) (.cons (cD (.int 1)) .nil))) (.cons (.prim powP (.cons (cD (.int 10)) (.cons (cD (.int 30)) .nil))) (.cons (cD (.bool true)) (.cons (.prim lstP (.cons (cD (.int 1)) .nil)) (.cons (.prim (dc1P "a") .nil) (.cons (.prim negP (.cons (cD (.int 7)) .nil)) .nil)))))))))))) .nil))))
    (.seq (.asg (.nm 2) (.prim lstP (.cons (.prim (xb1P "InvalidOrder") (.cons (.loc 1) .nil)) (.cons (.prim (xb1P "InvalidLot") (.cons (.loc 1) .nil)) (.cons (.prim (xb1P "InvalidLineup") (.cons (.loc 1) .nil)) (.cons (.prim (xb1P "InvalidOperation") (.cons (.loc 1) .nil)) (.cons (.prim (xnP "ParseError" "line") (.cons (.loc 1) .nil)) .nil)))))))
    (.seq (.asg (.nm 3) (.prim lstP (.cons (cD (.str ("x....xx............" : PySem.Str))) (.cons (cD (.str (".x...xx............" : PySem.Str))) (.cons (cD (.str ("..x..xx............" : PySem.Str))) .nil)))))
    (.seq (.asg (.nm 3) (.prim addP (.cons (.loc 3) (.cons (.prim lstP (.cons (cD (.str ("...x.xx............" : PySem.Str))) .nil)) .nil))))
    (.seq (.ite (.prim neP (.cons (.lc (.nm 7) (.itr itA (.cons (.loc 2) .nil)) (cD (.bool true)) (.call 3 (.cons (.loc 7) .nil)) [7]) (.cons (.prim addP (.cons (.loc 3) (.cons (.prim lstP (.cons (cD (.str ("....xxx............" : PySem.Str))) .nil)) .nil))) .nil))) (.ret (cD (.bool false))) .skip)
    (.seq (.asg (.nm 4) (.prim lstP (.cons (.prim (xb0P "InvalidOrder") .nil) (.cons (.prim (xb0P "InvalidLot") .nil) (.cons (.prim (xb0P "InvalidLineup") .nil) (.cons (.prim (xb0P "InvalidOperation") .nil) .nil))))))
    (.seq (.ite (.prim neP (.cons (.lc (.nm 7) (.itr itA (.cons (.loc 4) .nil)) (cD (.bool true)) (.call 3 (.cons (.loc 7) .nil)) [7]) (.cons (.loc 3) .nil))) (.ret (cD (.bool false))) .skip)
    (.seq (.asg (.nm 5) (.prim newP (.cons (.prim (xnP "UnknownPlace" "place") (.cons (.loc 1) .nil)) (.cons (.prim (xnP "InvalidNumber" "value") (.cons (.loc 1) .nil)) (.cons (.prim (xnP "Circle" "circle") (.cons (.loc 1) .nil)) (.cons (.prim (xnP "TooMany" "limit") (.cons (.loc 1) .nil)) (.cons (.prim (xnP "NothingToUndo" "many") (.cons (.loc 1) .nil)) .nil)))))))
    (.seq (.dex (.prim appP (.cons (.prim lisP (.cons (.loc 5) .nil)) (.cons (.prim (xnP "Refused" "reason") (.cons (.loc 1) .nil)) .nil))))
    (.seq (.asg (.nm 3) (.prim lstP (.cons (cD (.str (".......x.....x.x..." : PySem.Str))) (.cons (cD (.str ("........x.....x...." : PySem.Str))) (.cons (cD (.str (".........x.....x..." : PySem.Str))) .nil)))))
    (.seq (.asg (.nm 3) (.prim addP (.cons (.loc 3) (.cons (.prim lstP (.cons (cD (.str ("..........x...x.x.." : PySem.Str))) (.cons (cD (.str ("...........x...x.x." : PySem.Str))) (.cons (cD (.str ("............x.....x" : PySem.Str))) .nil)))) .nil))))
    (.seq (.ite (.prim neP (.cons (.lc (.nm 7) (.itr itA (.cons (.prim frzF (.cons (.loc 5) .nil)) .nil)) (cD (.bool true)) (.call 3 (.cons (.loc 7) .nil)) [7]) (.cons (.loc 3) .nil))) (.ret (cD (.bool false))) .skip)
    (.seq (.asg (.nm 6) (.prim newP (.cons (.prim (fxP "ParseError" "line") (.cons (.prim idxP (.cons (.loc 2) (.cons (cD (.int 4)) .nil))) .nil)) (.cons (.prim (fxP "UnknownPlace" "place") (.cons (.prim idxP (.cons (.loc 5) (.cons (cD (.int 0)) .nil))) .nil)) (.cons (.prim (fxP "InvalidNumber" "value") (.cons (.prim idxP (.cons (.loc 5) (.cons (cD (.int 1)) .nil))) .nil)) (.cons (.prim (fxP "Circle" "circle") (.cons (.prim idxP (.cons (.loc 5) (.cons (cD (.int 2)) .nil))) .nil)) (.cons (.prim (fxP "TooMany" "limit") (.cons (.prim idxP (.cons (.loc 5) (.cons (cD (.int 3)) .nil))) .nil)) (.cons (.prim (fxP "NothingToUndo" "many") (.cons (.prim idxP (.cons (.loc 5) (.cons (cD (.int 4)) .nil))) .nil)) .nil))))))))
    (.seq (.dex (.prim appP (.cons (.prim lisP (.cons (.loc 6) .nil)) (.cons (.prim (fxP "Refused" "reason") (.cons (.prim idxP (.cons (.loc 5) (.cons (cD (.int 5)) .nil))) .nil)) .nil))))
    (.ret (.prim eqP (.cons (.prim repP (.cons (.loc 6) .nil)) (.cons (.prim repP (.cons (.prim mulP (.cons (.prim lstP (.cons (.loc 1) .nil)) (.cons (cD (.int 7)) .nil))) .nil)) .nil))))))))))))))))))
abbrev s_5 : Stmt := topS 19
abbrev n_5 : List Str := ["_law_script", "_law_spot", "_law_dice_here", "_law_turn"]
theorem sc_5 : FnScope n_5 ["_law_script"] (defScope s_5) := ⟨rfl, rfl, rfl, by decide +kernel, rfl, by decide +kernel, by decide +kernel⟩
/-- law -/
def c_5 : C := (.seq (.forr (.nm 1) (.itr itR1 (.cons (.prim maxP (.cons (cD (.int 1)) (.cons (.prim minP (.cons (cD (.int 8)) (.cons (.prim lenP (.cons (.loc 0) .nil)) .nil))) .nil))) .nil)) (.seq (.asg (.nm 2) (.call 0 (.cons (.loc 0) (.cons (.loc 1) .nil))))
    (.forr (.nm 3) (.itr itR1 (.cons (cD (.int 4)) .nil)) (.ite (.prim notP (.cons (.prim truP (.cons (.call 4 (.cons (.loc 2) .nil)) .nil)) .nil)) (.ret (cD (.bool false))) .skip))))
    (.ret (.prim eqP (.cons (.prim lstP (.cons (.prim (fxP "ParseError" "line") (.cons (.prim (xnP "ParseError" "line") (.cons (cD .none) .nil)) .nil)) (.cons (.prim (fxP "ParseError" "line") (.cons (.prim (xnP "ParseError" "line") (.cons (cD (.int 3)) .nil)) .nil)) (.cons (.prim (fxP "TooMany" "limit") (.cons (.prim (xnP "TooMany" "limit") (.cons (cD (.int 4000)) .nil)) .nil)) .nil)))) (.cons (.prim lstP (.cons (cD .none) (.cons (cD (.int 3)) (.cons (cD (.int 4000)) .nil)))) .nil)))))
def tab : Nat → Option Def
  | 0 => some ⟨6, 2, false, c_0⟩
  | 1 => some ⟨6, 2, false, c_1⟩
  | 2 => some ⟨2, 2, false, c_2⟩
  | 3 => some ⟨3, 1, false, c_3⟩
  | 4 => some ⟨8, 1, false, c_4⟩
  | 5 => some ⟨4, 1, false, c_5⟩
  | _ => none
structure Txt (K : PySem.W.Frag) (mg : Str → Option Value) (ad ca fi : Nat → Addr) : Prop where
  m__law_dice : mg "_law_dice" = some (.ref (ad 0))
  k__law_dice : PySem.W.keepIn K (.ref (ad 0)) = true
  m__law_roll : mg "_law_roll" = some (.ref (ad 1))
  k__law_roll : PySem.W.keepIn K (.ref (ad 1)) = true
  m__law_one_of : mg "_law_one_of" = some (.ref (ad 2))
  k__law_one_of : PySem.W.keepIn K (.ref (ad 2)) = true
  m__law_kinds : mg "_law_kinds" = some (.ref (ad 3))
  k__law_kinds : PySem.W.keepIn K (.ref (ad 3)) = true
  m__law_right : mg "_law_right" = some (.ref (ad 4))
  k__law_right : PySem.W.keepIn K (.ref (ad 4)) = true
  m_law : mg "law" = some (.ref (ad 5))
  k_law : PySem.W.keepIn K (.ref (ad 5)) = true
  b_ArithmeticError : mg "ArithmeticError" = none
  b_IndexError : mg "IndexError" = none
  b_KeyError : mg "KeyError" = none
  b_LookupError : mg "LookupError" = none
  b_OverflowError : mg "OverflowError" = none
  b_RuntimeError : mg "RuntimeError" = none
  b_ValueError : mg "ValueError" = none
  b_abs : mg "abs" = none
  b_int : mg "int" = none
  b_isinstance : mg "isinstance" = none
  b_len : mg "len" = none
  b_max : mg "max" = none
  b_min : mg "min" = none
  b_range : mg "range" = none
  b_repr : mg "repr" = none
  mg_0 : mg "OrderError" = some (.ref (ca 0))
  ns_0 : PySem.W.nsIn K mainGlobals "OrderError" = some (some (.ref (ca 0)))
  mg_1 : mg "InvalidOrder" = some (.ref (ca 1))
  ns_1 : PySem.W.nsIn K mainGlobals "InvalidOrder" = some (some (.ref (ca 1)))
  kp_1 : PySem.W.keepIn K (.ref (ca 1)) = true
  xb_1 : PySem.W.excIn K (ca 1) tl_5 "ValueError.__new__" = true
  xa_1 : XaK K (ca 1)
  mg_2 : mg "InvalidLot" = some (.ref (ca 2))
  ns_2 : PySem.W.nsIn K mainGlobals "InvalidLot" = some (some (.ref (ca 2)))
  kp_2 : PySem.W.keepIn K (.ref (ca 2)) = true
  xb_2 : PySem.W.excIn K (ca 2) tl_5 "ValueError.__new__" = true
  xa_2 : XaK K (ca 2)
  mg_3 : mg "InvalidLineup" = some (.ref (ca 3))
  ns_3 : PySem.W.nsIn K mainGlobals "InvalidLineup" = some (some (.ref (ca 3)))
  kp_3 : PySem.W.keepIn K (.ref (ca 3)) = true
  xb_3 : PySem.W.excIn K (ca 3) tl_5 "ValueError.__new__" = true
  xa_3 : XaK K (ca 3)
  mg_4 : mg "InvalidOperation" = some (.ref (ca 4))
  ns_4 : PySem.W.nsIn K mainGlobals "InvalidOperation" = some (some (.ref (ca 4)))
  kp_4 : PySem.W.keepIn K (.ref (ca 4)) = true
  xb_4 : PySem.W.excIn K (ca 4) tl_5 "ValueError.__new__" = true
  xa_4 : XaK K (ca 4)
  mg_5 : mg "ParseError" = some (.ref (ca 5))
  ns_5 : PySem.W.nsIn K mainGlobals "ParseError" = some (some (.ref (ca 5)))
  xc_5 : XcK K (ca 5) (fi 5) "line" tl_5 "ValueError.__new__"
  xa_5 : XaK K (ca 5)
  mg_6 : mg "UnknownPlace" = some (.ref (ca 6))
  ns_6 : PySem.W.nsIn K mainGlobals "UnknownPlace" = some (some (.ref (ca 6)))
  xc_6 : XcK K (ca 6) (fi 6) "place" tl_6 "LookupError.__new__"
  xa_6 : XaK K (ca 6)
  mg_7 : mg "InvalidNumber" = some (.ref (ca 7))
  ns_7 : PySem.W.nsIn K mainGlobals "InvalidNumber" = some (some (.ref (ca 7)))
  xc_7 : XcK K (ca 7) (fi 7) "value" tl_7 "ArithmeticError.__new__"
  xa_7 : XaK K (ca 7)
  mg_8 : mg "Circle" = some (.ref (ca 8))
  ns_8 : PySem.W.nsIn K mainGlobals "Circle" = some (some (.ref (ca 8)))
  xc_8 : XcK K (ca 8) (fi 8) "circle" tl_8 "LookupError.__new__"
  xa_8 : XaK K (ca 8)
  mg_9 : mg "TooMany" = some (.ref (ca 9))
  ns_9 : PySem.W.nsIn K mainGlobals "TooMany" = some (some (.ref (ca 9)))
  xc_9 : XcK K (ca 9) (fi 9) "limit" tl_9 "OverflowError.__new__"
  xa_9 : XaK K (ca 9)
  mg_10 : mg "NothingToUndo" = some (.ref (ca 10))
  ns_10 : PySem.W.nsIn K mainGlobals "NothingToUndo" = some (some (.ref (ca 10)))
  xc_10 : XcK K (ca 10) (fi 10) "many" tl_10 "IndexError.__new__"
  xa_10 : XaK K (ca 10)
  mg_11 : mg "Refused" = some (.ref (ca 11))
  ns_11 : PySem.W.nsIn K mainGlobals "Refused" = some (some (.ref (ca 11)))
  xc_11 : XcK K (ca 11) (fi 11) "reason" tl_11 "RuntimeError.__new__"
  xa_11 : XaK K (ca 11)
  osp : PySem.W.specialIn K (.ref (ca 0)) "__getattribute__" = some (some (.builtin "type.__getattribute__"))
  ord : PySem.W.readsIn K (ca 0) (.type "type") = true
  oin : PySem.W.findCls K (.ref (ca 0)) (.type "type") "__init__" = some (.val (.builtin "ValueError.__init__"))
  vi_6 : PySem.W.findCls K (.type "KeyError") (.type "type") "__init__" = some (.val (.builtin "KeyError.__init__"))
  vi_7 : PySem.W.findCls K (.type "ArithmeticError") (.type "type") "__init__" = some (.val (.builtin "ArithmeticError.__init__"))
  vi_8 : PySem.W.findCls K (.type "LookupError") (.type "type") "__init__" = some (.val (.builtin "LookupError.__init__"))
  vi_9 : PySem.W.findCls K (.type "OverflowError") (.type "type") "__init__" = some (.val (.builtin "OverflowError.__init__"))
  vi_10 : PySem.W.findCls K (.type "IndexError") (.type "type") "__init__" = some (.val (.builtin "IndexError.__init__"))
  vi_11 : PySem.W.findCls K (.type "RuntimeError") (.type "type") "__init__" = some (.val (.builtin "RuntimeError.__init__"))
  row : ∀ t nm b, row t nm = some b → ∃ C, PySem.W.nsIn K mainGlobals nm = some (some (.ref C)) ∧ XaK K C ∧ PySem.W.kitOne K (.ref C) (tv ca t) = some b
section
variable {P : Program} {w : World} {K : PySem.W.Frag} {mg : Str → Option Value} {base : Heap} {ad ca fi : Nat → Addr}
structure XIs (P : Program) (w : World) (K : PySem.W.Frag) (mg : Str → Option Value) (base : Heap) (ca fi : Nat → Addr) : Prop where
  f_5 : FnR P w K mg base CX0 1 (fi 5) (spI (ca 5) "line")
  f_6 : FnR P w K mg base CX0 1 (fi 6) (spI (ca 6) "place")
  f_7 : FnR P w K mg base CX0 1 (fi 7) (spI (ca 7) "value")
  f_8 : FnR P w K mg base CX0 1 (fi 8) (spI (ca 8) "circle")
  f_9 : FnR P w K mg base CX0 1 (fi 9) (spI (ca 9) "limit")
  f_10 : FnR P w K mg base CX0 1 (fi 10) (spI (ca 10) "many")
  f_11 : FnR P w K mg base CX0 1 (fi 11) (spI (ca 11) "reason")
theorem fi_5 (T : Txt K mg ad ca fi) {qual : Str} {fd : FuncData} (F : Fun K "__init__" qual i_5 (fi 5) fd) : FnR P w K mg base CX0 1 (fi 5) (spI (ca 5) "line") :=
  fn_ini (x1 := "self") (x2 := "line") F si_5 (F.binds (ps := ["self", "line"]) fun _ _ _ _ _ _ us hl => match us, hl with | [_, _], _ => rfl) rfl
    (fun cdv A outer s H E => ps_expr (ini_peO (O := ca 0) T.xc_5 ii_5 (fun bm h => (mh_5 bm h).hb) rfl T.mg_0 (by decide) T.osp T.ord T.oin rfl (pa_cons (pe_var (i := 0) rfl (by first | exact .inl rfl | exact .inr (.inl rfl))) (pa_cons pe_str pa_nil))))
    (fun cdv A outer s H E => sto_ps T.xc_5 sf_5 (pe_var (i := 0) rfl (by first | exact .inl rfl | exact .inr (.inl rfl))) (pe_var (i := 1) rfl (by first | exact .inl rfl | exact .inr (.inl rfl))))
theorem fi_6 (T : Txt K mg ad ca fi) {qual : Str} {fd : FuncData} (F : Fun K "__init__" qual i_6 (fi 6) fd) : FnR P w K mg base CX0 1 (fi 6) (spI (ca 6) "place") :=
  fn_ini (x1 := "self") (x2 := "place") F si_6 (F.binds (ps := ["self", "place"]) fun _ _ _ _ _ _ us hl => match us, hl with | [_, _], _ => rfl) rfl
    (fun cdv A outer s H E => ps_expr (ini_peB T.xc_6 ii_6 (fun bm h => (mh_6 bm h).hb) rfl T.b_KeyError (by decide +kernel) (by decide) (by decide) (by kernel_rfl) (by decide +kernel) T.vi_6 rfl (pa_cons (pe_var (i := 0) rfl (by first | exact .inl rfl | exact .inr (.inl rfl))) (pa_cons pe_str pa_nil))))
    (fun cdv A outer s H E => sto_ps T.xc_6 sf_6 (pe_var (i := 0) rfl (by first | exact .inl rfl | exact .inr (.inl rfl))) (pe_var (i := 1) rfl (by first | exact .inl rfl | exact .inr (.inl rfl))))
theorem fi_7 (T : Txt K mg ad ca fi) {qual : Str} {fd : FuncData} (F : Fun K "__init__" qual i_7 (fi 7) fd) : FnR P w K mg base CX0 1 (fi 7) (spI (ca 7) "value") :=
  fn_ini (x1 := "self") (x2 := "value") F si_7 (F.binds (ps := ["self", "value"]) fun _ _ _ _ _ _ us hl => match us, hl with | [_, _], _ => rfl) rfl
    (fun cdv A outer s H E => ps_expr (ini_peB T.xc_7 ii_7 (fun bm h => (mh_7 bm h).hb) rfl T.b_ArithmeticError (by decide +kernel) (by decide) (by decide) (by kernel_rfl) (by decide +kernel) T.vi_7 rfl (pa_cons (pe_var (i := 0) rfl (by first | exact .inl rfl | exact .inr (.inl rfl))) (pa_cons pe_str pa_nil))))
    (fun cdv A outer s H E => sto_ps T.xc_7 sf_7 (pe_var (i := 0) rfl (by first | exact .inl rfl | exact .inr (.inl rfl))) (pe_var (i := 1) rfl (by first | exact .inl rfl | exact .inr (.inl rfl))))
theorem fi_8 (T : Txt K mg ad ca fi) {qual : Str} {fd : FuncData} (F : Fun K "__init__" qual i_8 (fi 8) fd) : FnR P w K mg base CX0 1 (fi 8) (spI (ca 8) "circle") :=
  fn_ini (x1 := "self") (x2 := "circle") F si_8 (F.binds (ps := ["self", "circle"]) fun _ _ _ _ _ _ us hl => match us, hl with | [_, _], _ => rfl) rfl
    (fun cdv A outer s H E => ps_expr (ini_peB T.xc_8 ii_8 (fun bm h => (mh_8 bm h).hb) rfl T.b_LookupError (by decide +kernel) (by decide) (by decide) (by kernel_rfl) (by decide +kernel) T.vi_8 rfl (pa_cons (pe_var (i := 0) rfl (by first | exact .inl rfl | exact .inr (.inl rfl))) (pa_cons pe_str pa_nil))))
    (fun cdv A outer s H E => sto_ps T.xc_8 sf_8 (pe_var (i := 0) rfl (by first | exact .inl rfl | exact .inr (.inl rfl))) (pe_var (i := 1) rfl (by first | exact .inl rfl | exact .inr (.inl rfl))))
theorem fi_9 (T : Txt K mg ad ca fi) {qual : Str} {fd : FuncData} (F : Fun K "__init__" qual i_9 (fi 9) fd) : FnR P w K mg base CX0 1 (fi 9) (spI (ca 9) "limit") :=
  fn_ini (x1 := "self") (x2 := "limit") F si_9 (F.binds (ps := ["self", "limit"]) fun _ _ _ _ _ _ us hl => match us, hl with | [_, _], _ => rfl) rfl
    (fun cdv A outer s H E => ps_expr (ini_peB T.xc_9 ii_9 (fun bm h => (mh_9 bm h).hb) rfl T.b_OverflowError (by decide +kernel) (by decide) (by decide) (by kernel_rfl) (by decide +kernel) T.vi_9 rfl (pa_cons (pe_var (i := 0) rfl (by first | exact .inl rfl | exact .inr (.inl rfl))) (pa_cons pe_str pa_nil))))
    (fun cdv A outer s H E => sto_ps T.xc_9 sf_9 (pe_var (i := 0) rfl (by first | exact .inl rfl | exact .inr (.inl rfl))) (pe_var (i := 1) rfl (by first | exact .inl rfl | exact .inr (.inl rfl))))
theorem fi_10 (T : Txt K mg ad ca fi) {qual : Str} {fd : FuncData} (F : Fun K "__init__" qual i_10 (fi 10) fd) : FnR P w K mg base CX0 1 (fi 10) (spI (ca 10) "many") :=
  fn_ini (x1 := "self") (x2 := "many") F si_10 (F.binds (ps := ["self", "many"]) fun _ _ _ _ _ _ us hl => match us, hl with | [_, _], _ => rfl) rfl
    (fun cdv A outer s H E => ps_expr (ini_peB T.xc_10 ii_10 (fun bm h => (mh_10 bm h).hb) rfl T.b_IndexError (by decide +kernel) (by decide) (by decide) (by kernel_rfl) (by decide +kernel) T.vi_10 rfl (pa_cons (pe_var (i := 0) rfl (by first | exact .inl rfl | exact .inr (.inl rfl))) (pa_cons pe_str pa_nil))))
    (fun cdv A outer s H E => sto_ps T.xc_10 sf_10 (pe_var (i := 0) rfl (by first | exact .inl rfl | exact .inr (.inl rfl))) (pe_var (i := 1) rfl (by first | exact .inl rfl | exact .inr (.inl rfl))))
theorem fi_11 (T : Txt K mg ad ca fi) {qual : Str} {fd : FuncData} (F : Fun K "__init__" qual i_11 (fi 11) fd) : FnR P w K mg base CX0 1 (fi 11) (spI (ca 11) "reason") :=
  fn_ini (x1 := "self") (x2 := "reason") F si_11 (F.binds (ps := ["self", "reason"]) fun _ _ _ _ _ _ us hl => match us, hl with | [_, _], _ => rfl) rfl
    (fun cdv A outer s H E => ps_expr (ini_peB T.xc_11 ii_11 (fun bm h => (mh_11 bm h).hb) rfl T.b_RuntimeError (by decide +kernel) (by decide) (by decide) (by kernel_rfl) (by decide +kernel) T.vi_11 rfl (pa_cons (pe_var (i := 0) rfl (by first | exact .inl rfl | exact .inr (.inl rfl))) (pa_cons pe_str pa_nil))))
    (fun cdv A outer s H E => sto_ps T.xc_11 sf_11 (pe_var (i := 0) rfl (by first | exact .inl rfl | exact .inr (.inl rfl))) (pe_var (i := 1) rfl (by first | exact .inl rfl | exact .inr (.inl rfl))))
/-- _law_dice -/
theorem body_0 (T : Txt K mg ad ca fi) {k : Nat} (IH : ∀ j, j < 4 → FnR P w K mg base CX0 k (ad j) (spK K (callN tab k) j)) (f : Addr) (qual : Str) (cdv : Value) (A : Around) (outer : List Env) (s : Shared) (H : Hp) (E : XK) (hr : Room k (A.deeper (envOfC qual (defScope s_0) s.heap.objs.size f cdv))) :
    PSs (cxOf CX0 P w K mg base n_0 qual (defScope s_0) f cdv A outer s H E).nox (defBody s_0) (tS K (callN tab k) c_0) :=
    (Iv.s_seq (Iv.s_set (Iv.v_add (Iv.v_mul k_int (pe_loc 1)) k_int) sc_0.nd)
    (Iv.s_seq (Iv.s_if (Iv.t_lt (pe_loc 1) (Iv.v_cb call_len pn_len T.b_len (by decide +kernel) (pa_c (pe_loc 0) pa_n))) (Iv.s_one (Iv.s_set (Iv.v_idx (pe_loc 0) (pe_loc 1)) sc_0.nd)) s_nil)
    (Iv.s_seq (Iv.s_set (Iv.v_mod (Iv.v_ct call_int1 pn_int T.b_int (by decide +kernel) (pa_c (Iv.v_cb call_abs pn_b1 T.b_abs (by decide +kernel) (pa_c (pe_loc 2) pa_n)) pa_n)) (Iv.v_pow (Iv.v_pow k_int k_int) k_int)) sc_0.nd)
    (Iv.s_seq (Iv.s_set (Iv.v_div (pe_loc 3) (Iv.v_pow k_int k_int)) sc_0.nd)
    (Iv.s_seq (Iv.s_set (Iv.v_add (Iv.v_add (Iv.v_add (Iv.v_mul (Iv.v_mod (pe_loc 3) k_int) k_int) (Iv.v_mul k_int (pe_loc 1))) (Iv.v_mul k_int (Iv.v_ct call_int1 pn_int T.b_int (by decide +kernel) (pa_c (Iv.v_lt (pe_loc 2) k_int) pa_n)))) k_int) sc_0.nd)
    (Iv.s_one (Iv.s_ret (Iv.v_new (pa_c (pe_loc 4) (pa_c (Iv.v_mod (pe_loc 5) k_int) (pa_c k_int pa_n)))))))))))
/-- _law_roll -/
theorem body_1 (T : Txt K mg ad ca fi) {k : Nat} (IH : ∀ j, j < 4 → FnR P w K mg base CX0 k (ad j) (spK K (callN tab k) j)) (f : Addr) (qual : Str) (cdv : Value) (A : Around) (outer : List Env) (s : Shared) (H : Hp) (E : XK) (hr : Room k (A.deeper (envOfC qual (defScope s_1) s.heap.objs.size f cdv))) :
    PSs (cxOf CX0 P w K mg base n_1 qual (defScope s_1) f cdv A outer s H E).nox (defBody s_1) (tS K (callN tab k) c_1) :=
    (Iv.s_seq (Iv.s_set (Iv.v_ct call_int1 pn_int T.b_int (by decide +kernel) (pa_c (pe_loc 1) pa_n)) sc_1.nd)
    (Iv.s_seq (Iv.s_if (Iv.t_gt (Iv.v_idx (pe_loc 0) k_int) k_int) (Iv.s_seq (Iv.s_set (Iv.v_mod (Iv.v_idx (pe_loc 0) k_int) (pe_loc 2)) sc_1.nd)
    (Iv.s_seq (Iv.s_setix (Iv.v_div (Iv.v_idx (pe_loc 0) k_int) (pe_loc 2)) (pe_loc 0) k_int)
    (Iv.s_one (Iv.s_ret (Iv.v_ct call_int1 pn_int T.b_int (by decide +kernel) (pa_c (pe_loc 3) pa_n)))))) s_nil)
    (Iv.s_seq (Iv.s_setix (Iv.v_add (Iv.v_idx (pe_loc 0) k_int) k_int) (pe_loc 0) k_int)
    (Iv.s_seq (Iv.s_set (Iv.v_mod (Iv.v_add (Iv.v_idx (pe_loc 0) k_int) (Iv.v_mul k_int (Iv.v_idx (pe_loc 0) k_int))) k_int) sc_1.nd)
    (Iv.s_seq (Iv.s_set (Iv.v_add (Iv.v_mul (Iv.v_mod (Iv.v_mul (pe_loc 4) (pe_loc 4)) k_int) (pe_loc 4)) (Iv.v_mul k_int (Iv.v_idx (pe_loc 0) k_int))) sc_1.nd)
    (Iv.s_seq (Iv.s_set (Iv.v_mod (pe_loc 5) k_int) sc_1.nd)
    (Iv.s_one (Iv.s_ret (Iv.v_ct call_int1 pn_int T.b_int (by decide +kernel) (pa_c (Iv.v_mod (Iv.v_div (pe_loc 5) k_int) (pe_loc 2)) pa_n))))))))))
/-- _law_one_of -/
theorem body_2 (T : Txt K mg ad ca fi) {k : Nat} (IH : ∀ j, j < 4 → FnR P w K mg base CX0 k (ad j) (spK K (callN tab k) j)) (f : Addr) (qual : Str) (cdv : Value) (A : Around) (outer : List Env) (s : Shared) (H : Hp) (E : XK) (hr : Room k (A.deeper (envOfC qual (defScope s_2) s.heap.objs.size f cdv))) :
    PSs (cxOf CX0 P w K mg base n_2 qual (defScope s_2) f cdv A outer s H E).nox (defBody s_2) (tS K (callN tab k) c_2) :=
    (Iv.s_one (Iv.s_ret (Iv.v_idx (pe_loc 1) (own (IH 1 (by decide)) hr T.k__law_roll T.m__law_roll (pa_c (pe_loc 0) (pa_c (Iv.v_cb call_len pn_len T.b_len (by decide +kernel) (pa_c (pe_loc 1) pa_n)) pa_n))))))
/-- _law_kinds -/
theorem body_3 (T : Txt K mg ad ca fi) {k : Nat} (IH : ∀ j, j < 4 → FnR P w K mg base CX0 k (ad j) (spK K (callN tab k) j)) (f : Addr) (qual : Str) (cdv : Value) (A : Around) (outer : List Env) (s : Shared) (H : Hp) (E : XK) (hr : Room k (A.deeper (envOfC qual (defScope s_3) s.heap.objs.size f cdv))) :
    PSs (cxOf CX0 P w K mg base n_3 qual (defScope s_3) f cdv A outer s H E).nox (defBody s_3) (tS K (callN tab k) c_3) :=
    (Iv.s_seq (Iv.s_set (Iv.v_lst (pa_c (Iv.v_isx (T.row 0) (pe_glob (v := .ref (ca 1)) rfl T.mg_1 rfl) (fun _ z => z) T.b_isinstance (pe_loc 0)) (pa_c (Iv.v_isx (T.row 1) (pe_glob (v := .ref (ca 2)) rfl T.mg_2 rfl) (fun _ z => z) T.b_isinstance (pe_loc 0)) (pa_c (Iv.v_isx (T.row 2) (pe_glob (v := .ref (ca 3)) rfl T.mg_3 rfl) (fun _ z => z) T.b_isinstance (pe_loc 0)) pa_n)))) sc_3.nd)
    (Iv.s_seq (Iv.s_set (Iv.v_add (pe_loc 1) (Iv.v_lst (pa_c (Iv.v_isx (T.row 3) (pe_glob (v := .ref (ca 4)) rfl T.mg_4 rfl) (fun _ z => z) T.b_isinstance (pe_loc 0)) (pa_c (Iv.v_isx (T.row 4) (pe_glob (v := .ref (ca 5)) rfl T.mg_5 rfl) (fun _ z => z) T.b_isinstance (pe_loc 0)) (pa_c (Iv.v_isx (T.row 5) (pe_glob (v := .ref (ca 0)) rfl T.mg_0 rfl) (fun _ z => z) T.b_isinstance (pe_loc 0)) pa_n))))) sc_3.nd)
    (Iv.s_seq (Iv.s_set (Iv.v_add (pe_loc 1) (Iv.v_lst (pa_c (Iv.v_isx (T.row 6) (pe_bltn (v := .ty "ValueError") rfl T.b_ValueError (by decide +kernel) rfl) (fun _ z => z) T.b_isinstance (pe_loc 0)) (pa_c (Iv.v_isx (T.row 7) (pe_glob (v := .ref (ca 6)) rfl T.mg_6 rfl) (fun _ z => z) T.b_isinstance (pe_loc 0)) (pa_c (Iv.v_isx (T.row 8) (pe_glob (v := .ref (ca 7)) rfl T.mg_7 rfl) (fun _ z => z) T.b_isinstance (pe_loc 0)) pa_n))))) sc_3.nd)
    (Iv.s_seq (Iv.s_set (Iv.v_add (pe_loc 1) (Iv.v_lst (pa_c (Iv.v_isx (T.row 9) (pe_glob (v := .ref (ca 8)) rfl T.mg_8 rfl) (fun _ z => z) T.b_isinstance (pe_loc 0)) (pa_c (Iv.v_isx (T.row 10) (pe_glob (v := .ref (ca 9)) rfl T.mg_9 rfl) (fun _ z => z) T.b_isinstance (pe_loc 0)) (pa_c (Iv.v_isx (T.row 11) (pe_glob (v := .ref (ca 10)) rfl T.mg_10 rfl) (fun _ z => z) T.b_isinstance (pe_loc 0)) pa_n))))) sc_3.nd)
    (Iv.s_seq (Iv.s_set (Iv.v_add (pe_loc 1) (Iv.v_lst (pa_c (Iv.v_isx (T.row 12) (pe_glob (v := .ref (ca 11)) rfl T.mg_11 rfl) (fun _ z => z) T.b_isinstance (pe_loc 0)) (pa_c (Iv.v_isx (T.row 13) (pe_bltn (v := .ty "KeyError") rfl T.b_KeyError (by decide +kernel) rfl) (fun _ z => z) T.b_isinstance (pe_loc 0)) (pa_c (Iv.v_isx (T.row 14) (pe_bltn (v := .ty "ArithmeticError") rfl T.b_ArithmeticError (by decide +kernel) rfl) (fun _ z => z) T.b_isinstance (pe_loc 0)) pa_n))))) sc_3.nd)
    (Iv.s_seq (Iv.s_set (Iv.v_catN (pe_loc 1) (Iv.v_lst (pa_c (Iv.v_isx (T.row 15) (pe_bltn (v := .ty "LookupError") rfl T.b_LookupError (by decide +kernel) rfl) (fun _ z => z) T.b_isinstance (pe_loc 0)) (pa_c (Iv.v_isx (T.row 16) (pe_bltn (v := .ty "OverflowError") rfl T.b_OverflowError (by decide +kernel) rfl) (fun _ z => z) T.b_isinstance (pe_loc 0)) (pa_c (Iv.v_isx (T.row 17) (pe_bltn (v := .ty "IndexError") rfl T.b_IndexError (by decide +kernel) rfl) (fun _ z => z) T.b_isinstance (pe_loc 0)) pa_n))))) sc_3.nd)
    (Iv.s_seq (Iv.s_dex (Iv.v_app (pe_loc 1) (Iv.v_isx (T.row 18) (pe_bltn (v := .ty "RuntimeError") rfl T.b_RuntimeError (by decide +kernel) rfl) (fun _ z => z) T.b_isinstance (pe_loc 0))))
    (Iv.s_one (Iv.s_ret (Iv.v_join (Iv.v_lc [(("_law_one" : PySem.Str), 2)] (g_nm 2) rfl sc_3.nd (blkOk_by (N := n_3) (sc := defScope s_3) (by decide +kernel)) (by decide +kernel) (Iv.i_any (Iv.v_frzF (pe_loc 1))) (fun _ _ _ _ _ => (pg_name (i := 2) sc_3.nd rfl (by first | exact .inl rfl | exact .inr rfl))) (fun _ _ _ _ _ => p_nil) (fun _ _ _ _ _ => (vif (ttru (pe_loc 2)) k_str k_str)))))))))))))
/-- _law_right -/
theorem body_4 (T : Txt K mg ad ca fi) {k : Nat} (IH : ∀ j, j < 4 → FnR P w K mg base CX0 k (ad j) (spK K (callN tab k) j)) (f : Addr) (qual : Str) (cdv : Value) (A : Around) (outer : List Env) (s : Shared) (H : Hp) (E : XK) (XI : XIs P w K mg base ca fi) (hG : A.guards = some []) (h2 : 2 ≤ k) (hr : Room k (A.deeper (envOfC qual (defScope s_4) s.heap.objs.size f cdv))) :
    PSs (cxOf CX0 P w K mg base n_4 qual (defScope s_4) f cdv A outer s H E).nox (defBody s_4) (tS K (callN tab k) c_4) :=
    by
    have hgd : (A.deeper (envOfC qual (defScope s_4) s.heap.objs.size f cdv)).guards = some [] := hG
    exact (Iv.s_seq (Iv.s_set (own (IH 2 (by decide)) hr T.k__law_one_of T.m__law_one_of (pa_c (pe_loc 0) (pa_c (Iv.v_lst (pa_c k_int (pa_c k_str (pa_c k_str (pa_c k_non (pa_c (Iv.v_tup pa_n) (pa_c (Iv.v_tup (pa_c k_str (pa_c k_int pa_n))) (pa_c (Iv.v_pow k_int k_int) (pa_c k_bl (pa_c (Iv.v_lst (pa_c k_int pa_n)) (pa_c v_dc1 (pa_c (Iv.v_neg k_int) pa_n)))))))))))) pa_n))) sc_4.nd)
    (Iv.s_seq (Iv.s_set (Iv.v_lst (pa_c (Iv.v_xb1 F.excBase_ValueError T.xb_1 T.ns_1 T.mg_1 T.kp_1 (pe_loc 1)) (pa_c (Iv.v_xb1 F.excBase_ValueError T.xb_2 T.ns_2 T.mg_2 T.kp_2 (pe_loc 1)) (pa_c (Iv.v_xb1 F.excBase_ValueError T.xb_3 T.ns_3 T.mg_3 T.kp_3 (pe_loc 1)) (pa_c (Iv.v_xb1 F.excBase_ValueError T.xb_4 T.ns_4 T.mg_4 T.kp_4 (pe_loc 1)) (pa_c (Iv.v_xn T.xc_5 fb_5 mh_5 (XI.f_5) (hr.mono h2) T.ns_5 T.mg_5 (pe_loc 1)) pa_n)))))) sc_4.nd)
    (Iv.s_seq (Iv.s_set (Iv.v_lst (pa_c k_str (pa_c k_str (pa_c k_str pa_n)))) sc_4.nd)
    (Iv.s_seq (Iv.s_set (Iv.v_add (pe_loc 3) (Iv.v_lst (pa_c k_str pa_n))) sc_4.nd)
    (Iv.s_seq (Iv.s_if (Iv.t_ne (hu64 hr) (Iv.v_lc [(("_law_one" : PySem.Str), 7)] (g_nm 7) rfl sc_4.nd (blkOk_by (N := n_4) (sc := defScope s_4) (by decide +kernel)) (by decide +kernel) (Iv.i_any (pe_loc 2)) (fun _ _ _ _ _ => (pg_name (i := 7) sc_4.nd rfl (by first | exact .inl rfl | exact .inr rfl))) (fun _ _ _ _ _ => p_nil) (fun _ _ _ _ _ => (own (IH 3 (by decide)) hr T.k__law_kinds T.m__law_kinds (pa_c (pe_loc 7) pa_n)))) (Iv.v_add (pe_loc 3) (Iv.v_lst (pa_c k_str pa_n)))) (Iv.s_one (Iv.s_ret k_bl)) s_nil)
    (Iv.s_seq (Iv.s_set (Iv.v_lst (pa_c (Iv.v_xb0 F.excBase_ValueError T.xb_1 T.ns_1 T.mg_1 T.kp_1) (pa_c (Iv.v_xb0 F.excBase_ValueError T.xb_2 T.ns_2 T.mg_2 T.kp_2) (pa_c (Iv.v_xb0 F.excBase_ValueError T.xb_3 T.ns_3 T.mg_3 T.kp_3) (pa_c (Iv.v_xb0 F.excBase_ValueError T.xb_4 T.ns_4 T.mg_4 T.kp_4) pa_n))))) sc_4.nd)
    (Iv.s_seq (Iv.s_if (Iv.t_ne (hu64 hr) (Iv.v_lc [(("_law_one" : PySem.Str), 7)] (g_nm 7) rfl sc_4.nd (blkOk_by (N := n_4) (sc := defScope s_4) (by decide +kernel)) (by decide +kernel) (Iv.i_any (pe_loc 4)) (fun _ _ _ _ _ => (pg_name (i := 7) sc_4.nd rfl (by first | exact .inl rfl | exact .inr rfl))) (fun _ _ _ _ _ => p_nil) (fun _ _ _ _ _ => (own (IH 3 (by decide)) hr T.k__law_kinds T.m__law_kinds (pa_c (pe_loc 7) pa_n)))) (pe_loc 3)) (Iv.s_one (Iv.s_ret k_bl)) s_nil)
    (Iv.s_seq (Iv.s_set (Iv.v_new (pa_c (Iv.v_xn T.xc_6 fb_6 mh_6 (XI.f_6) (hr.mono h2) T.ns_6 T.mg_6 (pe_loc 1)) (pa_c (Iv.v_xn T.xc_7 fb_7 mh_7 (XI.f_7) (hr.mono h2) T.ns_7 T.mg_7 (pe_loc 1)) (pa_c (Iv.v_xn T.xc_8 fb_8 mh_8 (XI.f_8) (hr.mono h2) T.ns_8 T.mg_8 (pe_loc 1)) (pa_c (Iv.v_xn T.xc_9 fb_9 mh_9 (XI.f_9) (hr.mono h2) T.ns_9 T.mg_9 (pe_loc 1)) (pa_c (Iv.v_xn T.xc_10 fb_10 mh_10 (XI.f_10) (hr.mono h2) T.ns_10 T.mg_10 (pe_loc 1)) pa_n)))))) sc_4.nd)
    (Iv.s_seq (Iv.s_dex (Iv.v_app (pe_loc 5) (Iv.v_xn T.xc_11 fb_11 mh_11 (XI.f_11) (hr.mono h2) T.ns_11 T.mg_11 (pe_loc 1))))
    (Iv.s_seq (Iv.s_set (Iv.v_lst (pa_c k_str (pa_c k_str (pa_c k_str pa_n)))) sc_4.nd)
    (Iv.s_seq (Iv.s_set (Iv.v_add (pe_loc 3) (Iv.v_lst (pa_c k_str (pa_c k_str (pa_c k_str pa_n))))) sc_4.nd)
    (Iv.s_seq (Iv.s_if (Iv.t_ne (hu64 hr) (Iv.v_lc [(("_law_one" : PySem.Str), 7)] (g_nm 7) rfl sc_4.nd (blkOk_by (N := n_4) (sc := defScope s_4) (by decide +kernel)) (by decide +kernel) (Iv.i_any (Iv.v_frzF (pe_loc 5))) (fun _ _ _ _ _ => (pg_name (i := 7) sc_4.nd rfl (by first | exact .inl rfl | exact .inr rfl))) (fun _ _ _ _ _ => p_nil) (fun _ _ _ _ _ => (own (IH 3 (by decide)) hr T.k__law_kinds T.m__law_kinds (pa_c (pe_loc 7) pa_n)))) (pe_loc 3)) (Iv.s_one (Iv.s_ret k_bl)) s_nil)
    (Iv.s_seq (Iv.s_set (Iv.v_new (pa_c (Iv.v_fx (T.ns_5) (T.xa_5).rd (T.xc_5).no (Iv.v_idx (pe_loc 2) k_int)) (pa_c (Iv.v_fx (T.ns_6) (T.xa_6).rd (T.xc_6).no (Iv.v_idx (pe_loc 5) k_int)) (pa_c (Iv.v_fx (T.ns_7) (T.xa_7).rd (T.xc_7).no (Iv.v_idx (pe_loc 5) k_int)) (pa_c (Iv.v_fx (T.ns_8) (T.xa_8).rd (T.xc_8).no (Iv.v_idx (pe_loc 5) k_int)) (pa_c (Iv.v_fx (T.ns_9) (T.xa_9).rd (T.xc_9).no (Iv.v_idx (pe_loc 5) k_int)) (pa_c (Iv.v_fx (T.ns_10) (T.xa_10).rd (T.xc_10).no (Iv.v_idx (pe_loc 5) k_int)) pa_n))))))) sc_4.nd)
    (Iv.s_seq (Iv.s_dex (Iv.v_app (pe_loc 6) (Iv.v_fx (T.ns_11) (T.xa_11).rd (T.xc_11).no (Iv.v_idx (pe_loc 5) k_int))))
    (Iv.s_one (Iv.s_ret (Iv.v_eq (hu64 hr) (Iv.v_rep hgd (hu64 hr) T.b_repr (pe_loc 6)) (Iv.v_rep hgd (hu64 hr) T.b_repr (Iv.v_mul (Iv.v_lst (pa_c (pe_loc 1) pa_n)) k_int)))))))))))))))))))
/-- law -/
theorem body_5 (T : Txt K mg ad ca fi) {k : Nat} (IH : ∀ j, j < 4 → FnR P w K mg base CX0 k (ad j) (spK K (callN tab k) j)) (f : Addr) (qual : Str) (cdv : Value) (A : Around) (outer : List Env) (s : Shared) (H : Hp) (E : XK) (XI : XIs P w K mg base ca fi) (hG : A.guards = some []) (h2 : 2 ≤ k) (IG : FnG P w K mg base k (ad 4) (spK K (callN tab k) 4)) (hr : Room k (A.deeper (envOfC qual (defScope s_5) s.heap.objs.size f cdv))) :
    PSs (cxOf CX0 P w K mg base n_5 qual (defScope s_5) f cdv A outer s H E).nox (defBody s_5) (tS K (callN tab k) c_5) :=
    by
    have hgd : (A.deeper (envOfC qual (defScope s_5) s.heap.objs.size f cdv)).guards = some [] := hG
    exact (Iv.s_seq (Iv.s_for (g_nm 1) PassesOwn.never rfl (Iv.i_r1 T.b_range (pa_c (Iv.v_cb (call_max2 rfl) pn_b2 T.b_max (by decide +kernel) (pa_c k_int (pa_c (Iv.v_cb (call_min2 rfl) pn_b2 T.b_min (by decide +kernel) (pa_c k_int (pa_c (Iv.v_cb call_len pn_len T.b_len (by decide +kernel) (pa_c (pe_loc 0) pa_n)) pa_n))) pa_n))) pa_n)) (pg_name (i := 1) sc_5.nd rfl (by first | exact .inl rfl | exact .inr rfl)) (Iv.s_seq (Iv.s_set (own (IH 0 (by decide)) hr T.k__law_dice T.m__law_dice (pa_c (pe_loc 0) (pa_c (pe_loc 1) pa_n))) sc_5.nd)
    (Iv.s_one (Iv.s_for (g_nm 3) PassesOwn.never rfl (Iv.i_r1 T.b_range (pa_c k_int pa_n)) (pg_name (i := 3) sc_5.nd rfl (by first | exact .inl rfl | exact .inr rfl)) (Iv.s_one (Iv.s_if (tnot (ttru (own_g IG hgd hr T.k__law_right T.m__law_right (pa_c (pe_loc 2) pa_n)))) (Iv.s_one (Iv.s_ret k_bl)) s_nil))))))
    (Iv.s_one (Iv.s_ret (Iv.v_eq (hu64 hr) (Iv.v_lst (pa_c (Iv.v_fx (T.ns_5) (T.xa_5).rd (T.xc_5).no (Iv.v_xn T.xc_5 fb_5 mh_5 (XI.f_5) (hr.mono h2) T.ns_5 T.mg_5 k_non)) (pa_c (Iv.v_fx (T.ns_5) (T.xa_5).rd (T.xc_5).no (Iv.v_xn T.xc_5 fb_5 mh_5 (XI.f_5) (hr.mono h2) T.ns_5 T.mg_5 k_int)) (pa_c (Iv.v_fx (T.ns_9) (T.xa_9).rd (T.xc_9).no (Iv.v_xn T.xc_9 fb_9 mh_9 (XI.f_9) (hr.mono h2) T.ns_9 T.mg_9 k_int)) pa_n)))) (Iv.v_lst (pa_c k_non (pa_c k_int (pa_c k_int pa_n))))))))
end
end K00

set_option Elab.async false
set_option linter.all false
set_option maxRecDepth 100000
set_option maxHeartbeats 4000000
namespace K00
open PySem L2 Iv
open PySem.Spec PyProof.Rows
open Evl (Ex ex_l ex_t)
section
variable {P : Program} {w : World} {K : PySem.W.Frag} {mg : Str → Option Value} {base : Heap} {ad ca fi : Nat → Addr} {fd gd : Nat → FuncData}
structure Fs (K : PySem.W.Frag) (ad fi : Nat → Addr) (fd gd : Nat → FuncData) : Prop where
  f_0 : Fun K "_law_dice" "_law_dice" s_0 (ad 0) (fd 0)
  f_1 : Fun K "_law_roll" "_law_roll" s_1 (ad 1) (fd 1)
  f_2 : Fun K "_law_one_of" "_law_one_of" s_2 (ad 2) (fd 2)
  f_3 : Fun K "_law_kinds" "_law_kinds" s_3 (ad 3) (fd 3)
  f_4 : Fun K "_law_right" "_law_right" s_4 (ad 4) (fd 4)
  f_5 : Fun K "law" "law" s_5 (ad 5) (fd 5)
  g_5 : Fun K "__init__" "ParseError.__init__" i_5 (fi 5) (gd 5)
  g_6 : Fun K "__init__" "UnknownPlace.__init__" i_6 (fi 6) (gd 6)
  g_7 : Fun K "__init__" "InvalidNumber.__init__" i_7 (fi 7) (gd 7)
  g_8 : Fun K "__init__" "Circle.__init__" i_8 (fi 8) (gd 8)
  g_9 : Fun K "__init__" "TooMany.__init__" i_9 (fi 9) (gd 9)
  g_10 : Fun K "__init__" "NothingToUndo.__init__" i_10 (fi 10) (gd 10)
  g_11 : Fun K "__init__" "Refused.__init__" i_11 (fi 11) (gd 11)
theorem xis_ok (T : Txt K mg ad ca fi) (F : Fs K ad fi fd gd) : XIs P w K mg base ca fi := ⟨fi_5 T F.g_5, fi_6 T F.g_6, fi_7 T F.g_7, fi_8 T F.g_8, fi_9 T F.g_9, fi_10 T F.g_10, fi_11 T F.g_11⟩
theorem all_ok (T : Txt K mg ad ca fi) (F : Fs K ad fi fd gd) : ∀ k j, j < 4 → FnR P w K mg base CX0 k (ad j) (spK K (callN tab k) j)
  | 0, _, _ => fn_zero
  | k + 1, j, hj => by
    have IH := all_ok T F k
    match j, hj with
    | 0, _ => exact fn_def F.f_0 sc_0 (F.f_0.binds (ps := ["_law_script", "_law_at"]) fun _ _ _ _ _ _ us hl => match us, hl with | [_, _], _ => rfl) rfl rfl rfl rfl (fun cdv A outer s H E hr => body_0 T IH _ _ cdv A outer s H E hr)
    | 1, _ => exact fn_def F.f_1 sc_1 (F.f_1.binds (ps := ["_law_dice_here", "_law_total"]) fun _ _ _ _ _ _ us hl => match us, hl with | [_, _], _ => rfl) rfl rfl rfl rfl (fun cdv A outer s H E hr => body_1 T IH _ _ cdv A outer s H E hr)
    | 2, _ => exact fn_def F.f_2 sc_2 (F.f_2.binds (ps := ["_law_dice_here", "_law_items"]) fun _ _ _ _ _ _ us hl => match us, hl with | [_, _], _ => rfl) rfl rfl rfl rfl (fun cdv A outer s H E hr => body_2 T IH _ _ cdv A outer s H E hr)
    | 3, _ => exact fn_def F.f_3 sc_3 (F.f_3.binds (ps := ["_law_error"]) fun _ _ _ _ _ _ us hl => match us, hl with | [_], _ => rfl) rfl rfl rfl rfl (fun cdv A outer s H E hr => body_3 T IH _ _ cdv A outer s H E hr)
theorem right_ok (T : Txt K mg ad ca fi) (F : Fs K ad fi fd gd) (k : Nat) (h2 : 2 ≤ k) : FnG P w K mg base (k + 1) (ad 4) (spK K (callN tab (k + 1)) 4) :=
  fn_g F.f_4 sc_4 (F.f_4.binds (ps := ["_law_dice_here"]) fun _ _ _ _ _ _ us hl => match us, hl with | [_], _ => rfl) rfl rfl rfl rfl fun cdv A outer s H E hG hr => (body_4 T (all_ok T F k) _ _ cdv A outer s H E (xis_ok T F) hG h2 hr).nox
theorem law_ok (T : Txt K mg ad ca fi) (F : Fs K ad fi fd gd) (k : Nat) (h2 : 2 ≤ k) : FnG P w K mg base (k + 2) (ad 5) (spK K (callN tab (k + 2)) 5) :=
  fn_g F.f_5 sc_5 (F.f_5.binds (ps := ["_law_script"]) fun _ _ _ _ _ _ us hl => match us, hl with | [_], _ => rfl) rfl rfl rfl rfl fun cdv A outer s H E hG hr => (body_5 T (all_ok T F (k + 1)) _ _ cdv A outer s H E (xis_ok T F) hG (by omega) (right_ok T F k h2) hr).nox
theorem sp_imp {call : CallT} {j : Nat} (M : ∀ ns : List Int, ns.length ≤ 63 → ∃ S1, call j [rf 0] [.fro (ns.map .int)] = some (.bool true, S1)) : ∀ vs H Q E, spLaw K vs H Q E → spK K call j vs H Q E := fun vs H Q E h => by
  obtain ⟨a, ns, rfl, hS, hl, q⟩ := h
  obtain ⟨S1, hc⟩ := M ns hl
  let F : Hp := fun b => if b = a then H b else none
  have hF : F a = H a := by show (if a = a then H a else none) = H a; rw [if_pos rfl]
  have ex : Ex F H := fun b o e => by
    have e' : (if b = a then H b else none) = some o := e
    split at e'
    · exact e'
    · cases e'
  have hS2 : SqL K F a (ns.map V.int) := by
    rcases hS with (h | ⟨o, h⟩) | h
    · exact .inl (.inl (hF.trans h))
    · exact .inl (.inr ⟨o, hF.trans h⟩)
    · exact .inr h
  refine ⟨⟨F, [a], [.fro (ns.map .int)], fun _ => none⟩, [rf 0], .bool true, S1, ⟨ex, rfl, fun b o e => (nomatch e), fun b o e => (nomatch e), fun i ds e => ?_, fun i ds e => ?_, fun i j' d1 d2 b e1 _ _ _ => ?_, fun b o e => (nomatch e)⟩, .cons (.ref rfl) .nil, hc, fun W' v H' l s ok d => by cases d; exact q H'⟩
  · match i, e with
    | 0, e => cases e
    | n + 1, e => cases e
  · match i, e with
    | 0, e => cases e; exact ⟨a, _, rfl, hS2, ints_den ns⟩
    | n + 1, e => cases e
  · match i, e1 with
    | 0, e => cases e
    | n + 1, e => cases e
theorem row_ok (a0 : ∀ i, 1 ≤ i → i ≤ 11 → XaK K (ca i)) (n0 : ∀ nm i, exs.lookup nm = some i → PySem.W.nsIn K mainGlobals nm = some (some (.ref (ca i))) ∧ 1 ≤ i ∧ i ≤ 11) (kt : kits K ca = true) :
    ∀ t nm b, row t nm = some b → ∃ C, PySem.W.nsIn K mainGlobals nm = some (some (.ref C)) ∧ XaK K C ∧ PySem.W.kitOne K (.ref C) (tv ca t) = some b := fun t nm b h => by
  unfold row at h
  obtain ⟨i, h1, h2⟩ := bind_some h
  obtain ⟨g1, g2, g3⟩ := n0 nm i h1
  refine ⟨ca i, g1, a0 i g2 g3, ?_⟩
  obtain ⟨j, rfl⟩ : ∃ j, i = j + 1 := ⟨i - 1, by omega⟩
  have lt : t < 19 := by
    have hl := (List.getElem?_eq_some_iff.mp h2).1
    have : (tbl (j + 1)).length = 19 := by
      match j, g3 with
      | 0, _ => rfl | 1, _ => rfl | 2, _ => rfl | 3, _ => rfl | 4, _ => rfl | 5, _ => rfl | 6, _ => rfl | 7, _ => rfl | 8, _ => rfl | 9, _ => rfl | 10, _ => rfl
      | n + 11, h => omega
    omega
  unfold kits at kt
  rw [List.all_eq_true] at kt
  have k1 := kt j (List.mem_range.mpr (by omega))
  rw [List.all_eq_true] at k1
  have k2 := k1 t (List.mem_range.mpr lt)
  rw [beq_iff_eq] at k2
  rw [k2]
  exact h2
end
theorem all_mk {l : PySem.W.OpenLaw} {w : World} {K : PySem.W.Frag} {h : Heap} {mg : Str → Option Value} {fa f0 f1 f2 f3 f4 f5 c0 c1 c2 c3 c4 c5 c6 c7 c8 c9 c10 c11 g5 g6 g7 g8 g9 g10 g11 : Addr} (X : K.In h) (G : h.Ns mainGlobals mg) (hfa : mg "law" = some (.ref fa))
    {od0 an0 : Option Addr} {sl0 : Array (Option Value)} {oc0 kV0 dc0 pm0 cd0 ct0 : Value}
    {od1 an1 : Option Addr} {sl1 : Array (Option Value)} {oc1 kV1 dc1 pm1 cd1 ct1 : Value}
    {od2 an2 : Option Addr} {sl2 : Array (Option Value)} {oc2 kV2 dc2 pm2 cd2 ct2 : Value}
    {od3 an3 : Option Addr} {sl3 : Array (Option Value)} {oc3 kV3 dc3 pm3 cd3 ct3 : Value}
    {od4 an4 : Option Addr} {sl4 : Array (Option Value)} {oc4 kV4 dc4 pm4 cd4 ct4 : Value}
    {od5 an5 : Option Addr} {sl5 : Array (Option Value)} {oc5 kV5 dc5 pm5 cd5 ct5 : Value}
    {xod5 xan5 : Option Addr} {xsl5 : Array (Option Value)} {xoc5 xkV5 xdc5 xpm5 xcd5 xct5 : Value}
    {xod6 xan6 : Option Addr} {xsl6 : Array (Option Value)} {xoc6 xkV6 xdc6 xpm6 xcd6 xct6 : Value}
    {xod7 xan7 : Option Addr} {xsl7 : Array (Option Value)} {xoc7 xkV7 xdc7 xpm7 xcd7 xct7 : Value}
    {xod8 xan8 : Option Addr} {xsl8 : Array (Option Value)} {xoc8 xkV8 xdc8 xpm8 xcd8 xct8 : Value}
    {xod9 xan9 : Option Addr} {xsl9 : Array (Option Value)} {xoc9 xkV9 xdc9 xpm9 xcd9 xct9 : Value}
    {xod10 xan10 : Option Addr} {xsl10 : Array (Option Value)} {xoc10 xkV10 xdc10 xpm10 xcd10 xct10 : Value}
    {xod11 xan11 : Option Addr} {xsl11 : Array (Option Value)} {xoc11 xkV11 xdc11 xpm11 xcd11 xct11 : Value}
    (a0 : PySem.W.nsIn K mainGlobals "_law_dice" = some (some (.ref f0))) (l0 : K.lookup f0 = some ⟨oc0, od0, .func (PySem.W.fnOf "_law_dice" "_law_dice" (defArgs s_0) (defBody s_0) (defScope s_0) .none kV0 dc0 pm0 an0 cd0 ct0), sl0⟩) (k0 : PySem.W.codeIn K cd0 "_law_dice" = true) (q0 : PySem.W.keepIn K (.ref f0) = true)
    (a1 : PySem.W.nsIn K mainGlobals "_law_roll" = some (some (.ref f1))) (l1 : K.lookup f1 = some ⟨oc1, od1, .func (PySem.W.fnOf "_law_roll" "_law_roll" (defArgs s_1) (defBody s_1) (defScope s_1) .none kV1 dc1 pm1 an1 cd1 ct1), sl1⟩) (k1 : PySem.W.codeIn K cd1 "_law_roll" = true) (q1 : PySem.W.keepIn K (.ref f1) = true)
    (a2 : PySem.W.nsIn K mainGlobals "_law_one_of" = some (some (.ref f2))) (l2 : K.lookup f2 = some ⟨oc2, od2, .func (PySem.W.fnOf "_law_one_of" "_law_one_of" (defArgs s_2) (defBody s_2) (defScope s_2) .none kV2 dc2 pm2 an2 cd2 ct2), sl2⟩) (k2 : PySem.W.codeIn K cd2 "_law_one_of" = true) (q2 : PySem.W.keepIn K (.ref f2) = true)
    (a3 : PySem.W.nsIn K mainGlobals "_law_kinds" = some (some (.ref f3))) (l3 : K.lookup f3 = some ⟨oc3, od3, .func (PySem.W.fnOf "_law_kinds" "_law_kinds" (defArgs s_3) (defBody s_3) (defScope s_3) .none kV3 dc3 pm3 an3 cd3 ct3), sl3⟩) (k3 : PySem.W.codeIn K cd3 "_law_kinds" = true) (q3 : PySem.W.keepIn K (.ref f3) = true)
    (a4 : PySem.W.nsIn K mainGlobals "_law_right" = some (some (.ref f4))) (l4 : K.lookup f4 = some ⟨oc4, od4, .func (PySem.W.fnOf "_law_right" "_law_right" (defArgs s_4) (defBody s_4) (defScope s_4) .none kV4 dc4 pm4 an4 cd4 ct4), sl4⟩) (k4 : PySem.W.codeIn K cd4 "_law_right" = true) (q4 : PySem.W.keepIn K (.ref f4) = true)
    (a5 : PySem.W.nsIn K mainGlobals "law" = some (some (.ref f5))) (l5 : K.lookup f5 = some ⟨oc5, od5, .func (PySem.W.fnOf "law" "law" (defArgs s_5) (defBody s_5) (defScope s_5) .none kV5 dc5 pm5 an5 cd5 ct5), sl5⟩) (k5 : PySem.W.codeIn K cd5 "law" = true) (q5 : PySem.W.keepIn K (.ref f5) = true)
    (n0 : PySem.W.nsIn K mainGlobals "OrderError" = some (some (.ref c0)))
    (n1 : PySem.W.nsIn K mainGlobals "InvalidOrder" = some (some (.ref c1)))
    (n2 : PySem.W.nsIn K mainGlobals "InvalidLot" = some (some (.ref c2)))
    (n3 : PySem.W.nsIn K mainGlobals "InvalidLineup" = some (some (.ref c3)))
    (n4 : PySem.W.nsIn K mainGlobals "InvalidOperation" = some (some (.ref c4)))
    (n5 : PySem.W.nsIn K mainGlobals "ParseError" = some (some (.ref c5)))
    (n6 : PySem.W.nsIn K mainGlobals "UnknownPlace" = some (some (.ref c6)))
    (n7 : PySem.W.nsIn K mainGlobals "InvalidNumber" = some (some (.ref c7)))
    (n8 : PySem.W.nsIn K mainGlobals "Circle" = some (some (.ref c8)))
    (n9 : PySem.W.nsIn K mainGlobals "TooMany" = some (some (.ref c9)))
    (n10 : PySem.W.nsIn K mainGlobals "NothingToUndo" = some (some (.ref c10)))
    (n11 : PySem.W.nsIn K mainGlobals "Refused" = some (some (.ref c11)))
    (p1 : PySem.W.keepIn K (.ref c1) = true) (b1 : PySem.W.excIn K c1 tl_5 "ValueError.__new__" = true)
    (p2 : PySem.W.keepIn K (.ref c2) = true) (b2 : PySem.W.excIn K c2 tl_5 "ValueError.__new__" = true)
    (p3 : PySem.W.keepIn K (.ref c3) = true) (b3 : PySem.W.excIn K c3 tl_5 "ValueError.__new__" = true)
    (p4 : PySem.W.keepIn K (.ref c4) = true) (b4 : PySem.W.excIn K c4 tl_5 "ValueError.__new__" = true)
    (xi5 : PySem.W.findIn K (.ref c5) "__init__" = some (some (.ref g5))) (xl5 : K.lookup g5 = some ⟨xoc5, xod5, .func (PySem.W.fnOf "__init__" "ParseError.__init__" (defArgs i_5) (defBody i_5) (defScope i_5) .none xkV5 xdc5 xpm5 xan5 xcd5 xct5), xsl5⟩) (xk5 : PySem.W.codeIn K xcd5 "ParseError.__init__" = true) (xq5 : PySem.W.keepIn K (.ref g5) = true) (xc5 : xcB K c5 g5 "line" tl_5 "ValueError.__new__" = true)
    (xi6 : PySem.W.findIn K (.ref c6) "__init__" = some (some (.ref g6))) (xl6 : K.lookup g6 = some ⟨xoc6, xod6, .func (PySem.W.fnOf "__init__" "UnknownPlace.__init__" (defArgs i_6) (defBody i_6) (defScope i_6) .none xkV6 xdc6 xpm6 xan6 xcd6 xct6), xsl6⟩) (xk6 : PySem.W.codeIn K xcd6 "UnknownPlace.__init__" = true) (xq6 : PySem.W.keepIn K (.ref g6) = true) (xc6 : xcB K c6 g6 "place" tl_6 "LookupError.__new__" = true)
    (xi7 : PySem.W.findIn K (.ref c7) "__init__" = some (some (.ref g7))) (xl7 : K.lookup g7 = some ⟨xoc7, xod7, .func (PySem.W.fnOf "__init__" "InvalidNumber.__init__" (defArgs i_7) (defBody i_7) (defScope i_7) .none xkV7 xdc7 xpm7 xan7 xcd7 xct7), xsl7⟩) (xk7 : PySem.W.codeIn K xcd7 "InvalidNumber.__init__" = true) (xq7 : PySem.W.keepIn K (.ref g7) = true) (xc7 : xcB K c7 g7 "value" tl_7 "ArithmeticError.__new__" = true)
    (xi8 : PySem.W.findIn K (.ref c8) "__init__" = some (some (.ref g8))) (xl8 : K.lookup g8 = some ⟨xoc8, xod8, .func (PySem.W.fnOf "__init__" "Circle.__init__" (defArgs i_8) (defBody i_8) (defScope i_8) .none xkV8 xdc8 xpm8 xan8 xcd8 xct8), xsl8⟩) (xk8 : PySem.W.codeIn K xcd8 "Circle.__init__" = true) (xq8 : PySem.W.keepIn K (.ref g8) = true) (xc8 : xcB K c8 g8 "circle" tl_8 "LookupError.__new__" = true)
    (xi9 : PySem.W.findIn K (.ref c9) "__init__" = some (some (.ref g9))) (xl9 : K.lookup g9 = some ⟨xoc9, xod9, .func (PySem.W.fnOf "__init__" "TooMany.__init__" (defArgs i_9) (defBody i_9) (defScope i_9) .none xkV9 xdc9 xpm9 xan9 xcd9 xct9), xsl9⟩) (xk9 : PySem.W.codeIn K xcd9 "TooMany.__init__" = true) (xq9 : PySem.W.keepIn K (.ref g9) = true) (xc9 : xcB K c9 g9 "limit" tl_9 "OverflowError.__new__" = true)
    (xi10 : PySem.W.findIn K (.ref c10) "__init__" = some (some (.ref g10))) (xl10 : K.lookup g10 = some ⟨xoc10, xod10, .func (PySem.W.fnOf "__init__" "NothingToUndo.__init__" (defArgs i_10) (defBody i_10) (defScope i_10) .none xkV10 xdc10 xpm10 xan10 xcd10 xct10), xsl10⟩) (xk10 : PySem.W.codeIn K xcd10 "NothingToUndo.__init__" = true) (xq10 : PySem.W.keepIn K (.ref g10) = true) (xc10 : xcB K c10 g10 "many" tl_10 "IndexError.__new__" = true)
    (xi11 : PySem.W.findIn K (.ref c11) "__init__" = some (some (.ref g11))) (xl11 : K.lookup g11 = some ⟨xoc11, xod11, .func (PySem.W.fnOf "__init__" "Refused.__init__" (defArgs i_11) (defBody i_11) (defScope i_11) .none xkV11 xdc11 xpm11 xan11 xcd11 xct11), xsl11⟩) (xk11 : PySem.W.codeIn K xcd11 "Refused.__init__" = true) (xq11 : PySem.W.keepIn K (.ref g11) = true) (xc11 : xcB K c11 g11 "reason" tl_11 "RuntimeError.__new__" = true)
    (xa : xas K (fun i => [c0, c1, c2, c3, c4, c5, c6, c7, c8, c9, c10, c11].getD i 0) = true) (kt : kits K (fun i => [c0, c1, c2, c3, c4, c5, c6, c7, c8, c9, c10, c11].getD i 0) = true)
    (osp : PySem.W.specialIn K (.ref c0) "__getattribute__" = some (some (.builtin "type.__getattribute__"))) (ord : PySem.W.readsIn K c0 (.type "type") = true) (oin : PySem.W.findCls K (.ref c0) (.type "type") "__init__" = some (.val (.builtin "ValueError.__init__")))
    (vi6 : PySem.W.findCls K (.type "KeyError") (.type "type") "__init__" = some (.val (.builtin "KeyError.__init__")))
    (vi7 : PySem.W.findCls K (.type "ArithmeticError") (.type "type") "__init__" = some (.val (.builtin "ArithmeticError.__init__")))
    (vi8 : PySem.W.findCls K (.type "LookupError") (.type "type") "__init__" = some (.val (.builtin "LookupError.__init__")))
    (vi9 : PySem.W.findCls K (.type "OverflowError") (.type "type") "__init__" = some (.val (.builtin "OverflowError.__init__")))
    (vi10 : PySem.W.findCls K (.type "IndexError") (.type "type") "__init__" = some (.val (.builtin "IndexError.__init__")))
    (vi11 : PySem.W.findCls K (.type "RuntimeError") (.type "type") "__init__" = some (.val (.builtin "RuntimeError.__init__")))
    (z_ArithmeticError : PySem.W.nsIn K mainGlobals "ArithmeticError" = some none)
    (z_IndexError : PySem.W.nsIn K mainGlobals "IndexError" = some none)
    (z_KeyError : PySem.W.nsIn K mainGlobals "KeyError" = some none)
    (z_LookupError : PySem.W.nsIn K mainGlobals "LookupError" = some none)
    (z_OverflowError : PySem.W.nsIn K mainGlobals "OverflowError" = some none)
    (z_RuntimeError : PySem.W.nsIn K mainGlobals "RuntimeError" = some none)
    (z_ValueError : PySem.W.nsIn K mainGlobals "ValueError" = some none)
    (z_abs : PySem.W.nsIn K mainGlobals "abs" = some none)
    (z_int : PySem.W.nsIn K mainGlobals "int" = some none)
    (z_isinstance : PySem.W.nsIn K mainGlobals "isinstance" = some none)
    (z_len : PySem.W.nsIn K mainGlobals "len" = some none)
    (z_max : PySem.W.nsIn K mainGlobals "max" = some none)
    (z_min : PySem.W.nsIn K mainGlobals "min" = some none)
    (z_range : PySem.W.nsIn K mainGlobals "range" = some none)
    (z_repr : PySem.W.nsIn K mainGlobals "repr" = some none)
    (M : ∀ ns : List Int, ns.length ≤ 63 → ∃ S1, callN tab 8 5 [rf 0] [.fro (ns.map .int)] = some (.bool true, S1)) :
    ∀ base : Heap, K.In base → base.Ns mainGlobals mg → FnG l.prog w K mg base 8 fa (spLaw K) := by
  have e := hfa.symm.trans (PySem.W.mg_of X G a5)
  have e2 : fa = f5 := Value.ref.inj (Option.some.inj e)
  rw [e2]
  let ad : Nat → Addr := fun j => [f0, f1, f2, f3, f4, f5].getD j 0
  let ca : Nat → Addr := (fun i => [c0, c1, c2, c3, c4, c5, c6, c7, c8, c9, c10, c11].getD i 0)
  let fi : Nat → Addr := fun i => [0, 0, 0, 0, 0, g5, g6, g7, g8, g9, g10, g11].getD i 0
  have F0 := fun_mk (st := s_0) l0 k0 q0
  have F1 := fun_mk (st := s_1) l1 k1 q1
  have F2 := fun_mk (st := s_2) l2 k2 q2
  have F3 := fun_mk (st := s_3) l3 k3 q3
  have F4 := fun_mk (st := s_4) l4 k4 q4
  have F5 := fun_mk (st := s_5) l5 k5 q5
  have G5 := fun_mk (st := i_5) xl5 xk5 xq5
  have G6 := fun_mk (st := i_6) xl6 xk6 xq6
  have G7 := fun_mk (st := i_7) xl7 xk7 xq7
  have G8 := fun_mk (st := i_8) xl8 xk8 xq8
  have G9 := fun_mk (st := i_9) xl9 xk9 xq9
  have G10 := fun_mk (st := i_10) xl10 xk10 xq10
  have G11 := fun_mk (st := i_11) xl11 xk11 xq11
  let fd : Nat → FuncData := fun j => match j with
    | 0 => PySem.W.fnOf "_law_dice" "_law_dice" (defArgs s_0) (defBody s_0) (defScope s_0) .none kV0 dc0 pm0 an0 cd0 ct0
    | 1 => PySem.W.fnOf "_law_roll" "_law_roll" (defArgs s_1) (defBody s_1) (defScope s_1) .none kV1 dc1 pm1 an1 cd1 ct1
    | 2 => PySem.W.fnOf "_law_one_of" "_law_one_of" (defArgs s_2) (defBody s_2) (defScope s_2) .none kV2 dc2 pm2 an2 cd2 ct2
    | 3 => PySem.W.fnOf "_law_kinds" "_law_kinds" (defArgs s_3) (defBody s_3) (defScope s_3) .none kV3 dc3 pm3 an3 cd3 ct3
    | 4 => PySem.W.fnOf "_law_right" "_law_right" (defArgs s_4) (defBody s_4) (defScope s_4) .none kV4 dc4 pm4 an4 cd4 ct4
    | 5 => PySem.W.fnOf "law" "law" (defArgs s_5) (defBody s_5) (defScope s_5) .none kV5 dc5 pm5 an5 cd5 ct5
    | _ => PySem.W.fnOf "law" "law" (defArgs s_5) (defBody s_5) (defScope s_5) .none kV5 dc5 pm5 an5 cd5 ct5
  let gd : Nat → FuncData := fun j => match j with
    | 5 => PySem.W.fnOf "__init__" "ParseError.__init__" (defArgs i_5) (defBody i_5) (defScope i_5) .none xkV5 xdc5 xpm5 xan5 xcd5 xct5
    | 6 => PySem.W.fnOf "__init__" "UnknownPlace.__init__" (defArgs i_6) (defBody i_6) (defScope i_6) .none xkV6 xdc6 xpm6 xan6 xcd6 xct6
    | 7 => PySem.W.fnOf "__init__" "InvalidNumber.__init__" (defArgs i_7) (defBody i_7) (defScope i_7) .none xkV7 xdc7 xpm7 xan7 xcd7 xct7
    | 8 => PySem.W.fnOf "__init__" "Circle.__init__" (defArgs i_8) (defBody i_8) (defScope i_8) .none xkV8 xdc8 xpm8 xan8 xcd8 xct8
    | 9 => PySem.W.fnOf "__init__" "TooMany.__init__" (defArgs i_9) (defBody i_9) (defScope i_9) .none xkV9 xdc9 xpm9 xan9 xcd9 xct9
    | 10 => PySem.W.fnOf "__init__" "NothingToUndo.__init__" (defArgs i_10) (defBody i_10) (defScope i_10) .none xkV10 xdc10 xpm10 xan10 xcd10 xct10
    | 11 => PySem.W.fnOf "__init__" "Refused.__init__" (defArgs i_11) (defBody i_11) (defScope i_11) .none xkV11 xdc11 xpm11 xan11 xcd11 xct11
    | _ => PySem.W.fnOf "law" "law" (defArgs s_5) (defBody s_5) (defScope s_5) .none kV5 dc5 pm5 an5 cd5 ct5
  have F : Fs K ad fi fd gd := ⟨F0, F1, F2, F3, F4, F5, G5, G6, G7, G8, G9, G10, G11⟩
  have aa : ∀ i, 1 ≤ i → i ≤ 11 → XaK K (ca i) := fun i h1 h2 => by
    unfold xas at xa
    rw [List.all_eq_true] at xa
    have z := xaB_ok (xa (i - 1) (List.mem_range.mpr (by omega)))
    rw [show i - 1 + 1 = i by omega] at z
    exact z
  have nn : ∀ nm i, exs.lookup nm = some i → PySem.W.nsIn K mainGlobals nm = some (some (.ref (ca i))) ∧ 1 ≤ i ∧ i ≤ 11 := fun nm i h => by
    unfold exs at h
    simp only [List.lookup] at h
    repeat' split at h
    · rename_i hb; obtain rfl := eq_of_beq hb; cases h; exact ⟨n1, by decide, by decide⟩
    · rename_i hb; obtain rfl := eq_of_beq hb; cases h; exact ⟨n2, by decide, by decide⟩
    · rename_i hb; obtain rfl := eq_of_beq hb; cases h; exact ⟨n3, by decide, by decide⟩
    · rename_i hb; obtain rfl := eq_of_beq hb; cases h; exact ⟨n4, by decide, by decide⟩
    · rename_i hb; obtain rfl := eq_of_beq hb; cases h; exact ⟨n5, by decide, by decide⟩
    · rename_i hb; obtain rfl := eq_of_beq hb; cases h; exact ⟨n6, by decide, by decide⟩
    · rename_i hb; obtain rfl := eq_of_beq hb; cases h; exact ⟨n7, by decide, by decide⟩
    · rename_i hb; obtain rfl := eq_of_beq hb; cases h; exact ⟨n8, by decide, by decide⟩
    · rename_i hb; obtain rfl := eq_of_beq hb; cases h; exact ⟨n9, by decide, by decide⟩
    · rename_i hb; obtain rfl := eq_of_beq hb; cases h; exact ⟨n10, by decide, by decide⟩
    · rename_i hb; obtain rfl := eq_of_beq hb; cases h; exact ⟨n11, by decide, by decide⟩
    · cases h
  have T : Txt K mg ad ca fi := ⟨PySem.W.mg_of X G a0, q0, PySem.W.mg_of X G a1, q1, PySem.W.mg_of X G a2, q2, PySem.W.mg_of X G a3, q3, PySem.W.mg_of X G a4, q4, PySem.W.mg_of X G a5, q5, PySem.W.mg_none_of X G z_ArithmeticError, PySem.W.mg_none_of X G z_IndexError, PySem.W.mg_none_of X G z_KeyError, PySem.W.mg_none_of X G z_LookupError, PySem.W.mg_none_of X G z_OverflowError, PySem.W.mg_none_of X G z_RuntimeError, PySem.W.mg_none_of X G z_ValueError, PySem.W.mg_none_of X G z_abs, PySem.W.mg_none_of X G z_int, PySem.W.mg_none_of X G z_isinstance, PySem.W.mg_none_of X G z_len, PySem.W.mg_none_of X G z_max, PySem.W.mg_none_of X G z_min, PySem.W.mg_none_of X G z_range, PySem.W.mg_none_of X G z_repr, PySem.W.mg_of X G n0, n0, PySem.W.mg_of X G n1, n1, p1, b1, aa 1 (by decide) (by decide), PySem.W.mg_of X G n2, n2, p2, b2, aa 2 (by decide) (by decide), PySem.W.mg_of X G n3, n3, p3, b3, aa 3 (by decide) (by decide), PySem.W.mg_of X G n4, n4, p4, b4, aa 4 (by decide) (by decide), PySem.W.mg_of X G n5, n5, xcB_ok xc5, aa 5 (by decide) (by decide), PySem.W.mg_of X G n6, n6, xcB_ok xc6, aa 6 (by decide) (by decide), PySem.W.mg_of X G n7, n7, xcB_ok xc7, aa 7 (by decide) (by decide), PySem.W.mg_of X G n8, n8, xcB_ok xc8, aa 8 (by decide) (by decide), PySem.W.mg_of X G n9, n9, xcB_ok xc9, aa 9 (by decide) (by decide), PySem.W.mg_of X G n10, n10, xcB_ok xc10, aa 10 (by decide) (by decide), PySem.W.mg_of X G n11, n11, xcB_ok xc11, aa 11 (by decide) (by decide), osp, ord, oin, vi6, vi7, vi8, vi9, vi10, vi11, row_ok aa nn kt⟩
  intro base _ _ A outer s H us vs Q E hg hr e0 r hs
  exact law_ok T F 6 (by decide) A outer s H us vs Q E hg hr e0 r (sp_imp M vs H Q E hs)
end K00

set_option Elab.async false
set_option linter.all false
set_option maxRecDepth 100000
set_option maxHeartbeats 4000000
namespace K00
open Iv PySem
local macro_rules | `(tactic| walk_at "iv") => `(tactic| simp only [WE_nil, WE_cons, WE_loc, WE_prim, WE_itr, WE_call, WE_and, WE_or, WE_ife, WE_lc, WE_chn, WL_nil, WL_cons, WS_skip, WS_brk, WS_cnt, WS_retn, WS_abort, WS_seq, WS_asg, WS_par, WS_eff, WS_dex, WS_ite, WS_ret, WS_for, WS_whl, WF_nil, WF_cons, QN_nx, QN_brk, QN_cnt, QN_ret, QL_nx, QL_cnt, QL_brk, QL_ret, QR_ret, QR_nx, O1_one, OB_one, OE_some, OT_nm, OT_tp, wE_cD,
  w_add, w_addS, w_addL, w_addT, w_sub, w_mul, w_div, w_mod, w_pow, w_neg, w_not, w_eqI, w_neI, w_eqS, w_eqB, w_ltI, w_leI, w_gtI, w_geI, w_leS, w_isB, w_isN, w_tup, w_lst, w_new, w_abs, w_max, w_min, w_gcd, w_int, w_intB, w_truB, w_truL, w_truT, w_lenL, w_lenT, w_lenS, w_itAL, w_itAT, w_itAS, w_itR1, w_itR2, w_listR2, w_listL, w_listT, w_listS, w_mulL, w_dct0,
  startE, setAll, wipeE, List.map_cons, List.map_nil, List.length_cons, List.length_nil, List.reduceReplicate, List.nil_append, List.cons_append, List.getElem?_cons_zero, List.getElem?_cons_succ, List.set_cons_zero, List.set_cons_succ, Nat.reduceAdd, Nat.reduceSub, Nat.reduceLeDiff, true_and, and_true, Bool.not_true, Bool.not_false, Bool.true_eq_false, Bool.false_eq_true, false_implies, true_implies, forall_const, Int.cast_ofNat_Int, decide_true, decide_false, Int.reduceLT, Int.reduceLE, Int.reduceEq, Int.reduceAdd, Int.reduceNeg, Int.reduceMul, decide_eq_true_eq, decide_eq_false_iff_not])

/-- the store has only grown -/
def Pre (S S1 : List SO) : Prop := ∃ t, S1 = S ++ t
theorem Pre.refl (S : List SO) : Pre S S := ⟨[], by simp⟩
theorem Pre.push (S : List SO) (o : SO) : Pre S (S ++ [o]) := ⟨[o], rfl⟩
theorem Pre.trans {A B C : List SO} (a : Pre A B) (b : Pre B C) : Pre A C := by
  obtain ⟨t, rfl⟩ := a
  obtain ⟨u, rfl⟩ := b
  exact ⟨t ++ u, by rw [List.append_assoc]⟩
theorem Pre.get {S S1 : List SO} (h : Pre S S1) {i : Nat} {o : SO} (e : S[i]? = some o) : S1[i]? = some o := by
  obtain ⟨t, rfl⟩ := h
  rw [List.getElem?_append_left (List.getElem?_eq_some_iff.mp e).1, e]
theorem Pre.len {S S1 : List SO} (h : Pre S S1) : S.length ≤ S1.length := by
  obtain ⟨t, rfl⟩ := h
  simp
theorem set_last {S : List SO} {o o' : SO} : (S ++ [o]).set S.length o' = S ++ [o'] := by
  rw [List.set_append_right _ _ (Nat.le_refl _), Nat.sub_self]; rfl
theorem get_last {S : List SO} {o : SO} : (S ++ [o])[S.length]? = some o := List.getElem?_concat_length
def mk (b : Bool) : D := .str (if b = true then "x" else ".")
theorem marks {call : CallT} {Q : List D → List SO → Prop} {x y : Option D} : ∀ {bs : List Bool} {S : List SO} {z : Option D}, Q (bs.map mk) S → WL (ev call (cD (.bool true))) (ev call (.ife (.prim truP (.cons (.loc 2) .nil)) (cD (.str ("x" : PySem.Str))) (cD (.str ("." : PySem.Str))))) (.nm 2) [x, y, z] (bs.map .bool) S Q := by
  intro bs
  induction bs generalizing Q with
  | nil => intro S z h; exact WL_nil.mpr h
  | cons b bs ih =>
    intro S z h
    refine WL_cons.mpr (OT_nm.mpr (wE_cD.mpr (OB_one.mpr ⟨fun _ => ?_, fun z => nomatch z⟩)))
    have go : WL (ev call (cD (.bool true))) (ev call (.ife (.prim truP (.cons (.loc 2) .nil)) (cD (.str ("x" : PySem.Str))) (cD (.str ("." : PySem.Str))))) (.nm 2) [x, y, z] (bs.map .bool) S (fun ys S3 => Q (mk b :: ys) S3) := ih h
    show WE call _ [x, y, some (.bool b)] S _
    refine WE_ife.mpr ?_
    walk_at "iv"
    constructor
    · intro hb
      subst hb
      exact go
    · intro hb
      subst hb
      exact go
theorem kinds_ok {k : Nat} {S : List SO} {nm : Str} {kvs : List (D × D)} {txt : Str} {b0 b1 b2 b3 b4 b5 b6 b7 b8 b9 b10 b11 b12 b13 b14 b15 b16 b17 b18 : Bool}
    (h0 : row 0 nm = some b0) (h1 : row 1 nm = some b1) (h2 : row 2 nm = some b2) (h3 : row 3 nm = some b3) (h4 : row 4 nm = some b4) (h5 : row 5 nm = some b5) (h6 : row 6 nm = some b6) (h7 : row 7 nm = some b7) (h8 : row 8 nm = some b8) (h9 : row 9 nm = some b9)
    (h10 : row 10 nm = some b10) (h11 : row 11 nm = some b11) (h12 : row 12 nm = some b12) (h13 : row 13 nm = some b13) (h14 : row 14 nm = some b14) (h15 : row 15 nm = some b15) (h16 : row 16 nm = some b16) (h17 : row 17 nm = some b17) (h18 : row 18 nm = some b18)
    (ht : ∀ S : List SO, joinP ("" : PySem.Str) [.list (([b0, b1, b2, b3, b4, b5, b6, b7, b8, b9, b10, b11, b12, b13, b14, b15, b16, b17, b18] : List Bool).map mk)] S = some (.str txt, S)) :
    WC (callN tab (k + 1)) 3 [.dict ((.bool true, .str nm) :: kvs)] S fun d S1 => d = .str txt ∧ Pre S S1 := by
  refine wc_def (n := 3) (ar := 1) (c := c_3) rfl rfl ?_
  unfold c_3
  walk_at "iv"
  simp only [w_isx h0, w_isx h1, w_isx h2, w_isx h3, w_isx h4, w_isx h5, w_isx h6, w_isx h7, w_isx h8, w_isx h9, w_isx h10, w_isx h11, w_isx h12, w_isx h13, w_isx h14, w_isx h15, w_isx h16, w_isx h17, w_isx h18]
  refine w_catN.mpr ⟨by simp, ?_⟩
  refine (w_lisR get_last).mpr ((w_app get_last).mpr ⟨by simp, ?_⟩)
  rw [set_last]
  refine (w_frzF get_last).mpr ?_
  rw [set_last]
  refine (w_itAF get_last).mpr ⟨by simp, marks (bs := [b0, b1, b2, b3, b4, b5, b6, b7, b8, b9, b10, b11, b12, b13, b14, b15, b16, b17, b18]) ?_⟩
  exact (WP_of (ht _)).mpr ⟨rfl, Pre.push _ _⟩
/-- what an error's kinds are told as -/
def IsKind (k : Nat) (d : D) (txt : Str) : Prop := ∀ S : List SO, WC (callN tab (k + 1)) 3 [d] S fun r S1 => r = .str txt ∧ Pre S S1
theorem kd_1 {k : Nat} {r : List (D × D)} : IsKind k (.dict ((.bool true, .str "InvalidOrder") :: r)) "x....xx............" := fun S => kinds_ok rfl rfl rfl rfl rfl rfl rfl rfl rfl rfl rfl rfl rfl rfl rfl rfl rfl rfl rfl (fun S => rfl)
theorem kd_2 {k : Nat} {r : List (D × D)} : IsKind k (.dict ((.bool true, .str "InvalidLot") :: r)) ".x...xx............" := fun S => kinds_ok rfl rfl rfl rfl rfl rfl rfl rfl rfl rfl rfl rfl rfl rfl rfl rfl rfl rfl rfl (fun S => rfl)
theorem kd_3 {k : Nat} {r : List (D × D)} : IsKind k (.dict ((.bool true, .str "InvalidLineup") :: r)) "..x..xx............" := fun S => kinds_ok rfl rfl rfl rfl rfl rfl rfl rfl rfl rfl rfl rfl rfl rfl rfl rfl rfl rfl rfl (fun S => rfl)
theorem kd_4 {k : Nat} {r : List (D × D)} : IsKind k (.dict ((.bool true, .str "InvalidOperation") :: r)) "...x.xx............" := fun S => kinds_ok rfl rfl rfl rfl rfl rfl rfl rfl rfl rfl rfl rfl rfl rfl rfl rfl rfl rfl rfl (fun S => rfl)
theorem kd_5 {k : Nat} {r : List (D × D)} : IsKind k (.dict ((.bool true, .str "ParseError") :: r)) "....xxx............" := fun S => kinds_ok rfl rfl rfl rfl rfl rfl rfl rfl rfl rfl rfl rfl rfl rfl rfl rfl rfl rfl rfl (fun S => rfl)
theorem kd_6 {k : Nat} {r : List (D × D)} : IsKind k (.dict ((.bool true, .str "UnknownPlace") :: r)) ".......x.....x.x..." := fun S => kinds_ok rfl rfl rfl rfl rfl rfl rfl rfl rfl rfl rfl rfl rfl rfl rfl rfl rfl rfl rfl (fun S => rfl)
theorem kd_7 {k : Nat} {r : List (D × D)} : IsKind k (.dict ((.bool true, .str "InvalidNumber") :: r)) "........x.....x...." := fun S => kinds_ok rfl rfl rfl rfl rfl rfl rfl rfl rfl rfl rfl rfl rfl rfl rfl rfl rfl rfl rfl (fun S => rfl)
theorem kd_8 {k : Nat} {r : List (D × D)} : IsKind k (.dict ((.bool true, .str "Circle") :: r)) ".........x.....x..." := fun S => kinds_ok rfl rfl rfl rfl rfl rfl rfl rfl rfl rfl rfl rfl rfl rfl rfl rfl rfl rfl rfl (fun S => rfl)
theorem kd_9 {k : Nat} {r : List (D × D)} : IsKind k (.dict ((.bool true, .str "TooMany") :: r)) "..........x...x.x.." := fun S => kinds_ok rfl rfl rfl rfl rfl rfl rfl rfl rfl rfl rfl rfl rfl rfl rfl rfl rfl rfl rfl (fun S => rfl)
theorem kd_10 {k : Nat} {r : List (D × D)} : IsKind k (.dict ((.bool true, .str "NothingToUndo") :: r)) "...........x...x.x." := fun S => kinds_ok rfl rfl rfl rfl rfl rfl rfl rfl rfl rfl rfl rfl rfl rfl rfl rfl rfl rfl rfl (fun S => rfl)
theorem kd_11 {k : Nat} {r : List (D × D)} : IsKind k (.dict ((.bool true, .str "Refused") :: r)) "............x.....x" := fun S => kinds_ok rfl rfl rfl rfl rfl rfl rfl rfl rfl rfl rfl rfl rfl rfl rfl rfl rfl rfl rfl (fun S => rfl)
inductive AllKind (k : Nat) : List D → List Str → Prop
  | nil : AllKind k [] []
  | cons {d : D} {t : Str} {ds : List D} {ts : List Str} : IsKind k d t → AllKind k ds ts → AllKind k (d :: ds) (t :: ts)
theorem kinds_all {k : Nat} {Q : List D → List SO → Prop} {a b c e f g h : Option D} {ds : List D} {ts : List Str} (hk : AllKind k ds ts) : ∀ {S : List SO}, (∀ S1, Pre S S1 → Q (ts.map .str) S1) →
    WL (ev (callN tab (k + 1)) (cD (.bool true))) (ev (callN tab (k + 1)) (.call 3 (.cons (.loc 7) .nil))) (.nm 7) [a, b, c, e, f, g, h, none] ds S Q := by
  induction hk generalizing Q with
  | nil => intro S hq; exact WL_nil.mpr (hq S (Pre.refl S))
  | cons h1 h2 ih =>
    intro S hq
    refine WL_cons.mpr (OT_nm.mpr (wE_cD.mpr (OB_one.mpr ⟨fun _ => ?_, fun z => nomatch z⟩)))
    refine WE_call.mpr (WE_cons.mpr (WE_loc.mpr ⟨_, rfl, O1_one.mpr (WE_nil.mpr ?_)⟩))
    refine (h1 S).mono fun d S1 ⟨hd, p⟩ => ?_
    subst hd
    exact O1_one.mpr (ih fun S2 p2 => hq S2 (p.trans p2))
end K00

set_option Elab.async false
set_option linter.all false
set_option maxRecDepth 100000
set_option maxHeartbeats 4000000
namespace K00
open Iv PySem
local macro_rules | `(tactic| walk_at "iv") => `(tactic| simp only [WE_nil, WE_cons, WE_loc, WE_prim, WE_itr, WE_call, WE_and, WE_or, WE_ife, WE_lc, WE_chn, WL_nil, WL_cons, WS_skip, WS_brk, WS_cnt, WS_retn, WS_abort, WS_seq, WS_asg, WS_par, WS_eff, WS_dex, WS_ite, WS_ret, WS_for, WS_whl, WF_nil, WF_cons, QN_nx, QN_brk, QN_cnt, QN_ret, QL_nx, QL_cnt, QL_brk, QL_ret, QR_ret, QR_nx, O1_one, OB_one, OE_some, OT_nm, OT_tp, wE_cD,
  w_add, w_addS, w_addL, w_addT, w_sub, w_mul, w_div, w_mod, w_pow, w_neg, w_not, w_eqI, w_neI, w_eqS, w_eqB, w_ltI, w_leI, w_gtI, w_geI, w_leS, w_isB, w_isN, w_tup, w_lst, w_new, w_abs, w_max, w_min, w_gcd, w_int, w_intB, w_truB, w_truL, w_truT, w_lenL, w_lenT, w_lenS, w_itAL, w_itAT, w_itAS, w_itR1, w_itR2, w_listR2, w_listL, w_listT, w_listS, w_mulL, w_dct0,
  startE, setAll, wipeE, List.map_cons, List.map_nil, List.length_cons, List.length_nil, List.reduceReplicate, List.nil_append, List.cons_append, List.getElem?_cons_zero, List.getElem?_cons_succ, List.set_cons_zero, List.set_cons_succ, Nat.reduceAdd, Nat.reduceSub, Nat.reduceLeDiff, true_and, and_true, Bool.not_true, Bool.not_false, Bool.true_eq_false, Bool.false_eq_true, false_implies, true_implies, forall_const, Int.cast_ofNat_Int, decide_true, decide_false, Int.reduceLT, Int.reduceLE, Int.reduceEq, Int.reduceAdd, Int.reduceNeg, Int.reduceMul, decide_eq_true_eq, decide_eq_false_iff_not])

theorem seq_mono {call : CallT} {a b : C} {η : En} {S : List SO} {Q : Fl → En → List SO → Prop} (P : En → List SO → Prop) (h1 : WS call a η S (QN Q P)) (h2 : ∀ η1 S1, P η1 S1 → WS call b η1 S1 Q) : WS call (.seq a b) η S Q := by
  refine WS_seq.mpr (h1.mono ?_)
  intro f e s h
  cases f with
  | nx => exact h2 e s h
  | _ => exact h
abbrev menu : List D := [.int 0, .str ("" : PySem.Str), .str ("a" : PySem.Str), .none, .tuple [], .tuple [.str ("a" : PySem.Str), .int 1], .int (10 ^ Int.toNat 30), .bool true, .list [.int 1], .dict [(.bool false, .none), (.str ("a" : PySem.Str), .tuple [])], .int (-7)]
theorem show_ok {d : D} (h : d ∈ menu) : ShowOk [d, d, d, d, d, d, d] := by
  simp only [menu, List.mem_cons, List.not_mem_nil, or_false] at h
  rcases h with h | h | h | h | h | h | h | h | h | h | h <;> subst h <;> decide +kernel
/-- the dice at i stand, all else below stands, the store has grown -/
structure Gx (n : Nat) (S : List SO) (i : Nat) (S1 : List SO) : Prop where
  dc : Dc n S1 i
  oth : ∀ j, j < S.length → j ≠ i → S1[j]? = S[j]?
  len : S.length ≤ S1.length
theorem Gx.trans {n m i : Nat} {A B C : List SO} (a : Gx n A i B) (b : Gx m B i C) : Gx m A i C := ⟨b.dc, fun j h e => (b.oth j (Nat.lt_of_lt_of_le h a.len) e).trans (a.oth j h e), Nat.le_trans a.len b.len⟩
theorem right_holds {k n i : Nat} {S : List SO} (h : Dc n S i) (hn : n ≤ 2 ^ 28) : WC (callN tab (k + 4)) 4 [rf i] S fun d S1 => d = .bool true ∧ Gx (n + 1) S i S1 := by
  refine wc_def (n := 8) (ar := 1) (c := c_4) rfl rfl ?_
  unfold c_4
  refine seq_mono (fun η1 S1 => ∃ d, d ∈ menu ∧ η1 = [some (rf i), some d, none, none, none, none, none, none] ∧ Nx (n + 1) S i S1) ?_ ?_
  · walk_at "iv"
    simp only [w_dc1]
    refine ⟨by decide +kernel, (oneOf_ok (k := k + 1) (r := 1) rfl rfl h (by omega) (by decide) (by decide)).mono fun d S1 ⟨m, hm, nx⟩ => ⟨d, List.mem_of_getElem? hm, rfl, nx⟩⟩
  rintro η1 S1 ⟨d, hd, rfl, nx⟩
  have so := show_ok hd
  walk_at "iv"
  simp only [w_xb1, w_xn]
  refine (kd_1 S1).mono fun r A ⟨e, q1⟩ => ?_
  subst e
  refine (kd_2 A).mono fun r B ⟨e, q2⟩ => ?_
  subst e
  refine (kd_3 B).mono fun r S3 ⟨e, q3⟩ => ?_
  subst e
  refine (kd_4 S3).mono fun r S4 ⟨e, q4⟩ => ?_
  subst e
  refine (kd_5 S4).mono fun r S5 ⟨e, q5⟩ => ?_
  subst e
  have p1 : Pre S1 S5 := (((q1.trans q2).trans q3).trans q4).trans q5
  refine (w_neq (by decide +kernel) (by decide +kernel)).mpr ?_
  refine OB_one.mpr (And.intro (fun z => nomatch z) fun _ => ?_)
  simp only [w_xb0]
  refine (kd_1 S5).mono fun r A2 ⟨e, q1⟩ => ?_
  subst e
  refine (kd_2 A2).mono fun r B2 ⟨e, q2⟩ => ?_
  subst e
  refine (kd_3 B2).mono fun r C2 ⟨e, q3⟩ => ?_
  subst e
  refine (kd_4 C2).mono fun r S6 ⟨e, q4⟩ => ?_
  subst e
  have p2 : Pre S1 S6 := p1.trans (((q1.trans q2).trans q3).trans q4)
  refine (w_neq (by decide +kernel) (by decide +kernel)).mpr ?_
  refine OB_one.mpr (And.intro (fun z => nomatch z) fun _ => ?_)
  refine (w_lisR get_last).mpr ((w_app get_last).mpr ⟨by simp, ?_⟩)
  rw [set_last]
  refine (w_frzF get_last).mpr ?_
  rw [set_last]
  refine (w_itAF get_last).mpr ⟨by simp, kinds_all (k := k + 2) (.cons kd_6 (.cons kd_7 (.cons kd_8 (.cons kd_9 (.cons kd_10 (.cons kd_11 .nil)))))) fun S7 q => ?_⟩
  have g7 := q.get get_last
  have p3 : Pre S1 S7 := p2.trans ((Pre.push _ _).trans q)
  refine (w_neq (by decide +kernel) (by decide +kernel)).mpr ?_
  refine OB_one.mpr (And.intro (fun z => nomatch z) fun _ => ?_)
  refine (w_idxL (d := xnD "ParseError" "line" d) rfl).mpr (w_fx.mpr ?_)
  refine (w_idxF g7 (d := xnD "UnknownPlace" "place" d) rfl).mpr (w_fx.mpr ?_)
  refine (w_idxF g7 (d := xnD "InvalidNumber" "value" d) rfl).mpr (w_fx.mpr ?_)
  refine (w_idxF g7 (d := xnD "Circle" "circle" d) rfl).mpr (w_fx.mpr ?_)
  refine (w_idxF g7 (d := xnD "TooMany" "limit" d) rfl).mpr (w_fx.mpr ?_)
  refine (w_idxF g7 (d := xnD "NothingToUndo" "many" d) rfl).mpr (w_fx.mpr ?_)
  refine (w_lisR get_last).mpr ?_
  have g8 := (Pre.push S7 (.lst [d, d, d, d, d, d])).get g7
  refine (w_idxF g8 (d := xnD "Refused" "reason" d) rfl).mpr (w_fx.mpr ?_)
  refine (w_app get_last).mpr ⟨by simp, ?_⟩
  rw [set_last]
  refine (w_repR get_last so).mpr ?_
  refine ⟨⟨by decide, by decide, by decide⟩, ?_⟩
  refine (w_repL (xs := [d, d, d, d, d, d, d]) so).mpr ?_
  refine w_eqS.mpr ?_
  have p4 := p3.trans (Pre.push S7 (.lst [d, d, d, d, d, d, d]))
  refine ⟨by rw [decide_eq_true rfl], ?_, fun j hj ne => ?_, ?_⟩
  · obtain ⟨l, m, c, hs, r⟩ := nx.dc
    exact ⟨l, m, c, p4.get hs, r⟩
  · have hlt : j < S1.length := by rw [nx.len]; exact hj
    rw [p4.get (List.getElem?_eq_getElem hlt), ← nx.oth j ne, List.getElem?_eq_getElem hlt]
  · rw [← nx.len]
    exact p4.len
theorem u4 : upto 0 (Int.toNat 4) = [.int 0, .int 1, .int 2, .int 3] := rfl
theorem whole_ok {ns : List Int} (hn : ns.length ≤ 63) : WC (callN tab 8) 5 [rf 0] [.fro (ns.map .int)] fun d S1 => d = .bool true := by
  refine wc_def (n := 4) (ar := 1) (c := c_5) rfl rfl ?_
  unfold c_5
  refine seq_mono (fun η1 S1 => ∃ x y z, η1 = [some (rf 0), x, y, z]) ?_ ?_
  · refine WS_for.mpr ?_
    have key : ∀ (xs : List D) (S : List SO) (x y z : Option D) (Q : Fl → En → List SO → Prop), (∀ d ∈ xs, ∃ a : Nat, d = .int a ∧ a < 64) → S[0]? = some (.fro (ns.map .int)) → (∀ x y z S, Q .nx [some (rf 0), x, y, z] S) →
        WF (exc (callN tab 7) (C.seq (.asg (.nm 2) (.call 0 (.cons (.loc 0) (.cons (.loc 1) .nil)))) (.forr (.nm 3) (.itr itR1 (.cons (cD (.int 4)) .nil)) (.ite (.prim notP (.cons (.prim truP (.cons (.call 4 (.cons (.loc 2) .nil)) .nil)) .nil)) (.ret (cD (.bool false))) .skip)))) (T.nm 1) xs [some (rf 0), x, y, z] S Q := by
      intro xs
      induction xs with
      | nil =>
        intro S x y z Q _ _ hQ
        exact WF_nil.mpr (hQ x y z S)
      | cons d xs ih =>
        intro S x y z Q hx h0 hQ
        obtain ⟨a, rfl, ha⟩ := hx d List.mem_cons_self
        refine WF_cons.mpr (OT_nm.mpr (seq_mono (fun η1 S1 => ∃ x, η1 = [some (rf 0), x, some (rf S.length), z] ∧ Dc 0 S1 S.length ∧ S1[0]? = some (.fro (ns.map .int))) ?_ ?_))
        · walk_at "iv"
          refine (dice_ok (k := 6) (j := 0) rfl h0 ha).mono fun d S1 ⟨l, m, hd, hS, hl, hm⟩ => ?_
          subst hd hS
          refine ⟨_, rfl, ⟨l, m, 0, ?_, hl, hm, by decide, by decide⟩, ?_⟩
          · exact List.getElem?_concat_length
          · rw [List.getElem?_append_left (List.getElem?_eq_some_iff.mp h0).1]
            exact h0
        rintro _ S1 ⟨x, rfl, dc, z0⟩
        have hne : (0 : Nat) ≠ S.length := by have := (List.getElem?_eq_some_iff.mp h0).1; omega
        have h01 : 0 < S1.length := (List.getElem?_eq_some_iff.mp z0).1
        walk_at "iv"
        rw [u4]
        refine ⟨⟨by decide, by decide⟩, ?_⟩
        walk_at "iv"
        refine (right_holds (k := 3) dc (by decide)).mono fun d S2 ⟨hd, n1⟩ => ?_
        subst hd
        walk_at "iv"
        refine (right_holds (k := 3) n1.dc (by decide)).mono fun d S3 ⟨hd, n2⟩ => ?_
        subst hd
        walk_at "iv"
        refine (right_holds (k := 3) n2.dc (by decide)).mono fun d S4 ⟨hd, n3⟩ => ?_
        subst hd
        walk_at "iv"
        refine (right_holds (k := 3) n3.dc (by decide)).mono fun d S5 ⟨hd, n4⟩ => ?_
        subst hd
        walk_at "iv"
        have n5 := ((n1.trans n2).trans n3).trans n4
        refine ih _ _ _ _ Q (fun e he => hx e (List.mem_cons_of_mem _ he)) ?_ hQ
        rw [n5.oth 0 h01 hne]
        exact z0
    walk_at "iv"
    refine (w_lenF (n := 0) rfl).mpr ?_
    walk_at "iv"
    refine ⟨?_, key _ _ _ _ _ _ ?_ rfl fun x y z S => ⟨x, y, z, rfl⟩⟩
    · rw [List.length_map]
      split <;> split <;> omega
    · intro d hd
      unfold upto at hd
      obtain ⟨j, hj, rfl⟩ := List.mem_map.mp hd
      have hj := List.mem_range.mp hj
      refine ⟨j, by rw [Int.zero_add], ?_⟩
      rw [List.length_map] at hj
      revert hj
      split <;> split <;> omega
  rintro _ S1 ⟨x, y, z, rfl⟩
  walk_at "iv"
  simp only [w_xn, w_fx]
  exact (w_eqq (by decide +kernel) (by decide +kernel)).mpr rfl
theorem M_ok : ∀ ns : List Int, ns.length ≤ 63 → ∃ S1, callN tab 8 5 [rf 0] [.fro (ns.map .int)] = some (.bool true, S1) := fun ns hn => by
  obtain ⟨d, S1, h, rfl⟩ := whole_ok hn
  exact ⟨S1, h⟩
end K00

set_option linter.all false
set_option maxRecDepth 100000
set_option maxHeartbeats 4000000
open PySem PySem.W PyProof.Rows
set_option maxRecDepth 100000 in
set_option maxHeartbeats 8000000 in
theorem PySem.Challenge.cw_downsets_k00_errors_and_what_they_keep_holds : PySem.Challenge.rw_downsets_k00_errors_and_what_they_keep.Holds := by
  w_on; o_law; k_head; (case hw => w_witness2)
  k_fill
  refine Iv.walk_g (l := PySem.Challenge.rw_downsets_k00_errors_and_what_they_keep) (n := 63) (k := 8) (sp := fun w => Iv.spLaw _) rfl (by decide) rfl ⟨rfl, by decide, by decide⟩ (fun w h Y => PySem.W.kIn_of Y) ?F (fun _ _ a ns hl _ hS => ⟨a, ns, rfl, hS, hl, fun _ => rfl⟩)
  case F =>
    intro w mg fa h KX G hmg
    refine' K00.all_mk KX G hmg ?a0 ?l0 ?k0 ?q0 ?a1 ?l1 ?k1 ?q1 ?a2 ?l2 ?k2 ?q2 ?a3 ?l3 ?k3 ?q3 ?a4 ?l4 ?k4 ?q4 ?a5 ?l5 ?k5 ?q5 ?n0 ?n1 ?n2 ?n3 ?n4 ?n5 ?n6 ?n7 ?n8 ?n9 ?n10 ?n11 ?p1 ?b1 ?p2 ?b2 ?p3 ?b3 ?p4 ?b4 ?xi5 ?xl5 ?xk5 ?xq5 ?xc5 ?xi6 ?xl6 ?xk6 ?xq6 ?xc6 ?xi7 ?xl7 ?xk7 ?xq7 ?xc7 ?xi8 ?xl8 ?xk8 ?xq8 ?xc8 ?xi9 ?xl9 ?xk9 ?xq9 ?xc9 ?xi10 ?xl10 ?xk10 ?xq10 ?xc10 ?xi11 ?xl11 ?xk11 ?xq11 ?xc11 ?xa ?kt ?osp ?ord ?oin ?vi6 ?vi7 ?vi8 ?vi9 ?vi10 ?vi11 ?z_ArithmeticError ?z_IndexError ?z_KeyError ?z_LookupError ?z_OverflowError ?z_RuntimeError ?z_ValueError ?z_abs ?z_int ?z_isinstance ?z_len ?z_max ?z_min ?z_range ?z_repr K00.M_ok
    (case a0 => k_is); (case l0 => k_is); (case k0 => k_is); (case q0 => k_is); (case a1 => k_is); (case l1 => k_is); (case k1 => k_is); (case q1 => k_is); (case a2 => k_is); (case l2 => k_is); (case k2 => k_is); (case q2 => k_is); (case a3 => k_is); (case l3 => k_is); (case k3 => k_is); (case q3 => k_is); (case a4 => k_is); (case l4 => k_is); (case k4 => k_is); (case q4 => k_is); (case a5 => k_is); (case l5 => k_is); (case k5 => k_is); (case q5 => k_is); (case n0 => k_is); (case n1 => k_is); (case n2 => k_is); (case n3 => k_is); (case n4 => k_is); (case n5 => k_is); (case n6 => k_is); (case n7 => k_is); (case n8 => k_is); (case n9 => k_is); (case n10 => k_is); (case n11 => k_is); (case p1 => k_is); (case b1 => k_exc); (case p2 => k_is); (case b2 => k_exc); (case p3 => k_is); (case b3 => k_exc); (case p4 => k_is); (case b4 => k_exc); (case xi5 => k_is); (case xl5 => k_is); (case xk5 => k_is); (case xq5 => k_is); (case xc5 => kernel_rfl); (case xi6 => k_is); (case xl6 => k_is); (case xk6 => k_is); (case xq6 => k_is); (case xc6 => kernel_rfl); (case xi7 => k_is); (case xl7 => k_is); (case xk7 => k_is); (case xq7 => k_is); (case xc7 => kernel_rfl); (case xi8 => k_is); (case xl8 => k_is); (case xk8 => k_is); (case xq8 => k_is); (case xc8 => kernel_rfl); (case xi9 => k_is); (case xl9 => k_is); (case xk9 => k_is); (case xq9 => k_is); (case xc9 => kernel_rfl); (case xi10 => k_is); (case xl10 => k_is); (case xk10 => k_is); (case xq10 => k_is); (case xc10 => kernel_rfl); (case xi11 => k_is); (case xl11 => k_is); (case xk11 => k_is); (case xq11 => k_is); (case xc11 => kernel_rfl); (case xa => kernel_rfl); (case kt => kernel_rfl); (case osp => k_is); (case ord => k_is); (case oin => k_is); (case vi6 => k_is); (case vi7 => k_is); (case vi8 => k_is); (case vi9 => k_is); (case vi10 => k_is); (case vi11 => k_is); (case z_ArithmeticError => k_is); (case z_IndexError => k_is); (case z_KeyError => k_is); (case z_LookupError => k_is); (case z_OverflowError => k_is); (case z_RuntimeError => k_is); (case z_ValueError => k_is); (case z_abs => k_is); (case z_int => k_is); (case z_isinstance => k_is); (case z_len => k_is); (case z_max => k_is); (case z_min => k_is); (case z_range => k_is); (case z_repr => k_is)
