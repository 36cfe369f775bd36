import PyProof.Rows.All
import Wide.All
import OpenK.AllK
import Wide.FinOn
import HandS.Base
import HandS.Call
import HandS.List
import HandS.Comp
import HandS.Ends
import HandS.Words
import HandS.WordsList
import HandS.IsInst
import HandS.Gcd
import HandS.TupAny
import HandS.TupMul
import HandS.Wide
import HandS.WideMore
import HandS.Conv
import HandS.Style
import KE.KTupSum
import HandS.Exc
import HandS.ExcOwn
import HandS.TryOnly
import HandS.WordsExc
import HandS.Iter
import HandS.Zip
import PyProof.Draws
import PyProof.ListNew
import PyProof.EnumIter
import HandS.MapObj
import KE.KMathG
import HandS.IterVal
import PyProof.LayNew
import KE.GoesEnumKw
import HandS.SortKw
import HandS.ExcIs
import HandS.SortInts
import HandS.Strs
import HandS.SetFor
import KE.KDictZip
import PyProof.ZipIter
import KE.GoesMore
import PyProof.WalksMore
import HandS.Star
import HandS.HotCalls
import PyProof.Rows.CountFlat
import HandS.TupSets
import KE.GoesRev
import HandS.RaiseMore
import HandS.FStr
import HandS.Flow
import KE.KUnpackStar
import HandS.More
import PySem.Challenge.RW_plantrace_k48_disrupted_plants
set_option Elab.async false
set_option linter.all false
set_option maxRecDepth 100000
/-! PD: a layer over pure data. A ghost heap G (what never changes) lies within the tracked heap H; T tells the tapes. -/
namespace PD
open PySem PySem.Spec PyProof.Rows L2

/-! ### data in a heap that stands still -/
mutual
inductive Dn (K : PySem.W.Frag) (G : Hp) : V → PyData → Prop
  | non : Dn K G .non .none
  | bl (b : Bool) : Dn K G (.bl b) (.bool b)
  | int (i : Int) : Dn K G (.int i) (.int i)
  | str (x : Str) : Dn K G (.str x) (.str x)
  | lst {a : Addr} {xs : List V} {ds : List PyData} : G a = some (.lst xs) → DnAll K G xs ds → Dn K G (.ref a) (.list ds)
  | tup {a : Addr} {xs : List V} {ds : List PyData} : SqT K G a xs → DnAll K G xs ds → Dn K G (.ref a) (.tuple ds)
inductive DnAll (K : PySem.W.Frag) (G : Hp) : List V → List PyData → Prop
  | nil : DnAll K G [] []
  | cons {v : V} {vs : List V} {d : PyData} {ds : List PyData} : Dn K G v d → DnAll K G vs ds → DnAll K G (v :: vs) (d :: ds)
end
theorem sqt_mono {K : PySem.W.Frag} {G G' : Hp} {a : Addr} {xs : List V} (e : Same G G') (h : SqT K G a xs) : SqT K G' a xs := by
  rcases h with (h | ⟨o, h⟩) | h
  · exact .inl (.inl (e _ _ h))
  · exact .inl (.inr ⟨o, e _ _ h⟩)
  · exact .inr h
section
variable {K : PySem.W.Frag} {G G' : Hp}
mutual
theorem Dn.mono (e : Same G G') : ∀ {v : V} {d : PyData}, Dn K G v d → Dn K G' v d
  | _, _, .non => .non
  | _, _, .bl b => .bl b
  | _, _, .int i => .int i
  | _, _, .str x => .str x
  | _, _, .lst h a => .lst (e _ _ h) (DnAll.mono e a)
  | _, _, .tup h a => .tup (sqt_mono e h) (DnAll.mono e a)
theorem DnAll.mono (e : Same G G') : ∀ {vs : List V} {ds : List PyData}, DnAll K G vs ds → DnAll K G' vs ds
  | _, _, .nil => .nil
  | _, _, .cons h t => .cons (Dn.mono e h) (DnAll.mono e t)
end
mutual
theorem Dn.dp : ∀ {v : V} {d : PyData}, Dn K G v d → Dp K G v d
  | _, _, .non => .non
  | _, _, .bl b => .bl b
  | _, _, .int i => .int i
  | _, _, .str x => .str x
  | _, _, .lst h a => .lst (.inl (.inl h)) (DnAll.dp a)
  | _, _, .tup h a => .tup h (DnAll.dp a)
theorem DnAll.dp : ∀ {vs : List V} {ds : List PyData}, DnAll K G vs ds → DpAll K G vs ds
  | _, _, .nil => .nil
  | _, _, .cons h t => .cons (Dn.dp h) (DnAll.dp t)
end
theorem DnAll.length : ∀ {vs : List V} {ds : List PyData}, DnAll K G vs ds → vs.length = ds.length
  | _, _, .nil => rfl
  | _, _, .cons _ t => congrArg (· + 1) (DnAll.length t)
theorem DnAll.get : ∀ {vs : List V} {ds : List PyData} {i : Nat} {d : PyData}, DnAll K G vs ds → ds[i]? = some d → ∃ v, vs[i]? = some v ∧ Dn K G v d
  | _, _, _, _, .nil, e => by simp at e
  | _, _, 0, _, .cons r _, e => by
    have e := Option.some.inj e
    subst e
    exact ⟨_, rfl, r⟩
  | _, _, i + 1, d, .cons _ t, e => DnAll.get (i := i) t e
theorem DnAll.get' : ∀ {vs : List V} {ds : List PyData} {i : Nat} {v : V}, DnAll K G vs ds → vs[i]? = some v → ∃ d, ds[i]? = some d ∧ Dn K G v d
  | _, _, _, _, .nil, e => by simp at e
  | _, _, 0, _, .cons r _, e => by
    have e := Option.some.inj e
    subst e
    exact ⟨_, rfl, r⟩
  | _, _, i + 1, d, .cons _ t, e => DnAll.get' (i := i) t e
theorem DnAll.append : ∀ {vs ws : List V} {ds es : List PyData}, DnAll K G vs ds → DnAll K G ws es → DnAll K G (vs ++ ws) (ds ++ es)
  | _, _, _, _, .nil, s => s
  | _, _, _, _, .cons r t, s => .cons r (DnAll.append t s)
theorem DnAll.take : ∀ {vs : List V} {ds : List PyData} (n : Nat), DnAll K G vs ds → DnAll K G (vs.take n) (ds.take n)
  | _, _, 0, _ => .nil
  | _, _, _ + 1, .nil => .nil
  | _, _, n + 1, .cons r t => .cons r (DnAll.take n t)
theorem DnAll.drop : ∀ {vs : List V} {ds : List PyData} (n : Nat), DnAll K G vs ds → DnAll K G (vs.drop n) (ds.drop n)
  | _, _, 0, r => r
  | _, _, _ + 1, .nil => .nil
  | _, _, n + 1, .cons _ t => DnAll.drop n t
theorem DnAll.dropLast {vs : List V} {ds : List PyData} (h : DnAll K G vs ds) : DnAll K G vs.dropLast ds.dropLast := by
  rw [List.dropLast_eq_take, List.dropLast_eq_take, h.length]
  exact h.take _
theorem DnAll.rep : ∀ (n : Nat) {vs : List V} {ds : List PyData}, DnAll K G vs ds → DnAll K G (List.replicate n vs).flatten (List.replicate n ds).flatten
  | 0, _, _, _ => .nil
  | n + 1, _, _, h => by
    rw [List.replicate_succ, List.replicate_succ, List.flatten_cons, List.flatten_cons]
    exact h.append (DnAll.rep n h)
theorem DnAll.set : ∀ {vs : List V} {ds : List PyData} {v : V} {d : PyData} (i : Nat), DnAll K G vs ds → Dn K G v d → DnAll K G (vs.set i v) (ds.set i d)
  | _, _, _, _, _, .nil, _ => .nil
  | _, _, _, _, 0, .cons _ t, h => .cons h t
  | _, _, _, _, i + 1, .cons r t, h => .cons r (DnAll.set i t h)
theorem DnAll.rev {vs : List V} {ds : List PyData} (h : DnAll K G vs ds) : DnAll K G vs.reverse ds.reverse := by
  induction vs generalizing ds with
  | nil => cases h; exact .nil
  | cons v vs ih =>
    cases h with
    | cons r t =>
      rw [List.reverse_cons, List.reverse_cons]
      exact (ih t).append (.cons r .nil)
theorem DnAll.ints : ∀ {vs : List V} {ns : List Int}, DnAll K G vs (ns.map PyData.int) → vs = ns.map V.int
  | _, [], .nil => rfl
  | _, n :: ns, .cons h t => by
    cases h
    rw [DnAll.ints t]
    rfl
theorem DnAll.bools : ∀ {vs : List V} {ns : List Bool}, DnAll K G vs (ns.map PyData.bool) → vs = ns.map V.bl
  | _, [], .nil => rfl
  | _, n :: ns, .cons h t => by
    cases h
    rw [DnAll.bools t]
    rfl
theorem DnAll.of_ints : ∀ (ns : List Int), DnAll K G (ns.map V.int) (ns.map PyData.int)
  | [] => .nil
  | n :: ns => .cons (.int n) (DnAll.of_ints ns)
end

/-! ### tapes -/
/-- a tape: the script's numbers, the place, what is left of a number, the mixed one -/
def Tp (G H : Hp) (a : Addr) : Prop := ∃ (b : Addr) (ns : List Int) (place rest mixed : Int), H a = some (.lst [.ref b, .int place, .int rest, .int mixed]) ∧ G b = some (.lst (ns.map V.int)) ∧ G a = none ∧
  0 ≤ place ∧ 0 ≤ rest ∧ 0 ≤ mixed ∧ mixed < 2147483647
structure Step (T : Addr → Prop) (G H G' H' : Hp) : Prop where
  g : Same G G'
  gh : Same G' H'
  h : ∀ p o, ¬ T p → H p = some o → H' p = some o
  fr : ∀ p, G p = none → H p ≠ none → G' p = none
  tp : ∀ a, T a → Tp G' H' a
theorem Step.no {T : Addr → Prop} {G H G' H' : Hp} (s : Step T G H G' H') {p : Addr} (h : H' p = none) (nt : ¬ T p) : H p = none := by
  cases q : H p with
  | none => rfl
  | some o =>
    rw [s.h p o nt q] at h
    cases h
theorem Step.so {T : Addr → Prop} {G H G' H' : Hp} (s : Step T G H G' H') {p : Addr} (h : H p ≠ Option.none) : H' p ≠ Option.none := by
  intro z
  by_cases t : T p
  · obtain ⟨b, ns, x, y, m, e, _⟩ := s.tp p t
    rw [e] at z
    cases z
  · exact h (s.no z t)
theorem Step.trans {T : Addr → Prop} {G H G1 H1 G2 H2 : Hp} (a : Step T G H G1 H1) (b : Step T G1 H1 G2 H2) : Step T G H G2 H2 where
  g := a.g.trans b.g
  gh := b.gh
  h := fun p o nt e => b.h p o nt (a.h p o nt e)
  fr := fun p e n => b.fr p (a.fr p e n) (a.so n)
  tp := b.tp
theorem Step.refl {T : Addr → Prop} {G H : Hp} (gh : Same G H) (tp : ∀ a, T a → Tp G H a) : Step T G H G H := ⟨Same.refl _, gh, fun _ _ _ e => e, fun _ e _ => e, tp⟩
theorem Tp.mono {G H G' H' : Hp} {a : Addr} (t : Tp G H a) (g : Same G G') (h : H' a = H a) (n : G' a = none) : Tp G' H' a := by
  obtain ⟨b, ns, x, y, m, e, eb, ea, r⟩ := t
  exact ⟨b, ns, x, y, m, h.trans e, g _ _ eb, n, r⟩
/-- a pure step within one with tapes -/
theorem Step.pure {T : Addr → Prop} {G H G' H' : Hp} (s : Step (fun _ => False) G H G' H') (tp : ∀ a, T a → Tp G H a) : Step T G H G' H' where
  g := s.g
  gh := s.gh
  h := fun p o _ e => s.h p o id e
  fr := s.fr
  tp := fun a t => by
    have q := tp a t
    obtain ⟨b, ns, x, y, m, e, eb, ea, r⟩ := id q
    exact q.mono s.g ((s.h a _ id e).trans e.symm) (s.fr a ea (by rw [e]; intro z; cases z))
/-- a new object, of the data -/
theorem Step.new {T : Addr → Prop} {G H : Hp} {p : Addr} {o : HO} (gh : Same G H) (tp : ∀ a, T a → Tp G H a) (hp : H p = none) : Step T G H (upd G p o) (upd H p o) := by
  have gp : G p = Option.none := gh.free hp
  refine ⟨fun a u e => by rw [upd_ne (ne_of_none e gp)]; exact e, fun a u e => ?_, fun a u _ e => by rw [upd_ne (ne_of_none e hp)]; exact e, fun a e n => ?_, fun a t => ?_⟩
  · by_cases q : a = p
    · rw [q, upd_same] at e ⊢
      exact e
    · rw [upd_ne q] at e ⊢
      exact gh _ _ e
  · rw [upd_ne (fun z => n (by rw [z]; exact hp))]
    exact e
  · have q := tp a t
    obtain ⟨b, ns, x, y, m, e, eb, ea, r⟩ := id q
    have nap : a ≠ p := ne_of_none e hp
    refine q.mono (fun c u ec => by rw [upd_ne (ne_of_none ec gp)]; exact ec) (upd_ne nap) ?_
    rw [upd_ne nap]
    exact ea
/-- a new object that is not of the data (a list to be changed) -/
theorem Step.newM {T : Addr → Prop} {G H : Hp} {p : Addr} {o : HO} (gh : Same G H) (tp : ∀ a, T a → Tp G H a) (hp : H p = none) : Step T G H G (upd H p o) := by
  refine ⟨Same.refl _, fun a u e => ?_, fun a u _ e => by rw [upd_ne (ne_of_none e hp)]; exact e, fun a e n => e, fun a t => ?_⟩
  · rw [upd_ne (ne_of_none (gh _ _ e) hp)]
    exact gh _ _ e
  · have q := tp a t
    obtain ⟨b, ns, x, y, m, e, eb, ea, r⟩ := id q
    exact q.mono (Same.refl _) (upd_ne (ne_of_none e hp)) ea

/-! ### what the slots hold -/
inductive Sl where
  | no
  | d (x : PyData)
  | ml (xs : List PyData)
  | tp
  | rf (a : Addr)
  | rg (lo hi : Int)
abbrev Rho := List Sl
def SlOk (T : Addr → Prop) (K : PySem.W.Frag) (H0 G H : Hp) : Sl → Option V → Prop
  | .no, _ => True
  | .d x, o => ∃ v, o = some v ∧ Dn K G v x
  | .ml xs, o => ∃ l vs, o = some (.ref l) ∧ H l = some (.lst vs) ∧ DnAll K G vs xs ∧ G l = none ∧ H0 l = none ∧ ¬ T l
  | .tp, o => ∃ a, o = some (.ref a) ∧ T a
  | .rf a, o => o = some (.ref a)
  | .rg lo hi, o => ∃ a, o = some (.ref a) ∧ G a = some (.rng lo hi)
structure Den (T : Addr → Prop) (K : PySem.W.Frag) (H0 G H : Hp) (σ : L2.St) (ρ : Rho) : Prop where
  len : σ.length = ρ.length
  ok : ∀ (i : Nat) (s : Sl) (o : Option V), ρ[i]? = some s → σ[i]? = some o → SlOk T K H0 G H s o
  one : ∀ (i j : Nat) (xs ys : List PyData) (l : Addr), i ≠ j → ρ[i]? = some (.ml xs) → ρ[j]? = some (.ml ys) → σ[i]? = some (some (.ref l)) → σ[j]? ≠ some (some (.ref l))
section
variable {T : Addr → Prop} {K : PySem.W.Frag} {H0 G H G' H' : Hp} {σ : L2.St} {ρ : Rho}
theorem SlOk.mono (s : Step T G H G' H') {x : Sl} {o : Option V} (h : SlOk T K H0 G H x o) : SlOk T K H0 G' H' x o := by
  cases x with
  | no => trivial
  | d x => exact let ⟨v, e, d⟩ := h; ⟨v, e, d.mono s.g⟩
  | ml xs =>
    obtain ⟨l, vs, e, hl, d, gl, h0, nt⟩ := h
    exact ⟨l, vs, e, s.h l _ nt hl, d.mono s.g, s.fr l gl (by rw [hl]; intro z; cases z), h0, nt⟩
  | tp => exact h
  | rf a => exact h
  | rg lo hi => exact let ⟨a, e, g⟩ := h; ⟨a, e, s.g _ _ g⟩
theorem Den.mono (h : Den T K H0 G H σ ρ) (s : Step T G H G' H') : Den T K H0 G' H' σ ρ := ⟨h.len, fun i x o e1 e2 => (h.ok i x o e1 e2).mono s, h.one⟩
theorem Den.at (h : Den T K H0 G H σ ρ) {i : Nat} {s : Sl} (e : ρ[i]? = some s) : ∃ o, σ[i]? = some o ∧ SlOk T K H0 G H s o := by
  have hi : i < σ.length := by rw [h.len]; exact (List.getElem?_eq_some_iff.mp e).1
  exact ⟨σ[i], List.getElem?_eq_getElem hi, h.ok i s _ e (List.getElem?_eq_getElem hi)⟩
/-- a slot gets data (or nothing is known of it) -/
theorem Den.set (h : Den T K H0 G H σ ρ) {i : Nat} {s : Sl} {o : Option V} (hs : SlOk T K H0 G H s o) (nm : ∀ xs, s ≠ .ml xs) : Den T K H0 G H (σ.set i o) (ρ.set i s) := by
  refine ⟨by rw [List.length_set, List.length_set]; exact h.len, fun j x u e1 e2 => ?_, fun j k xs ys l hjk e1 e2 e3 e4 => ?_⟩
  · by_cases q : i = j
    · subst q
      have hi : i < ρ.length := by
        have := (List.getElem?_eq_some_iff.mp e1).1
        rwa [List.length_set] at this
      rw [List.getElem?_set_self hi] at e1
      rw [List.getElem?_set_self (by rw [h.len]; exact hi)] at e2
      cases e1
      cases e2
      exact hs
    · rw [List.getElem?_set_ne q] at e1 e2
      exact h.ok j x u e1 e2
  · have ni : ∀ {j : Nat} {zs : List PyData}, (ρ.set i s)[j]? = some (.ml zs) → i ≠ j := fun {j zs} e q => by
      subst q
      have hi : i < ρ.length := by
        have := (List.getElem?_eq_some_iff.mp e).1
        rwa [List.length_set] at this
      rw [List.getElem?_set_self hi] at e
      exact nm zs (Option.some.inj e)
    have n1 := ni e1
    have n2 := ni e2
    rw [List.getElem?_set_ne n1] at e1 e3
    rw [List.getElem?_set_ne n2] at e2 e4
    exact h.one j k xs ys l hjk e1 e2 e3 e4
end

/-! ### the judgements -/
def Pe (K : PySem.W.Frag) (te : TE) (ρ : Rho) (P : PyData → Prop) : Prop := ∀ (T : Addr → Prop) (H0 G H : Hp) (σ : L2.St), Same G H → (∀ a, T a → Tp G H a) → Den T K H0 G H σ ρ →
  ∀ Q : VK, (∀ d v G' H', P d → Step T G H G' H' → Dn K G' v d → Q v H') → te σ H Q
abbrev Pd (K : PySem.W.Frag) (te : TE) (ρ : Rho) (d : PyData) : Prop := Pe K te ρ (fun x => x = d)
/-- a list to be read now -/
def RdL (T : Addr → Prop) (G H : Hp) (p : Addr) (vs : List V) : Prop := G p = some (.lst vs) ∨ (H p = some (.lst vs) ∧ ¬ T p)
def Rl (K : PySem.W.Frag) (te : TE) (ρ : Rho) (P : List PyData → Prop) : Prop := ∀ (T : Addr → Prop) (H0 G H : Hp) (σ : L2.St), Same G H → (∀ a, T a → Tp G H a) → Den T K H0 G H σ ρ →
  ∀ Q : VK, (∀ xs p vs G' H', P xs → Step T G H G' H' → RdL T G' H' p vs → DnAll K G' vs xs → Q (.ref p) H') → te σ H Q
def Pt (K : PySem.W.Frag) (t : TT) (ρ : Rho) (P : Bool → Prop) : Prop := ∀ (T : Addr → Prop) (H0 G H : Hp) (σ : L2.St), Same G H → (∀ a, T a → Tp G H a) → Den T K H0 G H σ ρ →
  ∀ Q : Bool → Hp → Prop, (∀ b G' H', P b → Step T G H G' H' → Q b H') → t σ H Q
abbrev Ptd (K : PySem.W.Frag) (t : TT) (ρ : Rho) (b : Bool) : Prop := Pt K t ρ (fun x => x = b)
/-- arguments: data and tapes -/
def ArgOk (T : Addr → Prop) (K : PySem.W.Frag) (G : Hp) : Sl → V → Prop
  | .d x, v => Dn K G v x
  | .tp, v => ∃ a, v = .ref a ∧ T a
  | _, _ => False
abbrev ArgsOk (T : Addr → Prop) (K : PySem.W.Frag) (G : Hp) : List Sl → List V → Prop := Paired (ArgOk T K G)
def Pas (K : PySem.W.Frag) (ta : TA) (ρ : Rho) (P : List Sl → Prop) : Prop := ∀ (T : Addr → Prop) (H0 G H : Hp) (σ : L2.St), Same G H → (∀ a, T a → Tp G H a) → Den T K H0 G H σ ρ →
  ∀ Q : List V → Hp → Prop, (∀ ss vs G' H', P ss → Step T G H G' H' → ArgsOk T K G' ss vs → Q vs H') → ta σ H Q
abbrev Pasd (K : PySem.W.Frag) (ta : TA) (ρ : Rho) (ss : List Sl) : Prop := Pas K ta ρ (fun x => x = ss)

theorem RdL.sq {T : Addr → Prop} {K : PySem.W.Frag} {G H : Hp} {p : Addr} {vs : List V} (h : RdL T G H p vs) (gh : Same G H) : SqL K H p vs := by
  rcases h with h | ⟨h, _⟩
  · exact .inl (.inl (gh _ _ h))
  · exact .inl (.inl h)
theorem RdL.at {T : Addr → Prop} {G H : Hp} {p : Addr} {vs : List V} (h : RdL T G H p vs) (gh : Same G H) : H p = some (.lst vs) := by
  rcases h with h | ⟨h, _⟩
  · exact gh _ _ h
  · exact h
theorem RdL.mono {T : Addr → Prop} {G H G' H' : Hp} {p : Addr} {vs : List V} (h : RdL T G H p vs) (s : Step T G H G' H') : RdL T G' H' p vs := by
  rcases h with h | ⟨h, n⟩
  · exact .inl (s.g _ _ h)
  · exact .inr ⟨s.h _ _ n h, n⟩
theorem ArgOk.mono {T : Addr → Prop} {K : PySem.W.Frag} {G G' : Hp} (g : Same G G') : ∀ {s : Sl} {v : V}, ArgOk T K G s v → ArgOk T K G' s v
  | .d _, _, h => Dn.mono g h
  | .tp, _, h => h
theorem ArgsOk.mono {T : Addr → Prop} {K : PySem.W.Frag} {G G' : Hp} (g : Same G G') {ss : List Sl} {vs : List V} (h : ArgsOk T K G ss vs) : ArgsOk T K G' ss vs := Paired.mapP h fun _ _ q => q.mono g

section
variable {K : PySem.W.Frag} {ρ : Rho} {te ta tb tc : TE} {P P' : PyData → Prop}
theorem Pe.imp (h : Pe K te ρ P) (i : ∀ d, P d → P' d) : Pe K te ρ P' := fun T H0 G H σ gh tp D Q q => h T H0 G H σ gh tp D Q fun d v G' H' p => q d v G' H' (i d p)
theorem Pe.to {d e : PyData} (h : Pd K te ρ d) (i : d = e) : Pd K te ρ e := i ▸ h
theorem yd_of {d : PyData} (h : Pd K te ρ d) (i : P d) : Pe K te ρ P := h.imp fun x e => e ▸ i
/-- the two steps of an operation -/
theorem Pe.bind {Q : VK} {T : Addr → Prop} {H0 G H : Hp} {σ : L2.St} (h : Pe K te ρ P) (gh : Same G H) (tp : ∀ a, T a → Tp G H a) (D : Den T K H0 G H σ ρ)
    (k : ∀ d v G' H', P d → Step T G H G' H' → Same G' H' → (∀ a, T a → Tp G' H' a) → Den T K H0 G' H' σ ρ → Dn K G' v d → Q v H') : te σ H Q :=
  h T H0 G H σ gh tp D Q fun d v G' H' p s x => k d v G' H' p s s.gh s.tp (D.mono s) x
theorem Rl.bind {PL : List PyData → Prop} {Q : VK} {T : Addr → Prop} {H0 G H : Hp} {σ : L2.St} (h : Rl K te ρ PL) (gh : Same G H) (tp : ∀ a, T a → Tp G H a) (D : Den T K H0 G H σ ρ)
    (k : ∀ xs p vs G' H', PL xs → Step T G H G' H' → Same G' H' → (∀ a, T a → Tp G' H' a) → Den T K H0 G' H' σ ρ → RdL T G' H' p vs → DnAll K G' vs xs → Q (.ref p) H') : te σ H Q :=
  h T H0 G H σ gh tp D Q fun xs p vs G' H' a s x y => k xs p vs G' H' a s s.gh s.tp (D.mono s) x y
theorem Pas.bind {tr : TA} {PA : List Sl → Prop} {Q : List V → Hp → Prop} {T : Addr → Prop} {H0 G H : Hp} {σ : L2.St} (h : Pas K tr ρ PA) (gh : Same G H) (tp : ∀ a, T a → Tp G H a) (D : Den T K H0 G H σ ρ)
    (k : ∀ ss vs G' H', PA ss → Step T G H G' H' → Same G' H' → (∀ a, T a → Tp G' H' a) → Den T K H0 G' H' σ ρ → ArgsOk T K G' ss vs → Q vs H') : tr σ H Q :=
  h T H0 G H σ gh tp D Q fun ss vs G' H' a s x => k ss vs G' H' a s s.gh s.tp (D.mono s) x

/-! ### names, constants -/
theorem ye_v {i : Nat} {d : PyData} (e : ρ[i]? = some (.d d)) : Pd K (tVar i) ρ d := fun T H0 G H σ gh tp D Q q => by
  obtain ⟨o, e1, v, rfl, x⟩ := D.at e
  exact ⟨v, e1, q d v G H rfl (Step.refl gh tp) x⟩
theorem ye_i {i : Int} : Pd K (tC (.int i)) ρ (.int i) := fun T H0 G H σ gh tp D Q q => q _ _ G H rfl (Step.refl gh tp) (.int i)
theorem ye_b {b : Bool} : Pd K (tC (.bl b)) ρ (.bool b) := fun T H0 G H σ gh tp D Q q => q _ _ G H rfl (Step.refl gh tp) (.bl b)
theorem ye_n : Pd K (tC .non) ρ .none := fun T H0 G H σ gh tp D Q q => q _ _ G H rfl (Step.refl gh tp) .non
theorem ye_s {x : Str} : Pd K (tC (.str x)) ρ (.str x) := fun T H0 G H σ gh tp D Q q => q _ _ G H rfl (Step.refl gh tp) (.str x)
theorem rl_v {i : Nat} {xs : List PyData} (e : ρ[i]? = some (.ml xs)) : Rl K (tVar i) ρ (fun x => x = xs) := fun T H0 G H σ gh tp D Q q => by
  obtain ⟨o, e1, l, vs, rfl, hl, x, gl, h0, nt⟩ := D.at e
  exact ⟨_, e1, q xs l vs G H rfl (Step.refl gh tp) (.inr ⟨hl, nt⟩) x⟩
theorem rl_of {xs : List PyData} (h : Pd K te ρ (.list xs)) : Rl K te ρ (fun x => x = xs) := fun T H0 G H σ gh tp D Q q =>
  h T H0 G H σ gh tp D Q fun d v G' H' p s x => by
    subst p
    cases x with
    | lst e a => exact q xs _ _ G' H' rfl s (.inl e) a

/-! ### operations on ints -/
theorem ye_int2 {r : R2} {Pa Pb : PyData → Prop} (ha : Pe K ta ρ Pa) (hb : Pe K tb ρ Pb) (h : ∀ x y, Pa x → Pb y → ∃ i j d v, x = .int i ∧ y = .int j ∧ P d ∧ (∀ G, Dn K G v d) ∧ ∀ H (Q : VK), Q v H → r (.int i) (.int j) H Q) : Pe K (tOp r ta tb) ρ P :=
  fun T H0 G H σ gh tp D Q q => ha.bind gh tp D fun x v G1 H1 p1 s1 gh1 tp1 D1 x1 => hb.bind gh1 tp1 D1 fun y u G2 H2 p2 s2 gh2 tp2 D2 x2 => by
    obtain ⟨i, j, d, z, rfl, rfl, hP, hz, hr⟩ := h x y p1 p2
    cases x1
    cases x2
    exact hr H2 Q (q d z G2 H2 hP (s1.trans s2) (hz G2))
theorem ye_I0 {g : Int → Int → V} {f : Int → Int → PyData} {Pa Pb : PyData → Prop} (ha : Pe K ta ρ Pa) (hb : Pe K tb ρ Pb) (hf : ∀ i j G, Dn K G (g i j) (f i j)) (h : ∀ x y, Pa x → Pb y → ∃ i j, x = .int i ∧ y = .int j ∧ P (f i j)) : Pe K (tOp (rI0 g) ta tb) ρ P :=
  ye_int2 ha hb fun x y p1 p2 => let ⟨i, j, e1, e2, p⟩ := h x y p1 p2; ⟨i, j, f i j, g i j, e1, e2, p, hf i j, fun H Q q => ⟨i, j, rfl, rfl, q⟩⟩
theorem ye_IC {C : Int → Int → Prop} {g : Int → Int → V} {f : Int → Int → PyData} {Pa Pb : PyData → Prop} (ha : Pe K ta ρ Pa) (hb : Pe K tb ρ Pb) (hf : ∀ i j G, Dn K G (g i j) (f i j)) (h : ∀ x y, Pa x → Pb y → ∃ i j, x = .int i ∧ y = .int j ∧ C i j ∧ P (f i j)) : Pe K (tOp (rI C g) ta tb) ρ P :=
  ye_int2 ha hb fun x y p1 p2 => let ⟨i, j, e1, e2, c, p⟩ := h x y p1 p2; ⟨i, j, f i j, g i j, e1, e2, p, hf i j, fun H Q q => ⟨i, j, rfl, rfl, c, q⟩⟩
end
end PD

namespace PD
open PySem PySem.Spec PyProof.Rows L2

/-! ### rules that serve any kind -/
section
variable {X : Cx}
def rPlus (K : PySem.W.Frag) : R2 := fun x y H Q => rI0 (fun i j => .int (i + j)) x y H Q ∨ (rCat x y H Q ∨ rCatA K x y H Q)
theorem opx_add : OpR X (binaryOp .Add) (rPlus X.K) := op_add.or (op_cat.or op_catA)
def rTimes (K : PySem.W.Frag) : R2 := fun x y H Q => rI CMul (fun i j => .int (i * j)) x y H Q ∨ (rI CMulW (fun i j => .int (i * j)) x y H Q ∨ (rRep x y H Q ∨ rRepT K x y H Q))
theorem opx_mul : OpR X (binaryOp .Mult) (rTimes X.K) := op_mul.or (op_mulW.or (op_rep.or op_repT))
abbrev rMinus : R2 := rI0 fun i j => .int (i - j)
abbrev rFd : R2 := rI CDivW fun i j => .int (i / j)
abbrev rMd : R2 := rI (fun _ j => 0 < j) fun i j => .int (i % j)
def rEqX (K : PySem.W.Frag) : R2 := fun x y H Q => rEq x y H Q ∨ rEqD K x y H Q
theorem opx_eq {k : Nat} (hr : Room k X.A) : OpR X (compareOp .Eq) (rEqX X.K) := op_eq.or (op_eqD hr.units)
def rNeX (K : PySem.W.Frag) : R2 := fun x y H Q => rNe x y H Q ∨ rNeD K x y H Q
theorem opx_ne {k : Nat} (hr : Room k X.A) : OpR X (compareOp .NotEq) (rNeX X.K) := op_ne.or (op_neD hr.units)
abbrev rSlX (K : PySem.W.Frag) : V → Option Int → Option Int → Hp → VK → Prop := fun x lo hi H Q => rSlL K x lo hi H Q ∨ rSlA K x lo hi H Q
theorem slx : SlR X (rSlX X.K) := sl_list.or sl_tupA
theorem CallR.or {f : Value} {r r' : List V → Hp → VK → Prop} (h : CallR X f r) (h' : CallR X f r') : CallR X f (fun x H Q => r x H Q ∨ r' x H Q) := by
  intro pins s σ H x u Q I rx q
  rcases q with q | q
  · exact h pins s σ H x u Q I rx q
  · exact h' pins s σ H x u Q I rx q
def rSumT (K : PySem.W.Frag) : List V → Hp → VK → Prop := fun vs H Q => ∃ (a : Addr) (ns : List Int), vs = [V.ref a] ∧ SqT K H a (ns.map V.int) ∧ Q (.int ns.sum) H
theorem cr_sumT (hc : X.calm = true) : CallR X (.builtin "sum") (rSumT X.K) := by
  intro pins s σ H vs us Q I r h
  obtain ⟨a, ns, rfl, hs, q⟩ := h
  obtain ⟨its, rv, ht, _⟩ := I.tuple hs
  rw [Vals.ref1 r]
  have hi := rv.ints
  obtain ⟨xs, hx⟩ := hi.allInts.items
  have hn : numsOf its.toArray.toList = ns := by rw [show its.toArray.toList = its from rfl, hi.numsOf]
  have hl : s.heap.IsTuple a its.toArray := ht
  rw [hx] at hl hn
  rw [nums_intItems] at hn
  refine PySem.W.ktm_sumG (I.ok.hd hc) hl fun h' tk t' hk => ⟨.int _, H, I.kept hk, ⟨t', ?_⟩, q⟩
  rw [preSum_eq, List.take_of_length_le (by simp), hn]
abbrev rSumX (K : PySem.W.Frag) : List V → Hp → VK → Prop := fun x H Q => rSum K x H Q ∨ rSumT K x H Q
theorem callx_sum (hc : X.calm = true) : CallR X (.builtin "sum") (rSumX X.K) := CallR.or (cr_sum hc) (cr_sumT hc)
abbrev rMaxX (K : PySem.W.Frag) : List V → Hp → VK → Prop := fun xs H Q => (∃ i j, xs = [V.int i, V.int j] ∧ Q (.int (if j > i then j else i)) H) ∨ rMax K xs H Q
theorem callx_max (hc : X.calm = true) : CallR X (.builtin "max") (rMaxX X.K) := CallR.or (call_max2 hc) (cr_max hc)
abbrev rMinX (K : PySem.W.Frag) : List V → Hp → VK → Prop := fun xs H Q => (∃ i j, xs = [V.int i, V.int j] ∧ Q (.int (if j < i then j else i)) H) ∨ rMin K xs H Q
theorem callx_min (hc : X.calm = true) : CallR X (.builtin "min") (rMinX X.K) := CallR.or (call_min2 hc) (cr_min hc)
abbrev rLen (K : PySem.W.Frag) : List V → Hp → VK → Prop := fun xs H Q => ∃ p ys, xs = [V.ref p] ∧ (SqL K H p ys ∨ SqT K H p ys) ∧ Q (.int ys.length) H
abbrev rListOf (K : PySem.W.Frag) : List V → Hp → VK → Prop := fun xs H Q => ∃ p ys, xs = [V.ref p] ∧ (SqL K H p ys ∨ SqT K H p ys) ∧ ∀ l, H l = none → Q (.ref l) (upd H l (.lst ys))
abbrev rTupOf (K : PySem.W.Frag) : List V → Hp → VK → Prop := fun xs H Q => ∃ p ys, xs = [V.ref p] ∧ ((SqL K H p ys ∧ ∀ l, H l = none → Q (.ref l) (upd H l (.tup ys))) ∨ (SqT K H p ys ∧ Q (.ref p) H))
abbrev rAbs : List V → Hp → VK → Prop := fun xs H Q => ∃ i, xs = [V.int i] ∧ Q (.int (if i < 0 then -i else i)) H
abbrev rInt1 : List V → Hp → VK → Prop := fun xs H Q => (∃ i, xs = [V.int i] ∧ Q (.int i) H) ∨ ∃ k, xs = [V.bl k] ∧ Q (.int (if k then 1 else 0)) H
end

/-! ### new lists -/
def Nl (K : PySem.W.Frag) (te : TE) (ρ : Rho) (P : List PyData → Prop) : Prop := ∀ (T : Addr → Prop) (H0 G H : Hp) (σ : L2.St), Same G H → (∀ a, T a → Tp G H a) → Den T K H0 G H σ ρ →
  ∀ Q : VK, (∀ xs p vs G' H', P xs → Step T G H G' H' → H p = none → ¬ T p → G' p = none → H' p = some (.lst vs) → DnAll K G' vs xs → Q (.ref p) H') → te σ H Q
abbrev Nld (K : PySem.W.Frag) (te : TE) (ρ : Rho) (xs : List PyData) : Prop := Nl K te ρ (fun x => x = xs)
theorem tape_some {T : Addr → Prop} {G H : Hp} (tp : ∀ a, T a → Tp G H a) {p : Addr} (h : H p = none) : ¬ T p := fun t => by
  obtain ⟨_, _, _, _, _, e, _⟩ := tp p t
  rw [h] at e
  cases e
/-- what was made joins the data -/
theorem Step.join {T : Addr → Prop} {G H G' H' : Hp} {p : Addr} {o : HO} (s : Step T G H G' H') (hp : H p = none) (nt : ¬ T p) (gp : G' p = none) (h : H' p = some o) : Step T G H (upd G' p o) H' := by
  refine ⟨fun a u e => ?_, fun a u e => ?_, s.h, fun a e n => ?_, fun a t => ?_⟩
  · have := s.g a u e
    rw [upd_ne (ne_of_none this gp)]
    exact this
  · by_cases q : a = p
    · rw [q, upd_same] at e
      cases e
      rw [q]
      exact h
    · rw [upd_ne q] at e
      exact s.gh _ _ e
  · rw [upd_ne (fun z => n (by rw [z]; exact hp))]
    exact s.fr a e n
  · have q := s.tp a t
    have nap : a ≠ p := fun z => nt (z ▸ t)
    obtain ⟨b, ns, x, y, m, e, eb, ea, r⟩ := id q
    refine q.mono (fun c u ec => by rw [upd_ne (ne_of_none ec gp)]; exact ec) rfl ?_
    rw [upd_ne nap]
    exact ea
section
variable {K : PySem.W.Frag} {ρ : Rho} {te ta tb tc : TE} {P P' : PyData → Prop} {t u : TT}
theorem Nl.pe {PL : List PyData → Prop} (h : Nl K te ρ PL) : Pe K te ρ (fun d => ∃ xs, d = .list xs ∧ PL xs) := fun T H0 G H σ gh tp D Q q =>
  h T H0 G H σ gh tp D Q fun xs p vs G' H' px s hp nt gp hl a => q (.list xs) (.ref p) (upd G' p (.lst vs)) H' ⟨xs, rfl, px⟩ (s.join hp nt gp hl) (.lst upd_same (a.mono fun c u e => by rw [upd_ne (ne_of_none e gp)]; exact e))
theorem Nl.pd {xs : List PyData} (h : Nld K te ρ xs) : Pd K te ρ (.list xs) := h.pe.imp fun d ⟨ys, e, e2⟩ => by rw [e, e2]
theorem Nl.rl {PL : List PyData → Prop} (h : Nl K te ρ PL) : Rl K te ρ PL := fun T H0 G H σ gh tp D Q q =>
  h T H0 G H σ gh tp D Q fun xs p vs G' H' px s hp nt gp hl a => q xs p vs G' H' px s (.inr ⟨hl, nt⟩) a
theorem Nl.imp {PL PL' : List PyData → Prop} (h : Nl K te ρ PL) (i : ∀ d, PL d → PL' d) : Nl K te ρ PL' := fun T H0 G H σ gh tp D Q q => h T H0 G H σ gh tp D Q fun xs p vs G' H' px => q xs p vs G' H' (i xs px)
theorem Rl.imp {PL PL' : List PyData → Prop} (h : Rl K te ρ PL) (i : ∀ d, PL d → PL' d) : Rl K te ρ PL' := fun T H0 G H σ gh tp D Q q => h T H0 G H σ gh tp D Q fun xs p vs G' H' px => q xs p vs G' H' (i xs px)
/-- a new object ends it -/
theorem new_end {T : Addr → Prop} {G H : Hp} {xs : List PyData} {vs : List V} {Q : VK} (gh : Same G H) (tp : ∀ a, T a → Tp G H a) (a : DnAll K G vs xs)
    (q : ∀ p G' H', Step T G H G' H' → H p = none → ¬ T p → G' p = none → H' p = some (.lst vs) → DnAll K G' vs xs → Q (.ref p) H') : ∀ p, H p = none → Q (.ref p) (upd H p (.lst vs)) := fun p hp =>
  q p G _ (Step.newM gh tp hp) hp (tape_some tp hp) (gh.free hp) upd_same a
theorem new_tup {T : Addr → Prop} {G H : Hp} {xs : List PyData} {vs : List V} {Q : VK} (gh : Same G H) (tp : ∀ a, T a → Tp G H a) (a : DnAll K G vs xs)
    (q : ∀ v G' H', Step T G H G' H' → Dn K G' v (.tuple xs) → Q v H') : ∀ p, H p = none → Q (.ref p) (upd H p (.tup vs)) := fun p hp =>
  q (.ref p) (upd G p (.tup vs)) _ (Step.new gh tp hp) (.tup (.inl (.inl upd_same)) (a.mono fun c u e => by rw [upd_ne (ne_of_none e (gh.free hp))]; exact e))

/-! ### ints -/
theorem dn_int {f : Int → Int → Int} : ∀ i j G, Dn K G ((fun i j => V.int (f i j)) i j) ((fun i j => PyData.int (f i j)) i j) := fun _ _ _ => .int _
theorem dn_bl {f : Int → Int → Bool} : ∀ i j G, Dn K G ((fun i j => V.bl (f i j)) i j) ((fun i j => PyData.bool (f i j)) i j) := fun _ _ _ => .bl _
section
variable {Pa Pb : PyData → Prop}
theorem ye_add (ha : Pe K ta ρ Pa) (hb : Pe K tb ρ Pb) (h : ∀ x y, Pa x → Pb y → ∃ i j, x = .int i ∧ y = .int j ∧ P (.int (i + j))) : Pe K (tOp (rPlus K) ta tb) ρ P :=
  ye_int2 ha hb fun x y p1 p2 => let ⟨i, j, e1, e2, p⟩ := h x y p1 p2; ⟨i, j, _, _, e1, e2, p, fun _ => .int _, fun H Q q => .inl ⟨i, j, rfl, rfl, q⟩⟩
theorem ye_sub (ha : Pe K ta ρ Pa) (hb : Pe K tb ρ Pb) (h : ∀ x y, Pa x → Pb y → ∃ i j, x = .int i ∧ y = .int j ∧ P (.int (i - j))) : Pe K (tOp rMinus ta tb) ρ P :=
  ye_I0 ha hb dn_int h
theorem ye_mul (ha : Pe K ta ρ Pa) (hb : Pe K tb ρ Pb) (h : ∀ x y, Pa x → Pb y → ∃ i j, x = .int i ∧ y = .int j ∧ (CMul i j ∨ CMulW i j) ∧ P (.int (i * j))) : Pe K (tOp (rTimes K) ta tb) ρ P :=
  ye_int2 ha hb fun x y p1 p2 => let ⟨i, j, e1, e2, c, p⟩ := h x y p1 p2; ⟨i, j, _, _, e1, e2, p, fun _ => .int _, fun H Q q => c.elim (fun c => .inl ⟨i, j, rfl, rfl, c, q⟩) fun c => .inr (.inl ⟨i, j, rfl, rfl, c, q⟩)⟩
theorem ye_fd (ha : Pe K ta ρ Pa) (hb : Pe K tb ρ Pb) (h : ∀ x y, Pa x → Pb y → ∃ i j, x = .int i ∧ y = .int j ∧ CDivW i j ∧ P (.int (i / j))) : Pe K (tOp rFd ta tb) ρ P :=
  ye_IC ha hb dn_int h
theorem ye_md (ha : Pe K ta ρ Pa) (hb : Pe K tb ρ Pb) (h : ∀ x y, Pa x → Pb y → ∃ i j, x = .int i ∧ y = .int j ∧ 0 < j ∧ P (.int (i % j))) : Pe K (tOp rMd ta tb) ρ P :=
  ye_IC ha hb dn_int h
theorem ye_pow (ha : Pe K ta ρ Pa) (hb : Pe K tb ρ Pb) (h : ∀ x y, Pa x → Pb y → ∃ i j, x = .int i ∧ y = .int j ∧ CPow i j ∧ P (.int (i ^ j.toNat))) : Pe K (tOp (rI CPow fun i j => .int (i ^ j.toNat)) ta tb) ρ P :=
  ye_IC ha hb dn_int h
/-- < <= > >= -/
theorem ye_cp {f : Int → Int → Bool} (ha : Pe K ta ρ Pa) (hb : Pe K tb ρ Pb) (h : ∀ x y, Pa x → Pb y → ∃ i j, x = .int i ∧ y = .int j ∧ P (.bool (f i j))) : Pe K (tOp (rI0 fun i j => .bl (f i j)) ta tb) ρ P :=
  ye_I0 ha hb dn_bl h
theorem ye_ng (ha : Pe K ta ρ Pa) (h : ∀ x, Pa x → ∃ i, x = .int i ∧ P (.int (-i))) : Pe K (tUn (rU fun i => .int (-i)) ta) ρ P := fun T H0 G H σ gh tp D Q q =>
  ha.bind gh tp D fun x v G1 H1 p1 s1 gh1 tp1 D1 x1 => by
    obtain ⟨i, rfl, hP⟩ := h x p1
    cases x1
    exact ⟨i, rfl, q _ _ G1 H1 hP s1 (.int _)⟩
end
section
variable {i j : Int}
theorem yd_add (ha : Pd K ta ρ (.int i)) (hb : Pd K tb ρ (.int j)) : Pd K (tOp (rPlus K) ta tb) ρ (.int (i + j)) := ye_add ha hb fun _ _ e1 e2 => ⟨i, j, e1, e2, rfl⟩
theorem yd_sub (ha : Pd K ta ρ (.int i)) (hb : Pd K tb ρ (.int j)) : Pd K (tOp rMinus ta tb) ρ (.int (i - j)) := ye_sub ha hb fun _ _ e1 e2 => ⟨i, j, e1, e2, rfl⟩
theorem yd_mul (ha : Pd K ta ρ (.int i)) (hb : Pd K tb ρ (.int j)) (c : CMul i j ∨ CMulW i j) : Pd K (tOp (rTimes K) ta tb) ρ (.int (i * j)) := ye_mul ha hb fun _ _ e1 e2 => ⟨i, j, e1, e2, c, rfl⟩
theorem cdiv_of {i j : Int} (h : 0 < j) (hj : j < 2 ^ 200) : CDivW i j := wide_div (b := 200) h (by omega) (by decide) (by decide)
theorem yd_fd (ha : Pd K ta ρ (.int i)) (hb : Pd K tb ρ (.int j)) (h : 0 < j) (hj : j < 2 ^ 200) : Pd K (tOp rFd ta tb) ρ (.int (i / j)) := ye_fd ha hb fun _ _ e1 e2 => ⟨i, j, e1, e2, cdiv_of h hj, rfl⟩
theorem yd_md (ha : Pd K ta ρ (.int i)) (hb : Pd K tb ρ (.int j)) (h : 0 < j) : Pd K (tOp rMd ta tb) ρ (.int (i % j)) := ye_md ha hb fun _ _ e1 e2 => ⟨i, j, e1, e2, h, rfl⟩
theorem yd_pow (ha : Pd K ta ρ (.int i)) (hb : Pd K tb ρ (.int j)) (h : CPow i j) : Pd K (tOp (rI CPow fun i j => .int (i ^ j.toNat)) ta tb) ρ (.int (i ^ j.toNat)) := ye_pow ha hb fun _ _ e1 e2 => ⟨i, j, e1, e2, h, rfl⟩
theorem yd_cp {f : Int → Int → Bool} (ha : Pd K ta ρ (.int i)) (hb : Pd K tb ρ (.int j)) : Pd K (tOp (rI0 fun i j => .bl (f i j)) ta tb) ρ (.bool (f i j)) := ye_cp ha hb fun _ _ e1 e2 => ⟨i, j, e1, e2, rfl⟩
theorem yd_ng (ha : Pd K ta ρ (.int i)) : Pd K (tUn (rU fun i => .int (-i)) ta) ρ (.int (-i)) := ye_ng ha fun _ e => ⟨i, e, rfl⟩
end

/-! ### == of ints, bools, texts, None; of data -/
def scalD : PyData → PyData → Bool
  | .none, .none | .bool _, .bool _ | .int _, .int _ | .str _, .str _ => true
  | _, _ => false
def eqS : PyData → PyData → Bool
  | .none, .none => true
  | .bool a, .bool b => decide (a = b)
  | .int a, .int b => decide (a = b)
  | .str a, .str b => decide (a = b)
  | _, _ => false
theorem Dn.det : ∀ {G : Hp} {v u : V} {d e : PyData}, scalD d e = true → Dn K G v d → Dn K G u e → scal v u = true ∧ decide (v = u) = eqS d e
  | _, _, _, .none, .none, _, .non, .non => ⟨rfl, rfl⟩
  | _, _, _, .bool a, .bool b, _, .bl _, .bl _ => ⟨rfl, by simp [eqS]⟩
  | _, _, _, .int a, .int b, _, .int _, .int _ => ⟨rfl, by simp [eqS]⟩
  | _, _, _, .str a, .str b, _, .str _, .str _ => ⟨rfl, by simp [eqS]⟩
theorem yd_eqS {x y : PyData} (ha : Pd K ta ρ x) (hb : Pd K tb ρ y) (h : scalD x y = true) : Pd K (tOp (rEqX K) ta tb) ρ (.bool (eqS x y)) := fun T H0 G H σ gh tp D Q q =>
  ha.bind gh tp D fun x' v G1 H1 p1 s1 gh1 tp1 D1 x1 => hb.bind gh1 tp1 D1 fun y' u G2 H2 p2 s2 gh2 tp2 D2 x2 => by
    subst p1 p2
    obtain ⟨a, b⟩ := Dn.det h (x1.mono s2.g) x2
    exact .inl ⟨a, by rw [b]; exact q _ _ G2 H2 rfl (s1.trans s2) (.bl _)⟩
theorem yd_neS {x y : PyData} (ha : Pd K ta ρ x) (hb : Pd K tb ρ y) (h : scalD x y = true) : Pd K (tOp (rNeX K) ta tb) ρ (.bool (!eqS x y)) := fun T H0 G H σ gh tp D Q q =>
  ha.bind gh tp D fun x' v G1 H1 p1 s1 gh1 tp1 D1 x1 => hb.bind gh1 tp1 D1 fun y' u G2 H2 p2 s2 gh2 tp2 D2 x2 => by
    subst p1 p2
    obtain ⟨a, b⟩ := Dn.det h (x1.mono s2.g) x2
    exact .inl ⟨a, by rw [b]; exact q _ _ G2 H2 rfl (s1.trans s2) (.bl _)⟩
theorem yd_eqD {x y : PyData} (ha : Pd K ta ρ x) (hb : Pd K tb ρ y) (h1 : SeqAt.shaped x = true) (h2 : SeqAt.shaped y = true) : Pd K (tOp (rEqX K) ta tb) ρ (.bool (PyData.eqv x y)) := fun T H0 G H σ gh tp D Q q =>
  ha.bind gh tp D fun x' v G1 H1 p1 s1 gh1 tp1 D1 x1 => hb.bind gh1 tp1 D1 fun y' u G2 H2 p2 s2 gh2 tp2 D2 x2 => by
    subst p1 p2
    exact .inr ⟨x', y', ((x1.mono s2.g).mono gh2).dp, (x2.mono gh2).dp, h1, h2, q _ _ G2 H2 rfl (s1.trans s2) (.bl _)⟩
theorem yd_neD {x y : PyData} (ha : Pd K ta ρ x) (hb : Pd K tb ρ y) (h1 : SeqAt.shaped x = true) (h2 : SeqAt.shaped y = true) : Pd K (tOp (rNeX K) ta tb) ρ (.bool (!PyData.eqv x y)) := fun T H0 G H σ gh tp D Q q =>
  ha.bind gh tp D fun x' v G1 H1 p1 s1 gh1 tp1 D1 x1 => hb.bind gh1 tp1 D1 fun y' u G2 H2 p2 s2 gh2 tp2 D2 x2 => by
    subst p1 p2
    exact .inr ⟨x', y', ((x1.mono s2.g).mono gh2).dp, (x2.mono gh2).dp, h1, h2, q _ _ G2 H2 rfl (s1.trans s2) (.bl _)⟩
def isNone : PyData → Bool
  | .none => true
  | _ => false
theorem Dn.isN {G : Hp} {v : V} {d : PyData} (h : Dn K G v d) : decide (v = .non) = isNone d := by
  cases h <;> simp [isNone]
theorem yd_isN {x : PyData} (ha : Pd K ta ρ x) : Pd K (tOp (fun x y H Q => y = .non ∧ Q (.bl (decide (x = .non))) H) ta (tC .non)) ρ (.bool (isNone x)) := fun T H0 G H σ gh tp D Q q =>
  ha.bind gh tp D fun x' v G1 H1 p1 s1 gh1 tp1 D1 x1 => by
    subst p1
    exact ⟨rfl, by rw [x1.isN]; exact q _ _ G1 H1 rfl s1 (.bl _)⟩
theorem yd_ntN {x : PyData} (ha : Pd K ta ρ x) : Pd K (tOp (fun x y H Q => y = .non ∧ Q (.bl (!decide (x = .non))) H) ta (tC .non)) ρ (.bool (!isNone x)) := fun T H0 G H σ gh tp D Q q =>
  ha.bind gh tp D fun x' v G1 H1 p1 s1 gh1 tp1 D1 x1 => by
    subst p1
    exact ⟨rfl, by rw [x1.isN]; exact q _ _ G1 H1 rfl s1 (.bl _)⟩

/-! ### arguments -/
theorem ya_n : Pasd K tNil ρ [] := fun T H0 G H σ gh tp D Q q => q _ _ G H rfl (Step.refl gh tp) .nil
theorem ya_c {tr : TA} {PA : List Sl → Prop} {PR : List Sl → Prop} (h : Pe K te ρ P) (hr : Pas K tr ρ PA) (k : ∀ d ss, P d → PA ss → PR (.d d :: ss)) : Pas K (tCons te tr) ρ PR := fun T H0 G H σ gh tp D Q q =>
  h.bind gh tp D fun x v G1 H1 p1 s1 gh1 tp1 D1 x1 => hr.bind gh1 tp1 D1 fun ss vs G2 H2 p2 s2 gh2 tp2 D2 x2 => q _ _ G2 H2 (k x ss p1 p2) (s1.trans s2) (.cons (x1.mono s2.g) x2)
theorem ya_d {tr : TA} {d : PyData} {ss : List Sl} (h : Pd K te ρ d) (hr : Pasd K tr ρ ss) : Pasd K (tCons te tr) ρ (.d d :: ss) := ya_c h hr fun _ _ e1 e2 => by rw [e1, e2]
theorem ya_t {tr : TA} {i : Nat} {PA : List Sl → Prop} {PR : List Sl → Prop} (e : ρ[i]? = some .tp) (hr : Pas K tr ρ PA) (k : ∀ ss, PA ss → PR (.tp :: ss)) : Pas K (tCons (tVar i) tr) ρ PR := fun T H0 G H σ gh tp D Q q => by
  obtain ⟨o, e1, a, rfl, t⟩ := D.at e
  exact ⟨_, e1, hr.bind gh tp D fun ss vs G2 H2 p2 s2 gh2 tp2 D2 x2 => q _ _ G2 H2 (k ss p2) s2 (.cons ⟨a, rfl, t⟩ x2)⟩
theorem ya_td {tr : TA} {i : Nat} {ss : List Sl} (e : ρ[i]? = some .tp) (hr : Pasd K tr ρ ss) : Pasd K (tCons (tVar i) tr) ρ (.tp :: ss) := ya_t e hr fun _ e => by rw [e]
/-- a built-in's call by one datum -/
theorem ye_cb1 {r : List V → Hp → VK → Prop} {Pa : PyData → Prop} (ha : Pe K ta ρ Pa)
    (h : ∀ x, Pa x → ∀ T G H v, Same G H → (∀ a, T a → Tp G H a) → Dn K G v x → ∀ Q : VK, (∀ d z G' H', P d → Step T G H G' H' → Dn K G' z d → Q z H') → r [v] H Q) : Pe K (tCB r (tCons ta tNil)) ρ P := fun T H0 G H σ gh tp D Q q =>
  ha.bind gh tp D fun x v G1 H1 p1 s1 gh1 tp1 D1 x1 => h x p1 T G1 H1 v gh1 tp1 x1 Q fun d z G' H' p s => q d z G' H' p (s1.trans s)
theorem ye_cb2 {r : List V → Hp → VK → Prop} {Pa Pb : PyData → Prop} (ha : Pe K ta ρ Pa) (hb : Pe K tb ρ Pb)
    (h : ∀ x y, Pa x → Pb y → ∀ T G H v u, Same G H → (∀ a, T a → Tp G H a) → Dn K G v x → Dn K G u y → ∀ Q : VK, (∀ d z G' H', P d → Step T G H G' H' → Dn K G' z d → Q z H') → r [v, u] H Q) : Pe K (tCB r (tCons ta (tCons tb tNil))) ρ P := fun T H0 G H σ gh tp D Q q =>
  ha.bind gh tp D fun x v G1 H1 p1 s1 gh1 tp1 D1 x1 => hb.bind gh1 tp1 D1 fun y u G2 H2 p2 s2 gh2 tp2 D2 x2 => h x y p1 p2 T G2 H2 v u gh2 tp2 (x1.mono s2.g) x2 Q fun d z G' H' p s => q d z G' H' p ((s1.trans s2).trans s)
/-- an end that changes nothing -/
theorem same_end {T : Addr → Prop} {G H : Hp} {d : PyData} {z : V} {Q : VK} (gh : Same G H) (tp : ∀ a, T a → Tp G H a) (p : P d) (x : Dn K G z d) (q : ∀ d z G' H', P d → Step T G H G' H' → Dn K G' z d → Q z H') : Q z H := q d z G H p (Step.refl gh tp) x
theorem ye_len {Pa : PyData → Prop} (ha : Pe K ta ρ Pa) (h : ∀ x, Pa x → ∃ xs, (x = .list xs ∨ x = .tuple xs) ∧ P (.int xs.length)) : Pe K (tCB (rLen K) (tCons ta tNil)) ρ P := ye_cb1 ha fun x p1 T G H v gh tp x1 Q q => by
  obtain ⟨xs, e, hP⟩ := h x p1
  rcases e with rfl | rfl
  · cases x1 with
    | @lst a vs _ e1 a1 => exact ⟨a, vs, rfl, .inl (.inl (.inl (gh _ _ e1))), q _ _ G H (by rw [a1.length]; exact hP) (Step.refl gh tp) (.int _)⟩
  · cases x1 with
    | @tup a vs _ e1 a1 => exact ⟨a, vs, rfl, .inr (sqt_mono gh e1), q _ _ G H (by rw [a1.length]; exact hP) (Step.refl gh tp) (.int _)⟩
theorem yd_lenT {xs : List PyData} (ha : Pd K ta ρ (.tuple xs)) : Pd K (tCB (rLen K) (tCons ta tNil)) ρ (.int xs.length) := ye_len ha fun x e => ⟨xs, .inr e, rfl⟩
theorem yd_lenL {xs : List PyData} (ha : Pd K ta ρ (.list xs)) : Pd K (tCB (rLen K) (tCons ta tNil)) ρ (.int xs.length) := ye_len ha fun x e => ⟨xs, .inl e, rfl⟩
theorem ye_lenR {PL : List PyData → Prop} (ha : Rl K ta ρ PL) (h : ∀ xs, PL xs → P (.int xs.length)) : Pe K (tCB (rLen K) (tCons ta tNil)) ρ P := fun T H0 G H σ gh tp D Q q =>
  ha.bind gh tp D fun xs p vs G1 H1 p1 s1 gh1 tp1 D1 rd a => ⟨p, vs, rfl, .inl (rd.sq gh1), q _ _ G1 H1 (by rw [a.length]; exact h xs p1) s1 (.int _)⟩
theorem yd_lenR {xs : List PyData} (ha : Rl K ta ρ (fun x => x = xs)) : Pd K (tCB (rLen K) (tCons ta tNil)) ρ (.int xs.length) := ye_lenR ha fun _ e => by rw [e]
theorem yd_sumT {ns : List Int} (ha : Pd K ta ρ (.tuple (ns.map .int))) : Pd K (tCB (rSumX K) (tCons ta tNil)) ρ (.int ns.sum) := ye_cb1 ha fun x p1 T G H v gh tp x1 Q q => by
  subst p1
  cases x1 with
  | @tup a vs _ e1 a1 =>
    have := a1.ints
    subst this
    exact .inr ⟨a, ns, rfl, sqt_mono gh e1, q _ _ G H rfl (Step.refl gh tp) (.int _)⟩
theorem ye_sumR {PL : List PyData → Prop} (ha : Rl K ta ρ PL) (h : ∀ xs, PL xs → ∃ ns : List Int, xs = ns.map .int ∧ P (.int ns.sum)) : Pe K (tCB (rSumX K) (tCons ta tNil)) ρ P := fun T H0 G H σ gh tp D Q q =>
  ha.bind gh tp D fun xs p vs G1 H1 p1 s1 gh1 tp1 D1 rd a => by
    obtain ⟨ns, rfl, hP⟩ := h xs p1
    have := a.ints
    subst this
    exact .inl ⟨p, ns, rfl, rd.sq gh1, q _ _ G1 H1 hP s1 (.int _)⟩
theorem yd_sumR {ns : List Int} (ha : Rl K ta ρ (fun x => x = ns.map .int)) : Pd K (tCB (rSumX K) (tCons ta tNil)) ρ (.int ns.sum) := ye_sumR ha fun _ e => ⟨ns, e, rfl⟩
theorem ye_max2 {Pa Pb : PyData → Prop} (ha : Pe K ta ρ Pa) (hb : Pe K tb ρ Pb) (h : ∀ x y, Pa x → Pb y → ∃ i j, x = .int i ∧ y = .int j ∧ P (.int (max i j))) : Pe K (tCB (rMaxX K) (tCons ta (tCons tb tNil))) ρ P := ye_cb2 ha hb fun x y p1 p2 T G H v u gh tp x1 x2 Q q => by
  obtain ⟨i, j, rfl, rfl, hP⟩ := h x y p1 p2
  cases x1
  cases x2
  refine .inl ⟨i, j, rfl, q _ _ G H hP (Step.refl gh tp) ?_⟩
  rw [show (if j > i then j else i) = max i j by split <;> omega]
  exact .int _
theorem yd_max2 {i j : Int} (ha : Pd K ta ρ (.int i)) (hb : Pd K tb ρ (.int j)) : Pd K (tCB (rMaxX K) (tCons ta (tCons tb tNil))) ρ (.int (max i j)) := ye_max2 ha hb fun _ _ e1 e2 => ⟨i, j, e1, e2, rfl⟩
theorem ye_min2 {Pa Pb : PyData → Prop} (ha : Pe K ta ρ Pa) (hb : Pe K tb ρ Pb) (h : ∀ x y, Pa x → Pb y → ∃ i j, x = .int i ∧ y = .int j ∧ P (.int (min i j))) : Pe K (tCB (rMinX K) (tCons ta (tCons tb tNil))) ρ P := ye_cb2 ha hb fun x y p1 p2 T G H v u gh tp x1 x2 Q q => by
  obtain ⟨i, j, rfl, rfl, hP⟩ := h x y p1 p2
  cases x1
  cases x2
  refine .inl ⟨i, j, rfl, q _ _ G H hP (Step.refl gh tp) ?_⟩
  rw [show (if j < i then j else i) = min i j by split <;> omega]
  exact .int _
theorem yd_min2 {i j : Int} (ha : Pd K ta ρ (.int i)) (hb : Pd K tb ρ (.int j)) : Pd K (tCB (rMinX K) (tCons ta (tCons tb tNil))) ρ (.int (min i j)) := ye_min2 ha hb fun _ _ e1 e2 => ⟨i, j, e1, e2, rfl⟩
theorem ye_abs {Pa : PyData → Prop} (ha : Pe K ta ρ Pa) (h : ∀ x, Pa x → ∃ i, x = .int i ∧ P (.int (i.natAbs : Int))) : Pe K (tCB rAbs (tCons ta tNil)) ρ P := ye_cb1 ha fun x p1 T G H v gh tp x1 Q q => by
  obtain ⟨i, rfl, hP⟩ := h x p1
  cases x1
  refine ⟨i, rfl, q _ _ G H hP (Step.refl gh tp) ?_⟩
  rw [show (if i < 0 then -i else i) = (i.natAbs : Int) by split <;> omega]
  exact .int _
theorem yd_abs {i : Int} (ha : Pd K ta ρ (.int i)) : Pd K (tCB rAbs (tCons ta tNil)) ρ (.int (i.natAbs : Int)) := ye_abs ha fun _ e => ⟨i, e, rfl⟩
theorem ye_toI {Pa : PyData → Prop} (ha : Pe K ta ρ Pa) (h : ∀ x, Pa x → ∃ i, x = .int i ∧ P (.int i)) : Pe K (tCB rInt1 (tCons ta tNil)) ρ P := ye_cb1 ha fun x p1 T G H v gh tp x1 Q q => by
  obtain ⟨i, rfl, hP⟩ := h x p1
  cases x1
  exact .inl ⟨i, rfl, q _ _ G H hP (Step.refl gh tp) (.int _)⟩
theorem yd_toI {i : Int} (ha : Pd K ta ρ (.int i)) : Pd K (tCB rInt1 (tCons ta tNil)) ρ (.int i) := ye_toI ha fun _ e => ⟨i, e, rfl⟩
theorem yd_toIb {b : Bool} (ha : Pd K ta ρ (.bool b)) : Pd K (tCB rInt1 (tCons ta tNil)) ρ (.int (if b then 1 else 0)) := ye_cb1 ha fun x p1 T G H v gh tp x1 Q q => by
  subst p1
  cases x1
  exact .inr ⟨b, rfl, q _ _ G H rfl (Step.refl gh tp) (.int _)⟩
theorem yd_gcd {i j : Int} (ha : Pd K ta ρ (.int i)) (hb : Pd K tb ρ (.int j)) : Pd K (tCB rGcd (tCons ta (tCons tb tNil))) ρ (.int ((Nat.gcd i.natAbs j.natAbs : Nat) : Int)) := ye_cb2 ha hb fun x y p1 p2 T G H v u gh tp x1 x2 Q q => by
  subst p1 p2
  cases x1
  cases x2
  exact ⟨i, j, rfl, q _ _ G H rfl (Step.refl gh tp) (.int _)⟩
/-! ### isinstance -/
def kindD : PyData → String
  | .none => "NoneType"
  | .bool _ => "bool"
  | .int _ => "int"
  | .str _ => "str"
  | .list _ => "list"
  | .tuple _ => "tuple"
  | .dict _ => "dict"
theorem Dn.ty {G H : Hp} (gh : Same G H) {v : V} {d : PyData} (h : Dn K G v d) : TyX K H v (.type (kindD d)) := by
  cases h with
  | non => exact .base .non
  | bl b => exact .base (.bl b)
  | int i => exact .base (.int i)
  | str x => exact .base (.str x)
  | lst e a => exact .base (.lst (gh _ _ e))
  | tup e a =>
    rcases e with (e | ⟨o, e⟩) | ⟨o, its, n, e, c, _⟩
    · exact .base (.tup (gh _ _ e))
    · exact .fTuple (gh _ _ e)
    · exact .kTuple e c
theorem yd_isi {x : PyData} {k n : String} {b : Bool} (ha : Pd K ta ρ x) (hk : kindD x = k) (h : kitB k n = some b) : Pd K (tCB (rIsi K) (tCons ta (tCons (tC (.ty n)) tNil))) ρ (.bool b) := fun T H0 G H σ gh tp D Q q =>
  ha.bind gh tp D fun x' v G1 H1 p1 s1 gh1 tp1 D1 x1 => by
    subst p1
    exact ⟨v, .ty n, _, _, b, rfl, .ty n, x1.ty gh1, kit_ty (by rw [hk]; exact h), q _ _ G1 H1 rfl s1 (.bl b)⟩
/-! ### displays -/
theorem dnall_of {T : Addr → Prop} {G : Hp} : ∀ {ds : List PyData} {vs : List V}, ArgsOk T K G (ds.map .d) vs → DnAll K G vs ds
  | [], _, .nil => .nil
  | _ :: _, _, .cons h t => .cons h (dnall_of t)
theorem ye_tup {ta : TA} {PA : List Sl → Prop} (h : Pas K ta ρ PA) (hP : ∀ ss, PA ss → ∃ ds, ss = ds.map .d ∧ ds.length ≤ sizeLine ∧ P (.tuple ds)) : Pe K (tTup ta) ρ P := fun T H0 G H σ gh tp D Q q =>
  h.bind gh tp D fun ss vs G1 H1 p1 s1 gh1 tp1 D1 x1 => by
    obtain ⟨ds, rfl, hl, hP⟩ := hP ss p1
    have a := dnall_of x1
    exact ⟨by rw [a.length]; exact hl, new_tup gh1 tp1 a fun v G' H' s x => q _ v G' H' hP (s1.trans s) x⟩
theorem yd_tup {ta : TA} {ds : List PyData} (h : Pasd K ta ρ (ds.map .d)) (hl : ds.length ≤ sizeLine := by exact Nat.le_of_ble_eq_true rfl) : Pd K (tTup ta) ρ (.tuple ds) := ye_tup h fun ss e => ⟨ds, e, hl, rfl⟩
theorem nl_lst {ta : TA} {PA : List Sl → Prop} {PL : List PyData → Prop} (h : Pas K ta ρ PA) (hP : ∀ ss, PA ss → ∃ ds, ss = ds.map .d ∧ ds.length ≤ sizeLine ∧ PL ds) : Nl K (tLst ta) ρ PL := fun T H0 G H σ gh tp D Q q =>
  h.bind gh tp D fun ss vs G1 H1 p1 s1 gh1 tp1 D1 x1 => by
    obtain ⟨ds, rfl, hl, hP⟩ := hP ss p1
    have a := dnall_of x1
    exact ⟨by rw [a.length]; exact hl, new_end gh1 tp1 a fun p G' H' s hp nt gp e a' => q ds p vs G' H' hP (s1.trans s) (s1.no hp nt) nt gp e a'⟩
theorem nd_lst {ta : TA} {ds : List PyData} (h : Pasd K ta ρ (ds.map .d)) (hl : ds.length ≤ sizeLine := by exact Nat.le_of_ble_eq_true rfl) : Nld K (tLst ta) ρ ds := nl_lst h fun ss e => ⟨ds, e, hl, rfl⟩
end
end PD

namespace PD
open PySem PySem.Spec PyProof.Rows L2

/-- xs[lo:hi] -/
def cut {α : Type} (xs : List α) (lo hi : Option Int) : List α := (xs.drop (HT.sIx xs.length 0 lo)).take (HT.sIx xs.length xs.length hi - HT.sIx xs.length 0 lo)
theorem cut_map {α β : Type} (f : α → β) (xs : List α) (lo hi : Option Int) : cut (xs.map f) lo hi = (cut xs lo hi).map f := by
  unfold cut
  rw [List.length_map, List.map_take, List.map_drop]
theorem cut_len {α : Type} (xs : List α) (lo hi : Option Int) : (cut xs lo hi).length ≤ xs.length := by
  unfold cut
  rw [List.length_take, List.length_drop]
  omega
theorem cutV_eq (xs : List V) (lo hi : Option Int) : cutV xs lo hi = cut xs lo hi := rfl
theorem cut_from {α : Type} (xs : List α) (k : Nat) : cut xs (some (k : Int)) none = xs.drop k := by
  unfold cut
  rw [HT.sIx_nat, HT.sIx_none, List.take_of_length_le (by rw [List.length_drop]; omega)]
  by_cases h : k ≤ xs.length
  · rw [Nat.min_eq_left h]
  · rw [Nat.min_eq_right (by omega), List.drop_of_length_le (Nat.le_refl _), List.drop_of_length_le (by omega)]
theorem cut_to {α : Type} (xs : List α) (k : Nat) : cut xs none (some (k : Int)) = xs.take k := by
  unfold cut
  rw [HT.sIx_nat, HT.sIx_none, List.drop_zero, Nat.sub_zero]
  by_cases h : k ≤ xs.length
  · rw [Nat.min_eq_left h]
  · rw [Nat.min_eq_right (by omega), List.take_of_length_le (Nat.le_refl _), List.take_of_length_le (by omega)]
theorem DnAll.cut {K : PySem.W.Frag} {G : Hp} {vs : List V} {ds : List PyData} (h : DnAll K G vs ds) (lo hi : Option Int) : DnAll K G (cutV vs lo hi) (PD.cut ds lo hi) := by
  rw [cutV_eq]
  unfold PD.cut
  rw [h.length]
  exact (h.drop _).take _
theorem atI_map {α β : Type} (f : α → β) (xs : List α) (i : Int) : atI (xs.map f) i = (atI xs i).map f := by
  unfold atI
  rw [List.length_map]
  cases ixN xs.length i with
  | none => rfl
  | some j =>
    show (xs.map f)[j]? = (xs[j]?).map f
    rw [List.getElem?_map]
theorem DnAll.atI {K : PySem.W.Frag} {G : Hp} {vs : List V} {ds : List PyData} {d : PyData} {i : Int} (h : DnAll K G vs ds) (e : L2.atI ds i = some d) : ∃ v, L2.atI vs i = some v ∧ Dn K G v d := by
  unfold L2.atI at e ⊢
  rw [h.length]
  cases q : ixN ds.length i with
  | none =>
    rw [q] at e
    cases e
  | some j =>
    rw [q] at e
    exact h.get e

section
variable {K : PySem.W.Frag} {ρ : Rho} {te ta tb tc : TE} {P P' : PyData → Prop} {t u : TT}
/-! ### subscripts -/
theorem ye_ixT {Pa Pb : PyData → Prop} (ha : Pe K ta ρ Pa) (hb : Pe K tb ρ Pb) (h : ∀ x y, Pa x → Pb y → ∃ xs i d, (x = .tuple xs ∨ x = .list xs) ∧ y = .int i ∧ atI xs i = some d ∧ P d) : Pe K (tOp (rIx K) ta tb) ρ P := fun T H0 G H σ gh tp D Q q =>
  ha.bind gh tp D fun x v G1 H1 p1 s1 gh1 tp1 D1 x1 => hb.bind gh1 tp1 D1 fun y u G2 H2 p2 s2 gh2 tp2 D2 x2 => by
    obtain ⟨xs, i, d, ex, rfl, e, hP⟩ := h x y p1 p2
    have x1 := x1.mono s2.g
    cases x2
    rcases ex with rfl | rfl
    · cases x1 with
      | @tup a vs _ e1 a1 =>
        obtain ⟨z, ez, dz⟩ := a1.atI e
        exact .inr (.inl ⟨a, vs, i, z, rfl, rfl, sqt_mono gh2 e1, ez, q d z G2 H2 hP (s1.trans s2) dz⟩)
    · cases x1 with
      | @lst a vs _ e1 a1 =>
        obtain ⟨z, ez, dz⟩ := a1.atI e
        exact .inl ⟨a, vs, i, z, rfl, rfl, .inl (.inl (gh2 _ _ e1)), ez, q d z G2 H2 hP (s1.trans s2) dz⟩
theorem ye_ixR {PL : List PyData → Prop} {Pb : PyData → Prop} (ha : Rl K ta ρ PL) (hb : Pe K tb ρ Pb) (h : ∀ xs y, PL xs → Pb y → ∃ i d, y = .int i ∧ atI xs i = some d ∧ P d) : Pe K (tOp (rIx K) ta tb) ρ P := fun T H0 G H σ gh tp D Q q =>
  ha.bind gh tp D fun xs p vs G1 H1 p1 s1 gh1 tp1 D1 rd a => hb.bind gh1 tp1 D1 fun y u G2 H2 p2 s2 gh2 tp2 D2 x2 => by
    obtain ⟨i, d, rfl, e, hP⟩ := h xs y p1 p2
    cases x2
    obtain ⟨z, ez, dz⟩ := (a.mono s2.g).atI e
    exact .inl ⟨p, vs, i, z, rfl, rfl, (rd.mono s2).sq gh2, ez, q d z G2 H2 hP (s1.trans s2) dz⟩
theorem yd_ixT {xs : List PyData} {i : Int} {d : PyData} (ha : Pd K ta ρ (.tuple xs)) (hb : Pd K tb ρ (.int i)) (e : atI xs i = some d) : Pd K (tOp (rIx K) ta tb) ρ d := ye_ixT ha hb fun x y e1 e2 => ⟨xs, i, d, .inl e1, e2, e, rfl⟩
theorem yd_ixL {xs : List PyData} {i : Int} {d : PyData} (ha : Pd K ta ρ (.list xs)) (hb : Pd K tb ρ (.int i)) (e : atI xs i = some d) : Pd K (tOp (rIx K) ta tb) ρ d := ye_ixT ha hb fun x y e1 e2 => ⟨xs, i, d, .inr e1, e2, e, rfl⟩
theorem yd_ixR {xs : List PyData} {i : Int} {d : PyData} (ha : Rl K ta ρ (fun x => x = xs)) (hb : Pd K tb ρ (.int i)) (e : atI xs i = some d) : Pd K (tOp (rIx K) ta tb) ρ d := ye_ixR ha hb fun x y e1 e2 => ⟨i, d, e2, by rw [e1]; exact e, rfl⟩

/-! ### slices -/
def Po (K : PySem.W.Frag) (to : TO) (ρ : Rho) (P : Option Int → Prop) : Prop := ∀ (T : Addr → Prop) (H0 G H : Hp) (σ : L2.St), Same G H → (∀ a, T a → Tp G H a) → Den T K H0 G H σ ρ →
  ∀ Q : Option Int → Hp → Prop, (∀ o G' H', P o → Step T G H G' H' → Q o H') → to σ H Q
abbrev Pod (K : PySem.W.Frag) (to : TO) (ρ : Rho) (o : Option Int) : Prop := Po K to ρ (fun x => x = o)
theorem yo_n : Pod K tNoPart ρ none := fun T H0 G H σ gh tp D Q q => q none G H rfl (Step.refl gh tp)
theorem yo_e {Pa : PyData → Prop} {PO : Option Int → Prop} (h : Pe K te ρ Pa) (hP : ∀ x, Pa x → ∃ i, x = .int i ∧ PO (some i)) : Po K (tPart te) ρ PO := fun T H0 G H σ gh tp D Q q =>
  h.bind gh tp D fun x v G1 H1 p1 s1 gh1 tp1 D1 x1 => by
    obtain ⟨i, rfl, p⟩ := hP x p1
    cases x1
    exact ⟨i, rfl, q _ G1 H1 p s1⟩
theorem yo_i {i : Int} (h : Pd K te ρ (.int i)) : Pod K (tPart te) ρ (some i) := yo_e h fun x e => ⟨i, e, rfl⟩
theorem Po.bind {to : TO} {PO : Option Int → Prop} {Q : Option Int → Hp → Prop} {T : Addr → Prop} {H0 G H : Hp} {σ : L2.St} (h : Po K to ρ PO) (gh : Same G H) (tp : ∀ a, T a → Tp G H a) (D : Den T K H0 G H σ ρ)
    (k : ∀ o G' H', PO o → Step T G H G' H' → Same G' H' → (∀ a, T a → Tp G' H' a) → Den T K H0 G' H' σ ρ → Q o H') : to σ H Q :=
  h T H0 G H σ gh tp D Q fun o G' H' p s => k o G' H' p s s.gh s.tp (D.mono s)
theorem yd_slT {xs : List PyData} {tl th : TO} {lo hi : Option Int} (ha : Pd K ta ρ (.tuple xs)) (hl : Pod K tl ρ lo) (hh : Pod K th ρ hi) : Pd K (tSl (rSlX K) ta tl th) ρ (.tuple (cut xs lo hi)) := fun T H0 G H σ gh tp D Q q =>
  ha.bind gh tp D fun x v G1 H1 p1 s1 gh1 tp1 D1 x1 => hl.bind gh1 tp1 D1 fun o1 G2 H2 p2 s2 gh2 tp2 D2 => hh.bind gh2 tp2 D2 fun o2 G3 H3 p3 s3 gh3 tp3 D3 => by
    subst p1 p2 p3
    have s := (s1.trans s2).trans s3
    have x1 := (x1.mono s2.g).mono s3.g
    cases x1 with
    | @tup a vs _ e1 a1 =>
      refine .inr ⟨a, vs, rfl, sqt_mono gh3 e1, ?_, fun _ => ?_⟩
      · rintro ⟨h1, h2⟩
        have e : cut xs o1 o2 = xs := by
          unfold cut
          rw [← a1.length, h1, h2, a1.length, List.drop_zero, Nat.sub_zero]
          exact List.take_of_length_le (Nat.le_refl _)
        exact q _ _ G3 H3 (by rw [e]) s (.tup e1 a1)
      · exact new_tup gh3 tp3 (a1.cut o1 o2) fun v G' H' s' x => q _ v G' H' rfl (s.trans s') x
theorem nd_slR {xs : List PyData} {tl th : TO} {lo hi : Option Int} (ha : Rl K ta ρ (fun x => x = xs)) (hl : Pod K tl ρ lo) (hh : Pod K th ρ hi) : Nld K (tSl (rSlX K) ta tl th) ρ (cut xs lo hi) := fun T H0 G H σ gh tp D Q q =>
  ha.bind gh tp D fun x p vs G1 H1 p1 s1 gh1 tp1 D1 rd a1 => hl.bind gh1 tp1 D1 fun o1 G2 H2 p2 s2 gh2 tp2 D2 => hh.bind gh2 tp2 D2 fun o2 G3 H3 p3 s3 gh3 tp3 D3 => by
    subst p1 p2 p3
    have s := (s1.trans s2).trans s3
    exact .inl ⟨p, vs, rfl, ((rd.mono s2).mono s3).sq gh3, new_end gh3 tp3 (((a1.mono s2.g).mono s3.g).cut o1 o2) fun p G' H' s' hp nt gp e a' => q _ p _ G' H' rfl (s.trans s') (s.no hp nt) nt gp e a'⟩
/-! ### + and * of lists and tuples -/
theorem ye_catT {Pa Pb : PyData → Prop} (ha : Pe K ta ρ Pa) (hb : Pe K tb ρ Pb) (h : ∀ x y, Pa x → Pb y → ∃ xs ys, x = .tuple xs ∧ y = .tuple ys ∧ xs.length + ys.length ≤ sizeLine ∧ P (.tuple (xs ++ ys))) : Pe K (tOp (rPlus K) ta tb) ρ P := fun T H0 G H σ gh tp D Q q =>
  ha.bind gh tp D fun x v G1 H1 p1 s1 gh1 tp1 D1 x1 => hb.bind gh1 tp1 D1 fun y u G2 H2 p2 s2 gh2 tp2 D2 x2 => by
    obtain ⟨xs, ys, rfl, rfl, hl, hP⟩ := h x y p1 p2
    have x1 := x1.mono s2.g
    cases x1 with
    | @tup a vs _ e1 a1 =>
      cases x2 with
      | @tup b us _ e2 a2 =>
        refine .inr (.inr ⟨a, b, vs, us, rfl, rfl, sqt_mono gh2 e1, sqt_mono gh2 e2, by rw [a1.length, a2.length]; exact hl, fun z => ?_, fun _ z => ?_, fun _ _ => ?_⟩)
        · subst z
          cases a1
          exact q _ _ G2 H2 hP (s1.trans s2) (.tup e2 a2)
        · subst z
          cases a2
          exact q _ _ G2 H2 (by rw [List.append_nil] at hP; exact hP) (s1.trans s2) (.tup e1 a1)
        · exact new_tup gh2 tp2 (a1.append a2) fun v G' H' s' x => q _ v G' H' hP ((s1.trans s2).trans s') x
theorem yd_catT {xs ys : List PyData} (ha : Pd K ta ρ (.tuple xs)) (hb : Pd K tb ρ (.tuple ys)) (hl : xs.length + ys.length ≤ sizeLine) : Pd K (tOp (rPlus K) ta tb) ρ (.tuple (xs ++ ys)) := ye_catT ha hb fun x y e1 e2 => ⟨xs, ys, e1, e2, hl, rfl⟩
theorem nl_cat {PL PM PN : List PyData → Prop} (ha : Rl K ta ρ PL) (hb : Rl K tb ρ PM) (h : ∀ xs ys, PL xs → PM ys → xs.length + ys.length ≤ sizeLine ∧ PN (xs ++ ys)) : Nl K (tOp (rPlus K) ta tb) ρ PN := fun T H0 G H σ gh tp D Q q =>
  ha.bind gh tp D fun xs p vs G1 H1 p1 s1 gh1 tp1 D1 rd a1 => hb.bind gh1 tp1 D1 fun ys r us G2 H2 p2 s2 gh2 tp2 D2 rd2 a2 => by
    obtain ⟨hl, hP⟩ := h xs ys p1 p2
    have a1 := a1.mono s2.g
    have s := s1.trans s2
    exact .inr (.inl ⟨p, r, vs, us, rfl, rfl, (rd.mono s2).at gh2, rd2.at gh2, by rw [a1.length, a2.length]; exact hl, new_end gh2 tp2 (a1.append a2) fun p G' H' s' hp nt gp e a' => q _ p _ G' H' hP (s.trans s') (s.no hp nt) nt gp e a'⟩)
theorem nd_cat {xs ys : List PyData} (ha : Rl K ta ρ (fun x => x = xs)) (hb : Rl K tb ρ (fun x => x = ys)) (hl : xs.length + ys.length ≤ sizeLine) : Nld K (tOp (rPlus K) ta tb) ρ (xs ++ ys) := nl_cat ha hb fun _ _ e1 e2 => by rw [e1, e2]; exact ⟨hl, rfl⟩
theorem nl_rep {PL PN : List PyData → Prop} {Pb : PyData → Prop} (ha : Rl K ta ρ PL) (hb : Pe K tb ρ Pb) (h : ∀ xs y, PL xs → Pb y → ∃ k : Int, y = .int k ∧ -(2 ^ 63) ≤ k ∧ k < 2 ^ 63 ∧ xs.length * k.toNat ≤ sizeLine ∧ PN (List.replicate k.toNat xs).flatten) : Nl K (tOp (rTimes K) ta tb) ρ PN := fun T H0 G H σ gh tp D Q q =>
  ha.bind gh tp D fun xs p vs G1 H1 p1 s1 gh1 tp1 D1 rd a1 => hb.bind gh1 tp1 D1 fun y u G2 H2 p2 s2 gh2 tp2 D2 x2 => by
    obtain ⟨k, rfl, h1, h2, hl, hP⟩ := h xs y p1 p2
    cases x2
    have a1 := a1.mono s2.g
    have s := s1.trans s2
    exact .inr (.inr (.inl ⟨p, k, vs, rfl, rfl, (rd.mono s2).at gh2, h1, h2, by rw [a1.length]; exact hl, new_end gh2 tp2 (a1.rep k.toNat) fun p G' H' s' hp nt gp e a' => q _ p _ G' H' hP (s.trans s') (s.no hp nt) nt gp e a'⟩))
theorem nd_rep {xs : List PyData} {k : Int} (ha : Rl K ta ρ (fun x => x = xs)) (hb : Pd K tb ρ (.int k)) (h1 : 0 ≤ k) (h2 : k < 2 ^ 63) (hl : xs.length * k.toNat ≤ sizeLine) : Nld K (tOp (rTimes K) ta tb) ρ (List.replicate k.toNat xs).flatten :=
  nl_rep ha hb fun _ _ e1 e2 => ⟨k, e2, by omega, h2, by rw [e1]; exact hl, by rw [e1]⟩
theorem yd_repT {xs : List PyData} {k : Int} (ha : Pd K ta ρ (.tuple xs)) (hb : Pd K tb ρ (.int k)) (hne : xs ≠ []) (h2 : 2 ≤ k) (h3 : k ≤ 1000) (hl : xs.length ≤ 1000) : Pd K (tOp (rTimes K) ta tb) ρ (.tuple (List.replicate k.toNat xs).flatten) := fun T H0 G H σ gh tp D Q q =>
  ha.bind gh tp D fun x v G1 H1 p1 s1 gh1 tp1 D1 x1 => hb.bind gh1 tp1 D1 fun y u G2 H2 p2 s2 gh2 tp2 D2 x2 => by
    subst p1 p2
    have x1 := x1.mono s2.g
    cases x2
    cases x1 with
    | @tup a vs _ e1 a1 =>
      exact .inr (.inr (.inr ⟨a, k, vs, rfl, rfl, sqt_mono gh2 e1, fun z => (by subst z; cases a1; exact hne rfl), h2, h3, by rw [a1.length]; exact hl, new_tup gh2 tp2 (a1.rep k.toNat) fun v G' H' s' x => q _ v G' H' rfl ((s1.trans s2).trans s') x⟩))
/-! ### list(..), tuple(..) -/
theorem nd_listR {xs : List PyData} (ha : Rl K ta ρ (fun x => x = xs)) : Nld K (tCB (rListOf K) (tCons ta tNil)) ρ xs := fun T H0 G H σ gh tp D Q q =>
  ha.bind gh tp D fun ys p vs G1 H1 p1 s1 gh1 tp1 D1 rd a1 => by
    subst p1
    exact ⟨p, vs, rfl, .inl (rd.sq gh1), new_end gh1 tp1 a1 fun p G' H' s' hp nt gp e a' => q _ p _ G' H' rfl (s1.trans s') (s1.no hp nt) nt gp e a'⟩
theorem nl_listT {PA : PyData → Prop} {PL : List PyData → Prop} (ha : Pe K ta ρ PA) (h : ∀ x, PA x → ∃ xs, x = .tuple xs ∧ PL xs) : Nl K (tCB (rListOf K) (tCons ta tNil)) ρ PL := fun T H0 G H σ gh tp D Q q =>
  ha.bind gh tp D fun x v G1 H1 p1 s1 gh1 tp1 D1 x1 => by
    obtain ⟨xs, rfl, hP⟩ := h x p1
    cases x1 with
    | @tup a vs _ e1 a1 =>
      exact ⟨a, vs, rfl, .inr (sqt_mono gh1 e1), new_end gh1 tp1 a1 fun p G' H' s' hp nt gp e a' => q _ p _ G' H' hP (s1.trans s') (s1.no hp nt) nt gp e a'⟩
theorem nd_listT {xs : List PyData} (ha : Pd K ta ρ (.tuple xs)) : Nld K (tCB (rListOf K) (tCons ta tNil)) ρ xs := nl_listT ha fun x e => ⟨xs, e, rfl⟩
theorem ye_tupR {PL : List PyData → Prop} (ha : Rl K ta ρ PL) (h : ∀ xs, PL xs → P (.tuple xs)) : Pe K (tCB (rTupOf K) (tCons ta tNil)) ρ P := fun T H0 G H σ gh tp D Q q =>
  ha.bind gh tp D fun ys p vs G1 H1 p1 s1 gh1 tp1 D1 rd a1 => ⟨p, vs, rfl, .inl ⟨rd.sq gh1, new_tup gh1 tp1 a1 fun v G' H' s' x => q _ v G' H' (h ys p1) (s1.trans s') x⟩⟩
theorem yd_tupR {xs : List PyData} (ha : Rl K ta ρ (fun x => x = xs)) : Pd K (tCB (rTupOf K) (tCons ta tNil)) ρ (.tuple xs) := ye_tupR ha fun _ e => by rw [e]
theorem yd_tupT {xs : List PyData} (ha : Pd K ta ρ (.tuple xs)) : Pd K (tCB (rTupOf K) (tCons ta tNil)) ρ (.tuple xs) := fun T H0 G H σ gh tp D Q q =>
  ha.bind gh tp D fun x v G1 H1 p1 s1 gh1 tp1 D1 x1 => by
    subst p1
    cases x1 with
    | @tup a vs _ e1 a1 => exact ⟨a, vs, rfl, .inr ⟨sqt_mono gh1 e1, q _ _ G1 H1 rfl s1 (.tup e1 a1)⟩⟩
/-- list(range(n)), list(range(a, b)) -/
def rgD (a b : Int) : List PyData := (List.range (b - a).toNat).map fun i => PyData.int (a + (i : Nat))
theorem dn_rg (G : Hp) (a b : Int) : DnAll K G (rgV a b) (rgD a b) := by
  unfold rgV rgD
  induction (List.range (b - a).toNat) with
  | nil => exact .nil
  | cons n r ih => exact .cons (.int _) ih
theorem nd_rg1 {n : Int} (ha : Pd K ta ρ (.int n)) (h : RgOk 0 n) : Nld K (tLstRg (tRg1 ta)) ρ (rgD 0 n) := fun T H0 G H σ gh tp D Q q =>
  ha.bind gh tp D fun x v G1 H1 p1 s1 gh1 tp1 D1 x1 => by
    subst p1
    cases x1
    exact ⟨n, rfl, h, new_end gh1 tp1 (dn_rg G1 0 n) fun p G' H' s' hp nt gp e a' => q _ p _ G' H' rfl (s1.trans s') (s1.no hp nt) nt gp e a'⟩
theorem nd_rg2 {n m : Int} (ha : Pd K ta ρ (.int n)) (hb : Pd K tb ρ (.int m)) (h : RgOk n m) : Nld K (tLstRg (tRg2 ta tb)) ρ (rgD n m) := fun T H0 G H σ gh tp D Q q =>
  ha.bind gh tp D fun x v G1 H1 p1 s1 gh1 tp1 D1 x1 => hb.bind gh1 tp1 D1 fun y u G2 H2 p2 s2 gh2 tp2 D2 x2 => by
    subst p1 p2
    cases x1
    cases x2
    exact ⟨n, m, rfl, rfl, h, new_end gh2 tp2 (dn_rg G2 n m) fun p G' H' s' hp nt gp e a' => q _ p _ G' H' rfl ((s1.trans s2).trans s') ((s1.trans s2).no hp nt) nt gp e a'⟩
/-! ### if as an expression; tests -/
theorem ye_if {Pb : Bool → Prop} (h : Pt K t ρ Pb) (h1 : Pb true → Pe K ta ρ P) (h2 : Pb false → Pe K tb ρ P) : Pe K (tIf t ta tb) ρ P := fun T H0 G H σ gh tp D Q q =>
  h T H0 G H σ gh tp D _ fun b G1 H1 p1 s1 => by
    cases b with
    | true =>
      show ta σ H1 Q
      exact (h1 p1).bind s1.gh s1.tp (D.mono s1) fun d v G' H' p s gh' tp' D' x => q d v G' H' p (s1.trans s) x
    | false =>
      show tb σ H1 Q
      exact (h2 p1).bind s1.gh s1.tp (D.mono s1) fun d v G' H' p s gh' tp' D' x => q d v G' H' p (s1.trans s) x
theorem yt_v {Pa : PyData → Prop} {Pb : Bool → Prop} (h : Pe K te ρ Pa) (hb : ∀ x, Pa x → ∃ b, x = .bool b ∧ Pb b) : Pt K (tTest te) ρ Pb := fun T H0 G H σ gh tp D Q q =>
  h.bind gh tp D fun x v G1 H1 p1 s1 gh1 tp1 D1 x1 => by
    obtain ⟨b, rfl, p⟩ := hb x p1
    cases x1
    exact ⟨b, rfl, q b G1 H1 p s1⟩
theorem yt_d {b : Bool} (h : Pd K te ρ (.bool b)) : Ptd K (tTest te) ρ b := yt_v h fun x e => ⟨b, e, rfl⟩
theorem yt_vB {Pa : PyData → Prop} {Pb : Bool → Prop} (h : Pe K te ρ Pa) (hb : ∀ x, Pa x → ∃ b, x = .bool b ∧ Pb b) : Pt K (tB te) ρ Pb := fun T H0 G H σ gh tp D Q q =>
  h.bind gh tp D fun x v G1 H1 p1 s1 gh1 tp1 D1 x1 => by
    obtain ⟨b, rfl, p⟩ := hb x p1
    cases x1
    exact ⟨b, rfl, q b G1 H1 p s1⟩
theorem yt_B {b : Bool} (h : Pd K te ρ (.bool b)) : Ptd K (tB te) ρ b := yt_vB h fun x e => ⟨b, e, rfl⟩
theorem Pt.to {b c : Bool} (h : Ptd K t ρ b) (e : b = c) : Ptd K t ρ c := e ▸ h
theorem Pt.imp {Pb Pc : Bool → Prop} (h : Pt K t ρ Pb) (i : ∀ b, Pb b → Pc b) : Pt K t ρ Pc := fun T H0 G H σ gh tp D Q q => h T H0 G H σ gh tp D Q fun b G' H' p => q b G' H' (i b p)
theorem yt_not {Pb Pc : Bool → Prop} (h : Pt K t ρ Pb) (i : ∀ b, Pb b → Pc (!b)) : Pt K (tNot t) ρ Pc := fun T H0 G H σ gh tp D Q q => h T H0 G H σ gh tp D _ fun b G' H' p s => q (!b) G' H' (i b p) s
theorem yt_notd {b : Bool} (h : Ptd K t ρ b) : Ptd K (tNot t) ρ (!b) := yt_not h fun _ e => by rw [e]
theorem yt_and {Pb Pc Pd' : Bool → Prop} (h : Pt K t ρ Pb) (h2 : Pb true → Pt K u ρ Pc) (h3 : Pb false → Pd' false) (h4 : ∀ c, Pb true → Pc c → Pd' c) : Pt K (tAnd t u) ρ Pd' := fun T H0 G H σ gh tp D Q q =>
  h T H0 G H σ gh tp D _ fun b G1 H1 p s => by
    cases b with
    | true =>
      show u σ H1 Q
      exact h2 p T H0 G1 H1 σ s.gh s.tp (D.mono s) Q fun c G' H' pc s' => q c G' H' (h4 c p pc) (s.trans s')
    | false => exact q false G1 H1 (h3 p) s
theorem yt_or {Pb Pc Pd' : Bool → Prop} (h : Pt K t ρ Pb) (h2 : Pb false → Pt K u ρ Pc) (h3 : Pb true → Pd' true) (h4 : ∀ c, Pb false → Pc c → Pd' c) : Pt K (tOr t u) ρ Pd' := fun T H0 G H σ gh tp D Q q =>
  h T H0 G H σ gh tp D _ fun b G1 H1 p s => by
    cases b with
    | false =>
      show u σ H1 Q
      exact h2 p T H0 G1 H1 σ s.gh s.tp (D.mono s) Q fun c G' H' pc s' => q c G' H' (h4 c p pc) (s.trans s')
    | true => exact q true G1 H1 (h3 p) s
theorem yt_andd {a b : Bool} (h : Ptd K t ρ a) (h2 : a = true → Ptd K u ρ b) : Ptd K (tAnd t u) ρ (a && b) := yt_and h (fun e => h2 e.symm) (fun e => by rw [← e]; rfl) fun c e e2 => by rw [← e, e2]; rfl
theorem yt_ord {a b : Bool} (h : Ptd K t ρ a) (h2 : a = false → Ptd K u ρ b) : Ptd K (tOr t u) ρ (a || b) := yt_or h (fun e => h2 e.symm) (fun e => by rw [← e]; rfl) fun c e e2 => by rw [← e, e2]; rfl
theorem ye_andV {Pa : PyData → Prop} {Pb Pc : Bool → Prop} (h : Pe K ta ρ (fun d => ∃ b, d = .bool b ∧ Pb b)) (h2 : Pb true → Pe K tb ρ (fun d => ∃ b, d = .bool b ∧ Pc b)) (h3 : Pb false → P (.bool false)) (h4 : ∀ c, Pb true → Pc c → P (.bool c)) : Pe K (tAndV ta tb) ρ P := fun T H0 G H σ gh tp D Q q =>
  h.bind gh tp D fun x v G1 H1 p1 s1 gh1 tp1 D1 x1 => by
    obtain ⟨b, rfl, p⟩ := p1
    cases x1
    refine ⟨b, rfl, ?_⟩
    cases b with
    | true =>
      show tb σ H1 Q
      exact (h2 p).bind gh1 tp1 D1 fun d v G' H' pd s gh' tp' D' x => by
        obtain ⟨c, rfl, pc⟩ := pd
        exact q _ v G' H' (h4 c p pc) (s1.trans s) x
    | false => exact q _ _ G1 H1 (h3 p) s1 (.bl _)
theorem yd_andV {a b : Bool} (h : Pd K ta ρ (.bool a)) (h2 : a = true → Pd K tb ρ (.bool b)) : Pd K (tAndV ta tb) ρ (.bool (a && b)) := fun T H0 G H σ gh tp D Q q =>
  h.bind gh tp D fun x v G1 H1 p1 s1 gh1 tp1 D1 x1 => by
    subst p1
    cases x1
    refine ⟨a, rfl, ?_⟩
    cases a with
    | true =>
      show tb σ H1 Q
      exact (h2 rfl).bind gh1 tp1 D1 fun d v G' H' pd s gh' tp' D' x => by
        subst pd
        exact q _ v G' H' rfl (s1.trans s) x
    | false => exact q _ _ G1 H1 rfl s1 (.bl _)
theorem yd_orV {a b : Bool} (h : Pd K ta ρ (.bool a)) (h2 : a = false → Pd K tb ρ (.bool b)) : Pd K (tOrV ta tb) ρ (.bool (a || b)) := fun T H0 G H σ gh tp D Q q =>
  h.bind gh tp D fun x v G1 H1 p1 s1 gh1 tp1 D1 x1 => by
    subst p1
    cases x1
    refine ⟨a, rfl, ?_⟩
    cases a with
    | false =>
      show tb σ H1 Q
      exact (h2 rfl).bind gh1 tp1 D1 fun d v G' H' pd s gh' tp' D' x => by
        subst pd
        exact q _ v G' H' rfl (s1.trans s) x
    | true => exact q _ _ G1 H1 rfl s1 (.bl _)
theorem yd_notV {a : Bool} (h : Pd K ta ρ (.bool a)) : Pd K (tNotV ta) ρ (.bool (!a)) := fun T H0 G H σ gh tp D Q q =>
  h.bind gh tp D fun x v G1 H1 p1 s1 gh1 tp1 D1 x1 => by
    subst p1
    cases x1
    exact ⟨a, rfl, q _ _ G1 H1 rfl s1 (.bl _)⟩
end

/-! ### what a def promises -/
abbrev Pr := List Sl → (PyData → Prop) → Prop
def spR (K : PySem.W.Frag) (n : Nat) (R : Pr) : Sp := fun vs H Q _ => ∃ (T : Addr → Prop) (G : Hp) (ss : List Sl) (P : PyData → Prop), Same G H ∧ (∀ a, T a → Tp G H a) ∧ ArgsOk T K G ss vs ∧ ss.length = n ∧ R ss P ∧
  ∀ d v G' H', P d → Step T G H G' H' → Dn K G' v d → Q v H'
section
variable {K : PySem.W.Frag} {ρ : Rho} {P : PyData → Prop}
theorem ye_call {n : Nat} {R : Pr} {ta : TA} {PA : List Sl → Prop} {E : XK} (h : Pas K ta ρ PA) (hR : ∀ ss, PA ss → ss.length = n ∧ R ss P) : Pe K (tCall (spR K n R) [] E ta) ρ P := fun T H0 G H σ gh tp D Q q =>
  h.bind gh tp D fun ss vs G1 H1 p1 s1 gh1 tp1 D1 x1 => by
    obtain ⟨hl, hr⟩ := hR ss p1
    show spR K n R (vs ++ []) H1 Q E
    rw [List.append_nil]
    exact ⟨T, G1, ss, P, gh1, tp1, x1, hl, hr, fun d v G' H' p s x => q d v G' H' p (s1.trans s) x⟩
theorem ye_cl {n : Nat} {R : Pr} {ta : TA} {ss : List Sl} {E : XK} (h : Pasd K ta ρ ss) (hl : ss.length = n) (hR : R ss P) : Pe K (tCall (spR K n R) [] E ta) ρ P := ye_call h fun x e => by rw [e]; exact ⟨hl, hR⟩
end

/-! ### statements -/
structure Ed where
  nx : Rho → Prop := fun _ => False
  rt : PyData → Prop := fun _ => False
  bk : Rho → Prop := fun _ => False
  ct : Rho → Prop := fun _ => False
  /-- what is wished of what is raised; what may be raised: a class, its fields, the slots -/
  xw : WX := fun _ _ _ _ => True
  xr : Value → List (Str × PyData) → Rho → Prop := fun _ _ _ => False
/-- the fields of an exception -/
inductive XDn (K : PySem.W.Frag) (G : Hp) : List (Str × V) → List (Str × PyData) → Prop
  | nil : XDn K G [] []
  | cons {x : Str} {v : V} {d : PyData} {vs : List (Str × V)} {fs : List (Str × PyData)} : Dn K G v d → XDn K G vs fs → XDn K G ((x, v) :: vs) ((x, d) :: fs)
def XD (K : PySem.W.Frag) (G H : Hp) (d : Option Addr) (fs : List (Str × PyData)) : Prop := (d = none ∧ fs = []) ∨ (fs ≠ [] ∧ ∃ dd vs, d = some dd ∧ H dd = some (.xd vs) ∧ XDn K G vs fs)
def At (T : Addr → Prop) (K : PySem.W.Frag) (G0 H0 : Hp) (ρ : Rho) (σ : L2.St) (H : Hp) : Prop := ∃ G, Step T G0 H0 G H ∧ Den T K H0 G H σ ρ
def Rs (T : Addr → Prop) (K : PySem.W.Frag) (G0 H0 : Hp) (d : PyData) (v : V) (H : Hp) : Prop := ∃ G, Step T G0 H0 G H ∧ Dn K G v d
structure EdOk (T : Addr → Prop) (K : PySem.W.Frag) (G0 H0 : Hp) (E : Ed) (D : Ends) : Prop where
  nx : ∀ ρ σ H, E.nx ρ → At T K G0 H0 ρ σ H → D.nx σ H
  rt : ∀ d v H, E.rt d → Rs T K G0 H0 d v H → D.rt v H
  bk : ∀ ρ σ H, E.bk ρ → At T K G0 H0 ρ σ H → D.bk σ H
  ct : ∀ ρ σ H, E.ct ρ → At T K G0 H0 ρ σ H → D.ct σ H
  xx : ∀ cls fs d ρ σ G H, E.xr cls fs ρ → Step T G0 H0 G H → Den T K H0 G H σ ρ → XD K G H d fs → E.xw cls d σ H
def Ws (K : PySem.W.Frag) (t : TS) (ρ : Rho) (E : Ed) : Prop := ∀ (T : Addr → Prop) (G0 H0 : Hp) (σ : L2.St) (H : Hp) (D : Ends), At T K G0 H0 ρ σ H → EdOk T K G0 H0 E D → t D σ H
/-- less is known -/
def sle : Sl → Sl → Prop
  | _, .no => True
  | a, b => a = b
inductive Le : Rho → Rho → Prop
  | nil : Le [] []
  | cons {a b : Sl} {r s : Rho} : sle a b → Le r s → Le (a :: r) (b :: s)
theorem Le.len : ∀ {r s : Rho}, Le r s → r.length = s.length
  | _, _, .nil => rfl
  | _, _, .cons _ t => congrArg (· + 1) (Le.len t)
theorem Le.at : ∀ {r s : Rho} {i : Nat} {x : Sl}, Le r s → s[i]? = some x → x = .no ∨ r[i]? = some x
  | _, _, _, _, .nil, e => by simp at e
  | _, _, 0, x, .cons (b := b) h _, e => by
    have e := Option.some.inj e
    subst e
    cases b with
    | no => exact .inl rfl
    | d x => exact .inr (congrArg some h)
    | ml x => exact .inr (congrArg some h)
    | tp => exact .inr (congrArg some h)
    | rf x => exact .inr (congrArg some h)
    | rg lo hi => exact .inr (congrArg some h)
  | _, _, i + 1, x, .cons _ t, e => Le.at (i := i) t e
theorem Le.refl : ∀ (r : Rho), Le r r
  | [] => .nil
  | a :: r => .cons (by cases a <;> first | trivial | rfl) (Le.refl r)
section
variable {K : PySem.W.Frag} {ρ ρ' : Rho} {P P' : PyData → Prop} {T : Addr → Prop} {G0 H0 G H : Hp} {σ : L2.St} {te : TE} {t u : TS} {E : Ed}
theorem Den.le (h : Den T K H0 G H σ ρ) (l : Le ρ ρ') : Den T K H0 G H σ ρ' := by
  refine ⟨h.len.trans l.len, fun i s o e1 e2 => ?_, fun i j xs ys a hij e1 e2 => ?_⟩
  · rcases l.at e1 with rfl | q
    · trivial
    · exact h.ok i s o q e2
  · have q1 := (l.at e1).resolve_left (fun z => nomatch z)
    have q2 := (l.at e2).resolve_left (fun z => nomatch z)
    exact h.one i j xs ys a hij q1 q2
theorem At.le (h : At T K G0 H0 ρ σ H) (l : Le ρ ρ') : At T K G0 H0 ρ' σ H := let ⟨G, s, d⟩ := h; ⟨G, s, d.le l⟩
theorem Ws.le (h : Ws K t ρ' E) (l : Le ρ ρ') : Ws K t ρ E := fun T G0 H0 σ H D a e => h T G0 H0 σ H D (a.le l) e
theorem Ws.imp {E' : Ed} (h : Ws K t ρ E) (h1 : ∀ r, E.nx r → E'.nx r) (h2 : ∀ r, E.rt r → E'.rt r) (h3 : ∀ r, E.bk r → E'.bk r) (h4 : ∀ r, E.ct r → E'.ct r) (h5 : ∀ c f r, E.xr c f r → E'.xr c f r := by intro c f r z; exact z) (h6 : E.xw = E'.xw := by rfl) : Ws K t ρ E' := fun T G0 H0 σ H D a e =>
  h T G0 H0 σ H D a ⟨fun r σ H p => e.nx r σ H (h1 r p), fun r v H p => e.rt r v H (h2 r p), fun r σ H p => e.bk r σ H (h3 r p), fun r σ H p => e.ct r σ H (h4 r p), fun c f d r σ G H p s n x => h6 ▸ e.xx c f d r σ G H (h5 c f r p) s n x⟩
theorem At.eval (a : At T K G0 H0 ρ σ H) (h : Pe K te ρ P) {Q : VK} (k : ∀ d v G' H', P d → Step T G0 H0 G' H' → Den T K H0 G' H' σ ρ → Dn K G' v d → Q v H') : te σ H Q := by
  obtain ⟨G, s, D⟩ := a
  exact h.bind s.gh s.tp D fun d v G' H' p s' _ _ D' x => k d v G' H' p (s.trans s') D' x
theorem ws_seq (R : Rho → Prop) (h : Ws K t ρ { E with nx := R }) (k : ∀ r, R r → Ws K u r E) : Ws K (tSeq t u) ρ E := fun T G0 H0 σ H D a e =>
  h T G0 H0 σ H { D with nx := u D } a ⟨fun r σ' H' p a' => k r p T G0 H0 σ' H' D a' e, e.rt, e.bk, e.ct, e.xx⟩
/-- x = e; the rest -/
theorem ws_set {i : Nat} (h : Pe K te ρ P) (k : ∀ d, P d → E.nx (ρ.set i (.d d))) : Ws K (tAsg te (gName i)) ρ E := fun T G0 H0 σ H D a e =>
  a.eval h fun d v G' H' p s D' x => e.nx _ _ _ (k d p) ⟨G', s, D'.set (s := .d d) (o := some v) ⟨v, rfl, x⟩ fun _ z => nomatch z⟩
theorem wq_set {i : Nat} (h : Pe K te ρ P) (k : ∀ d, P d → Ws K u (ρ.set i (.d d)) E) : Ws K (tSeq (tAsg te (gName i)) u) ρ E := fun T G0 H0 σ H D a e =>
  a.eval h fun d v G' H' p s D' x => k d p T G0 H0 _ _ D ⟨G', s, D'.set (s := .d d) (o := some v) ⟨v, rfl, x⟩ fun _ z => nomatch z⟩ e
theorem wq_setd {i : Nat} {d : PyData} (h : Pd K te ρ d) (k : Ws K u (ρ.set i (.d d)) E) : Ws K (tSeq (tAsg te (gName i)) u) ρ E := wq_set h fun x e => e ▸ k
/-- x = e, e a new list that will be changed -/
theorem set_ml {i : Nat} {l : Addr} {vs : List V} {xs : List PyData} (s : Step T G0 H0 G H) (D : Den T K H0 G H σ ρ) (hl : H l = some (.lst vs)) (a : DnAll K G vs xs) (gl : G l = none) (h0 : H0 l = none) (nt : ¬ T l)
    (other : ∀ (j : Nat) ys, j ≠ i → ρ[j]? = some (.ml ys) → σ[j]? ≠ some (some (.ref l))) : Den T K H0 G H (σ.set i (some (.ref l))) (ρ.set i (.ml xs)) := by
  refine ⟨by rw [List.length_set, List.length_set]; exact D.len, fun j x u e1 e2 => ?_, fun j k ys zs m hjk e1 e2 e3 e4 => ?_⟩
  · by_cases q : i = j
    · subst q
      have hi : i < ρ.length := by
        have := (List.getElem?_eq_some_iff.mp e1).1
        rwa [List.length_set] at this
      rw [List.getElem?_set_self hi] at e1
      rw [List.getElem?_set_self (by rw [D.len]; exact hi)] at e2
      cases e1
      cases e2
      exact ⟨l, vs, rfl, hl, a, gl, h0, nt⟩
    · rw [List.getElem?_set_ne q] at e1 e2
      exact D.ok j x u e1 e2
  · have hl : ∀ {n : Nat} {w : List PyData}, (ρ.set i (.ml xs))[n]? = some (.ml w) → n < ρ.length := fun {n w} e => by
      have := (List.getElem?_eq_some_iff.mp e).1
      rwa [List.length_set] at this
    by_cases qj : i = j
    · subst qj
      rw [List.getElem?_set_self (by rw [D.len]; exact hl e1)] at e3
      cases e3
      rw [List.getElem?_set_ne hjk] at e2 e4
      exact other k zs (fun z => hjk z.symm) e2 e4
    · rw [List.getElem?_set_ne qj] at e1 e3
      by_cases qk : i = k
      · subst qk
        rw [List.getElem?_set_self (by rw [D.len]; exact hl e2)] at e4
        cases e4
        exact other j ys (fun z => qj z.symm) e1 e3
      · rw [List.getElem?_set_ne qk] at e2 e4
        exact D.one j k ys zs m hjk e1 e2 e3 e4
theorem wq_setm {i : Nat} {PL : List PyData → Prop} (h : Nl K te ρ PL) (k : ∀ xs, PL xs → Ws K u (ρ.set i (.ml xs)) E) : Ws K (tSeq (tAsg te (gName i)) u) ρ E := fun T G0 H0 σ H D a e => by
  obtain ⟨G, s, D0⟩ := a
  refine h T H0 G H σ s.gh s.tp D0 _ fun xs p vs G' H' px s' hp nt gp hl al => ?_
  have D1 := D0.mono s'
  refine k xs px T G0 H0 _ _ D ⟨G', s.trans s', set_ml (s.trans s') D1 hl al gp (s.no hp nt) nt fun j ys hj e1 e2 => ?_⟩ e
  obtain ⟨o, e3, l, ws, rfl, hl2, _⟩ := D0.at e1
  rw [e3] at e2
  cases e2
  rw [hp] at hl2
  cases hl2
theorem wq_setmd {i : Nat} {xs : List PyData} (h : Nld K te ρ xs) (k : Ws K u (ρ.set i (.ml xs)) E) : Ws K (tSeq (tAsg te (gName i)) u) ρ E := wq_setm h fun x e => e ▸ k
theorem ws_ret (h : Pe K te ρ P) (k : ∀ d, P d → E.rt d) : Ws K (tRet te) ρ E := fun T G0 H0 σ H D a e =>
  a.eval h fun d v G' H' p s D' x => e.rt d v H' (k d p) ⟨G', s, x⟩
theorem ws_retd {d : PyData} (h : Pd K te ρ d) (k : E.rt d) : Ws K (tRet te) ρ E := ws_ret h fun x e => e ▸ k
theorem ws_next (k : E.nx ρ) : Ws K tNext ρ E := fun T G0 H0 σ H D a e => e.nx _ _ _ k a
theorem ws_brk (k : E.bk ρ) : Ws K tBreak ρ E := fun T G0 H0 σ H D a e => e.bk _ _ _ k a
theorem ws_cont (k : E.ct ρ) : Ws K tCont ρ E := fun T G0 H0 σ H D a e => e.ct _ _ _ k a
theorem ws_if {c : TT} {Pb : Bool → Prop} (h : Pt K c ρ Pb) (h1 : Pb true → Ws K t ρ E) (h2 : Pb false → Ws K u ρ E) : Ws K (tIfS c t u) ρ E := fun T G0 H0 σ H D a e => by
  obtain ⟨G, s, D0⟩ := a
  refine h T H0 G H σ s.gh s.tp D0 _ fun b G1 H1 p s1 => ?_
  cases b with
  | true => exact h1 p T G0 H0 σ H1 D ⟨G1, s.trans s1, D0.mono s1⟩ e
  | false => exact h2 p T G0 H0 σ H1 D ⟨G1, s.trans s1, D0.mono s1⟩ e
theorem ws_ifd {c : TT} {b : Bool} (h : Ptd K c ρ b) (h1 : b = true → Ws K t ρ E) (h2 : b = false → Ws K u ρ E) : Ws K (tIfS c t u) ρ E := ws_if h (fun e => h1 e.symm) fun e => h2 e.symm
theorem ws_drop (h : Pe K te ρ P) (k : E.nx ρ) : Ws K (tDrop te) ρ E := fun T G0 H0 σ H D a e =>
  a.eval h fun d v G' H' p s D' x => e.nx _ _ _ k ⟨G', s, D'⟩
theorem wq_if {c : TT} {Pb : Bool → Prop} {v : TS} (h : Pt K c ρ Pb) (R : Rho → Prop) (h1 : Pb true → Ws K t ρ { E with nx := R }) (h2 : Pb false → Ws K u ρ { E with nx := R }) (k : ∀ r, R r → Ws K v r E) : Ws K (tSeq (tIfS c t u) v) ρ E := ws_seq R (ws_if h h1 h2) k
/-- an if whose branch leaves, then the rest -/
theorem wq_when {c : TT} {Pb : Bool → Prop} {v : TS} (h : Pt K c ρ Pb) (h1 : Pb true → Ws K t ρ { E with nx := fun _ => False }) (k : Pb false → Ws K v ρ E) : Ws K (tSeq (tIfS c t tNext) v) ρ E :=
  wq_if h (fun r => Pb false ∧ r = ρ) (fun p => (h1 p).imp (fun _ z => z.elim) (fun _ z => z) (fun _ z => z) fun _ z => z) (fun p => ws_next ⟨p, rfl⟩) fun r ⟨p, e⟩ => e ▸ k p
/-- a test that is false: its branch isn't taken -/
theorem wq_skip {c : TT} {v : TS} (h : Ptd K c ρ false) (k : Ws K v ρ E) : Ws K (tSeq (tIfS c t tNext) v) ρ E := wq_when h (fun e => Bool.noConfusion e) fun _ => k
/-- a changed list becomes data -/
theorem Den.freeze (D : Den T K H0 G H σ ρ) (s : Step T G0 H0 G H) {i : Nat} {xs : List PyData} (e : ρ[i]? = some (.ml xs)) : ∃ G', Step T G0 H0 G' H ∧ Den T K H0 G' H σ (ρ.set i (.d (.list xs))) := by
  obtain ⟨o, e1, l, vs, rfl, hl, a, gl, h0, nt⟩ := D.at e
  have up : Same G (upd G l (.lst vs)) := fun c w ec => by rw [upd_ne (ne_of_none ec gl)]; exact ec
  refine ⟨upd G l (.lst vs), s.join h0 nt gl hl, ⟨by rw [List.length_set]; exact D.len, fun j x u q1 q2 => ?_, fun j k ys zs m hjk q1 q2 q3 q4 => ?_⟩⟩
  · by_cases q : i = j
    · subst q
      have hi : i < ρ.length := (List.getElem?_eq_some_iff.mp e).1
      rw [List.getElem?_set_self hi] at q1
      cases q1
      rw [e1] at q2
      cases q2
      exact ⟨_, rfl, .lst upd_same (a.mono up)⟩
    · rw [List.getElem?_set_ne q] at q1
      have old := D.ok j x u q1 q2
      cases x with
      | no => trivial
      | d x => exact let ⟨v, e, d⟩ := old; ⟨v, e, d.mono up⟩
      | tp => exact old
      | rf a => exact old
      | rg lo hi => exact let ⟨a, e, g⟩ := old; ⟨a, e, up _ _ g⟩
      | ml ys =>
        obtain ⟨m, ws, rfl, hm, am, gm, hm0, ntm⟩ := old
        refine ⟨m, ws, rfl, hm, am.mono up, ?_, hm0, ntm⟩
        have nml : m ≠ l := fun z => by
          subst z
          exact D.one i j xs ys m q e q1 e1 q2
        rw [upd_ne nml]
        exact gm
  · have n1 : i ≠ j := fun z => by
      subst z
      rw [List.getElem?_set_self (List.getElem?_eq_some_iff.mp e).1] at q1
      cases q1
    have n2 : i ≠ k := fun z => by
      subst z
      rw [List.getElem?_set_self (List.getElem?_eq_some_iff.mp e).1] at q2
      cases q2
    rw [List.getElem?_set_ne n1] at q1
    rw [List.getElem?_set_ne n2] at q2
    exact D.one j k ys zs m hjk q1 q2 q3 q4
theorem ws_freeze (i : Nat) {xs : List PyData} (e : ρ[i]? = some (.ml xs)) (h : Ws K t (ρ.set i (.d (.list xs))) E) : Ws K t ρ E := fun T G0 H0 σ H D a ed => by
  obtain ⟨G, s, D0⟩ := a
  obtain ⟨G', s', D'⟩ := D0.freeze s e
  exact h T G0 H0 σ H D ⟨G', s', D'⟩ ed
end
end PD

namespace PD
open PySem PySem.Spec PyProof.Rows L2 RZ

/-! ### iterables of either kind -/
def iSeq (K : PySem.W.Frag) (tl : TE) : TI := fun σ H R => tl σ H fun x H1 => ∃ a, x = .ref a ∧ (((∃ xs, SqL K H1 a xs) ∧ R (Itl K a) H1) ∨ ((∃ xs, SqT K H1 a xs) ∧ R (Itt K a) H1))
theorem pi_seq {X : Cx} {tg l : Expr} {tl : TE} (hl : PE X l tl) : PI X tg l (iSeq X.K tl) := by
  refine ⟨fun pins s σ H R I h => ?_⟩
  refine thn (hl.run pins s σ H _ I h) fun v s1 ⟨x, H1, I1, r1, q1⟩ => ?_
  obtain ⟨a, e, q⟩ := q1
  subst e
  cases r1
  rcases q with ⟨⟨xs, hq⟩, q⟩ | ⟨⟨xs, hq⟩, q⟩
  · obtain ⟨its, rv, p, hz⟩ := I1.list hq
    refine wpAny_pyIter_list p.isList ?_
    refine ⟨s1.heap.objs.size, [s1.heap.objs.size], _, _, H1, rfl, I1.kept (t' := s1.toks) fun b o e => Heap.get?_push_of_some _ e, turn_list a _, ⟨_, Heap.get?_push_size _ rfl, rfl, rfl⟩, fun b hb => ?_, q⟩
    have e : b = s1.heap.objs.size := by simpa using hb
    subst e
    exact I1.fpOk (Nat.le_refl _) (I1.hok.fresh (Nat.le_refl _))
  · obtain ⟨its, rv, p, hz⟩ := I1.tuple hq
    refine wpAny_pyIter_tuple (show s1.heap.IsTuple a its.toArray from p) ?_
    refine ⟨s1.heap.objs.size, [s1.heap.objs.size], _, _, H1, rfl, I1.kept (t' := s1.toks) fun b o e => Heap.get?_push_of_some _ e, turn_tuple a _, ⟨_, Heap.get?_push_size _ rfl, rfl, rfl⟩, fun b hb => ?_, q⟩
    have e : b = s1.heap.objs.size := by simpa using hb
    subst e
    exact I1.fpOk (Nat.le_refl _) (I1.hok.fresh (Nat.le_refl _))

/-- an iterator that yields these data -/
structure Itd (K : PySem.W.Frag) (J : It) (G1 : Hp) (xs : List PyData) : Prop where
  go : ∀ i H, Same G1 H → i < xs.length → J.go i H
  stop : ∀ i H, Same G1 H → xs.length ≤ i → J.stop i H
  yld : ∀ i (T : Addr → Prop) G H x H', Same G1 G → Same G H → (∀ a, T a → Tp G H a) → i < xs.length → J.yld i H x H' → ∃ G' d, xs[i]? = some d ∧ Step T G H G' H' ∧ Dn K G' x d
theorem sql_of {K : PySem.W.Frag} {H : Hp} {a : Addr} {xs : List V} (h : H a = some (.lst xs)) : SqL K H a xs := .inl (.inl h)
theorem itd_list {K : PySem.W.Frag} {G : Hp} {a : Addr} {vs : List V} {xs : List PyData} (h : G a = some (.lst vs)) (d : DnAll K G vs xs) : Itd K (Itl K a) G xs where
  go := fun i H g hi => by
    have hi : i < vs.length := by rw [d.length]; exact hi
    exact ⟨vs, vs[i], sql_of (g _ _ h), List.getElem?_eq_getElem hi⟩
  stop := fun i H g hi => ⟨vs, sql_of (g _ _ h), by rw [d.length]; exact hi⟩
  yld := fun i T G' H x H' g1 g2 tp hi y => by
    obtain ⟨rfl, y⟩ := y
    obtain ⟨e, h1, h2⟩ := (d.mono g1).get' (y vs (sql_of (g2 _ _ (g1 _ _ h))))
    exact ⟨G', e, h1, Step.refl g2 tp, h2⟩
theorem itd_tup {K : PySem.W.Frag} {G : Hp} {a : Addr} {vs : List V} {xs : List PyData} (h : SqT K G a vs) (d : DnAll K G vs xs) : Itd K (Itt K a) G xs where
  go := fun i H g hi => by
    have hi : i < vs.length := by rw [d.length]; exact hi
    exact ⟨vs, vs[i], sqt_mono g h, List.getElem?_eq_getElem hi⟩
  stop := fun i H g hi => ⟨vs, sqt_mono g h, by rw [d.length]; exact hi⟩
  yld := fun i T G' H x H' g1 g2 tp hi y => by
    obtain ⟨rfl, y⟩ := y
    obtain ⟨e, h1, h2⟩ := (d.mono g1).get' (y vs (sqt_mono g2 (sqt_mono g1 h)))
    exact ⟨G', e, h1, Step.refl g2 tp, h2⟩
theorem rg_at (a b : Int) (i : Nat) (h : i < (rgD a b).length) : (rgD a b)[i]? = some (.int (a + (i : Int))) := by
  unfold rgD at h ⊢
  rw [List.length_map, List.length_range] at h
  rw [List.getElem?_map, List.getElem?_range h]
  rfl
theorem rg_len (a b : Int) : (rgD a b).length = (b - a).toNat := by
  unfold rgD
  rw [List.length_map, List.length_range]
theorem itd_rg {K : PySem.W.Frag} {G : Hp} (a b : Int) : Itd K (Itr a (b - a).toNat) G (rgD a b) where
  go := fun i H g hi => by
    rw [rg_len] at hi
    exact hi
  stop := fun i H g hi => by
    rw [rg_len] at hi
    exact hi
  yld := fun i T G' H x H' g1 g2 tp hi y => by
    obtain ⟨rfl, rfl⟩ := y
    exact ⟨G', _, rg_at a b i hi, Step.refl g2 tp, .int _⟩
def zipD : List PyData → List PyData → List PyData
  | x :: xs, y :: ys => .tuple [x, y] :: zipD xs ys
  | _, _ => []
theorem zipD_len : ∀ (xs ys : List PyData), (zipD xs ys).length = min xs.length ys.length
  | [], _ => by simp [zipD]
  | _ :: _, [] => by simp [zipD]
  | x :: xs, y :: ys => by simp [zipD, zipD_len xs ys]
theorem zipD_at : ∀ (xs ys : List PyData) (i : Nat) (x y : PyData), xs[i]? = some x → ys[i]? = some y → (zipD xs ys)[i]? = some (.tuple [x, y])
  | [], _, _, _, _, h, _ => by simp at h
  | _ :: _, [], _, _, _, _, h => by simp at h
  | a :: xs, b :: ys, 0, x, y, h, h2 => by
    have e1 := Option.some.inj h
    have e2 := Option.some.inj h2
    rw [← e1, ← e2]
    rfl
  | a :: xs, b :: ys, i + 1, x, y, h, h2 => zipD_at xs ys i x y h h2
theorem itd_zip {K : PySem.W.Frag} {G : Hp} {a b : Addr} {vs us : List V} {xs ys : List PyData} (h : G a = some (.lst vs)) (d : DnAll K G vs xs) (h2 : G b = some (.lst us)) (d2 : DnAll K G us ys) : Itd K (Itz K a b) G (zipD xs ys) where
  go := fun i H g hi => by
    rw [zipD_len] at hi
    have h3 : i < vs.length := by rw [d.length]; omega
    have h4 : i < us.length := by rw [d2.length]; omega
    exact ⟨vs, us, vs[i], us[i], sql_of (g _ _ h), sql_of (g _ _ h2), List.getElem?_eq_getElem h3, List.getElem?_eq_getElem h4⟩
  stop := fun i H g hi => by
    rw [zipD_len] at hi
    refine ⟨vs, us, sql_of (g _ _ h), sql_of (g _ _ h2), ?_⟩
    rw [d.length, d2.length]
    by_cases q : xs.length ≤ ys.length
    · rw [Nat.min_eq_left q] at hi
      exact .inl hi
    · rw [Nat.min_eq_right (by omega)] at hi
      exact .inr hi
  yld := fun i T G' H x H' g1 g2 tp hi y => by
    obtain ⟨p, x1, x2, rfl, hp, rfl, f1, f2⟩ := y
    obtain ⟨e1, q1, q2⟩ := (d.mono g1).get' (f1 vs (sql_of (g2 _ _ (g1 _ _ h))))
    obtain ⟨e2, q3, q4⟩ := (d2.mono g1).get' (f2 us (sql_of (g2 _ _ (g1 _ _ h2))))
    refine ⟨upd G' p (.tup [x1, x2]), .tuple [e1, e2], zipD_at _ _ _ _ _ q1 q3, Step.new g2 tp hp, .tup (.inl (.inl upd_same)) ?_⟩
    exact DnAll.mono (fun c u e => by rw [upd_ne (ne_of_none e (g2.free hp))]; exact e) (.cons q2 (.cons q4 .nil))
theorem itd_zipT {K : PySem.W.Frag} {G : Hp} {a b : Addr} {vs us : List V} {xs ys : List PyData} (h : SqT K G a vs) (d : DnAll K G vs xs) (h2 : SqT K G b us) (d2 : DnAll K G us ys) : Itd K (ItzT K a b) G (zipD xs ys) where
  go := fun i H g hi => by
    rw [zipD_len] at hi
    have h3 : i < vs.length := by rw [d.length]; omega
    have h4 : i < us.length := by rw [d2.length]; omega
    exact ⟨vs, us, vs[i], us[i], sqt_mono g h, sqt_mono g h2, List.getElem?_eq_getElem h3, List.getElem?_eq_getElem h4⟩
  stop := fun i H g hi => by
    rw [zipD_len] at hi
    refine ⟨vs, us, sqt_mono g h, sqt_mono g h2, ?_⟩
    rw [d.length, d2.length]
    by_cases q : xs.length ≤ ys.length
    · rw [Nat.min_eq_left q] at hi
      exact .inl hi
    · rw [Nat.min_eq_right (by omega)] at hi
      exact .inr hi
  yld := fun i T G' H x H' g1 g2 tp hi y => by
    obtain ⟨p, x1, x2, rfl, hp, rfl, f1, f2⟩ := y
    obtain ⟨e1, q1, q2⟩ := (d.mono g1).get' (f1 vs (sqt_mono g2 (sqt_mono g1 h)))
    obtain ⟨e2, q3, q4⟩ := (d2.mono g1).get' (f2 us (sqt_mono g2 (sqt_mono g1 h2)))
    refine ⟨upd G' p (.tup [x1, x2]), .tuple [e1, e2], zipD_at _ _ _ _ _ q1 q3, Step.new g2 tp hp, .tup (.inl (.inl upd_same)) ?_⟩
    exact DnAll.mono (fun c u e => by rw [upd_ne (ne_of_none e (g2.free hp))]; exact e) (.cons q2 (.cons q4 .nil))
def enumD : Nat → List PyData → List PyData
  | n, x :: xs => .tuple [.int (n : Nat), x] :: enumD (n + 1) xs
  | _, _ => []
theorem enumD_len : ∀ (n : Nat) (xs : List PyData), (enumD n xs).length = xs.length
  | _, [] => rfl
  | n, x :: xs => congrArg (· + 1) (enumD_len (n + 1) xs)
theorem enumD_at : ∀ (n : Nat) (xs : List PyData) (i : Nat) (x : PyData), xs[i]? = some x → (enumD n xs)[i]? = some (.tuple [.int ((n + i : Nat) : Int), x])
  | _, [], _, _, h => by simp at h
  | n, a :: xs, 0, x, h => by
    have e1 := Option.some.inj h
    rw [← e1]
    rfl
  | n, a :: xs, i + 1, x, h => by
    have := enumD_at (n + 1) xs i x h
    rw [show n + 1 + i = n + (i + 1) by omega] at this
    exact this
theorem itd_enum {K : PySem.W.Frag} {G : Hp} {a : Addr} {vs : List V} {xs : List PyData} (h : G a = some (.lst vs)) (d : DnAll K G vs xs) : Itd K (Ite K a) G (enumD 0 xs) where
  go := fun i H g hi => by
    rw [enumD_len] at hi
    have h3 : i < vs.length := by rw [d.length]; omega
    exact ⟨vs, vs[i], sql_of (g _ _ h), List.getElem?_eq_getElem h3⟩
  stop := fun i H g hi => by
    rw [enumD_len] at hi
    exact ⟨vs, sql_of (g _ _ h), by rw [d.length]; omega⟩
  yld := fun i T G' H x H' g1 g2 tp hi y => by
    obtain ⟨p, x1, rfl, hp, rfl, f1⟩ := y
    obtain ⟨e1, q1, q2⟩ := (d.mono g1).get' (f1 vs (sql_of (g2 _ _ (g1 _ _ h))))
    refine ⟨upd G' p (.tup [.int (i : Nat), x1]), .tuple [.int (i : Nat), e1], ?_, Step.new g2 tp hp, .tup (.inl (.inl upd_same)) ?_⟩
    · rw [enumD_at 0 xs i e1 q1, Nat.zero_add]
    · exact DnAll.mono (fun c u e => by rw [upd_ne (ne_of_none e (g2.free hp))]; exact e) (.cons (.int _) (.cons q2 .nil))

def Pit (K : PySem.W.Frag) (wi : TI) (ρ : Rho) (P : List PyData → Prop) : Prop := ∀ (T : Addr → Prop) (H0 G H : Hp) (σ : L2.St), Same G H → (∀ a, T a → Tp G H a) → Den T K H0 G H σ ρ →
  ∀ R : It → Hp → Prop, (∀ xs J G' H', P xs → Step T G H G' H' → Itd K J G' xs → R J H') → wi σ H R
abbrev Pitd (K : PySem.W.Frag) (wi : TI) (ρ : Rho) (xs : List PyData) : Prop := Pit K wi ρ (fun x => x = xs)
section
variable {K : PySem.W.Frag} {ρ ρ' : Rho} {te ta tb tc tl : TE} {P P' : PyData → Prop} {PL : List PyData → Prop}
theorem it_L {PA : PyData → Prop} (h : Pe K tl ρ PA) (k : ∀ x, PA x → ∃ xs, (x = .list xs ∨ x = .tuple xs) ∧ PL xs) : Pit K (iSeq K tl) ρ PL := fun T H0 G H σ gh tp D R q =>
  h.bind gh tp D fun x v G1 H1 p1 s1 gh1 tp1 D1 x1 => by
    obtain ⟨xs, e, p⟩ := k x p1
    rcases e with rfl | rfl
    · cases x1 with
      | @lst a vs _ e1 a1 => exact ⟨a, rfl, .inl ⟨⟨vs, sql_of (gh1 _ _ e1)⟩, q xs _ G1 H1 p s1 (itd_list e1 a1)⟩⟩
    · cases x1 with
      | @tup a vs _ e1 a1 => exact ⟨a, rfl, .inr ⟨⟨vs, sqt_mono gh1 e1⟩, q xs _ G1 H1 p s1 (itd_tup e1 a1)⟩⟩
theorem it_l {xs : List PyData} (h : Pd K tl ρ (.list xs)) : Pitd K (iSeq K tl) ρ xs := it_L h fun x e => ⟨xs, .inl e, rfl⟩
theorem it_t {xs : List PyData} (h : Pd K tl ρ (.tuple xs)) : Pitd K (iSeq K tl) ρ xs := it_L h fun x e => ⟨xs, .inr e, rfl⟩
theorem it_R1 {ta : TA} {PA : List Sl → Prop} (h : Pas K ta ρ PA) (k : ∀ ss, PA ss → ∃ n : Int, ss = [.d (.int n)] ∧ -(2 ^ 62) ≤ n ∧ n < 2 ^ 62 ∧ PL (rgD 0 n)) : Pit K (iRng1 ta) ρ PL := fun T H0 G H σ gh tp D R q =>
  h.bind gh tp D fun ss vs G1 H1 p1 s1 gh1 tp1 D1 x1 => by
    obtain ⟨n, rfl, h1, h2, p⟩ := k ss p1
    cases x1 with
    | cons r1 r2 =>
      cases r2
      cases r1
      refine ⟨n, rfl, h1, h2, q _ _ G1 H1 p s1 ?_⟩
      have := itd_rg (K := K) (G := G1) 0 n
      rw [Int.sub_zero] at this
      exact this
theorem it_r1 {ta : TE} {n : Int} (h : Pd K ta ρ (.int n)) (h1 : -(2 ^ 62) ≤ n) (h2 : n < 2 ^ 62) : Pitd K (iRng1 (tCons ta tNil)) ρ (rgD 0 n) := it_R1 (ya_d h ya_n) fun ss e => ⟨n, e, h1, h2, rfl⟩
theorem it_R2 {ta : TA} {PA : List Sl → Prop} (h : Pas K ta ρ PA) (k : ∀ ss, PA ss → ∃ a b : Int, ss = [.d (.int a), .d (.int b)] ∧ (-(2 ^ 62) ≤ a ∧ a < 2 ^ 62 ∧ -(2 ^ 62) ≤ b ∧ b < 2 ^ 62) ∧ PL (rgD a b)) : Pit K (iRng2 ta) ρ PL := fun T H0 G H σ gh tp D R q =>
  h.bind gh tp D fun ss vs G1 H1 p1 s1 gh1 tp1 D1 x1 => by
    obtain ⟨a, b, rfl, h1, p⟩ := k ss p1
    cases x1 with
    | cons r1 r2 =>
      cases r2 with
      | cons r2 r3 =>
        cases r3
        cases r1
        cases r2
        exact ⟨a, b, rfl, h1, q _ _ G1 H1 p s1 (itd_rg a b)⟩
theorem it_r2 {a b : Int} (h : Pd K ta ρ (.int a)) (h' : Pd K tb ρ (.int b)) (h1 : -(2 ^ 62) ≤ a ∧ a < 2 ^ 62 ∧ -(2 ^ 62) ≤ b ∧ b < 2 ^ 62) : Pitd K (iRng2 (tCons ta (tCons tb tNil))) ρ (rgD a b) := it_R2 (ya_d h (ya_d h' ya_n)) fun ss e => ⟨a, b, e, h1, rfl⟩
theorem it_zipL {ta tb : TE} {xs ys : List PyData} (h : Pd K ta ρ (.list xs)) (h' : Pd K tb ρ (.list ys)) : Pitd K (iZipA K (tCons ta (tCons tb tNil))) ρ (zipD xs ys) := fun T H0 G H σ gh tp D R q =>
  h.bind gh tp D fun x v G1 H1 p1 s1 gh1 tp1 D1 x1 => h'.bind gh1 tp1 D1 fun y u G2 H2 p2 s2 gh2 tp2 D2 x2 => by
    subst p1 p2
    have x1 := x1.mono s2.g
    cases x1 with
    | @lst a vs _ e1 a1 =>
      cases x2 with
      | @lst b us _ e2 a2 => exact ⟨a, b, vs, us, rfl, .inl ⟨sql_of (gh2 _ _ e1), sql_of (gh2 _ _ e2), q _ _ G2 H2 rfl (s1.trans s2) (itd_zip e1 a1 e2 a2)⟩⟩
theorem it_zipT {ta tb : TE} {xs ys : List PyData} (h : Pd K ta ρ (.tuple xs)) (h' : Pd K tb ρ (.tuple ys)) : Pitd K (iZipA K (tCons ta (tCons tb tNil))) ρ (zipD xs ys) := fun T H0 G H σ gh tp D R q =>
  h.bind gh tp D fun x v G1 H1 p1 s1 gh1 tp1 D1 x1 => h'.bind gh1 tp1 D1 fun y u G2 H2 p2 s2 gh2 tp2 D2 x2 => by
    subst p1 p2
    have x1 := x1.mono s2.g
    cases x1 with
    | @tup a vs _ e1 a1 =>
      cases x2 with
      | @tup b us _ e2 a2 => exact ⟨a, b, vs, us, rfl, .inr ⟨sqt_mono gh2 e1, sqt_mono gh2 e2, q _ _ G2 H2 rfl (s1.trans s2) (itd_zipT e1 a1 e2 a2)⟩⟩
theorem it_enum {ta : TE} {xs : List PyData} (h : Pd K ta ρ (.list xs)) : Pitd K (iEnum K (tCons ta tNil)) ρ (enumD 0 xs) := fun T H0 G H σ gh tp D R q =>
  h.bind gh tp D fun x v G1 H1 p1 s1 gh1 tp1 D1 x1 => by
    subst p1
    cases x1 with
    | @lst a vs _ e1 a1 => exact ⟨a, vs, rfl, sql_of (gh1 _ _ e1), q _ _ G1 H1 rfl s1 (itd_enum e1 a1)⟩

/-! ### targets -/
def Pg (K : PySem.W.Frag) (g : TG) (sl : List Nat) (x : PyData) (ρ ρ' : Rho) : Prop := ∀ (T : Addr → Prop) (H0 G H : Hp) (σ : L2.St) (v : V), Same G H → Den T K H0 G H σ ρ → Dn K G v x →
  ∀ Q : L2.St → Hp → Prop, (∀ σ', Den T K H0 G H σ' ρ' → σ'.length = σ.length → (∀ i, i ∉ sl → σ'[i]? = σ[i]?) → Q σ' H) → g v σ H Q
theorem yg_n {i : Nat} {x : PyData} : Pg K (gName i) [i] x ρ (ρ.set i (.d x)) := fun T H0 G H σ v gh D d Q q =>
  q _ (D.set (s := .d x) (o := some v) ⟨v, rfl, d⟩ fun _ z => nomatch z) (List.length_set) fun j hj => List.getElem?_set_ne fun z => hj (by simp [z])
def Pgs (K : PySem.W.Frag) (g : TGs) (sl : List Nat) (xs : List PyData) (ρ ρ' : Rho) : Prop := ∀ (T : Addr → Prop) (H0 G H : Hp) (σ : L2.St) (vs : List V), Same G H → Den T K H0 G H σ ρ → DnAll K G vs xs →
  ∀ Q : L2.St → Hp → Prop, (∀ σ', Den T K H0 G H σ' ρ' → σ'.length = σ.length → (∀ i, i ∉ sl → σ'[i]? = σ[i]?) → Q σ' H) → g vs σ H Q
theorem ygs_0 : Pgs K gNil [] [] ρ ρ := fun T H0 G H σ vs gh D d Q q => by
  cases d
  exact ⟨rfl, q σ D rfl fun _ _ => rfl⟩
theorem ygs_1 {g : TG} {gs : TGs} {s1 s2 : List Nat} {x : PyData} {xs : List PyData} {ρ1 : Rho} (h : Pg K g s1 x ρ ρ1) (hs : Pgs K gs s2 xs ρ1 ρ') : Pgs K (gCons g gs) (s1 ++ s2) (x :: xs) ρ ρ' := fun T H0 G H σ vs gh D d Q q => by
  cases d with
  | cons d1 d2 =>
    refine ⟨_, _, rfl, h T H0 G H σ _ gh D d1 _ fun σ1 D1 l1 f1 => hs T H0 G H σ1 _ gh D1 d2 _ fun σ2 D2 l2 f2 => q σ2 D2 (l2.trans l1) fun i hi => ?_⟩
    rw [List.mem_append, not_or] at hi
    exact (f2 i hi.2).trans (f1 i hi.1)
theorem yg_t {gs : TGs} {sl : List Nat} {xs : List PyData} {n : Nat} (h : Pgs K gs sl xs ρ ρ') (hn : xs.length = n := by rfl) : Pg K (gTup K n gs) sl (.tuple xs) ρ ρ' := fun T H0 G H σ v gh D d Q q => by
  cases d with
  | @tup a vs _ e1 a1 => exact ⟨a, vs, rfl, sqt_mono gh e1, a1.length.trans hn, h T H0 G H σ vs gh D a1 Q q⟩
theorem ws_asg {g : TG} {E : Ed} {sl : List Nat} {x : PyData} (h : Pd K te ρ x) (hg : Pg K g sl x ρ ρ') (k : E.nx ρ') : Ws K (tAsg te g) ρ E := fun T G0 H0 σ H D a e =>
  a.eval h fun d v G' H' p s D' y => by
    subst p
    exact hg T H0 G' H' σ v s.gh D' y _ fun σ' D'' _ _ => e.nx _ _ _ k ⟨G', s, D''⟩
theorem wq_asg {u : TS} {g : TG} {E : Ed} {sl : List Nat} {x : PyData} (h : Pd K te ρ x) (hg : Pg K g sl x ρ ρ') (k : Ws K u ρ' E) : Ws K (tSeq (tAsg te g) u) ρ E := ws_seq (fun r => r = ρ') (ws_asg h hg rfl) fun r e => e ▸ k

/-! ### for -/
/-- the entry moved to what is data by now -/
theorem Step.based {T : Addr → Prop} {G0 H0 G1 H1 G H : Hp} (a : Step T G0 H0 G1 H1) (b : Step T G0 H0 G H) (g : Same G1 G) : Step T G1 H0 G H := ⟨g, b.gh, b.h, fun p e n => b.fr p (a.g.free e) n, b.tp⟩
theorem Step.unbased {T : Addr → Prop} {G0 H0 G1 H1 G H : Hp} (a : Step T G0 H0 G1 H1) (b : Step T G1 H0 G H) : Step T G0 H0 G H := ⟨a.g.trans b.g, b.gh, b.h, fun p e n => b.fr p (a.fr p e n) n, b.tp⟩
theorem At.unbased {T : Addr → Prop} {G0 H0 G1 H1 H : Hp} {σ : L2.St} (a : Step T G0 H0 G1 H1) (h : At T K G1 H0 ρ σ H) : At T K G0 H0 ρ σ H := let ⟨G, s, d⟩ := h; ⟨G, a.unbased s, d⟩
theorem ws_for {wi : TI} {g : TG} {tb : TS} {E : Ed} (hi : Pit K wi ρ PL) (W : List PyData → Nat → Rho → Prop) (h0 : ∀ xs, PL xs → W xs 0 ρ)
    (hs : ∀ xs i x r, PL xs → xs[i]? = some x → W xs i r → ∃ sl r', Pg K g sl x r r' ∧ Ws K tb r' { nx := W xs (i + 1), ct := W xs (i + 1), bk := E.nx, rt := E.rt, xw := E.xw, xr := E.xr })
    (hd : ∀ xs r, PL xs → W xs xs.length r → E.nx r) : Ws K (tFor wi g tb) ρ E := fun T G0 H0 σ H D a e => by
  obtain ⟨G, s, D0⟩ := a
  refine hi T H0 G H σ s.gh s.tp D0 _ fun xs J G1 H1 hx s1 it => ?_
  have s01 := s.trans s1
  refine ⟨fun i m σ H => m = xs.length - i ∧ i ≤ xs.length ∧ ∃ r, W xs i r ∧ At T K G1 H0 r σ H, ⟨xs.length, by simp, Nat.zero_le _, ρ, h0 xs hx, G1, s01.based s01 (Same.refl _), D0.mono s1⟩, ?_⟩
  rintro i m σ H ⟨rfl, hil, r, w, G2, s2, D2⟩
  have g2 : Same G1 H := s2.g.trans s2.gh
  by_cases hlt : i < xs.length
  · refine .inr ⟨it.go i H g2 hlt, fun σ' H' => ∃ r, W xs (i + 1) r ∧ At T K G1 H0 r σ' H', fun σ' H' p => ⟨xs.length - (i + 1), by omega, rfl, hlt, p⟩, fun x H' y => ?_⟩
    obtain ⟨G3, d, ed, s3, dx⟩ := it.yld i T G2 H x H' s2.g s2.gh s2.tp hlt y
    obtain ⟨sl, r', hg, hb⟩ := hs xs i d r hx ed w
    refine hg T H0 G3 H' σ x s3.gh (D2.mono s3) dx _ fun σ' D' _ _ => ?_
    refine hb T G1 H0 σ' H' _ ⟨G3, s2.trans s3, D'⟩ ⟨fun r σ H p a => ⟨r, p, a⟩, fun d v H p a => e.rt d v H p ?_, fun r σ H p a => e.nx r σ H p (a.unbased s01), fun r σ H p a => ⟨r, p, a⟩, fun c f d r σ G H p s n x => e.xx c f d r σ G H p (s01.unbased s) n x⟩
    obtain ⟨G4, s4, x4⟩ := a
    exact ⟨G4, s01.unbased s4, x4⟩
  · have e1 : i = xs.length := by omega
    subst e1
    exact .inl ⟨it.stop _ H g2 (Nat.le_refl _), e.nx r σ H (hd xs r hx w) (At.unbased s01 ⟨G2, s2, D2⟩)⟩
/-- over known data: the state told by the turn -/
theorem ws_ford {wi : TI} {g : TG} {tb : TS} {E : Ed} {xs : List PyData} (hi : Pitd K wi ρ xs) (W : Nat → Rho → Prop) (h0 : W 0 ρ)
    (hs : ∀ i x r, xs[i]? = some x → W i r → ∃ sl r', Pg K g sl x r r' ∧ Ws K tb r' { nx := W (i + 1), ct := W (i + 1), bk := E.nx, rt := E.rt, xw := E.xw, xr := E.xr })
    (hd : ∀ r, W xs.length r → E.nx r) : Ws K (tFor wi g tb) ρ E :=
  ws_for hi (fun _ => W) (fun _ _ => h0) (fun ys i x r e => by subst e; exact hs i x r) fun ys r e => by subst e; exact hd r
/-- while: the states, a measure -/
theorem ws_while {α : Type} {c : TT} {tb : TS} {E : Ed} (W : α → Rho → Prop) (μ : α → Nat) (a0 : α) (h0 : W a0 ρ)
    (hs : ∀ a r, W a r → ∃ b, Ptd K c r b ∧ (b = true → Ws K tb r { nx := fun r' => ∃ a', μ a' < μ a ∧ W a' r', ct := fun r' => ∃ a', μ a' < μ a ∧ W a' r', bk := E.nx, rt := E.rt, xw := E.xw, xr := E.xr }) ∧ (b = false → E.nx r)) : Ws K (tWhile c tb) ρ E := fun T G0 H0 σ H D a e => by
  refine ⟨fun m σ H => ∃ a r, m = μ a ∧ W a r ∧ At T K G0 H0 r σ H, ⟨_, a0, ρ, rfl, h0, a⟩, ?_⟩
  rintro m σ H ⟨a1, r, rfl, w, G, s, D0⟩
  obtain ⟨b, hc, ht, hf⟩ := hs a1 r w
  refine hc T H0 G H σ s.gh s.tp D0 _ fun b' G1 H1 p1 s1 => ?_
  subst p1
  cases b' with
  | true =>
    refine ⟨fun σ' H' => ∃ a' r', μ a' < μ a1 ∧ W a' r' ∧ At T K G0 H0 r' σ' H', fun σ' H' ⟨a', r', l, w', z⟩ => ⟨μ a', l, a', r', rfl, w', z⟩, ?_⟩
    exact ht rfl T G0 H0 σ H1 _ ⟨G1, s.trans s1, D0.mono s1⟩ ⟨fun r σ H ⟨a', l, w'⟩ z => ⟨a', r, l, w', z⟩, e.rt, e.nx, fun r σ H ⟨a', l, w'⟩ z => ⟨a', r, l, w', z⟩, e.xx⟩
  | false => exact e.nx r σ H1 (hf rfl) ⟨G1, s.trans s1, D0.mono s1⟩

/-! ### comprehensions -/
def wipeR (ρ : Rho) : List Nat → Rho
  | [] => ρ
  | v :: vs => (wipeR ρ vs).set v .no
theorem Den.wipe {T : Addr → Prop} {H0 G H : Hp} {σ : L2.St} (D : Den T K H0 G H σ ρ) : ∀ vs : List Nat, Den T K H0 G H (L2.wipe σ vs) (wipeR ρ vs)
  | [] => D
  | v :: vs => (D.wipe vs).set (s := .no) (o := none) trivial fun _ z => nomatch z
theorem wipe_at {σ : L2.St} {i : Nat} : ∀ (vs : List Nat), (L2.wipe σ vs)[i]? = if i ∈ vs ∧ i < σ.length then some none else σ[i]?
  | [] => by rw [if_neg (by simp)]; rfl
  | v :: vs => by
    unfold L2.wipe
    by_cases h : v = i
    · subst h
      by_cases hl : v < σ.length
      · rw [List.getElem?_set_self (by rw [wipe_length]; exact hl), if_pos ⟨by simp, hl⟩]
      · rw [List.getElem?_eq_none (by rw [List.length_set, wipe_length]; omega), if_neg (by simp [hl]), List.getElem?_eq_none (by omega)]
    · rw [List.getElem?_set_ne h, wipe_at vs]
      have : (i ∈ v :: vs ∧ i < σ.length) ↔ (i ∈ vs ∧ i < σ.length) := by
        simp only [List.mem_cons]
        constructor
        · rintro ⟨a | a, b⟩
          · exact absurd a.symm h
          · exact ⟨a, b⟩
        · rintro ⟨a, b⟩
          exact ⟨.inr a, b⟩
      by_cases q : i ∈ vs ∧ i < σ.length
      · rw [if_pos q, if_pos (this.mpr q)]
      · rw [if_neg q, if_neg (fun z => q (this.mp z))]
theorem wipe_eq {σ σ2 : L2.St} {vs : List Nat} (hl : σ2.length = σ.length) (h : ∀ i, i ∉ vs → σ2[i]? = σ[i]?) : L2.wipe σ2 vs = L2.wipe σ vs := by
  refine List.ext_getElem? fun i => ?_
  rw [wipe_at, wipe_at, hl]
  by_cases q : i ∈ vs ∧ i < σ.length
  · rw [if_pos q, if_pos q]
  · rw [if_neg q, if_neg q]
    by_cases hi : i ∈ vs
    · have : ¬ i < σ.length := fun z => q ⟨hi, z⟩
      rw [List.getElem?_eq_none (by omega), List.getElem?_eq_none (by omega)]
    · exact h i hi
/-- [e for x in .. if t]: keep and R by the element; deterministic tests -/
theorem nl_lc {wi : TI} {g : TG} {tt : TT} {vs sl : List Nat} (hi : Pit K wi ρ PL) (keep : PyData → Bool) (R : PyData → PyData → Prop) (hsl : ∀ i ∈ sl, i ∈ vs)
    (hz : ∀ xs, PL xs → xs.length < sizeLine)
    (hb : ∀ xs x, PL xs → x ∈ xs → ∃ r', Pg K g sl x (wipeR ρ vs) r' ∧ Ptd K tt r' (keep x) ∧ (keep x = true → Pe K te r' (R x))) :
    Nl K (tLc wi g tt te vs) ρ (fun ys => ∃ xs, PL xs ∧ Paired R (xs.filter keep) ys) := fun T H0 G H σ gh tp D Q q => by
  refine hi T H0 G H σ gh tp D _ fun xs J G1 H1 hx s1 it Dl hD => ?_
  have Dn1 := (D.mono s1).wipe vs
  have nt : ¬ T Dl := tape_some s1.tp hD
  have gd : G1 Dl = none := s1.gh.free hD
  -- the state at a turn
  refine ⟨fun i m H => m = xs.length - i ∧ i ≤ xs.length ∧ ∃ G acc ys, Step T G1 H1 G H ∧ H Dl = some (.lst acc) ∧ G Dl = none ∧ DnAll K G acc ys ∧ Paired R ((xs.take i).filter keep) ys,
    ⟨xs.length, by simp, Nat.zero_le _, G1, [], [], Step.newM s1.gh s1.tp hD, upd_same, gd, .nil, .nil⟩, ?_⟩
  rintro i m H2 ⟨rfl, hil, G2, acc, ys, s2, hacc, g2d, da, pr⟩
  have g2 : Same G1 H2 := s2.g.trans s2.gh
  by_cases hlt : i < xs.length
  · refine .inr ⟨it.go i H2 g2 hlt, fun H' => ∃ G acc ys, Step T G1 H1 G H' ∧ H' Dl = some (.lst acc) ∧ G Dl = none ∧ DnAll K G acc ys ∧ Paired R ((xs.take (i + 1)).filter keep) ys, fun H' p => ⟨xs.length - (i + 1), by omega, rfl, hlt, p⟩, fun x H' y => ?_⟩
    obtain ⟨G3, d, ed, s3, dx⟩ := it.yld i T G2 H2 x H' s2.g s2.gh s2.tp hlt y
    obtain ⟨r', hg, ht, he⟩ := hb xs d hx (List.mem_of_getElem? ed)
    have s13 := s2.trans s3
    have et : (xs.take (i + 1)).filter keep = (xs.take i).filter keep ++ (if keep d = true then [d] else []) := by
      rw [List.take_add_one, ed, List.filter_append]
      congr 1
      show List.filter keep [d] = _
      cases hk : keep d with
      | true => simp [hk]
      | false => simp [hk]
    have lacc : ys.length ≤ i := by
      have h1 := pr.length
      have h2 := List.length_filter_le keep (xs.take i)
      rw [List.length_take] at h2
      omega
    refine hg T H0 G3 H' _ x s3.gh (Dn1.mono s13) dx _ fun σ' D' hl hf => ⟨?_, ?_⟩
    · refine (wipe_eq hl fun j hj => hf j fun z => hj (hsl j z)).trans ?_
      refine wipe_eq (wipe_length σ vs) fun j hj => ?_
      rw [wipe_at, if_neg (fun z => hj z.1)]
    refine ht T H0 G3 H' σ' s3.gh s3.tp D' _ fun b G4 H4 pb s4 => ?_
    subst pb
    have hD2 : H2 Dl ≠ none := by rw [hacc]; intro z; cases z
    have a4 : H4 Dl = some (.lst acc) := s4.h _ _ nt (s3.h _ _ nt hacc)
    have g4d : G4 Dl = none := s4.fr _ (s3.fr _ g2d hD2) (s3.so hD2)
    cases hk : keep d with
    | true =>
      rw [hk] at et
      rw [if_pos rfl]
      refine (he hk).bind s4.gh s4.tp (D'.mono s4) fun e v G5 H5 p5 s5 gh5 tp5 D5 x5 => ⟨acc, s5.h _ _ nt a4, ?_, G5, acc ++ [v], ys ++ [e], ?_, upd_same, s5.fr _ g4d (by rw [a4]; intro z; cases z), ?_, ?_⟩
      · rw [da.length]
        exact Nat.lt_of_le_of_lt lacc (Nat.lt_trans hlt (hz xs hx))
      · have s15 := (s13.trans s4).trans s5
        have g5d : G5 Dl = none := s5.fr _ g4d (by rw [a4]; intro z; cases z)
        refine ⟨s15.g, fun c u e => ?_, fun p o np ep => ?_, s15.fr, fun a t => ?_⟩
        · rw [upd_ne (ne_of_none e g5d)]
          exact gh5 _ _ e
        · rw [upd_ne (ne_of_none ep hD)]
          exact s15.h p o np ep
        · have z := tp5 a t
          obtain ⟨b, ns, x, y, m, e, eb, ea, r⟩ := id z
          exact z.mono (Same.refl _) (upd_ne (fun w => nt (w ▸ t))) ea
      · exact (((da.mono s3.g).mono s4.g).mono s5.g).append (.cons x5 .nil)
      · rw [et, if_pos rfl]
        have app : ∀ {as : List PyData} {bs : List PyData}, Paired R as bs → Paired R (as ++ [d]) (bs ++ [e]) := by
          intro as bs h
          induction h with
          | nil => exact .cons p5 .nil
          | cons r _ ih => exact .cons r ih
        exact app pr
    | false =>
      rw [hk] at et
      rw [if_neg Bool.false_ne_true]
      refine ⟨G4, acc, ys, s13.trans s4, a4, g4d, (da.mono s3.g).mono s4.g, ?_⟩
      rw [et, if_neg Bool.false_ne_true, List.append_nil]
      exact pr
  · have e1 : i = xs.length := by omega
    subst e1
    rw [List.take_of_length_le (Nat.le_refl _)] at pr
    have s12 := s2
    refine .inl ⟨it.stop _ H2 g2 (Nat.le_refl _), q ys Dl acc G2 H2 ⟨xs, hx, pr⟩ (s1.trans s2) ?_ nt g2d hacc da⟩
    exact s1.no hD nt
theorem yt_yes : Ptd K tYes ρ true := fun T H0 G H σ gh tp D Q q => q true G H rfl (Step.refl gh tp)
theorem filter_all (xs : List PyData) : xs.filter (fun _ => true) = xs := List.filter_eq_self.mpr fun _ _ => rfl
theorem paired_map {f : PyData → PyData} : ∀ {xs ys : List PyData}, Paired (fun a b => b = f a) xs ys → ys = xs.map f
  | _, _, .nil => rfl
  | _, _, .cons h t => by rw [h, paired_map t]; rfl
/-- without a test, a function of the element -/
theorem nd_lcf {wi : TI} {g : TG} {vs sl : List Nat} {xs : List PyData} (f : PyData → PyData) (hi : Pitd K wi ρ xs) (hsl : ∀ i ∈ sl, i ∈ vs) (hz : xs.length < sizeLine)
    (hb : ∀ x, x ∈ xs → ∃ r', Pg K g sl x (wipeR ρ vs) r' ∧ Pd K te r' (f x)) : Nld K (tLc wi g tYes te vs) ρ (xs.map f) :=
  (nl_lc hi (fun _ => true) (fun a b => b = f a) hsl (fun _ e => e ▸ hz) fun ys x e hx => by
    subst e
    obtain ⟨r', h1, h2⟩ := hb x hx
    exact ⟨r', h1, yt_yes, fun _ => h2⟩).imp fun ys ⟨zs, e, p⟩ => by
      subst e
      rw [filter_all] at p
      exact paired_map p
/-- with a test -/
theorem nd_lcff {wi : TI} {g : TG} {tt : TT} {vs sl : List Nat} {xs : List PyData} (keep : PyData → Bool) (f : PyData → PyData) (hi : Pitd K wi ρ xs) (hsl : ∀ i ∈ sl, i ∈ vs) (hz : xs.length < sizeLine)
    (hb : ∀ x, x ∈ xs → ∃ r', Pg K g sl x (wipeR ρ vs) r' ∧ Ptd K tt r' (keep x) ∧ (keep x = true → Pd K te r' (f x))) : Nld K (tLc wi g tt te vs) ρ ((xs.filter keep).map f) :=
  (nl_lc hi keep (fun a b => b = f a) hsl (fun _ e => e ▸ hz) fun ys x e hx => by
    subst e
    exact hb x hx).imp fun ys ⟨zs, e, p⟩ => by
      subst e
      exact paired_map p

/-! ### lists that change -/
variable {T : Addr → Prop} {G0 H0 G H : Hp} {σ : L2.St} {E : Ed} {u : TS}
/-- the list in slot i is changed -/
theorem Den.mut (D : Den T K H0 G H σ ρ) (s : Step T G0 H0 G H) {i : Nat} {xs ys : List PyData} {l : Addr} {ws : List V} (e : ρ[i]? = some (.ml xs)) (el : σ[i]? = some (some (.ref l))) (a : DnAll K G ws ys) :
    Step T G0 H0 G (upd H l (.lst ws)) ∧ Den T K H0 G (upd H l (.lst ws)) σ (ρ.set i (.ml ys)) := by
  obtain ⟨o, e1, l', vs, rfl, hl, d, gl, h0, nt⟩ := D.at e
  rw [el] at e1
  cases e1
  refine ⟨⟨s.g, fun c w ec => ?_, fun p o np ep => ?_, s.fr, fun b t => ?_⟩, by rw [List.length_set]; exact D.len, fun j x o q1 q2 => ?_, fun j k ys' zs m hjk q1 q2 q3 q4 => ?_⟩
  · rw [upd_ne (ne_of_none ec gl)]
    exact s.gh _ _ ec
  · rw [upd_ne (ne_of_none ep h0)]
    exact s.h p o np ep
  · have z := s.tp b t
    obtain ⟨b', ns, x, y, m, e', eb, ea, r⟩ := id z
    exact z.mono (Same.refl _) (upd_ne (fun w => nt (w ▸ t))) ea
  · by_cases q : i = j
    · subst q
      rw [List.getElem?_set_self (List.getElem?_eq_some_iff.mp e).1] at q1
      cases q1
      rw [el] at q2
      cases q2
      exact ⟨l, ws, rfl, upd_same, a, gl, h0, nt⟩
    · rw [List.getElem?_set_ne q] at q1
      have old := D.ok j x o q1 q2
      cases x with
      | no => trivial
      | d x => exact old
      | tp => exact old
      | rf a => exact old
      | rg lo hi => exact old
      | ml ys =>
        obtain ⟨m, us, rfl, hm, am, gm, hm0, ntm⟩ := old
        refine ⟨m, us, rfl, ?_, am, gm, hm0, ntm⟩
        have nml : m ≠ l := fun z => by
          subst z
          exact D.one i j xs ys m q e q1 el q2
        rw [upd_ne nml]
        exact hm
  · have back : ∀ {n : Nat} {w : List PyData}, (ρ.set i (.ml ys))[n]? = some (.ml w) → ∃ w', ρ[n]? = some (.ml w') := fun {n w} q => by
      by_cases z : i = n
      · exact ⟨xs, z ▸ e⟩
      · rw [List.getElem?_set_ne z] at q
        exact ⟨w, q⟩
    obtain ⟨w1, r1⟩ := back q1
    obtain ⟨w2, r2⟩ := back q2
    exact D.one j k w1 w2 m hjk r1 r2 q3 q4
/-- xs.append(e) -/
theorem ws_app {i : Nat} {xs : List PyData} (e : ρ[i]? = some (.ml xs)) (h : Pe K te ρ P) (hz : xs.length < sizeLine) (k : ∀ d, P d → E.nx (ρ.set i (.ml (xs ++ [d])))) : Ws K (tDrop (tBM K "list" rAppend (tVar i) (tCons te tNil))) ρ E := fun T G0 H0 σ H D a ed => by
  obtain ⟨G, s, D0⟩ := a
  obtain ⟨o, e1, l, vs, rfl, hl, x, gl, h0, nt⟩ := D0.at e
  refine ⟨_, e1, .inl ⟨rfl, vs, sql_of hl⟩, h.bind s.gh s.tp D0 fun d v G' H' p s' gh' tp' D' y => ?_⟩
  obtain ⟨s2, D2⟩ := D'.mut (s.trans s') e e1 ((x.mono s'.g).append (.cons y .nil))
  exact ⟨l, vs, v, rfl, rfl, s'.h _ _ nt hl, by rw [x.length]; exact hz, ed.nx _ _ _ (k d p) ⟨G', s2, D2⟩⟩
theorem wq_app {i : Nat} {xs : List PyData} (e : ρ[i]? = some (.ml xs)) (h : Pe K te ρ P) (hz : xs.length < sizeLine) (k : ∀ d, P d → Ws K u (ρ.set i (.ml (xs ++ [d]))) E) : Ws K (tSeq (tDrop (tBM K "list" rAppend (tVar i) (tCons te tNil))) u) ρ E :=
  ws_seq (fun r => ∃ d, P d ∧ r = ρ.set i (.ml (xs ++ [d]))) (ws_app e h hz fun d p => ⟨d, p, rfl⟩) fun r ⟨d, p, e⟩ => e ▸ k d p
/-- xs.extend(ys) -/
theorem ws_ext {i : Nat} {xs : List PyData} (e : ρ[i]? = some (.ml xs)) (h : Rl K te ρ PL) (hz : ∀ ys, PL ys → xs.length + ys.length ≤ sizeLine) (k : ∀ ys, PL ys → E.nx (ρ.set i (.ml (xs ++ ys)))) : Ws K (tDrop (tBM K "list" rExtend (tVar i) (tCons te tNil))) ρ E := fun T G0 H0 σ H D a ed => by
  obtain ⟨G, s, D0⟩ := a
  obtain ⟨o, e1, l, vs, rfl, hl, x, gl, h0, nt⟩ := D0.at e
  refine ⟨_, e1, .inl ⟨rfl, vs, sql_of hl⟩, h.bind s.gh s.tp D0 fun ys p ws G' H' py s' gh' tp' D' rd y => ?_⟩
  obtain ⟨s2, D2⟩ := D'.mut (s.trans s') e e1 ((x.mono s'.g).append y)
  exact ⟨l, p, vs, ws, rfl, rfl, s'.h _ _ nt hl, rd.at gh', by rw [x.length, y.length]; exact hz ys py, ed.nx _ _ _ (k ys py) ⟨G', s2, D2⟩⟩
/-- xs.pop(), the value unused -/
theorem ws_pop {i : Nat} {xs : List PyData} (e : ρ[i]? = some (.ml xs)) (hne : xs ≠ []) (k : E.nx (ρ.set i (.ml xs.dropLast))) : Ws K (tDrop (tBM0 K "list" rPop (tVar i))) ρ E := fun T G0 H0 σ H D a ed => by
  obtain ⟨G, s, D0⟩ := a
  obtain ⟨o, e1, l, vs, rfl, hl, x, gl, h0, nt⟩ := D0.at e
  have hv : 0 < vs.length := by
    rw [x.length]
    exact List.length_pos_iff.mpr hne
  obtain ⟨s2, D2⟩ := D0.mut s e e1 x.dropLast
  exact ⟨_, e1, .inl ⟨rfl, vs, sql_of hl⟩, l, vs, vs[vs.length - 1], rfl, rfl, hl, List.getElem?_eq_getElem (by omega), ed.nx _ _ _ k ⟨G, s2, D2⟩⟩
/-- xs[j] = e -/
theorem ws_seti {i : Nat} {xs : List PyData} {j : Int} {n : Nat} (e : ρ[i]? = some (.ml xs)) (h : Pe K te ρ P) (hj : Pd K tb ρ (.int j)) (hn : ixN xs.length j = some n) (k : ∀ d, P d → E.nx (ρ.set i (.ml (xs.set n d)))) : Ws K (tAsg te (gSub (tVar i) tb rSetL)) ρ E := fun T G0 H0 σ H D a ed => by
  obtain ⟨G, s, D0⟩ := a
  refine h.bind s.gh s.tp D0 fun d v G' H' p s' gh' tp' D' y => ?_
  obtain ⟨o, e1, l, vs, rfl, hl, x, gl, h0, nt⟩ := D'.at e
  refine ⟨_, e1, hj.bind gh' tp' D' fun z w G2 H2 p2 s2 gh2 tp2 D2 y2 => ?_⟩
  subst p2
  cases y2
  obtain ⟨s3, D3⟩ := D2.mut ((s.trans s').trans s2) e e1 ((x.mono s2.g).set n (y.mono s2.g))
  exact ⟨l, vs, j, n, rfl, rfl, s2.h _ _ nt hl, by rw [x.length]; exact hn, ed.nx _ _ _ (k d p) ⟨G2, s3, D3⟩⟩
/-- x op= e -/
theorem ws_aug {i : Nat} {f : Int → Int → Int} {a b : Int} (e : ρ[i]? = some (.d (.int a))) (h : Pd K te ρ (.int b)) (k : E.nx (ρ.set i (.d (.int (f a b))))) {ti : TIp} (ht : ∀ H Q, Q (.int (f a b)) H → ti (.int a) (.int b) H Q) : Ws K (tAug i te ti) ρ E := fun T G0 H0 σ H D at' ed => by
  obtain ⟨G, s, D0⟩ := at'
  obtain ⟨o, e1, v, rfl, x⟩ := D0.at e
  refine ⟨v, e1, h.bind s.gh s.tp D0 fun d w G' H' p s' gh' tp' D' y => ?_⟩
  subst p
  cases x
  cases y
  exact ht _ _ (ed.nx _ _ _ k ⟨G', s.trans s', D'.set (s := .d _) (o := some _) ⟨_, rfl, .int _⟩ fun _ z => nomatch z⟩)
/-- a, b = e, f -/
theorem ws_par {i j : Nat} {x y : PyData} {ta : TA} (h : Pasd K ta ρ [.d x, .d y]) (k : E.nx ((ρ.set i (.d x)).set j (.d y))) : Ws K (tPar i j ta) ρ E := fun T G0 H0 σ H D at' ed => by
  obtain ⟨G, s, D0⟩ := at'
  refine h.bind s.gh s.tp D0 fun ss vs G' H' p s' gh' tp' D' a => ?_
  subst p
  cases a with
  | cons a1 a2 =>
    cases a2 with
    | cons a2 a3 =>
      cases a3
      refine ⟨_, _, rfl, ed.nx _ _ _ k ⟨G', s.trans s', ?_⟩⟩
      exact (D'.set (s := .d x) (o := some _) ⟨_, rfl, a1⟩ fun _ z => nomatch z).set (s := .d y) (o := some _) ⟨_, rfl, a2⟩ fun _ z => nomatch z
theorem ws_par3 {i j l : Nat} {x y z : PyData} {ta : TA} (h : Pasd K ta ρ [.d x, .d y, .d z]) (k : E.nx (((ρ.set i (.d x)).set j (.d y)).set l (.d z))) : Ws K (tPar3 i j l ta) ρ E := fun T G0 H0 σ H D at' ed => by
  obtain ⟨G, s, D0⟩ := at'
  refine h.bind s.gh s.tp D0 fun ss vs G' H' p s' gh' tp' D' a => ?_
  subst p
  cases a with
  | cons a1 a2 =>
    cases a2 with
    | cons a2 a3 =>
      cases a3 with
      | cons a3 a4 =>
        cases a4
        refine ⟨_, _, _, rfl, ed.nx _ _ _ k ⟨G', s.trans s', ?_⟩⟩
        exact ((D'.set (s := .d x) (o := some _) ⟨_, rfl, a1⟩ fun _ z => nomatch z).set (s := .d y) (o := some _) ⟨_, rfl, a2⟩ fun _ z => nomatch z).set (s := .d z) (o := some _) ⟨_, rfl, a3⟩ fun _ z => nomatch z

/-! ### a def's body -/
theorem den_start {N : List Str} {ss : List Sl} {vs : List V} (h : ArgsOk T K G ss vs) (hn : ss.length ≤ N.length) : Den T K H0 G H (L2.start N vs) (ss ++ List.replicate (N.length - ss.length) .no) := by
  have hl : ss.length = vs.length := Paired.length h
  refine ⟨?_, fun i s o e1 e2 => ?_, fun i j xs ys l hij e1 => ?_⟩
  · unfold L2.start
    simp only [List.length_append, List.length_map, List.length_replicate]
    omega
  · by_cases hi : i < ss.length
    · rw [List.getElem?_append_left hi] at e1
      unfold L2.start at e2
      rw [List.getElem?_append_left (by rw [List.length_map]; omega), List.getElem?_map] at e2
      have get : ∀ {ss : List Sl} {vs : List V} {i : Nat} {s : Sl}, ArgsOk T K G ss vs → ss[i]? = some s → ∃ v, vs[i]? = some v ∧ ArgOk T K G s v := by
        intro ss vs i s h
        induction h generalizing i with
        | nil => intro e; simp at e
        | cons r t ih =>
          intro e
          cases i with
          | zero =>
            have e := Option.some.inj e
            subst e
            exact ⟨_, rfl, r⟩
          | succ i => exact ih e
      obtain ⟨v, ev, av⟩ := get h e1
      rw [ev] at e2
      cases e2
      cases s with
      | no => exact av.elim
      | ml xs => exact av.elim
      | d x => exact ⟨v, rfl, av⟩
      | tp => exact let ⟨a, e, t⟩ := av; ⟨a, by rw [e], t⟩
      | rf a => exact av.elim
      | rg lo hi => exact av.elim
    · rw [List.getElem?_append_right (by omega), List.getElem?_replicate] at e1
      split at e1
      · cases e1
        trivial
      · cases e1
  · by_cases hi : i < ss.length
    · rw [List.getElem?_append_left hi] at e1
      have no : ∀ {ss : List Sl} {vs : List V} {i : Nat} {xs : List PyData}, ArgsOk T K G ss vs → ss[i]? ≠ some (.ml xs) := by
        intro ss vs i xs h
        induction h generalizing i with
        | nil => intro e; simp at e
        | cons r t ih =>
          intro e
          cases i with
          | zero =>
            have e := Option.some.inj e
            subst e
            exact r.elim
          | succ i => exact ih e
      exact absurd e1 (no h)
    · rw [List.getElem?_append_right (by omega), List.getElem?_replicate] at e1
      split at e1 <;> cases e1
/-- THE RULE for a def: its body by data -/
theorem fn_ok {Pg' : Program} {w : World} {mg : Str → Option Value} {base : Heap} {x qual : Str} {st : Stmt} {f : Addr} {fd : FuncData} {N ps : List Str} {k n : Nat} {R : Pr} (F : Fun K x qual st f fd) (S : FnScope N ps (defScope st)) (hp : ps.length = n) (hN : n ≤ N.length)
    (hb : ∀ (cdv : Value) (A : Around) (outer : List Env) (s : Shared) (H : Hp) (E : XK), Room k (A.deeper (envOfC qual (defScope st) s.heap.objs.size f cdv)) →
      ∃ t, PSs (cxOf CX0 Pg' w K mg base N qual (defScope st) f cdv A outer s H E).nox (defBody st) t ∧ ∀ ss P, ss.length = n → R ss P → Ws K t (ss ++ List.replicate (N.length - n) .no) { nx := fun _ => P .none, rt := P }) :
    FnOk Pg' w K mg base CX0 (k + 1) f fd ps (spR K n R) := by
  refine F.ok S (fun vs H Q E h => ?_) (fun cdv A outer s H vs Q E hr h => ?_)
  · obtain ⟨T, G, ss, P, gh, tp, a, hl, _⟩ := h
    rw [← Paired.length a, hl, hp]
  · obtain ⟨t, ht, hw⟩ := hb cdv A outer s H E hr
    obtain ⟨T, G, ss, P, gh, tp, a, hl, hR, q⟩ := h
    refine ⟨t, ht, ?_⟩
    have D0 : Den T K H G H (L2.start N vs) (ss ++ List.replicate (N.length - n) .no) := by
      have := den_start (H0 := H) (H := H) (N := N) a (by omega)
      rw [hl] at this
      exact this
    refine hw ss P hl hR T G H _ H _ ⟨G, Step.refl gh tp, D0⟩ ⟨fun ρ σ H' p a => ?_, fun d v H' p a => ?_, fun _ _ _ z => z.elim, fun _ _ _ z => z.elim, fun _ _ _ _ _ _ _ z => z.elim⟩
    · obtain ⟨G', s', _⟩ := a
      exact q _ _ G' H' p s' .non
    · obtain ⟨G', s', x⟩ := a
      exact q d v G' H' p s' x
end
end PD

namespace PD
open PySem PySem.Spec PyProof.Rows L2 RZ

/-! ### calls of the text's defs -/
structure Cal (Pg : Program) (w : World) (K : PySem.W.Frag) (mg : Str → Option Value) (base : Heap) (k : Nat) (x : Str) (ps : List Str) (sp : Sp) : Prop where
  ex : ∃ (f : Addr) (fd : FuncData), FnOk Pg w K mg base CX0 k f fd ps sp ∧ mg x = some (.ref f) ∧ PySem.W.keepIn K (.ref f) = true ∧ Binds K fd ps []
section
variable {X : Cx}
theorem pe_cal {k j : Nat} {x : Str} {ps : List Str} {sp : Sp} {e : Expr} {es : List Expr} {t : TA} {p pos : Pos} (C : Cal X.prog X.w X.K X.mg X.base k x ps sp) (hr : Room j X.A) (ha : PA X (e :: es) t) (hk : k ≤ j := by decide) (hg : Gl X x := by rfl) (hdb : (x == ("__debug__" : Str)) = false := by decide)
    (he : starEach (e :: es) X.env = (false, eval e X.env) :: starEach es X.env := by rfl) (hpl : (backTo pos (starEach es X.env)).any (·.1) = false := by rfl) : PE X (.Call (.Name x p) (e :: es) [] pos) (tCall sp [] E0 t) := by
  obtain ⟨f, fd, G, gm, gk, b⟩ := C.ex
  exact L2.pe_call G (hr.mono hk) hg gm gk b .nil pass0 ha hdb he hpl
/-- a module's number -/
theorem pe_gi {x : Str} {i : Int} {pos : Pos} (h : ∃ t, X.mg x = some (.int i t)) (hg : Gl X x := by rfl) (hd : (x == ("__debug__" : Str)) = false := by decide) : PE X (.Name x pos) (tC (.int i)) := by
  obtain ⟨t, e⟩ := h
  exact pe_glob hg e ⟨t, rfl⟩ hd
end

/-! ### the tape's making -/
def spTape (K : PySem.W.Frag) : Sp := fun vs H Q _ => ∃ (a : Addr) (ns : List Int), vs = [.ref a] ∧ SqL K H a (ns.map V.int) ∧
  ∀ (p b : Addr) (H' : Hp) (mixed : Int), H p = none → H b = none → p ≠ b → Same H H' → H' p = some (.lst [.ref b, .int 0, .int 0, .int mixed]) → H' b = some (.lst (ns.map V.int)) → 0 ≤ mixed → mixed < 2147483647 → Q (.ref p) H'
def spLaw (K : PySem.W.Frag) : Sp := fun vs H Q _ => ∃ (a : Addr) (ns : List Int), vs = [.ref a] ∧ SqL K H a (ns.map V.int) ∧ ns.length ≤ 63 ∧ ∀ H', Q (.bl true) H'
theorem dnall_ints {K : PySem.W.Frag} {G : Hp} (ns : List Int) : DnAll K G (ns.map V.int) (ns.map PyData.int) := DnAll.of_ints ns
theorem law_go {K : PySem.W.Frag} {u : TS} {N : List Str} {m : Nat} {Q : VK} {E : XK} {H : Hp} {a : Addr} {ns : List Int} (hS : SqL K H a (ns.map V.int)) (q : ∀ H', Q (.bl true) H') (hN : N.length = m + 2)
    (hw : Ws K u (.no :: .tp :: List.replicate m .no) { rt := fun d => d = .bool true }) :
    tSeq (tAsg (tCall (spTape K) [] E (tCons (tVar 0) tNil)) (gName 1)) u { nx := fun _ H' => Q .non H', rt := Q } (L2.start N [.ref a]) H := by
  refine ⟨.ref a, rfl, a, ns, rfl, hS, fun p b H' mixed hp hb hpb sm ep eb m0 m1 => ?_⟩
  have st : (L2.start N [.ref a]).set 1 (some (V.ref p)) = some (.ref a) :: some (.ref p) :: List.replicate m none := by
    unfold L2.start
    rw [hN]
    show (some (V.ref a) :: List.replicate (m + 2 - 1) none).set 1 (some (V.ref p)) = _
    rw [show m + 2 - 1 = m + 1 by omega, List.replicate_succ]
    rfl
  show u _ ((L2.start N [.ref a]).set 1 (some (V.ref p))) H'
  rw [st]
  have gb : ∀ c o, (fun x => if x = b then some (HO.lst (ns.map V.int)) else none : Hp) c = some o → H' c = some o := fun c o e => by
    by_cases z : c = b
    · have e : (if c = b then some (HO.lst (ns.map V.int)) else none) = some o := e
      rw [if_pos z] at e
      cases e
      rw [z]
      exact eb
    · have e : (if c = b then some (HO.lst (ns.map V.int)) else none) = some o := e
      rw [if_neg z] at e
      cases e
  have tp : ∀ c, c = p → Tp (fun x => if x = b then some (HO.lst (ns.map V.int)) else none) H' c := fun c e => by
    subst e
    exact ⟨b, ns, 0, 0, mixed, ep, if_pos rfl, if_neg hpb, Int.le_refl _, Int.le_refl _, m0, m1⟩
  refine hw (fun x => x = p) _ H' _ H' _ ⟨_, Step.refl gb tp, ⟨by simp, fun i s o e1 e2 => ?_, fun i j xs ys l hij e1 => ?_⟩⟩ ⟨fun _ _ _ z => z.elim, fun d v H2 e r => ?_, fun _ _ _ z => z.elim, fun _ _ _ z => z.elim, fun _ _ _ _ _ _ _ z => z.elim⟩
  · match i with
    | 0 => cases e1; trivial
    | 1 =>
      cases e1
      cases e2
      exact ⟨p, rfl, rfl⟩
    | i + 2 =>
      have e1 : (List.replicate m Sl.no)[i]? = some s := e1
      rw [List.getElem?_replicate] at e1
      split at e1
      · cases e1; trivial
      · cases e1
  · match i with
    | 0 => cases e1
    | 1 => cases e1
    | i + 2 =>
      have e1 : (List.replicate m Sl.no)[i]? = some (.ml xs) := e1
      rw [List.getElem?_replicate] at e1
      split at e1 <;> cases e1
  · subst e
    obtain ⟨G, _, x⟩ := r
    cases x
    exact q H2

/-! ### the tape read and written (by hand) -/
/-- a def on the tape, by hand: the heap with the tape's four -/
theorem tape_step {T : Addr → Prop} {G H G1 H1 : Hp} {p b : Addr} {ns : List Int} {place rest mixed : Int} (s : Step T G H G1 H1) (gb : G1 b = some (.lst (ns.map V.int))) (ga : G1 p = none) (hp : H1 p ≠ none) (t : T p) (p0 : 0 ≤ place) (r0 : 0 ≤ rest) (m0 : 0 ≤ mixed) (m1 : mixed < 2147483647) :
    Step T G H G1 (upd H1 p (.lst [.ref b, .int place, .int rest, .int mixed])) := by
  refine ⟨s.g, fun a o e => ?_, fun a o nt e => ?_, s.fr, fun a ta => ?_⟩
  · rw [upd_ne (ne_of_none e ga)]
    exact s.gh _ _ e
  · rw [upd_ne (fun z => nt (by rw [z]; exact t))]
    exact s.h a o nt e
  · by_cases z : a = p
    · rw [z]
      exact ⟨b, ns, place, rest, mixed, upd_same, gb, ga, p0, r0, m0, m1⟩
    · obtain ⟨b', ns', x, y, m, e, eb, ea, r⟩ := s.tp a ta
      exact ⟨b', ns', x, y, m, by rw [upd_ne z]; exact e, eb, ea, r⟩
end PD

namespace PD
open PySem PySem.Spec PyProof.Rows L2 RZ
section
variable {K : PySem.W.Frag} {ρ : Rho} {te ta tb tc td : TE} {P Q : PyData → Prop} {a b c d : PyData}
theorem yd_t1 (h1 : Pd K ta ρ a) : Pd K (tTup (tCons ta tNil)) ρ (.tuple [a]) := yd_tup (ds := [a]) (ya_d h1 ya_n)
theorem yd_t2 (h1 : Pd K ta ρ a) (h2 : Pd K tb ρ b) : Pd K (tTup (tCons ta (tCons tb tNil))) ρ (.tuple [a, b]) := yd_tup (ds := [a, b]) (ya_d h1 (ya_d h2 ya_n))
theorem yd_t3 (h1 : Pd K ta ρ a) (h2 : Pd K tb ρ b) (h3 : Pd K tc ρ c) : Pd K (tTup (tCons ta (tCons tb (tCons tc tNil)))) ρ (.tuple [a, b, c]) := yd_tup (ds := [a, b, c]) (ya_d h1 (ya_d h2 (ya_d h3 ya_n)))
theorem nd_l0 : Nld K (tLst tNil) ρ [] := nd_lst (ds := []) ya_n
theorem nd_l1 (h1 : Pd K ta ρ a) : Nld K (tLst (tCons ta tNil)) ρ [a] := nd_lst (ds := [a]) (ya_d h1 ya_n)
theorem nd_l2 (h1 : Pd K ta ρ a) (h2 : Pd K tb ρ b) : Nld K (tLst (tCons ta (tCons tb tNil))) ρ [a, b] := nd_lst (ds := [a, b]) (ya_d h1 (ya_d h2 ya_n))
theorem nd_l3 (h1 : Pd K ta ρ a) (h2 : Pd K tb ρ b) (h3 : Pd K tc ρ c) : Nld K (tLst (tCons ta (tCons tb (tCons tc tNil)))) ρ [a, b, c] := nd_lst (ds := [a, b, c]) (ya_d h1 (ya_d h2 (ya_d h3 ya_n)))
theorem nd_l4 (h1 : Pd K ta ρ a) (h2 : Pd K tb ρ b) (h3 : Pd K tc ρ c) (h4 : Pd K td ρ d) : Nld K (tLst (tCons ta (tCons tb (tCons tc (tCons td tNil))))) ρ [a, b, c, d] := nd_lst (ds := [a, b, c, d]) (ya_d h1 (ya_d h2 (ya_d h3 (ya_d h4 ya_n))))
/-- arguments that all have a property -/
def AllA (n : Nat) (Q : PyData → Prop) : List Sl → Prop := fun ss => ss.length = n ∧ ∀ s ∈ ss, ∃ d, s = .d d ∧ Q d
theorem ya_0 : Pas K tNil ρ (AllA 0 Q) := fun T H0 G H σ gh tp D R q => ya_n T H0 G H σ gh tp D R fun ss vs G' H' e => by
  subst e
  exact q [] vs G' H' ⟨rfl, fun s h => by cases h⟩
theorem ya_1 {tr : TA} {n : Nat} (h : Pe K te ρ Q) (hr : Pas K tr ρ (AllA n Q)) : Pas K (tCons te tr) ρ (AllA (n + 1) Q) := ya_c h hr fun d ss p ⟨e, a⟩ => ⟨congrArg (· + 1) e, fun s hs => by
  rcases List.mem_cons.mp hs with rfl | hs
  · exact ⟨d, rfl, p⟩
  · exact a s hs⟩
theorem all_data : ∀ {ss : List Sl} {n : Nat}, AllA n Q ss → ∃ ds : List PyData, ss = ds.map Sl.d ∧ ds.length = n ∧ ∀ x ∈ ds, Q x
  | [], _, ⟨e, _⟩ => ⟨[], rfl, e, fun x h => by cases h⟩
  | s :: ss, n, ⟨e, a⟩ => by
    obtain ⟨d, e1, q⟩ := a s List.mem_cons_self
    obtain ⟨ds, e2, e3, q2⟩ := all_data (n := ss.length) (ss := ss) ⟨rfl, fun s hs => a s (List.mem_cons_of_mem _ hs)⟩
    refine ⟨d :: ds, by rw [e1, e2]; rfl, by rw [← e, List.length_cons, e3]; rfl, fun x hx => ?_⟩
    rcases List.mem_cons.mp hx with rfl | hx
    · exact q
    · exact q2 x hx
theorem nl_all {tr : TA} {n : Nat} (h : Pas K tr ρ (AllA n Q)) (hn : n ≤ 1000 := by decide) : Nl K (tLst tr) ρ (fun xs => xs.length = n ∧ ∀ x ∈ xs, Q x) := nl_lst h fun ss p => by
  obtain ⟨ds, e, e2, q⟩ := all_data p
  exact ⟨ds, e, by rw [e2]; exact Nat.le_trans hn (by show 1000 ≤ (16777216 : Nat); decide), e2, q⟩
/-- [a, b, ..][draw] -/
theorem ye_menu {tr : TA} {n : Nat} (h : Pas K tr ρ (AllA n Q)) (hb : Pe K tb ρ (fun d => ∃ r : Int, d = .int r ∧ 0 ≤ r ∧ r < (n : Int))) (hn : n ≤ 1000 := by decide) : Pe K (tOp (rIx K) (tLst tr) tb) ρ Q := ye_ixR (nl_all h hn).rl hb fun xs y ⟨hl, ha⟩ ⟨r, e, r0, r1⟩ => by
  obtain ⟨j, rfl⟩ : ∃ j : Nat, r = (j : Int) := ⟨r.toNat, by omega⟩
  have hj : j < xs.length := by omega
  exact ⟨_, xs[j], e, atI_nat (List.getElem?_eq_getElem hj), ha _ (List.getElem_mem hj)⟩
/-- [a, b, ..][i], all places told -/
theorem yd_menu {xs : List PyData} {i : Int} (h : Nld K ta ρ xs) (hb : Pd K tb ρ (.int i)) (e : atI xs i = some d) : Pd K (tOp (rIx K) ta tb) ρ d := yd_ixR h.rl hb e
def isI (C : Int → Prop) : PyData → Prop := fun d => ∃ r : Int, d = .int r ∧ C r
theorem isI_of {C : Int → Prop} {i : Int} (h : Pd K te ρ (.int i)) (c : C i) : Pe K te ρ (isI C) := h.imp fun d e => ⟨i, e, c⟩
theorem isI_imp {C D : Int → Prop} (h : Pe K te ρ (isI C)) (i : ∀ r, C r → D r) : Pe K te ρ (isI D) := h.imp fun d ⟨r, e, c⟩ => ⟨r, e, i r c⟩
end
theorem sle_refl : ∀ (a : Sl), sle a a
  | .no => trivial
  | .d _ => rfl
  | .ml _ => rfl
  | .tp => rfl
  | .rf _ => rfl
  | .rg _ _ => rfl
theorem sle_trans : ∀ {a b c : Sl}, sle a b → sle b c → sle a c
  | _, _, .no, _, _ => trivial
  | _, .d _, .d _, h, e => by rw [h]; exact e
  | _, .ml _, .ml _, h, e => by rw [h]; exact e
  | _, .tp, .tp, h, e => by rw [h]; exact e
  | _, .rf _, .rf _, h, e => by rw [h]; exact e
  | _, .rg _ _, .rg _ _, h, e => by rw [h]; exact e
  | _, .no, .d _, _, e => nomatch e
  | _, .no, .ml _, _, e => nomatch e
  | _, .no, .tp, _, e => nomatch e
  | _, .no, .rf _, _, e => nomatch e
  | _, .no, .rg _ _, _, e => nomatch e
theorem Le.trans : ∀ {r s t : Rho}, Le r s → Le s t → Le r t
  | _, _, _, .nil, .nil => .nil
  | _, _, _, .cons a b, .cons c d => .cons (sle_trans a c) (Le.trans b d)
/-- a slot of which nothing is said may be stored -/
theorem Le.setn : ∀ {r s : Rho} {j : Nat} {x : Sl}, Le r s → s[j]? = some .no → Le (r.set j x) s
  | _, _, _, _, .nil, e => by simp at e
  | _, _, 0, x, .cons (b := b) _ t, e => by
    have e := Option.some.inj e
    subst e
    exact .cons trivial t
  | _, _, j + 1, x, .cons a t, e => .cons a (Le.setn (j := j) t e)
/-- two data of a tuple -/
theorem ye_t2 {K : PySem.W.Frag} {ρ : Rho} {ta tb : TE} {A B P : PyData → Prop} (h1 : Pe K ta ρ A) (h2 : Pe K tb ρ B) (k : ∀ a b, A a → B b → P (.tuple [a, b])) : Pe K (tTup (tCons ta (tCons tb tNil))) ρ P :=
  ye_tup (PA := fun ss => ∃ a b, ss = [.d a, .d b] ∧ A a ∧ B b) (ya_c h1 (ya_c (PR := fun ss => ∃ b, ss = [.d b] ∧ B b) h2 ya_n fun d ss p e => ⟨d, by rw [e], p⟩) fun d ss p ⟨b, e, q⟩ => ⟨d, b, by rw [e], p, q⟩) fun ss ⟨a, b, e, p, q⟩ => ⟨[a, b], e, Nat.le_of_ble_eq_true rfl, k a b p q⟩
theorem ye_t3 {K : PySem.W.Frag} {ρ : Rho} {ta tb tc : TE} {A B C P : PyData → Prop} (h1 : Pe K ta ρ A) (h2 : Pe K tb ρ B) (h3 : Pe K tc ρ C) (k : ∀ a b c, A a → B b → C c → P (.tuple [a, b, c])) : Pe K (tTup (tCons ta (tCons tb (tCons tc tNil)))) ρ P :=
  ye_tup (PA := fun ss => ∃ a b c, ss = [.d a, .d b, .d c] ∧ A a ∧ B b ∧ C c) (ya_c h1 (ya_c (PR := fun ss => ∃ b c, ss = [.d b, .d c] ∧ B b ∧ C c) h2 (ya_c (PR := fun ss => ∃ c, ss = [.d c] ∧ C c) h3 ya_n fun d ss p e => ⟨d, by rw [e], p⟩) fun d ss p ⟨c, e, q⟩ => ⟨d, c, by rw [e], p, q⟩) fun d ss p ⟨b, c, e, q⟩ => ⟨d, b, c, by rw [e], p, q⟩) fun ss ⟨a, b, c, e, p, q, r⟩ => ⟨[a, b, c], e, Nat.le_of_ble_eq_true rfl, k a b c p q r⟩
theorem paired_isI {C : Int → Prop} : ∀ {xs ys : List PyData}, Paired (fun _ d => isI C d) xs ys → ∃ ns : List Int, ys = ns.map .int ∧ ns.length = xs.length ∧ ∀ x ∈ ns, C x
  | _, _, .nil => ⟨[], rfl, rfl, fun _ h => by cases h⟩
  | _, _, .cons ⟨r, e, c⟩ t => by
    obtain ⟨ns, e1, e2, e3⟩ := paired_isI t
    refine ⟨r :: ns, by rw [e, e1]; rfl, congrArg (· + 1) e2, fun x hx => ?_⟩
    rcases List.mem_cons.mp hx with rfl | hx
    · exact c
    · exact e3 x hx
/-- a comprehension of drawn numbers -/
theorem nl_lcI {K : PySem.W.Frag} {ρ : Rho} {te : TE} {PL : List PyData → Prop} {wi : TI} {g : TG} {vs sl : List Nat} {C : Int → Prop} (hi : Pit K wi ρ PL) (hsl : ∀ i ∈ sl, i ∈ vs) (hz : ∀ xs, PL xs → xs.length < sizeLine)
    (hb : ∀ xs x, PL xs → x ∈ xs → ∃ r', Pg K g sl x (wipeR ρ vs) r' ∧ Pe K te r' (isI C)) : Nl K (tLc wi g tYes te vs) ρ (fun ys => ∃ (xs : List PyData) (ns : List Int), PL xs ∧ ys = ns.map .int ∧ ns.length = xs.length ∧ ∀ x ∈ ns, C x) :=
  (nl_lc hi (fun _ => true) (fun _ d => isI C d) hsl hz fun xs x p m => let ⟨r', h1, h2⟩ := hb xs x p m; ⟨r', h1, yt_yes, fun _ => h2⟩).imp fun ys ⟨xs, p, q⟩ => by
    rw [filter_all] at q
    obtain ⟨ns, a, b, c⟩ := paired_isI q
    exact ⟨xs, ns, p, a, b, c⟩
/-- range of a drawn number -/
theorem it_rD {K : PySem.W.Frag} {ρ : Rho} {te : TE} {C : Int → Prop} (h : Pe K te ρ (isI C)) (hc : ∀ r, C r → 0 ≤ r ∧ r ≤ 1000000) : Pit K (iRng1 (tCons te tNil)) ρ (fun xs => ∃ n : Nat, C (n : Int) ∧ xs = rgD 0 (n : Int)) :=
  it_R1 (PA := fun ss => ∃ n : Int, ss = [.d (.int n)] ∧ C n) (ya_c h ya_n fun d ss ⟨r, e, c⟩ e2 => ⟨r, by rw [e, e2], c⟩) fun ss ⟨n, e, c⟩ => by
    obtain ⟨a, b⟩ := hc n c
    obtain ⟨m, rfl⟩ : ∃ m : Nat, n = (m : Int) := ⟨n.toNat, by omega⟩
    exact ⟨(m : Int), e, by omega, by omega, m, c, rfl⟩
theorem Le.seta : ∀ {r s : Rho} {j : Nat} {x : Sl}, Le r s → Le (r.set j x) (s.set j x)
  | _, _, _, _, .nil => .nil
  | _, _, 0, x, .cons _ t => .cons (sle_refl x) t
  | _, _, j + 1, x, .cons a t => .cons a (Le.seta (j := j) t)
section
variable {K : PySem.W.Frag} {ρ ρ' : Rho} {te : TE} {t : TT}
theorem Pt.le {P : Bool → Prop} (h : Pt K t ρ' P) (l : Le ρ ρ') : Pt K t ρ P := fun T H0 G H σ gh tp D => h T H0 G H σ gh tp (D.le l)
theorem Pe.le {P : PyData → Prop} (h : Pe K te ρ' P) (l : Le ρ ρ') : Pe K te ρ P := fun T H0 G H σ gh tp D => h T H0 G H σ gh tp (D.le l)
end
theorem ws_asgP {K : PySem.W.Frag} {ρ : Rho} {te : TE} {g : TG} {E : Ed} {P : PyData → Prop} (h : Pe K te ρ P) (k : ∀ x, P x → ∃ sl ρ', Pg K g sl x ρ ρ' ∧ E.nx ρ') : Ws K (tAsg te g) ρ E := fun T G0 H0 σ H D a e =>
  a.eval h fun d v G' H' p s D' y => by
    obtain ⟨sl, ρ', hg, hk⟩ := k d p
    exact hg T H0 G' H' σ v s.gh D' y _ fun σ' D'' _ _ => e.nx _ _ _ hk ⟨G', s, D''⟩
theorem wq_asgP {K : PySem.W.Frag} {ρ : Rho} {te : TE} {u : TS} {g : TG} {E : Ed} {P : PyData → Prop} (h : Pe K te ρ P) (k : ∀ x, P x → ∃ sl ρ', Pg K g sl x ρ ρ' ∧ Ws K u ρ' E) : Ws K (tSeq (tAsg te g) u) ρ E :=
  ws_seq (fun r => Ws K u r E) (ws_asgP h k) fun r w => w
/-- within a comprehension: the fragment told -/
theorem opx_mulK {X : Cx} {K : PySem.W.Frag} (h : X.K = K) : OpR X (binaryOp .Mult) (rTimes K) := h ▸ opx_mul
theorem opx_addK {X : Cx} {K : PySem.W.Frag} (h : X.K = K) : OpR X (binaryOp .Add) (rPlus K) := h ▸ opx_add
theorem eqK {X : Cx} {K : PySem.W.Frag} {k : Nat} (h : X.K = K) (hr : Room k X.A) : OpR X (compareOp .Eq) (rEqX K) := h ▸ opx_eq hr
theorem neK {X : Cx} {K : PySem.W.Frag} {k : Nat} (h : X.K = K) (hr : Room k X.A) : OpR X (compareOp .NotEq) (rNeX K) := h ▸ opx_ne hr
theorem ix_seqK {X : Cx} {K : PySem.W.Frag} (h : X.K = K) : IxR X (rIx K) := h ▸ ix_seq
theorem slxK {X : Cx} {K : PySem.W.Frag} (h : X.K = K) : SlR X (rSlX K) := h ▸ slx
theorem lenK {X : Cx} {K : PySem.W.Frag} (h : X.K = K) : CallR X (.builtin "len") (rLen K) := h ▸ call_len_seq
theorem sumK {X : Cx} {K : PySem.W.Frag} (h : X.K = K) (hc : X.calm = true) : CallR X (.builtin "sum") (rSumX K) := h ▸ callx_sum hc
theorem maxK {X : Cx} {K : PySem.W.Frag} (h : X.K = K) (hc : X.calm = true) : CallR X (.builtin "max") (rMaxX K) := h ▸ callx_max hc
theorem minK {X : Cx} {K : PySem.W.Frag} (h : X.K = K) (hc : X.calm = true) : CallR X (.builtin "min") (rMinX K) := h ▸ callx_min hc
theorem listK {X : Cx} {K : PySem.W.Frag} (h : X.K = K) : CallR X (.type "list") (rListOf K) := h ▸ call_list_of
theorem tupleK {X : Cx} {K : PySem.W.Frag} (h : X.K = K) : CallR X (.type "tuple") (rTupOf K) := h ▸ call_tuple_of
theorem isiK {X : Cx} {K : PySem.W.Frag} (h : X.K = K) : CallR X (.builtin "isinstance") (rIsi K) := h ▸ call_isi
end PD

set_option maxHeartbeats 2000000
/-! list(accumulate(xs)) of ints -/
namespace Accu
open PySem PySem.Spec PyProof.Rows
theorem own_ac : Manifest.owners.lookup (String.ofList ['e', 't', 'a', 'l', 'u', 'm', 'u', 'c', 'c', 'a', '.', 's', 'l', 'o', 'o', 't', 'r', 'e', 't', 'i'].reverse) = some Manifest.sig_itertools_accumulate := by kernel_rfl
theorem sub_ac : isSubtype (.type "itertools.accumulate") (.type "itertools.accumulate") = pure true := by rw [isSubtype_type]; kernel_rfl
theorem slot_ac_next : Slot "itertools.accumulate" "__next__" "itertools.accumulate.__next__" :=
  .of (owner := "itertools.accumulate") (n := "__next__") (by rw [typeLookup_type, builtinLookup_eq_fast]; kernel_rfl) (by decide +kernel) (by decide +kernel) (by decide +kernel)
    (by first | exact .inl (by decide +kernel) | exact .inr (by decide +kernel)) sub_ac
theorem ent_ac_next : entryFor table "itertools.accumulate.__next__" = some Builtin.«itertools.accumulate.__next__» := entryFor_of_tree (by kernel_rfl)
theorem arg_ac_next (a : Value) : argsOk "itertools.accumulate.__next__" ⟨[a], []⟩ := by
  unfold argsOk; rw [signature?_of (id := "itertools.accumulate.__next__") (n := ['_', '_', 't', 'x', 'e', 'n', '_', '_']) (o := ['e', 't', 'a', 'l', 'u', 'm', 'u', 'c', 'c', 'a', '.', 's', 'l', 'o', 'o', 't', 'r', 'e', 't', 'i']) (by kernel_rfl) own_ac]; kernel_rfl
theorem slot_ac_iter : Slot "itertools.accumulate" "__iter__" "itertools.accumulate.__iter__" :=
  .of (owner := "itertools.accumulate") (n := "__iter__") (by rw [typeLookup_type, builtinLookup_eq_fast]; kernel_rfl) (by decide +kernel) (by decide +kernel) (by decide +kernel)
    (by first | exact .inl (by decide +kernel) | exact .inr (by decide +kernel)) sub_ac
theorem arg_ac_iter (a : Value) : argsOk "itertools.accumulate.__iter__" ⟨[a], []⟩ := by
  unfold argsOk; rw [signature?_of (id := "itertools.accumulate.__iter__") (n := ['_', '_', 'r', 'e', 't', 'i', '_', '_']) (o := ['e', 't', 'a', 'l', 'u', 'm', 'u', 'c', 'c', 'a', '.', 's', 'l', 'o', 'o', 't', 'r', 'e', 't', 'i']) (by kernel_rfl) own_ac]; kernel_rfl
theorem ent_ac_iter : entryFor table "itertools.accumulate.__iter__" = some Builtin.«dict_keyiterator.__iter__» :=
  entryFor_alias (id' := "dict_keyiterator.__iter__") (by kernel_rfl) (by first | rfl | decide +kernel | (unfold String.splitOn; simp +decide [String.splitOnAux])) (by decide +kernel) (by kernel_rfl)
theorem slot_ac_init : Slot "itertools.accumulate" "__init__" "object.__init__" :=
  .of (owner := "object") (n := "__init__") (by rw [typeLookup_type, builtinLookup_eq_fast]; kernel_rfl) (by decide +kernel) (by decide +kernel) (by decide +kernel)
    (by first | exact .inl (by decide +kernel) | exact .inr (by decide +kernel)) (by rw [isSubtype_type]; kernel_rfl)
theorem mro_ac : mroOf (.type "itertools.accumulate") = pure [.type "itertools.accumulate", .type "object"] := by rw [mroOf_type]; kernel_rfl
theorem new_ac_at : typeLookup (.type "itertools.accumulate") "__new__" = pure (some (.builtin "itertools.accumulate.__new__")) := by rw [typeLookup_type, builtinLookup_eq_fast]; kernel_rfl
theorem called_ac : TypeCalled "itertools.accumulate" "itertools.accumulate.__new__" "object.__init__" :=
  ⟨by decide +kernel, by decide +kernel, ⟨_, _, mro_ac⟩, madeBy_type mro_ac new_ac_at (by decide +kernel), by decide +kernel, sub_ac, slot_ac_init⟩
theorem tcall_ac (a : Value) : checkTypeCall "itertools.accumulate" ⟨[a], []⟩ = pure () := by kernel_rfl
theorem ncall_ac (a : Value) : checkBuiltinCall "itertools.accumulate.__new__" ⟨[.type "itertools.accumulate", a], []⟩ = pure () := by kernel_rfl
theorem ent_ac_new : entryFor table "itertools.accumulate.__new__" = some Builtin.«itertools.accumulate.__new__» := entryFor_of_tree (by kernel_rfl)
theorem nolen_ac : typeLookup (.type "itertools.accumulate") "__len__" = pure none := by rw [typeLookup_type, builtinLookup_eq_fast]; kernel_rfl
theorem nohint_ac : typeLookup (.type "itertools.accumulate") "__length_hint__" = pure none := by rw [typeLookup_type, builtinLookup_eq_fast]; kernel_rfl
theorem nodict_ac : typeHasDict (.type "itertools.accumulate") = false := by decide +kernel
/-- the object: the iterator it draws from, what it has added so far -/
abbrev IsAc (h : Heap) (m it : Addr) (tot : Value) : Prop := h.get? m = some { cls := .type "itertools.accumulate", dict := none, data := .fields #[.ref it, .none, tot, .none], slots := #[] }
end Accu

set_option maxHeartbeats 2000000
namespace Accu
open PySem PySem.Spec PyProof.Rows PySem.Builtin PySem.Builtin.Itertools
section
variable {prog : Program} {w : World} {A : Around} {E : Value → Shared → Prop} {s : Shared}
theorem cls_ac (x : Value) : itClassAndRest "accumulate" ⟨[.type "itertools.accumulate", x], []⟩ = pure (.type "itertools.accumulate", [x]) := by
  unfold itClassAndRest
  simp only [isType, pure_bind, Bool.not_true, Bool.false_eq_true, if_false]
  rw [show ("itertools." ++ "accumulate" : String) = "itertools.accumulate" from by decide, sub_ac]
  rfl
theorem bind_ac (x : Value) : itBindNamed "accumulate" ["iterable", "func", "initial"] 1 2 [x] [] = pure [some x, none, none] := by
  first
  | rfl
  | kernel_rfl
  | (unfold itBindNamed; rfl)
/-- made over the source's iterator -/
theorem new_ac (x : Value) : MeetsIn prog w (Builtin.«itertools.accumulate.__new__» ⟨[.type "itertools.accumulate", x], []⟩)
    (fun B R s => wpAny (model prog w) B.in1 (pyIter x) (fun itv s1 => R (.ok (.ret (.ref s1.heap.objs.size))) { s1 with heap := s1.heap.push { cls := .type "itertools.accumulate", data := .fields #[itv, .none, itNothing, .none] } }) (fun e s1 => R (.error e) s1) s) :=
  .of_wp fun B R s h => by
    unfold Builtin.«itertools.accumulate.__new__»
    refine wpAny_bind (wpAny_of_eq (cls_ac x) ?_)
    dsimp only
    refine wpAny_bind (wpAny_of_eq (bind_ac x) ?_)
    dsimp only
    refine wpAny_bind (wpAny_mono h (fun itv s1 hR => ?_) fun _ _ z => z)
    dsimp only [Option.getD]
    unfold itNewRecord
    simp only [nodict_ac, Bool.not_false, if_true]
    refine wpAny_bind (wpAny_newObj_type ?_)
    exact wpAny_pure ⟨_, rfl, hR⟩
theorem call_ac {x : Value} {Q : Value → Shared → Prop}
    (hx : wpAny (model prog w) A.in1.in1 (pyIter x) (fun itv s1 => Q (.ref s1.heap.objs.size) { s1 with heap := s1.heap.push { cls := .type "itertools.accumulate", data := .fields #[itv, .none, itNothing, .none] } }) E s) :
    wpAny (model prog w) A (call (.type "itertools.accumulate") [x]) Q E s := by
  refine callType_newIn called_ac (by decide) (tcall_ac _) (ncall_ac _) (fun obj => F.args_object_init_2 obj _) ent_ac_new (new_ac x) ?_
  show wpAny (model prog w) A.in1.in1 (pyIter x) _ _ _
  exact wpAny_mono hx (fun itv s1 hq => ⟨⟨_, Heap.get?_push_size _ rfl, rfl⟩, hq⟩) fun _ _ z => z
/-- one item of a list by its iterator, as itertools asks it -/
theorem raw_item {it l : Addr} {i : Nat} {xs : Array Value} {v : Value} {Q : Value → Shared → Prop} (hI : s.heap.IsListIter it l i) (hL : s.heap.IsList l xs) (hv : xs[i]? = some v)
    (k : ∀ h', h'.IsListIter it l (i + 1) → Heap.SameBut it s.heap h' → Q v { s with heap := h' }) : wpAny (model prog w) A (itRawNext (.ref it)) Q E s := by
  obtain ⟨oI, gI, cI, dI⟩ := id hI
  obtain ⟨oL, gL, _, nL, dL⟩ := hL
  unfold itRawNext
  refine wpAny_bind (wpAny_callSpecial?_slot (name := Str.ofString "__next__") hI.typeIs slot_listiter_next (wpAny_call_entry slot_listiter_next hI.typeIs entry_listiter_next ?_ (args_listiter_next _)))
  show wpAny _ _ (field (.ref it) 0 >>= fun q => _) _ _ s
  refine wpAny_bind (wpAny_field gI dI (x := .ref l) rfl ?_)
  show wpAny _ _ (if (Value.ref l == Value.none) = true then _ else (_ : Sem PySem.Fin)) _ _ s
  rw [if_neg (show ¬ ((Value.ref l == Value.none) = true) from fun q => Bool.false_ne_true q)]
  show wpAny _ _ (field (.ref it) 1 >>= fun q => _) _ _ s
  refine wpAny_bind (wpAny_field gI dI (x := .int i 0) rfl ?_)
  show wpAny _ _ (seqItems? (.ref l) >>= fun q => _) _ _ s
  refine wpAny_bind (wpAny_seqItems gL dL ?_)
  simp only [Int.toNat_natCast, hv]
  refine wpAny_bind (wpAny_setField gI dI (by simp) (wpAny_pure ⟨v, rfl, wpAny_pure (k _ ?_ (Heap.SameBut.update ..))⟩))
  exact ⟨_, Heap.get?_update_self _ gI (Obj.isFreed_of_fields (Obj.data_mapFields dI _)), (Obj.cls_mapFields ..).trans cI, (Obj.data_mapFields dI _).trans (by simp [rawInt])⟩
theorem raw_end {it l : Addr} {i : Nat} {xs : Array Value} {Q : Value → Shared → Prop} (hh : A.handled = none) (hI : s.heap.IsListIter it l i) (hL : s.heap.IsList l xs) (hv : xs[i]? = none)
    (k : ∀ h' e, Heap.ExtBut it s.heap h' → (∃ o, h'.get? e = some o ∧ o.cls = .type "StopIteration") → E (.ref e) { s with heap := h' }) : wpAny (model prog w) A (itRawNext (.ref it)) Q E s := by
  obtain ⟨oI, gI, cI, dI⟩ := id hI
  obtain ⟨oL, gL, _, nL, dL⟩ := hL
  unfold itRawNext
  refine wpAny_bind (wpAny_callSpecial?_slot (name := Str.ofString "__next__") hI.typeIs slot_listiter_next (wpAny_call_entry slot_listiter_next hI.typeIs entry_listiter_next ?_ (args_listiter_next _)))
  show wpAny _ _ (field (.ref it) 0 >>= fun q => _) _ _ s
  refine wpAny_bind (wpAny_field gI dI (x := .ref l) rfl ?_)
  show wpAny _ _ (if (Value.ref l == Value.none) = true then _ else (_ : Sem PySem.Fin)) _ _ s
  rw [if_neg (show ¬ ((Value.ref l == Value.none) = true) from fun q => Bool.false_ne_true q)]
  show wpAny _ _ (field (.ref it) 1 >>= fun q => _) _ _ s
  refine wpAny_bind (wpAny_field gI dI (x := .int i 0) rfl ?_)
  show wpAny _ _ (seqItems? (.ref l) >>= fun q => _) _ _ s
  refine wpAny_bind (wpAny_seqItems gL dL ?_)
  simp only [Int.toNat_natCast, hv]
  refine wpAny_bind (wpAny_rule (wpAny_bind (wpAny_setField gI dI (by simp) ?_)))
  show wpAny _ _ (newExc (.type "StopIteration") [] >>= fun q => _) _ _ _
  refine wpAny_bind ?_
  simp only [newExc, newTuple]
  refine wpAny_bind (wpAny_newObj_type ?_ (by size_fits))
  refine wpAny_bind (m := firstArgMember _ _) (wpAny_of_eq (a := Value.none) (by first | rfl | (unfold firstArgMember; rfl)) ?_)
  refine wpAny_newObj_type ?_ (by size_fits)
  simp only [raiseNew]
  refine wpAny_bind (wpAny_handled ?_)
  rw [show A.in1.handled = none from hh]
  refine wpAny_bind (wpAny_pure (wpAny_throw (k _ _ (((Heap.SameBut.update ..).extBut.push _).push _) ⟨_, Heap.get?_push_size _ rfl, rfl⟩)))
/-- what has been added: nothing yet, or a number -/
def Tot (i : Nat) (f : Nat → Int) (v : Value) : Prop := (i = 0 ∧ v = itNothing) ∨ (0 < i ∧ ∃ t, v = .int (preSum f i) t)
theorem ac_next {m it l : Addr} {i : Nat} {xs : Array Value} {f : Nat → Int} {tot : Value} {Q : Value → Shared → Prop} (hf : ∀ (j : Nat) (v : Value), xs[j]? = some v → ∃ t, v = .int (f j) t)
    (hm : IsAc s.heap m it tot) (ht : Tot i f tot) (hI : s.heap.IsListIter it l i) (hL : s.heap.IsList l xs) (hi : i < xs.size) (hmi : m ≠ it) (hli : l ≠ it) (hlm : l ≠ m)
    (k : ∀ (v : Value) (s' : Shared) (tot' : Value), (∃ t, v = .int (preSum f (i + 1)) t) → IsAc s'.heap m it tot' → Tot (i + 1) f tot' → s'.heap.IsListIter it l (i + 1) → s'.heap.IsList l xs → (∀ b o, b ≠ it → b ≠ m → s.heap.get? b = some o → s'.heap.get? b = some o) →
      s'.gens = s.gens → s'.drawn = s.drawn → s'.os = s.os → s.toks ≤ s'.toks → Q v s') :
    wpAny (model prog w) A (Builtin.«itertools.accumulate.__next__» ⟨[.ref m], []⟩) (fun fin s' => ∃ v, fin = .done (.ret v) ∧ Q v s') E s := by
  obtain ⟨v, hv⟩ : ∃ v, xs[i]? = some v := ⟨xs[i], by simp [hi]⟩
  obtain ⟨tv, rfl⟩ := hf i v hv
  show wpAny _ _ (field (.ref m) 3 >>= fun q => _) _ _ s
  refine wpAny_bind (wpAny_field hm rfl (x := .none) rfl ?_)
  show wpAny _ _ (if (Value.none != Value.none) = true then _ else (_ : Sem PySem.Fin)) _ _ s
  rw [if_neg (show ¬ ((Value.none != Value.none) = true) from fun q => Bool.false_ne_true q)]
  refine wpAny_bind (wpAny_field hm rfl (x := .ref it) rfl ?_)
  refine wpAny_bind (raw_item hI hL hv fun h1 hI1 sb => ?_)
  have hm1 : IsAc h1 m it tot := sb.extBut _ _ hmi hm
  have hL1 : h1.IsList l xs := hL.extBut sb.extBut hli
  show wpAny _ _ (field (.ref m) 2 >>= fun q => _) _ _ _
  refine wpAny_bind (wpAny_field hm1 rfl (x := tot) rfl ?_)
  have fin : ∀ (nv : Value) (tk : Nat), (∃ t, nv = .int (preSum f (i + 1)) t) → s.toks ≤ tk → Q nv { s with heap := h1.update m (Obj.mapFields fun q => q.setIfInBounds 2 nv), toks := tk } := fun nv tk hn htk => by
    have hm2 : IsAc (h1.update m (Obj.mapFields fun q => q.setIfInBounds 2 nv)) m it nv := Heap.get?_update_self _ hm1 rfl
    have oth : ∀ b o, b ≠ m → h1.get? b = some o → (h1.update m (Obj.mapFields fun q => q.setIfInBounds 2 nv)).get? b = some o := fun b o hb e => (Heap.get?_update_other _ _ (Ne.symm hb)).trans e
    refine k nv _ nv hn hm2 (.inr ⟨Nat.succ_pos i, hn⟩) (hI1.at fun o e => oth it o hmi.symm e) (hL1.at fun o e => oth l o hlm e) (fun b o h1' h2' e => oth b o h2' (sb.extBut b o h1' e)) rfl rfl rfl htk
  by_cases hz : (tot == itNothing) = true
  · -- nothing so far, or a raw nought
    rw [if_pos hz]
    refine wpAny_bind (wpAny_rule ?_)
    refine wpAny_bind (wpAny_setField hm1 rfl (by simp) ?_)
    refine wpAny_pure ⟨_, rfl, fin _ s.toks ⟨tv, ?_⟩ (Nat.le_refl _)⟩
    have e : tot = itNothing := eq_of_beq hz
    rcases ht with ⟨rfl, _⟩ | ⟨_, t, et⟩
    · show Value.int (f 0) tv = Value.int (0 + f 0) tv
      rw [Int.zero_add]
    · rw [et] at e
      have e0 : preSum f i = 0 := by injection e
      show Value.int (f i) tv = Value.int (preSum f i + f i) tv
      rw [e0, Int.zero_add]
  · rw [if_neg hz]
    obtain ⟨t, rfl⟩ : ∃ t, tot = .int (preSum f i) t := by
      rcases ht with ⟨_, e⟩ | ⟨_, e⟩
      · exact absurd (by rw [e]; exact beq_self_eq_true _) hz
      · exact e
    refine wpAny_bind (wpAny_field hm1 rfl (x := .none) rfl ?_)
    refine wpAny_bind (wpAny_holding ?_)
    rw [if_pos (show (Value.none == Value.none) = true from rfl)]
    refine add_int ?_
    refine wpAny_bind (wpAny_setField hm1 rfl (by simp) ?_)
    refine wpAny_bind (wpAny_letGo ?_)
    exact wpAny_pure ⟨_, rfl, fin _ _ ⟨_, rfl⟩ (Nat.le_succ _)⟩
def AcSt (m it l : Addr) (xs : Array Value) (f : Nat → Int) (i : Nat) (s : Shared) : Prop := ∃ tot, IsAc s.heap m it tot ∧ Tot i f tot ∧ s.heap.IsListIter it l i ∧ s.heap.IsList l xs
theorem ac_item {m it l : Addr} {i : Nat} {xs : Array Value} {f : Nat → Int} {Q : Option Value → Shared → Prop} (hf : ∀ (j : Nat) (v : Value), xs[j]? = some v → ∃ t, v = .int (f j) t) (st : AcSt m it l xs f i s) (hi : i < xs.size) (hmi : m ≠ it) (hli : l ≠ it) (hlm : l ≠ m)
    (k : ∀ (v : Value) (s' : Shared), (∃ t, v = .int (preSum f (i + 1)) t) → AcSt m it l xs f (i + 1) s' → Moved [m, it] (fun a b => b = a) s s' → Q (some v) s') : wpAny (model prog w) A (pyNext (.ref m)) Q E s := by
  obtain ⟨tot, hm, ht, hI, hL⟩ := st
  have ty : s.TypeIs (.ref m) "itertools.accumulate" := ⟨_, hm, rfl⟩
  unfold pyNext
  refine wpAny_bind (wpAny_attempt (wpAny_callSpecial?_slot (name := Str.ofString "__next__") ty slot_ac_next (wpAny_call_entry slot_ac_next ty ent_ac_next
    (ac_next hf hm ht hI hL hi hmi hli hlm fun v s' tot' hv a1 a2 a3 a4 a5 g1 g2 g3 g4 => wpAny_pure (k v s' hv ⟨tot', a1, a2, a3, a4⟩ ⟨fun b o hb e => a5 b o (fun z => hb (by simp [z])) (fun z => hb (by simp [z])) e, g1, g2, g3, g4⟩)) (arg_ac_next _))))
theorem ac_end {m it l : Addr} {xs : Array Value} {f : Nat → Int} {Q : Option Value → Shared → Prop} (hh : A.handled = none) (st : AcSt m it l xs f xs.size s)
    (k : ∀ s', Moved [m, it] (fun a b => b = a) s s' → Q none s') : wpAny (model prog w) A (pyNext (.ref m)) Q E s := by
  obtain ⟨tot, hm, ht, hI, hL⟩ := st
  have ty : s.TypeIs (.ref m) "itertools.accumulate" := ⟨_, hm, rfl⟩
  unfold pyNext
  refine wpAny_bind (wpAny_attempt (wpAny_callSpecial?_slot (name := Str.ofString "__next__") ty slot_ac_next (wpAny_call_entry slot_ac_next ty ent_ac_next ?_ (arg_ac_next _))))
  show wpAny _ _ (field (.ref m) 3 >>= fun q => _) _ _ s
  refine wpAny_bind (wpAny_field hm rfl (x := .none) rfl ?_)
  show wpAny _ _ (if (Value.none != Value.none) = true then _ else (_ : Sem PySem.Fin)) _ _ s
  rw [if_neg (show ¬ ((Value.none != Value.none) = true) from fun q => Bool.false_ne_true q)]
  refine wpAny_bind (wpAny_field hm rfl (x := .ref it) rfl ?_)
  refine wpAny_bind (raw_end (by exact hh) hI hL (by simp) fun h1 e hx hs => ?_)
  obtain ⟨oS, gS, cS⟩ := hs
  refine wpAny_bind (wpAny_isInstance (T := "StopIteration") (b := true) ⟨oS, gS, cS⟩ isSubtype_stop ?_)
  exact wpAny_pure (k _ ⟨fun b o hb q => hx b o (fun z => hb (by simp [z])) q, rfl, rfl, rfl, Nat.le_refl _⟩)
theorem walks_ac {m it l : Addr} {xs : Array Value} {f : Nat → Int} (hh : A.handled = none) (hf : ∀ (j : Nat) (v : Value), xs[j]? = some v → ∃ t, v = .int (f j) t) (hmi : m ≠ it) (hli : l ≠ it) (hlm : l ≠ m) :
    WalksS prog w A m [m, it, l] [m, it] (fun a b => b = a) xs.size (fun i v => ∃ t, v = .int (preSum f (i + 1)) t) (AcSt m it l xs f) where
  sub := fun b hb => by
    rcases List.mem_cons.mp hb with rfl | hb
    · simp
    · rw [List.mem_singleton.mp hb]; simp
  grefl := fun _ => rfl
  gtrans := fun _ _ _ h1 h2 => h2.trans h1
  frame := fun i s h' tk ⟨tot, a1, a2, a3, a4⟩ _ hk => ⟨tot, hk m (by simp) _ a1, a2, a3.at fun o e => hk it (by simp) o e, a4.at fun o e => hk l (by simp) o e⟩
  item := fun i s Q E hi st hQ => ac_item hf st hi hmi hli hlm hQ
  done := fun s Q E st hQ => ac_end hh st hQ
  self := fun i s Q E st hQ => by
    obtain ⟨tot, hm, _⟩ := st
    have ty : s.TypeIs (.ref m) "itertools.accumulate" := ⟨_, hm, rfl⟩
    refine wpAny_pyIter_slot ty slot_ac_iter (wpAny_call_entry slot_ac_iter ty ent_ac_iter ?_ (arg_ac_iter _))
    show wpAny _ _ (ret (.ref m)) _ _ s
    exact wpAny_pure ⟨_, rfl, "itertools.accumulate", _, ty, slot_ac_next.lookup, hQ⟩
/-! ### list(..) of it -/
variable {I : Addr} {fp wr : List Addr} {Gn : Array GenState → Array GenState → Prop} {n : Nat} {P : Nat → Value → Prop} {St : Nat → Shared → Prop} {R : Result → Shared → Prop}
theorem ext_ac (W : WalksS prog w A.in1 I fp wr Gn n P St) (hT : ∀ i s, St i s → s.TypeIs (.ref I) "itertools.accumulate") (S : Addr) (res : Value) (c : Nat) (hst : St 0 s) (hSf : S ∉ fp) (hI : I ∈ fp) (hS : s.heap.get? S = some { cls := .type "list", dict := none, data := .seq #[] c, slots := #[] })
    (hR : ∀ s' acc' c', Moved (S :: wr) Gn s s' → s'.heap.get? S = some { cls := .type "list", dict := none, data := .seq acc' c', slots := #[] } → ItemsOf P acc' n → R (.ok (.ret res)) s') (hn : n ≤ sizeLine) :
    wpAny (model prog w) A.in1 (Builtin.List.listExtendWith (.ref S) (.ref I) res)
      (fun fin s' => match fin with | .done f => R (.ok f) s' | .again c' => c'.quiet = true ∧ codeAny (model prog w) A c' R s') (fun e s' => R (.error e) s') s := by
  have hSI : S ≠ I := fun e => hSf (e ▸ hI)
  unfold Builtin.List.listExtendWith
  refine wpAny_bind (wpAny_typeOf (hT 0 _ hst) ?_)
  have q1 : Builtin.List.listSameRef (.ref S) (.ref I) = false := by simp [Builtin.List.listSameRef, hSI]
  have q2 : (Value.type "itertools.accumulate" == Value.type "list") = false := by decide
  have q3 : (Value.type "itertools.accumulate" == Value.type "tuple") = false := by decide
  simp only [q1, q2, q3, Bool.or_false, Bool.false_eq_true, if_false]
  refine wpAny_bind (W.self 0 _ _ _ hst (wpAny_bind (wpAny_holding ?_)))
  unfold Builtin.List.listLengthHint
  refine wpAny_bind (wpAny_specialOf (hT 0 _ hst) nolen_ac ?_)
  show wpAny _ A.in1 (specialOf (Value.ref I) (Str.ofString "__length_hint__") >>= fun q => _) _ _ _
  refine wpAny_bind (wpAny_specialOf (hT 0 _ hst) nohint_ac (wpAny_pure ?_))
  show wpAny _ A.in1 (rule "list.extend.makes-room" >>= fun _ => Builtin.List.listTouch (.ref S) >>= fun _ => again (.builtin "list.extend.loop" ⟨[.ref S, .ref I, res], []⟩)) _ _ _
  refine wpAny_bind (wpAny_rule (wpAny_bind ?_))
  show wpAny _ A.in1 (updateSeq S (·.push .none) >>= fun _ => updateSeq S (·.pop)) _ _ _
  refine wpAny_bind (wpAny_updateSeq hS rfl ?_)
  have g2 := Heap.get?_update_self (Obj.mapSeq (·.push Value.none)) hS rfl
  refine wpAny_updateSeq (hz := by seq_fits) g2 rfl ?_
  have g3 := Heap.get?_update_self (Obj.mapSeq (·.pop)) g2 rfl
  have oth : ∀ b o, b ≠ S → s.heap.get? b = some o → ((s.heap.update S (Obj.mapSeq (·.push Value.none))).update S (Obj.mapSeq (·.pop))).get? b = some o := fun b o hb e =>
    (Heap.get?_update_other _ _ (Ne.symm hb)).trans ((Heap.get?_update_other _ _ (Ne.symm hb)).trans e)
  refine wpAny_pure ⟨plainId_quiet F.plain_extend_loop _, codeAny_extend_loopS W hn _ hSf _ n 0 _ _ _ rfl (Nat.zero_le _) (W.frame 0 s _ s.toks hst (Nat.le_refl _) fun b hb o e => oth b o (fun h => hSf (h ▸ hb)) e) g3 (ItemsOf.nil P) fun s' acc' c' hm hS' hacc => ?_⟩
  exact hR s' acc' c' (Moved.trans W.gtrans ((Moved.refl W.grefl).then_heap (Nat.le_refl _) fun b o hb e => oth b o (fun h => hb (h ▸ List.mem_cons_self)) e) hm) hS' hacc
theorem init_ac (W : WalksS prog w A.in1 I fp wr Gn n P St) (hT : ∀ i s, St i s → s.TypeIs (.ref I) "itertools.accumulate") (S : Addr) (hst : St 0 s) (hSf : S ∉ fp) (hI : I ∈ fp) (hS : s.heap.get? S = some { cls := .type "list", data := .seq #[] })
    (hR : ∀ s' acc' c', Moved (S :: wr) Gn s s' → s'.heap.get? S = some { cls := .type "list", dict := none, data := .seq acc' c', slots := #[] } → ItemsOf P acc' n → R (.ok (.ret .none)) s') (hn : n ≤ sizeLine) :
    wpAny (model prog w) A.in1 (Builtin.«list.__init__» ⟨[.ref S, .ref I], []⟩)
      (fun fin s' => match fin with | .done f => R (.ok f) s' | .again c' => c'.quiet = true ∧ codeAny (model prog w) A c' R s') (fun e s' => R (.error e) s') s := by
  show wpAny _ A.in1 (do let was ← Builtin.List.listItems (.ref S); Builtin.List.listUpdate (.ref S) (fun _ => #[]); letGo was.toList.reverse; Builtin.List.listExtendWith (.ref S) (.ref I) .none) _ _ s
  refine wpAny_bind ?_
  unfold Builtin.List.listItems
  refine wpAny_bind (wpAny_seqItems hS rfl (wpAny_pure ?_))
  show wpAny _ A.in1 (updateSeq S (fun _ => #[]) >>= fun _ => letGo (#[] : Array Value).toList.reverse >>= fun _ => Builtin.List.listExtendWith (.ref S) (.ref I) .none) _ _ s
  refine wpAny_bind (wpAny_updateSeq hS rfl ?_)
  have g2 := Heap.get?_update_self (Obj.mapSeq (fun _ => (#[] : Array Value))) hS rfl
  have oth : ∀ b o, b ≠ S → s.heap.get? b = some o → (s.heap.update S (Obj.mapSeq (fun _ => (#[] : Array Value)))).get? b = some o := fun b o hb e => (Heap.get?_update_other _ _ (Ne.symm hb)).trans e
  refine wpAny_bind (wpAny_letGo (ext_ac W hT S .none _ (W.frame 0 s _ s.toks hst (Nat.le_refl _) fun b hb o e => oth b o (fun h => hSf (h ▸ hb)) e) hSf hI g2 (fun s' acc' c' hm hS' hacc => ?_) hn))
  exact hR s' acc' c' (Moved.trans W.gtrans ((Moved.refl W.grefl).then_heap (Nat.le_refl _) fun b o hb e => oth b o (fun h => hb (h ▸ List.mem_cons_self)) e) hm) hS' hacc
theorem list_ac {Q : Value → Shared → Prop} (W : WalksS prog w A.in1.in1 I fp wr Gn n P St) (hT : ∀ i s, St i s → s.TypeIs (.ref I) "itertools.accumulate") (hst : St 0 s) (hfp : ∀ b ∈ fp, b < s.heap.objs.size) (hI : I ∈ fp)
    (k : ∀ s' acc' c', Moved (s.heap.objs.size :: wr) Gn { s with heap := s.heap.push { cls := .type "list", data := .seq #[] } } s' → s'.heap.get? s.heap.objs.size = some { cls := .type "list", dict := none, data := .seq acc' c', slots := #[] } → ItemsOf P acc' n → Q (.ref s.heap.objs.size) s') (hn : n ≤ sizeLine) :
    wpAny (model prog w) A (call (.type "list") [.ref I]) Q E s := by
  have hSf : s.heap.objs.size ∉ fp := fun hm => Nat.lt_irrefl _ (hfp _ hm)
  refine callType_codes (Q₁ := fun obj s₁ => obj = .ref s.heap.objs.size ∧ s₁ = { s with heap := s.heap.push { cls := .type "list", data := .seq #[] } }) F.called_list (F.typeCall_list_1 _) F.entry_list_init (code_list_new _ ⟨rfl, rfl⟩) fun obj s₁ h₁ => ?_
  obtain ⟨rfl, rfl⟩ := h₁
  have hS : (s.heap.push { cls := .type "list", data := .seq #[] }).get? s.heap.objs.size = some { cls := .type "list", data := .seq #[] } := Heap.get?_push_size _ rfl
  exact ⟨⟨_, hS, rfl⟩, F.args_list_init_2 _ _, init_ac W hT _ (W.frame 0 s _ s.toks hst (Nat.le_refl _) fun b _ o e => Heap.get?_push_of_some _ e) hSf hI hS (fun s' acc' c' hm hS' hacc => ⟨rfl, k s' acc' c' hm hS' hacc⟩) hn⟩
end
end Accu

set_option maxHeartbeats 2000000
namespace PD
open PySem PySem.Spec PyProof.Rows L2
/-- running sums -/
def runs : Int → List Int → List Int
  | _, [] => []
  | a, n :: ns => (a + n) :: runs (a + n) ns
theorem runs_length : ∀ (ns : List Int) (a : Int), (runs a ns).length = ns.length
  | [], _ => rfl
  | n :: ns, a => by rw [runs, List.length_cons, List.length_cons, runs_length ns]
theorem runs_get : ∀ (ns : List Int) (a : Int) (i : Nat), i < ns.length → (runs a ns)[i]? = some (a + (ns.take (i + 1)).sum)
  | [], _, _, h => by simp at h
  | n :: ns, a, 0, _ => by simp [runs]
  | n :: ns, a, i + 1, h => by
    rw [runs, List.getElem?_cons_succ, runs_get ns (a + n) i (by simpa using h)]
    simp only [List.take_succ_cons, List.sum_cons]
    congr 1
    omega
theorem preSum_take (ns : List Int) : ∀ i, i ≤ ns.length → preSum (fun j => ns.getD j 0) i = (ns.take i).sum
  | 0, _ => by simp [preSum]
  | i + 1, h => by
    rw [preSum, preSum_take ns i (by omega), List.take_succ, List.sum_append, List.getD_eq_getElem?_getD]
    have : i < ns.length := by omega
    simp [List.getElem?_eq_getElem this]
def tAccu (K : PySem.W.Frag) (te : TE) : TE := fun σ H Q => te σ H fun v H1 => ∃ p ns, v = .ref p ∧ SqL K H1 p (ns.map V.int) ∧ ∀ q, H1 q = none → Q (.ref q) (upd H1 q (.lst ((runs 0 ns).map V.int)))
theorem vals_runs {ns : List Int} {acc : Array Value} (h : ItemsOf (fun i v => ∃ t, v = .int (preSum (fun j => ns.getD j 0) (i + 1)) t) acc ns.length) : Vals ((runs 0 ns).map V.int) acc.toList := by
  have e : acc.toList.length = ns.length := by rw [Array.length_toList]; exact h.1
  refine vals_of_at (by rw [List.length_map, runs_length, e]) fun j x u h1 h2 => ?_
  obtain ⟨t, rfl⟩ := h.2 j u (by rw [← Array.getElem?_toList]; exact h2)
  have hj : j < ns.length := by
    have := (List.getElem?_eq_some_iff.mp h2).1
    omega
  rw [List.getElem?_map, runs_get ns 0 j hj] at h1
  cases h1
  rw [preSum_take ns (j + 1) (by omega)]
  exact ⟨t, by rw [Int.zero_add]⟩
theorem vals_get' : ∀ {xs : List V} {us : List Value} {i : Nat} {u : Value}, Vals xs us → us[i]? = some u → ∃ x, xs[i]? = some x ∧ RelV x u
  | _, _, _, _, .nil, e => by simp at e
  | _, _, 0, _, .cons r _, e => by
    have e := Option.some.inj e
    subst e
    exact ⟨_, rfl, r⟩
  | _, _, i + 1, u, .cons _ t, e => vals_get' (i := i) t e
section
variable {X : Cx} {e : Expr} {te : TE}
theorem pe_accu {p p2 pos pos2 : Pos} (hc : X.calm = true) (hg : Gl X "list") (hm : X.mg "list" = none) (hg2 : Gl X "accumulate") (hm2 : X.mg "accumulate" = some (.type "itertools.accumulate")) (he : PE X e te)
    (na : starEach [.Call (.Name "accumulate" p2) [e] [] pos2] X.env = (false, eval (.Call (.Name "accumulate" p2) [e] [] pos2) X.env) :: starEach [] X.env := by rfl) (na2 : starEach [e] X.env = (false, eval e X.env) :: starEach [] X.env := by rfl) :
    PE X (.Call (.Name "list" p) [.Call (.Name "accumulate" p2) [e] [] pos2] [] pos) (tAccu X.K te) := by
  refine ⟨fun pins s σ H Q I h => ?_⟩
  refine Call_ (ld_blt I hg hm boot_list (PyProof.Rows.callWith_type1 (args_cons (Call_ (ld_glob I hg2 hm2 (PyProof.Rows.callWith_type1 (args_cons (thn (he.run pins s σ H _ I h) fun x s1 ⟨v, H1, I1, r, pp, ns, ev, sq, q⟩ => args_nil ?_) na2) na2))) na) na))
  subst ev
  obtain rfl : x = Value.ref pp := r
  obtain ⟨its, hv, hl, hz⟩ := I1.list sq
  have hlen : its.length = ns.length := by rw [← hv.length, List.length_map]
  have hf : ∀ (j : Nat) (v : Value), its.toArray[j]? = some v → ∃ t, v = .int (ns.getD j 0) t := fun j v ej => by
    rw [List.getElem?_toArray] at ej
    obtain ⟨y, ey, ry⟩ := vals_get' hv ej
    rw [List.getElem?_map] at ey
    cases en : ns[j]? with
    | none => rw [en] at ey; cases ey
    | some n =>
      rw [en] at ey
      cases ey
      rw [List.getD_eq_getElem?_getD, en]
      exact ry
  have hpl := hl.lt
  refine Accu.call_ac (wpAny_pyIter_list hl.isList (args_nil ?_))
  have k0 : ∀ b o, s1.heap.get? b = some o → ((s1.heap.push { cls := .type "list_iterator", data := .fields #[.ref pp, .int 0 0] }).push { cls := .type "itertools.accumulate", data := .fields #[.ref s1.heap.objs.size, .none, Builtin.Itertools.itNothing, .none] }).get? b = some o := fun b o q =>
    Heap.get?_push_of_some _ (Heap.get?_push_of_some _ q)
  have kit : (s1.heap.push { cls := .type "list_iterator", data := .fields #[.ref pp, .int 0 0] }).get? s1.heap.objs.size = some { cls := .type "list_iterator", data := .fields #[.ref pp, .int 0 0] } := Heap.get?_push_size _ rfl
  have sz1 : (s1.heap.push { cls := .type "list_iterator", data := .fields #[.ref pp, .int 0 0] }).objs.size = s1.heap.objs.size + 1 := Heap.size_push ..
  have hm : (s1.heap.push { cls := .type "list_iterator", data := .fields #[.ref pp, .int 0 0] }).objs.size ≠ s1.heap.objs.size := by rw [sz1]; exact Nat.succ_ne_self _
  have hli : pp ≠ s1.heap.objs.size := Nat.ne_of_lt hpl
  have hlm : pp ≠ (s1.heap.push { cls := .type "list_iterator", data := .fields #[.ref pp, .int 0 0] }).objs.size := by rw [sz1]; exact Nat.ne_of_lt (Nat.lt_succ_of_lt hpl)
  have hn : its.toArray.size ≤ sizeLine := by
    rw [List.size_toArray, ← hv.length]
    exact hz
  refine Accu.list_ac (Accu.walks_ac (f := fun j => ns.getD j 0) (I1.ok.hd hc) hf hm hli hlm) (fun i s ⟨tot, a, _⟩ => ⟨_, a, rfl⟩)
    ⟨Builtin.Itertools.itNothing, Heap.get?_push_size _ rfl, .inl ⟨rfl, rfl⟩, ⟨_, Heap.get?_push_of_some _ kit, rfl, rfl⟩, hl.isList.at fun o q => k0 _ o q⟩
    (fun b hb => ?_) (by simp) (fun s' acc c' hmv hS hacc => ?_) hn
  · have z : ((s1.heap.push { cls := .type "list_iterator", data := .fields #[.ref pp, .int 0 0] }).push { cls := .type "itertools.accumulate", data := .fields #[.ref s1.heap.objs.size, .none, Builtin.Itertools.itNothing, .none] }).objs.size = s1.heap.objs.size + 2 := by rw [Heap.size_push, sz1]
    show b < ((s1.heap.push _).push _).objs.size
    rw [z]
    simp only [List.mem_cons, List.not_mem_nil, or_false] at hb
    rcases hb with rfl | rfl | rfl
    · rw [sz1]; exact Nat.lt_succ_self _
    · exact Nat.lt_succ_of_lt (Nat.lt_succ_self _)
    · exact Nat.lt_succ_of_lt (Nat.lt_succ_of_lt hpl)
  · have es := Moved.eq_with hmv
    rw [es]
    have zS : s1.heap.objs.size ≤ ((s1.heap.push { cls := .type "list_iterator", data := .fields #[.ref pp, .int 0 0] }).push { cls := .type "itertools.accumulate", data := .fields #[.ref s1.heap.objs.size, .none, Builtin.Itertools.itNothing, .none] }).objs.size := by
      rw [Heap.size_push, sz1]
      exact Nat.le_add_right _ 2
    have nH := I1.hok.fresh zS
    have kp : ∀ b u, s1.heap.get? b = some u → s'.heap.get? b = some u := fun b u q => by
      have lt : b < s1.heap.objs.size := Heap.lt_size q
      refine hmv.heap b u (fun hb => ?_) (Heap.get?_push_of_some _ (k0 b u q))
      simp only [List.mem_cons, List.not_mem_nil, or_false] at hb
      rcases hb with rfl | rfl | rfl
      · exact absurd lt (Nat.not_lt_of_le zS)
      · rw [sz1] at lt; exact absurd lt (Nat.not_lt_of_le (Nat.le_succ _))
      · exact absurd lt (Nat.lt_irrefl _)
    refine ⟨.ref _, upd H1 _ (.lst ((runs 0 ns).map V.int)), I1.laid kp zS (show ObjOk X.prog X.w _ _ _ (.lst _) from ⟨?_, acc.toList, c', ?_, ?_⟩), rfl, q _ nH⟩
    · rw [List.length_map, runs_length, ← List.length_map (f := V.int)]
      exact hz
    · refine vals_runs ?_
      rw [← hlen]
      exact hacc
    · rw [Array.toArray_toList]
      exact hS
end
/-! ### as data -/
variable {K : PySem.W.Frag} {ρ : Rho} {te : TE}
theorem nd_accu {ns : List Int} (h : Rl K te ρ (fun x => x = ns.map .int)) : Nld K (tAccu K te) ρ ((runs 0 ns).map .int) := fun T H0 G H σ gh tp D Q q =>
  h.bind gh tp D fun xs p vs G1 H1 p1 s1 gh1 tp1 D1 rd a => by
    subst p1
    have := a.ints
    subst this
    exact ⟨p, ns, rfl, rd.sq gh1, new_end gh1 tp1 (DnAll.of_ints _) fun p' G' H' s hp nt gp e a' => q _ p' _ G' H' rfl (s1.trans s) (s1.no hp nt) nt gp e a'⟩
end PD

set_option maxHeartbeats 4000000
namespace PD
open PySem PySem.Spec PyProof.Rows L2
theorem tuple_mul0 (l : Addr) (items : Array Value) (n : Nat) (dd : Option Addr) (sl : Array (Option Value)) (x : Int) (u : Tok) (c0 : (decide (x < -(2 ^ 63)) || decide (x ≥ 2 ^ 63)) = false) (c1 : (items.isEmpty || x == 1) = false) (c2 : (decide (x ≤ 0) || items.isEmpty) = true) :
    Meets (Builtin.«tuple.__mul__» ⟨[.ref l, .int x u], []⟩) (fun _ R s => s.heap.get? l = some { cls := .type "tuple", dict := dd, data := .seq items n, slots := sl } ∧
      R (.ok (.ret (Value.ref s.heap.objs.size))) { s with heap := s.heap.push { cls := Value.type "tuple", data := Data.seq #[] }, toks := s.toks }) :=
  .of_wp fun prog w A R s h => by
    obtain ⟨hp, g, d, tk, os⟩ := s
    obtain ⟨hl, h⟩ := h
    have f1 := AutoSeq1.idx_int
    wp_walk using wpAny_loadPart' hl
    repeat (first
      | (refine wpAny_ite_false (decide_eq_false (by rw [c0]; exact Bool.false_ne_true)) ?_; wp_walk using wpAny_loadPart' hl)
      | (refine wpAny_ite_false (decide_eq_false (by rw [c1]; exact Bool.false_ne_true)) ?_; wp_walk using wpAny_loadPart' hl)
      | (refine wpAny_ite_true (decide_eq_true (by rw [c2])) ?_; wp_walk using wpAny_loadPart' hl))
    exact ⟨_, rfl, h⟩
theorem tuple_mul1 (l : Addr) (items : Array Value) (n : Nat) (dd : Option Addr) (sl : Array (Option Value)) (u : Tok) :
    Meets (Builtin.«tuple.__mul__» ⟨[.ref l, .int 1 u], []⟩) (fun _ R s => s.heap.get? l = some { cls := .type "tuple", dict := dd, data := .seq items n, slots := sl } ∧ R (.ok (.ret (Value.ref l))) s) :=
  .of_wp fun prog w A R s h => by
    obtain ⟨hp, g, d, tk, os⟩ := s
    obtain ⟨hl, h⟩ := h
    have f1 := AutoSeq1.idx_int
    wp_walk using wpAny_loadPart' hl
    exact ⟨_, rfl, h⟩
section
variable {X : Cx}
def rRepS (K : PySem.W.Frag) : R2 := fun x y H Q => ∃ l k xs, x = .ref l ∧ y = .int k ∧ SqT K H l xs ∧ xs ≠ [] ∧ ((k = 0 ∧ ∀ p, H p = none → Q (.ref p) (upd H p (.tup []))) ∨ (k = 1 ∧ Q (.ref l) H))
theorem op_repS : OpR X (binaryOp .Mult) (rRepS X.K) := by
  intro pins s σ H x y v u Q I rx ry h
  obtain ⟨l, k, xs, rfl, rfl, hT, hne, h⟩ := h
  cases rx
  obtain ⟨t, rfl⟩ := ry
  obtain ⟨its, r, ⟨⟨cls, dd, data, sl⟩, ho, hc, n, hd⟩, hs⟩ := I.tuple hT
  simp only at hc hd
  subst hc hd
  have hle : its.length = xs.length := r.length.symm
  have hn : its ≠ [] := fun e => hne (by
    rw [e] at hle
    exact List.eq_nil_of_length_eq_zero hle.symm)
  have hi : its.toArray.isEmpty = false := by
    cases its with
    | nil => exact absurd rfl hn
    | cons a b => rfl
  refine wpAny_binaryOp_repeat_ref (T := "tuple") (U := "int") (by decide) ⟨_, ho, rfl⟩ (fun s' => typeIs_int s' k t) noFill_tuple_mul F.fills_int_mul F.slot_int_rmul repeat_tuple F.slot_int_index.lookup
    (call_meets F.slot_int_rmul (typeIs_int s k t) F.entry_int_rmul (F.args_int_rmul_2 _ _) (int_rmul_tuple k t l its.toArray n dd sl)
      ⟨ho, rfl, ⟨_, ho, rfl⟩, ?_⟩)
  rcases h with ⟨rfl, q⟩ | ⟨rfl, q⟩
  · refine call_meets F.slot_tuple_mul ⟨_, ho, rfl⟩ F.entry_tuple_mul (F.args_tuple_mul_2 _ _) (tuple_mul0 l its.toArray n dd sl 0 t (by decide) (by rw [hi]; rfl) (by simp)) ⟨ho, ?_⟩
    refine ⟨.ref s.heap.objs.size, _, I.laid (t' := s.toks) (o := .tup []) (fun b ob q => Heap.get?_push_of_some _ q) (Nat.le_refl _) ?_, rfl, q _ (I.hok.fresh (Nat.le_refl _))⟩
    exact ⟨Nat.zero_le _, [], .nil, IsTup.new _ _⟩
  · exact call_meets F.slot_tuple_mul ⟨_, ho, rfl⟩ F.entry_tuple_mul (F.args_tuple_mul_2 _ _) (tuple_mul1 l its.toArray n dd sl t) ⟨ho, .ref l, H, I, rfl, q⟩
abbrev rMulT (K : PySem.W.Frag) : R2 := fun x y H Q => rRepT K x y H Q ∨ rRepS K x y H Q
theorem opx_mulT {K : PySem.W.Frag} (h : X.K = K) : OpR X (binaryOp .Mult) (rMulT K) := h ▸ op_repT.or op_repS
/-! ### math.lcm -/
def rLcm : List V → Hp → VK → Prop := fun xs H Q => ∃ a b, xs = [.int a, .int b] ∧ a.natAbs < 2 ^ 64 ∧ b.natAbs < 2 ^ 64 ∧ Q (.int ((a.natAbs.lcm b.natAbs : Nat) : Int)) H
theorem cr_lcm : CallR X (.builtin "math.lcm") rLcm := by
  intro pins s σ H vs us Q I r h
  obtain ⟨a, b, rfl, ha, hb, q⟩ := h
  obtain ⟨t, u, rfl⟩ := Vals.int2 r
  refine PySem.W.mg_lcm ha hb ?_ ?_
  · rw [Nat.lcm_one_left]
    have h1 : a.natAbs.lcm b.natAbs ≤ a.natAbs * b.natAbs := Nat.div_le_self _ _
    have h2 : a.natAbs * b.natAbs < 2 ^ 128 := by
      have : a.natAbs * b.natAbs ≤ (2 ^ 64 - 1) * (2 ^ 64 - 1) := Nat.mul_le_mul (by omega) (by omega)
      omega
    have h3 : (a.natAbs.lcm b.natAbs).log2 < 128 := by
      by_cases z : a.natAbs.lcm b.natAbs = 0
      · rw [z]; decide
      · exact (Nat.log2_lt z).mpr (by omega)
    show (a.natAbs.lcm b.natAbs).log2 < bitsLine
    exact Nat.lt_trans h3 (by decide)
  · rw [Nat.lcm_one_left]
    exact ⟨.int _, H, I.tok _, ⟨_, rfl⟩, q⟩
end
section
variable {K : PySem.W.Frag} {ρ : Rho} {ta tb : TE}
/-- (a,) * k -/
theorem yd_repA {xs : List PyData} {k : Nat} (ha : Pd K ta ρ (.tuple xs)) (hb : Pd K tb ρ (.int (k : Int))) (hne : xs ≠ []) (h3 : k ≤ 1000) (hl : xs.length ≤ 1000) : Pd K (tOp (rMulT K) ta tb) ρ (.tuple (List.replicate k xs).flatten) := fun T H0 G H σ gh tp D Q q =>
  ha.bind gh tp D fun x v G1 H1 p1 s1 gh1 tp1 D1 x1 => hb.bind gh1 tp1 D1 fun y u G2 H2 p2 s2 gh2 tp2 D2 x2 => by
    subst p1 p2
    have x1 := x1.mono s2.g
    cases x2
    cases x1 with
    | @tup a vs _ e1 a1 =>
      have hv : vs ≠ [] := fun z => by subst z; cases a1; exact hne rfl
      by_cases h2 : 2 ≤ k
      · refine .inl ⟨a, (k : Int), vs, rfl, rfl, sqt_mono gh2 e1, hv, by omega, by omega, by rw [a1.length]; exact hl, ?_⟩
        rw [Int.toNat_natCast]
        exact new_tup gh2 tp2 (a1.rep k) fun v G' H' s' x => q _ v G' H' rfl ((s1.trans s2).trans s') x
      · refine .inr ⟨a, (k : Int), vs, rfl, rfl, sqt_mono gh2 e1, hv, ?_⟩
        by_cases h0 : k = 0
        · subst h0
          exact .inl ⟨rfl, new_tup gh2 tp2 .nil fun v G' H' s' x => q _ v G' H' rfl ((s1.trans s2).trans s') x⟩
        · obtain rfl : k = 1 := by omega
          refine .inr ⟨rfl, q _ _ G2 H2 ?_ (s1.trans s2) (.tup e1 a1)⟩
          simp
theorem yd_lcm {i j : Nat} (ha : Pd K ta ρ (.int (i : Int))) (hb : Pd K tb ρ (.int (j : Int))) (h1 : i < 2 ^ 64) (h2 : j < 2 ^ 64) : Pd K (tCB rLcm (tCons ta (tCons tb tNil))) ρ (.int ((i.lcm j : Nat) : Int)) := ye_cb2 ha hb fun x y p1 p2 T G H v u gh tp x1 x2 Q q => by
  subst p1 p2
  cases x1
  cases x2
  exact ⟨_, _, rfl, by simpa using h1, by simpa using h2, q _ _ G H rfl (Step.refl gh tp) (by simp only [Int.natAbs_natCast]; exact .int _)⟩
end
end PD

set_option maxHeartbeats 4000000
/-! pairs = zip(xs, ys), walked later -/
namespace ZV
open PySem PySem.Spec PyProof.Rows L2 ItX
abbrev XO (c : Addr) (o : Obj) : HO := .ext fun h => h.get? c = some o
theorem xo_ok {P : Program} {w : World} {H : Hp} {h : Heap} {c : Addr} {o : Obj} (e : h.get? c = some o) : ObjOk P w H h c (XO c o) := ⟨e, ⟨_, e⟩, fun h1 h2 q k => k _ q⟩
structure ZF (z TI TO i1 i2 a b : Addr) (oz oT oO o1 o2 : Obj) : Prop where
  zip : oz = { cls := .type "zip", dict := none, data := .fields #[.none, .bool false, .bool false, .ref TI, .ref TO], slots := #[] }
  pT : oT = { cls := .type "tuple", data := .seq #[.ref i1, .ref i2] }
  pO : ∃ x y, oO = { cls := .type "tuple", data := .seq #[x, y] }
  l1 : o1.cls = .type "list_iterator" ∧ o1.data = .fields #[.ref a, .int ((0 : Nat) : Int) 0]
  l2 : o2.cls = .type "list_iterator" ∧ o2.data = .fields #[.ref b, .int ((0 : Nat) : Int) 0]
  apart : ZipApart z TI TO i1 i2 a b
def up5 (H : Hp) (z TI TO i1 i2 : Addr) (oz oT oO o1 o2 : Obj) : Hp := upd (upd (upd (upd (upd H i1 (XO i1 o1)) i2 (XO i2 o2)) TI (XO TI oT)) TO (XO TO oO)) z (XO z oz)
def drop5 (H : Hp) (z TI TO i1 i2 : Addr) : Hp := dropH (dropH (dropH (dropH (dropH H z) TO) TI) i2) i1
theorem drop_up {H : Hp} {z TI TO i1 i2 a b : Addr} {oz oT oO o1 o2 : Obj} (A : ZipApart z TI TO i1 i2 a b) (hz : H z = none) (hT : H TI = none) (hO : H TO = none) (h1 : H i1 = none) (h2 : H i2 = none) : drop5 (up5 H z TI TO i1 i2 oz oT oO o1 o2) z TI TO i1 i2 = H := by
  unfold drop5 up5
  rw [dropH_upd (by rw [upd_ne A.TOz.symm, upd_ne A.TIz.symm, upd_ne A.i2z.symm, upd_ne A.i1z.symm]; exact hz),
    dropH_upd (by rw [upd_ne A.TITO.symm, upd_ne A.TOi2, upd_ne A.TOi1]; exact hO), dropH_upd (by rw [upd_ne A.TIi2, upd_ne A.TIi1]; exact hT), dropH_upd (by rw [upd_ne A.i12.symm]; exact h2), dropH_upd h1]
section
variable {X : Cx} {e e2 : Expr} {ta : TA}
def tZipV (K : PySem.W.Frag) (n : Nat) (ta : TA) : TE := fun σ H Q => ta σ H fun vs H1 => ∃ a b xs ys, vs = [.ref a, .ref b] ∧ SqL K H1 a xs ∧ SqL K H1 b ys ∧
  ∀ (z TI TO i1 i2 : Addr) (oz oT oO o1 o2 : Obj), ZF z TI TO i1 i2 a b oz oT oO o1 o2 → (∀ c ∈ [z, TI, TO, i1, i2], H1 c = none ∧ n ≤ c) → Q (.ref z) (up5 H1 z TI TO i1 i2 oz oT oO o1 o2)
theorem pe_zipV {p pos : Pos} (hg : Gl X "zip") (hm : X.mg "zip" = none) (ha : PA X [e, e2] ta)
    (hs : starEach [e, e2] X.env = (false, eval e X.env) :: starEach [e2] X.env := by rfl) (hpl : (backTo pos (starEach [e2] X.env)).any (·.1) = false := by rfl) :
    PE X (.Call (.Name "zip" p) [e, e2] [] pos) (tZipV X.K X.s_0.heap.objs.size ta) := by
  refine ⟨fun pins s σ H Q I h => ?_⟩
  refine Call_ (ld_blt I hg hm PyProof.Rows.boot_zip (PyProof.Rows.callWith_type1 (thn (ha.run pos pins s σ H _ I h) fun us s1 ⟨vs, H1, I1, r1, q1⟩ => ?_) hs hpl))
  obtain ⟨a, b, xs, ys, ex, hqx, hqy, q⟩ := q1
  subst ex
  cases r1 with
  | cons r rr =>
    cases rr with
    | cons r' rr =>
      cases rr
      cases r
      cases r'
      obtain ⟨its, rv, p1, _⟩ := I1.list hqx
      obtain ⟨its2, rv2, p2, _⟩ := I1.list hqy
      refine call_zip_2 p1.isList p2.isList fun h' hz hTI hTO h1 h2 hsz hk => ?_
      obtain ⟨o1, e1, c1, d1⟩ := h1
      obtain ⟨o2, e2, c2, d2⟩ := h2
      have ap := PySem.W.ktu_apart s1.heap.objs.size a b p1.lt p2.lt
      have sz := I1.sz
      have fr : ∀ c, s1.heap.objs.size ≤ c → H1 c = none := fun c hc => I1.hok.fresh hc
      obtain ⟨n, hn⟩ : ∃ n, n = s1.heap.objs.size := ⟨_, rfl⟩
      -- one after another
      have f1 := Obj.isFreed_of_fields d1
      have f2 := Obj.isFreed_of_fields d2
      have A1 : (s1.heap.push o1).get? s1.heap.objs.size = some o1 := Heap.get?_push_size _ f1
      have z1 : (s1.heap.push o1).objs.size = s1.heap.objs.size + 1 := Heap.size_push ..
      have J1 : Inv X pins σ (upd H1 s1.heap.objs.size (XO s1.heap.objs.size o1)) { s1 with heap := s1.heap.push o1 } := I1.laid (t' := s1.toks) (fun b u q => Heap.get?_push_of_some _ q) (Nat.le_refl _) (xo_ok A1)
      have A2 : ((s1.heap.push o1).push o2).get? (s1.heap.objs.size + 1) = some o2 := by rw [← z1]; exact Heap.get?_push_size _ f2
      have z2 : ((s1.heap.push o1).push o2).objs.size = s1.heap.objs.size + 2 := by rw [Heap.size_push, z1]
      have J2 := J1.laid (t' := s1.toks) (h' := (s1.heap.push o1).push o2) (o := XO (s1.heap.objs.size + 1) o2) (fun b u q => Heap.get?_push_of_some _ q) (show (s1.heap.push o1).objs.size ≤ s1.heap.objs.size + 1 by rw [z1]; exact Nat.le_refl _) (xo_ok A2)
      obtain ⟨oT, hoT⟩ : ∃ oT : Obj, oT = { cls := .type "tuple", data := .seq #[.ref s1.heap.objs.size, .ref (s1.heap.objs.size + 1)] } := ⟨_, rfl⟩
      obtain ⟨oO, hoO⟩ : ∃ oO : Obj, oO = { cls := .type "tuple", data := .seq #[.none, .none] } := ⟨_, rfl⟩
      obtain ⟨oz, hoz⟩ : ∃ oz : Obj, oz = { cls := .type "zip", dict := none, data := .fields #[.none, .bool false, .bool false, .ref (s1.heap.objs.size + 2), .ref (s1.heap.objs.size + 3)], slots := #[] } := ⟨_, rfl⟩
      have A3 : (((s1.heap.push o1).push o2).push oT).get? (s1.heap.objs.size + 2) = some oT := by rw [← z2]; exact Heap.get?_push_size _ (by rw [hoT]; rfl)
      have z3 : (((s1.heap.push o1).push o2).push oT).objs.size = s1.heap.objs.size + 3 := by rw [Heap.size_push, z2]
      have J3 := J2.laid (t' := s1.toks) (h' := ((s1.heap.push o1).push o2).push oT) (o := XO (s1.heap.objs.size + 2) oT) (fun b u q => Heap.get?_push_of_some _ q) (show ((s1.heap.push o1).push o2).objs.size ≤ s1.heap.objs.size + 2 by rw [z2]; exact Nat.le_refl _) (xo_ok A3)
      have A4 : ((((s1.heap.push o1).push o2).push oT).push oO).get? (s1.heap.objs.size + 3) = some oO := by rw [← z3]; exact Heap.get?_push_size _ (by rw [hoO]; rfl)
      have z4 : ((((s1.heap.push o1).push o2).push oT).push oO).objs.size = s1.heap.objs.size + 4 := by rw [Heap.size_push, z3]
      have J4 := J3.laid (t' := s1.toks) (h' := (((s1.heap.push o1).push o2).push oT).push oO) (o := XO (s1.heap.objs.size + 3) oO) (fun b u q => Heap.get?_push_of_some _ q) (show (((s1.heap.push o1).push o2).push oT).objs.size ≤ s1.heap.objs.size + 3 by rw [z3]; exact Nat.le_refl _) (xo_ok A4)
      have A5 : (((((s1.heap.push o1).push o2).push oT).push oO).push oz).get? (s1.heap.objs.size + 4) = some oz := by rw [← z4]; exact Heap.get?_push_size _ (by rw [hoz]; rfl)
      have J5 := J4.laid (t' := s1.toks) (h' := ((((s1.heap.push o1).push o2).push oT).push oO).push oz) (o := XO (s1.heap.objs.size + 4) oz) (fun b u q => Heap.get?_push_of_some _ q) (show ((((s1.heap.push o1).push o2).push oT).push oO).objs.size ≤ s1.heap.objs.size + 4 by rw [z4]; exact Nat.le_refl _) (xo_ok A5)
      have J6 := J5.kept (t' := s1.toks) (h' := h') fun c o q => by
        rcases Heap.get?_push_cases q with ⟨rfl, rfl⟩ | q
        · rw [z4, hoz]; exact hz
        rcases Heap.get?_push_cases q with ⟨rfl, rfl⟩ | q
        · rw [z3, hoO]; exact hTO
        rcases Heap.get?_push_cases q with ⟨rfl, rfl⟩ | q
        · rw [z2, hoT]; exact hTI
        rcases Heap.get?_push_cases q with ⟨rfl, rfl⟩ | q
        · rw [z1]; exact e2
        rcases Heap.get?_push_cases q with ⟨rfl, rfl⟩ | q
        · exact e1
        exact hk c o q
      refine ⟨.ref (s1.heap.objs.size + 4), _, J6, rfl, q _ _ _ _ _ oz oT oO o1 o2 ⟨hoz, hoT, ⟨_, _, hoO⟩, ⟨c1, d1⟩, ⟨c2, d2⟩, ap⟩ fun c hc => ?_⟩
      have hle : s1.heap.objs.size ≤ c := by
        have e' : c = s1.heap.objs.size + 4 ∨ c = s1.heap.objs.size + 2 ∨ c = s1.heap.objs.size + 3 ∨ c = s1.heap.objs.size ∨ c = s1.heap.objs.size + 1 := by simpa using hc
        rcases e' with z | z | z | z | z
        · rw [z]; exact Nat.le_add_right _ _
        · rw [z]; exact Nat.le_add_right _ _
        · rw [z]; exact Nat.le_add_right _ _
        · rw [z]; exact Nat.le_refl _
        · rw [z]; exact Nat.le_add_right _ _
      exact ⟨fr c hle, Nat.le_trans sz hle⟩
def iZipV (K : PySem.W.Frag) (n : Nat) (k : Nat) : TI := fun σ H R => ∃ (z TI TO i1 i2 a b : Addr) (oz oT oO o1 o2 : Obj), ZF z TI TO i1 i2 a b oz oT oO o1 o2 ∧ (∀ c ∈ [z, TI, TO, i1, i2], n ≤ c) ∧ σ[k]? = some (some (.ref z)) ∧
  H z = some (XO z oz) ∧ H TI = some (XO TI oT) ∧ H TO = some (XO TO oO) ∧ H i1 = some (XO i1 o1) ∧ H i2 = some (XO i2 o2) ∧ R (Itz K a b) (drop5 H z TI TO i1 i2)
variable {k : Nat} {x : Str} {p : Pos}
theorem pi_zipV {tpos : Pos} {elts : List Expr} {kk : Nat} (hN : X.N[k]? = some x) (hv : Vis X.env.scope x) (hd : (x == ("__debug__" : Str)) = false := by decide) (hcd : (x == ("__classdict__" : Str)) = false := by decide) : PI X (.Tuple elts kk tpos) (.Name x p) (iZipV X.K X.s_0.heap.objs.size k) := by
  refine ⟨fun pins s σ H R I h => ?_⟩
  obtain ⟨z, TI, TO, i1, i2, a, b, oz, oT, oO, o1, o2, F, hn, hs, hz, hT, hO, h1, h2, q⟩ := h
  refine thn ((pe_var (pos := p) (i := k) hN hv hd hcd).run pins s σ H (fun v H1 => v = .ref z ∧ H1 = H) I ⟨.ref z, hs, rfl, rfl⟩) fun u s1 ⟨v, H1, I1, r1, ev, eH⟩ => ?_
  subst ev
  rw [eH] at I1
  cases r1
  have A := F.apart
  have gz : s1.heap.get? z = some oz := (I1.hok z _ hz).1
  have gT : s1.heap.get? TI = some oT := (I1.hok TI _ hT).1
  have gO : s1.heap.get? TO = some oO := (I1.hok TO _ hO).1
  have g1 : s1.heap.get? i1 = some o1 := (I1.hok i1 _ h1).1
  have g2 : s1.heap.get? i2 = some o2 := (I1.hok i2 _ h2).1
  have D1 := inv_drop I1 hz
  have hO' : dropH H z TO = some (XO TO oO) := by rw [dropH_ne A.TOz]; exact hO
  have D2 := inv_drop D1 hO'
  have hT' : dropH (dropH H z) TO TI = some (XO TI oT) := by rw [dropH_ne A.TITO, dropH_ne A.TIz]; exact hT
  have D3 := inv_drop D2 hT'
  have h2' : dropH (dropH (dropH H z) TO) TI i2 = some (XO i2 o2) := by rw [dropH_ne A.TIi2.symm, dropH_ne A.TOi2.symm, dropH_ne A.i2z]; exact h2
  have D4 := inv_drop D3 h2'
  have h1' : dropH (dropH (dropH (dropH H z) TO) TI) i2 i1 = some (XO i1 o1) := by rw [dropH_ne A.i12, dropH_ne A.TIi1.symm, dropH_ne A.TOi1.symm, dropH_ne A.i1z]; exact h1
  have D5 := inv_drop D4 h1'
  obtain ⟨x0, y0, pO⟩ := F.pO
  have hzip : IsZip s1.heap z TI TO .none := gz.trans (congrArg some F.zip)
  have hpT : IsPair s1.heap TI (.ref i1) (.ref i2) := gT.trans (congrArg some F.pT)
  have hpO : IsPair s1.heap TO x0 y0 := gO.trans (congrArg some pO)
  refine wpAny_pyIter_zip hzip ?_
  refine ⟨z, [z, TI, TO, i1, i2], _, _, drop5 H z TI TO i1 i2, rfl, D5, turn_zip A, ⟨hzip, hpT, ⟨x0, y0, hpO⟩, ⟨o1, g1, F.l1.1, F.l1.2⟩, ⟨o2, g2, F.l2.1, F.l2.2⟩⟩, fun c hc => ?_, q⟩
  have nn : ∀ c ∈ [z, TI, TO, i1, i2], drop5 H z TI TO i1 i2 c = none ∧ ∃ u, H c = some u := fun c hc => by
    have e' : c = z ∨ c = TI ∨ c = TO ∨ c = i1 ∨ c = i2 := by simpa using hc
    unfold drop5
    rcases e' with rfl | rfl | rfl | rfl | rfl
    · exact ⟨by rw [dropH_ne A.i1z.symm, dropH_ne A.i2z.symm, dropH_ne A.TIz.symm, dropH_ne A.TOz.symm, dropH_same], _, hz⟩
    · exact ⟨by rw [dropH_ne A.TIi1, dropH_ne A.TIi2, dropH_same], _, hT⟩
    · exact ⟨by rw [dropH_ne A.TOi1, dropH_ne A.TOi2, dropH_ne A.TITO.symm, dropH_same], _, hO⟩
    · exact ⟨by rw [dropH_same], _, h1⟩
    · exact ⟨by rw [dropH_ne A.i12.symm, dropH_same], _, h2⟩
  obtain ⟨n0, u, hu⟩ := nn c hc
  have hc2 := hn c hc
  refine ⟨n0, fun z' => ?_, fun z' => ?_, .inr hc2, fun x c' e z' => ?_, fun p hp z' => ?_⟩
  · rw [z', I1.free] at hu
    cases hu
  · obtain ⟨_, o, ho, _⟩ := I1.ok.funs.mem z'
    exact absurd (Nat.lt_of_lt_of_le (Heap.lt_size ho) hc2) (Nat.lt_irrefl _)
  · have q := I1.freeC x c' e
    rw [z', hu] at q
    cases q
  · have q := (I1.pin p hp).2.1
    rw [z', hu] at q
    cases q
end
end ZV

set_option maxHeartbeats 4000000
namespace PD
open PySem PySem.Spec PyProof.Rows L2 ZV
section
variable {K : PySem.W.Frag} {ρ ρ' : Rho} {te ta tb tc tl : TE} {P P' : PyData → Prop} {PL : List PyData → Prop}
theorem lc_at {T : Addr → Prop} {H0 G H : Hp} {σ : L2.St} (gh : Same G H) (tp : ∀ a, T a → Tp G H a) (D : Den T K H0 G H σ ρ) {wi : TI} {g : TG} {tt : TT} {vs sl : List Nat} (hi : ∀ R : It → Hp → Prop, (∀ xs J G' H', PL xs → Step T G H G' H' → Itd K J G' xs → R J H') → wi σ H R) (keep : PyData → Bool) (R : PyData → PyData → Prop) (hsl : ∀ i ∈ sl, i ∈ vs)
    (hz : ∀ xs, PL xs → xs.length < sizeLine)
    (hb : ∀ xs x, PL xs → x ∈ xs → ∃ r', PD.Pg K g sl x (wipeR ρ vs) r' ∧ Ptd K tt r' (keep x) ∧ (keep x = true → Pe K te r' (R x)))
    (Q : VK) (q : ∀ ys p vs' G' H', (∃ xs, PL xs ∧ Paired R (xs.filter keep) ys) → Step T G H G' H' → H p = none → ¬ T p → G' p = none → H' p = some (.lst vs') → DnAll K G' vs' ys → Q (.ref p) H') : tLc wi g tt te vs σ H Q := by
  refine hi _ fun xs J G1 H1 hx s1 it Dl hD => ?_
  have Dn1 := (D.mono s1).wipe vs
  have nt : ¬ T Dl := tape_some s1.tp hD
  have gd : G1 Dl = none := s1.gh.free hD
  -- the state at a turn
  refine ⟨fun i m H => m = xs.length - i ∧ i ≤ xs.length ∧ ∃ G acc ys, Step T G1 H1 G H ∧ H Dl = some (.lst acc) ∧ G Dl = none ∧ DnAll K G acc ys ∧ Paired R ((xs.take i).filter keep) ys,
    ⟨xs.length, by simp, Nat.zero_le _, G1, [], [], Step.newM s1.gh s1.tp hD, upd_same, gd, .nil, .nil⟩, ?_⟩
  rintro i m H2 ⟨rfl, hil, G2, acc, ys, s2, hacc, g2d, da, pr⟩
  have g2 : Same G1 H2 := s2.g.trans s2.gh
  by_cases hlt : i < xs.length
  · refine .inr ⟨it.go i H2 g2 hlt, fun H' => ∃ G acc ys, Step T G1 H1 G H' ∧ H' Dl = some (.lst acc) ∧ G Dl = none ∧ DnAll K G acc ys ∧ Paired R ((xs.take (i + 1)).filter keep) ys, fun H' p => ⟨xs.length - (i + 1), by omega, rfl, hlt, p⟩, fun x H' y => ?_⟩
    obtain ⟨G3, d, ed, s3, dx⟩ := it.yld i T G2 H2 x H' s2.g s2.gh s2.tp hlt y
    obtain ⟨r', hg, ht, he⟩ := hb xs d hx (List.mem_of_getElem? ed)
    have s13 := s2.trans s3
    have et : (xs.take (i + 1)).filter keep = (xs.take i).filter keep ++ (if keep d = true then [d] else []) := by
      rw [List.take_add_one, ed, List.filter_append]
      congr 1
      show List.filter keep [d] = _
      cases hk : keep d with
      | true => simp [hk]
      | false => simp [hk]
    have lacc : ys.length ≤ i := by
      have h1 := pr.length
      have h2 := List.length_filter_le keep (xs.take i)
      rw [List.length_take] at h2
      omega
    refine hg T H0 G3 H' _ x s3.gh (Dn1.mono s13) dx _ fun σ' D' hl hf => ⟨?_, ?_⟩
    · refine (wipe_eq hl fun j hj => hf j fun z => hj (hsl j z)).trans ?_
      refine wipe_eq (wipe_length σ vs) fun j hj => ?_
      rw [wipe_at, if_neg (fun z => hj z.1)]
    refine ht T H0 G3 H' σ' s3.gh s3.tp D' _ fun b G4 H4 pb s4 => ?_
    subst pb
    have hD2 : H2 Dl ≠ none := by rw [hacc]; intro z; cases z
    have a4 : H4 Dl = some (.lst acc) := s4.h _ _ nt (s3.h _ _ nt hacc)
    have g4d : G4 Dl = none := s4.fr _ (s3.fr _ g2d hD2) (s3.so hD2)
    cases hk : keep d with
    | true =>
      rw [hk] at et
      rw [if_pos rfl]
      refine (he hk).bind s4.gh s4.tp (D'.mono s4) fun e v G5 H5 p5 s5 gh5 tp5 D5 x5 => ⟨acc, s5.h _ _ nt a4, ?_, G5, acc ++ [v], ys ++ [e], ?_, upd_same, s5.fr _ g4d (by rw [a4]; intro z; cases z), ?_, ?_⟩
      · rw [da.length]
        exact Nat.lt_of_le_of_lt lacc (Nat.lt_trans hlt (hz xs hx))
      · have s15 := (s13.trans s4).trans s5
        have g5d : G5 Dl = none := s5.fr _ g4d (by rw [a4]; intro z; cases z)
        refine ⟨s15.g, fun c u e => ?_, fun p o np ep => ?_, s15.fr, fun a t => ?_⟩
        · rw [upd_ne (ne_of_none e g5d)]
          exact gh5 _ _ e
        · rw [upd_ne (ne_of_none ep hD)]
          exact s15.h p o np ep
        · have z := tp5 a t
          obtain ⟨b, ns, x, y, m, e, eb, ea, r⟩ := id z
          exact z.mono (Same.refl _) (upd_ne (fun w => nt (w ▸ t))) ea
      · exact (((da.mono s3.g).mono s4.g).mono s5.g).append (.cons x5 .nil)
      · rw [et, if_pos rfl]
        have app : ∀ {as : List PyData} {bs : List PyData}, Paired R as bs → Paired R (as ++ [d]) (bs ++ [e]) := by
          intro as bs h
          induction h with
          | nil => exact .cons p5 .nil
          | cons r _ ih => exact .cons r ih
        exact app pr
    | false =>
      rw [hk] at et
      rw [if_neg Bool.false_ne_true]
      refine ⟨G4, acc, ys, s13.trans s4, a4, g4d, (da.mono s3.g).mono s4.g, ?_⟩
      rw [et, if_neg Bool.false_ne_true, List.append_nil]
      exact pr
  · have e1 : i = xs.length := by omega
    subst e1
    rw [List.take_of_length_le (Nat.le_refl _)] at pr
    have s12 := s2
    refine .inl ⟨it.stop _ H2 g2 (Nat.le_refl _), q ys Dl acc G2 H2 ⟨xs, hx, pr⟩ (s1.trans s2) ?_ nt g2d hacc da⟩
    exact s1.no hD nt

theorem Itd.mono {J : It} {G G' : Hp} {zs : List PyData} (h : Itd K J G zs) (g : Same G G') : Itd K J G' zs where
  go := fun i H s hi => h.go i H (g.trans s) hi
  stop := fun i H s hi => h.stop i H (g.trans s) hi
  yld := fun i T G1 H x H' s => h.yld i T G1 H x H' (g.trans s)
abbrev wiJ (J : It) : TI := fun σ H R => R J H
/-- where the iterator walks what is told -/
def PeJ (K : PySem.W.Frag) (J : It) (zs : List PyData) (te : TE) (ρ : Rho) (P : PyData → Prop) : Prop := ∀ (T : Addr → Prop) (H0 G H : Hp) (σ : L2.St), Same G H → (∀ a, T a → Tp G H a) → Den T K H0 G H σ ρ → Itd K J G zs →
  ∀ Q : VK, (∀ d v G' H', P d → Step T G H G' H' → Dn K G' v d → Q v H') → te σ H Q
theorem pj_lc {J : It} {zs : List PyData} {g : TG} {vs sl : List Nat} (f : PyData → PyData) (hsl : ∀ i ∈ sl, i ∈ vs) (hz : zs.length < sizeLine)
    (hb : ∀ x, x ∈ zs → ∃ r', PD.Pg K g sl x (wipeR ρ vs) r' ∧ Pd K te r' (f x)) : PeJ K J zs (tLc (wiJ J) g tYes te vs) ρ (fun d => d = .list (zs.map f)) := fun T H0 G H σ gh tp D it Q q =>
  lc_at gh tp D (PL := fun xs => xs = zs) (fun R k => k zs J G H rfl (Step.refl gh tp) it) (fun _ => true) (fun a b => b = f a) hsl (fun _ e => e ▸ hz) (fun ys x e hx => by
    subst e
    obtain ⟨r', h1, h2⟩ := hb x hx
    exact ⟨r', h1, yt_yes, fun _ => h2⟩) Q fun ys p vs' G' H' ⟨xs, e, pr⟩ s hp nt gp hl a => by
      subst e
      rw [PD.filter_all] at pr
      exact q (.list ys) (.ref p) (upd G' p (.lst vs')) H' (by rw [paired_map pr]) (s.join hp nt gp hl) (.lst upd_same (a.mono fun c u e => by rw [upd_ne (ne_of_none e gp)]; exact e))
theorem pj_call {J : It} {zs : List PyData} {n : Nat} {R : Pr} {tr : TA} {d : PyData} {ss : List Sl} {E : XK} (h : PeJ K J zs te ρ (fun x => x = d)) (hr : Pasd K tr ρ ss) (hl : (.d d :: ss : List Sl).length = n) (hR : R (.d d :: ss) P) : PeJ K J zs (tCall (spR K n R) [] E (tCons te tr)) ρ P := fun T H0 G H σ gh tp D it Q q =>
  h T H0 G H σ gh tp D it _ fun x v G1 H1 p1 s1 x1 => hr.bind s1.gh s1.tp (D.mono s1) fun ss' vs G2 H2 p2 s2 gh2 tp2 D2 x2 => by
    subst p1 p2
    show spR K n R ((v :: vs) ++ []) H2 Q E
    rw [List.append_nil]
    exact ⟨T, G2, _, P, gh2, tp2, .cons (show ArgOk T K G2 (.d _) v from x1.mono s2.g) x2, hl, hR, fun d v G' H' p s x => q d v G' H' p ((s1.trans s2).trans s) x⟩
theorem zip_mid {i n : Nat} {xs ys : List PyData} {E : Ed} {te' : It → TE} (ha : Pd K ta ρ (.list xs)) (hb : Pd K tb ρ (.list ys)) (h : ∀ J, PeJ K J (zipD xs ys) (te' J) (ρ.set i .no) P) (hu : ∀ σ H Q, te σ H Q = iZipV K n i σ H (fun J H1 => te' J σ H1 Q)) (hi : i < ρ.length) (kk : ∀ d, P d → E.rt d) :
    Ws K (tSeq (tAsg (tZipV K n (tCons ta (tCons tb tNil))) (gName i)) (tRet te)) ρ E := fun T G0 H0 σ H D a e => by
  obtain ⟨G, s, D0⟩ := a
  refine ha.bind s.gh s.tp D0 fun x v G1 H1 p1 s1 gh1 tp1 D1 x1 => hb.bind gh1 tp1 D1 fun y u G2 H2 p2 s2 gh2 tp2 D2 x2 => ?_
  subst p1 p2
  have x1 := x1.mono s2.g
  have st := (s.trans s1).trans s2
  cases x1 with
  | @lst a vs _ e1 a1 =>
    cases x2 with
    | @lst b us _ e2 a2 =>
      refine ⟨a, b, vs, us, rfl, sql_of (gh2 _ _ e1), sql_of (gh2 _ _ e2), fun z TI TO i1 i2 oz oT oO o1 o2 F hf => ?_⟩
      show te (σ.set i (some (.ref z))) (up5 H2 z TI TO i1 i2 oz oT oO o1 o2) D.rt
      rw [hu]
      have A := F.apart
      have fz := (hf z (by simp)).1
      have fT := (hf TI (by simp)).1
      have fO := (hf TO (by simp)).1
      have f1 := (hf i1 (by simp)).1
      have f2 := (hf i2 (by simp)).1
      refine ⟨z, TI, TO, i1, i2, a, b, oz, oT, oO, o1, o2, F, fun c hc => (hf c hc).2, List.getElem?_set_self (by rw [D0.len]; exact hi), ?_, ?_, ?_, ?_, ?_, ?_⟩
      · exact upd_same
      · unfold up5; rw [upd_ne A.TIz, upd_ne A.TITO]; exact upd_same
      · unfold up5; rw [upd_ne A.TOz]; exact upd_same
      · unfold up5; rw [upd_ne A.i1z, upd_ne A.TOi1.symm, upd_ne A.TIi1.symm, upd_ne A.i12]; exact upd_same
      · unfold up5; rw [upd_ne A.i2z, upd_ne A.TOi2.symm, upd_ne A.TIi2.symm]; exact upd_same
      · rw [drop_up A fz fT fO f1 f2]
        exact h _ T H0 G2 H2 _ gh2 tp2 (D2.set (s := .no) (o := some (.ref z)) trivial fun _ q => nomatch q) (itd_zip e1 a1 e2 a2) D.rt fun d v G' H' p s' x => e.rt d v H' (kk d p) ⟨G', st.trans s', x⟩
theorem wq_zip_lc {i n : Nat} {xs ys : List PyData} {E : Ed} {g : TG} {vs sl : List Nat} (f : PyData → PyData) (ha : Pd K ta ρ (.list xs)) (hb : Pd K tb ρ (.list ys)) (hi : i < ρ.length) (hsl : ∀ i ∈ sl, i ∈ vs) (hz : (zipD xs ys).length < sizeLine)
    (hf : ∀ x, x ∈ zipD xs ys → ∃ r', PD.Pg K g sl x (wipeR (ρ.set i .no) vs) r' ∧ Pd K te r' (f x)) (kk : E.rt (.list ((zipD xs ys).map f))) :
    Ws K (tSeq (tAsg (tZipV K n (tCons ta (tCons tb tNil))) (gName i)) (tRet (tLc (iZipV K n i) g tYes te vs))) ρ E :=
  zip_mid (te' := fun J => tLc (wiJ J) g tYes te vs) ha hb (fun J => pj_lc f hsl hz hf) (fun _ _ _ => rfl) hi fun d e => e ▸ kk
theorem wq_zip_call {i n : Nat} {xs ys : List PyData} {E : Ed} {g : TG} {vs sl : List Nat} {m : Nat} {R : Pr} {tr : TA} {ss : List Sl} {X : XK} (f : PyData → PyData) (ha : Pd K ta ρ (.list xs)) (hb : Pd K tb ρ (.list ys)) (hi : i < ρ.length) (hsl : ∀ i ∈ sl, i ∈ vs) (hz : (zipD xs ys).length < sizeLine)
    (hf : ∀ x, x ∈ zipD xs ys → ∃ r', PD.Pg K g sl x (wipeR (ρ.set i .no) vs) r' ∧ Pd K te r' (f x)) (hr : Pasd K tr (ρ.set i .no) ss) (hl : (.d (.list ((zipD xs ys).map f)) :: ss : List Sl).length = m) (hR : R (.d (.list ((zipD xs ys).map f)) :: ss) P) (kk : ∀ d, P d → E.rt d) :
    Ws K (tSeq (tAsg (tZipV K n (tCons ta (tCons tb tNil))) (gName i)) (tRet (tCall (spR K m R) [] X (tCons (tLc (iZipV K n i) g tYes te vs) tr)))) ρ E :=
  zip_mid (te' := fun J => tCall (spR K m R) [] X (tCons (tLc (wiJ J) g tYes te vs) tr)) ha hb (fun J => pj_call (pj_lc f hsl hz hf) hr hl hR) (fun _ _ _ => rfl) hi kk
end
end PD

set_option maxHeartbeats 4000000
namespace PD
open PySem PySem.Spec PyProof.Rows L2 RZ
section
variable {K : PySem.W.Frag} {ρ ρ' : Rho} {te ta tb tc td tl : TE} {P P' : PyData → Prop}
/-- xs[j] = e, j drawn -/
theorem ws_setiP {i : Nat} {xs : List PyData} {C : Int → Prop} {E : Ed} (e : ρ[i]? = some (.ml xs)) (h : Pe K te ρ P) (hj : Pe K tb ρ (isI C)) (hn : ∀ j, C j → ∃ n, ixN xs.length j = some n) (k : ∀ d n, P d → n < xs.length → E.nx (ρ.set i (.ml (xs.set n d)))) : Ws K (tAsg te (gSub (tVar i) tb rSetL)) ρ E := fun T G0 H0 σ H D a ed => by
  obtain ⟨G, s, D0⟩ := a
  refine h.bind s.gh s.tp D0 fun d v G' H' p s' gh' tp' D' y => ?_
  obtain ⟨o, e1, l, vs, rfl, hl, x, gl, h0, nt⟩ := D'.at e
  refine ⟨_, e1, hj.bind gh' tp' D' fun z w G2 H2 p2 s2 gh2 tp2 D2 y2 => ?_⟩
  obtain ⟨j, rfl, cj⟩ := p2
  obtain ⟨n, en⟩ := hn j cj
  cases y2
  have ln : n < xs.length := (ixN_seq en).2.1
  obtain ⟨s3, D3⟩ := D2.mut ((s.trans s').trans s2) e e1 ((x.mono s2.g).set n (y.mono s2.g))
  exact ⟨l, vs, j, n, rfl, rfl, s2.h _ _ nt hl, by rw [x.length]; exact en, ed.nx _ _ _ (k d n p ln) ⟨G2, s3, D3⟩⟩
/-- min of a list -/
theorem ye_minR {PL : List PyData → Prop} (ha : Rl K ta ρ PL) (h : ∀ xs, PL xs → ∃ ns : List Int, xs = ns.map .int ∧ 0 < ns.length ∧ ∀ m, m ∈ ns → (∀ y, y ∈ ns → m ≤ y) → P (.int m)) : Pe K (tCB (rMinX K) (tCons ta tNil)) ρ P := fun T H0 G H σ gh tp D Q q =>
  ha.bind gh tp D fun xs p vs G1 H1 p1 s1 gh1 tp1 D1 rd a => by
    obtain ⟨ns, rfl, hl, hP⟩ := h xs p1
    have := a.ints
    subst this
    exact .inr ⟨p, ns, rfl, rd.sq gh1, hl, fun m h1 h2 => q _ _ G1 H1 (hP m h1 h2) s1 (.int _)⟩
/-- return xs, a list that was changed -/
theorem ws_retm {i : Nat} {xs : List PyData} {E : Ed} (e : ρ[i]? = some (.ml xs)) (k : E.rt (.list xs)) : Ws K (tRet (tVar i)) ρ E := fun T G0 H0 σ H D a ed => by
  obtain ⟨G, s, D0⟩ := a
  obtain ⟨o, e1, l, vs, rfl, hl, x, gl, h0, nt⟩ := D0.at e
  exact ⟨_, e1, ed.rt _ _ _ k ⟨upd G l (.lst vs), s.join h0 nt gl hl, .lst upd_same (x.mono fun c u e => by rw [upd_ne (ne_of_none e gl)]; exact e)⟩⟩
/-- a list that was changed is data from here on -/
theorem At.freeze {T : Addr → Prop} {G0 H0 H : Hp} {σ : L2.St} {i : Nat} {xs : List PyData} (e : ρ[i]? = some (.ml xs)) (a : At T K G0 H0 ρ σ H) : At T K G0 H0 (ρ.set i (.d (.list xs))) σ H := by
  obtain ⟨G, s, D⟩ := a
  obtain ⟨o, e1, l, vs, rfl, hl, x, gl, h0, nt⟩ := D.at e
  have gm : Same G (upd G l (.lst vs)) := fun c u e => by rw [upd_ne (ne_of_none e gl)]; exact e
  refine ⟨upd G l (.lst vs), s.join h0 nt gl hl, by rw [List.length_set]; exact D.len, fun j y o q1 q2 => ?_, fun j k ys zs m hjk q1 q2 q3 => ?_⟩
  · by_cases q : i = j
    · subst q
      rw [List.getElem?_set_self (List.getElem?_eq_some_iff.mp e).1] at q1
      cases q1
      rw [e1] at q2
      cases q2
      exact ⟨_, rfl, .lst upd_same (x.mono gm)⟩
    · rw [List.getElem?_set_ne q] at q1
      have old := D.ok j y o q1 q2
      cases y with
      | no => trivial
      | tp => exact old
      | rf a => exact old
      | rg lo hi => exact let ⟨a, e, g⟩ := old; ⟨a, e, gm _ _ g⟩
      | d z => exact let ⟨v, ev, dv⟩ := old; ⟨v, ev, dv.mono gm⟩
      | ml ys =>
        obtain ⟨m, us, rfl, hm, am, gk, hm0, ntm⟩ := old
        refine ⟨m, us, rfl, hm, am.mono gm, ?_, hm0, ntm⟩
        have nml : m ≠ l := fun z => by
          subst z
          exact D.one i j xs ys m q e q1 e1 q2
        rw [upd_ne nml]
        exact gk
  · have nj : i ≠ j := fun z => by
      subst z
      rw [List.getElem?_set_self (List.getElem?_eq_some_iff.mp e).1] at q1
      cases q1
    have nk : i ≠ k := fun z => by
      subst z
      rw [List.getElem?_set_self (List.getElem?_eq_some_iff.mp e).1] at q2
      cases q2
    rw [List.getElem?_set_ne nj] at q1
    rw [List.getElem?_set_ne nk] at q2
    exact D.one j k ys zs m hjk q1 q2 q3
theorem Ws.freeze {i : Nat} {xs : List PyData} {t : TS} {E : Ed} (e : ρ[i]? = some (.ml xs)) (h : Ws K t (ρ.set i (.d (.list xs))) E) : Ws K t ρ E := fun T G0 H0 σ H D a ed => h T G0 H0 σ H D (At.freeze e a) ed
/-- tuple(range(..)) -/
theorem yd_trg2 {n m : Int} (ha : Pd K ta ρ (.int n)) (hb : Pd K tb ρ (.int m)) (h : RgOk n m) : Pd K (tTupRg (tRg2 ta tb)) ρ (.tuple (rgD n m)) := fun T H0 G H σ gh tp D Q q =>
  ha.bind gh tp D fun x v G1 H1 p1 s1 gh1 tp1 D1 x1 => hb.bind gh1 tp1 D1 fun y u G2 H2 p2 s2 gh2 tp2 D2 x2 => by
    subst p1 p2
    cases x1
    cases x2
    exact ⟨n, m, rfl, rfl, h, new_tup gh2 tp2 (dn_rg G2 n m) fun v G' H' s' x => q _ v G' H' rfl ((s1.trans s2).trans s') x⟩
theorem yd_trg1 {n : Int} (ha : Pd K ta ρ (.int n)) (h : RgOk 0 n) : Pd K (tTupRg (tRg1 ta)) ρ (.tuple (rgD 0 n)) := fun T H0 G H σ gh tp D Q q =>
  ha.bind gh tp D fun x v G1 H1 p1 s1 gh1 tp1 D1 x1 => by
    subst p1
    cases x1
    exact ⟨n, rfl, h, new_tup gh1 tp1 (dn_rg G1 0 n) fun v G' H' s' x => q _ v G' H' rfl (s1.trans s') x⟩
theorem yd_t0 : Pd K (tTup tNil) ρ (.tuple []) := yd_tup (ds := []) ya_n
end
theorem yd_t4 {K : PySem.W.Frag} {ρ : Rho} {ta tb tc td : TE} {a b c d : PyData} (h1 : Pd K ta ρ a) (h2 : Pd K tb ρ b) (h3 : Pd K tc ρ c) (h4 : Pd K td ρ d) : Pd K (tTup (tCons ta (tCons tb (tCons tc (tCons td tNil))))) ρ (.tuple [a, b, c, d]) := yd_tup (ds := [a, b, c, d]) (ya_d h1 (ya_d h2 (ya_d h3 (ya_d h4 ya_n))))
theorem ye_t4 {K : PySem.W.Frag} {ρ : Rho} {ta tb tc td : TE} {A B C D P : PyData → Prop} (h1 : Pe K ta ρ A) (h2 : Pe K tb ρ B) (h3 : Pe K tc ρ C) (h4 : Pe K td ρ D) (k : ∀ a b c d, A a → B b → C c → D d → P (.tuple [a, b, c, d])) : Pe K (tTup (tCons ta (tCons tb (tCons tc (tCons td tNil))))) ρ P :=
  ye_tup (PA := fun ss => ∃ a b c d, ss = [.d a, .d b, .d c, .d d] ∧ A a ∧ B b ∧ C c ∧ D d) (ya_c h1 (ya_c (PR := fun ss => ∃ b c d, ss = [.d b, .d c, .d d] ∧ B b ∧ C c ∧ D d) h2 (ya_c (PR := fun ss => ∃ c d, ss = [.d c, .d d] ∧ C c ∧ D d) h3 (ya_c (PR := fun ss => ∃ d, ss = [.d d] ∧ D d) h4 ya_n fun d ss p e => ⟨d, by rw [e], p⟩) fun d ss p ⟨c, e, q⟩ => ⟨d, c, by rw [e], p, q⟩) fun d ss p ⟨b, c, e, q⟩ => ⟨d, b, c, by rw [e], p, q⟩) fun d ss p ⟨b, c, c', e, q⟩ => ⟨d, b, c, c', by rw [e], p, q⟩) fun ss ⟨a, b, c, d, e, p, q, r, t⟩ => ⟨[a, b, c, d], e, Nat.le_of_ble_eq_true rfl, k a b c d p q r t⟩
end PD

set_option maxHeartbeats 4000000
/-! enumerate(xs, start=k) -/
namespace EnS
open PySem PySem.Spec PyProof.Rows L2
section
variable {M : Model} {A : Around} {E : Value → Shared → Prop} {s : Shared} {env : Env}
theorem callWith_type_kwB {pos : Pos} {T : String} {first : List Value} {args : List (Bool × Sem Value)} {keywords : List (Option Str × Sem Value)} {Q : Value → Shared → Prop}
    (hplain : args.any (·.1) = false) (hkw : keywords.any (·.1.isNone) = false)
    (h : wpAny M A (evalArgs (.type T) true args keywords) (fun a s₁ => wpAny M A (call (.type T) (first ++ a.pos) a.kw) Q E s₁) E s) :
    wpAny M A (callWith pos (.type T) first args keywords) Q E s := by
  unfold callWith
  refine wpAny_bind (wpAny_holding (wpAny_mono h (fun a s₁ h₁ => wpAny_bind (wpAny_standAt ?_)) fun _ _ x => x))
  simp only [hplain, hkw, Bool.or_false]
  refine wpAny_bind (wpAny_pure ?_)
  exact wpAny_bind (wpAny_mono h₁ (fun r s₂ hr => wpAny_bind (wpAny_holding (wpAny_point (wpAny_pure hr)))) fun _ _ x => x)
theorem callWith_tkw {pos : Pos} {T : String} {e : Expr} {rest : List Expr} {kws : List Keyword} {Q : Value → Shared → Prop}
    (h : wpAny M A (spliced (backTo pos (starEach (e :: rest) env))) (fun vs s₁ => wpAny M A (evalAll ((backToKw pos (keywordEach kws env)).map (·.2)))
      (fun kvs s₂ => wpAny M A (call (.type T) vs (((backToKw pos (keywordEach kws env)).filterMap (·.1)).zip kvs)) Q E s₂) E s₁) E s)
    (he : backTo pos (starEach (e :: rest) env) = (false, eval e env) :: backTo pos (starEach rest env) := by rfl)
    (hplain : (backTo pos (starEach (e :: rest) env)).any (·.1) = false := by rfl)
    (hall : (backToKw pos (keywordEach kws env)).all (·.1.isSome) = true := by rfl)
    (hkw : (backToKw pos (keywordEach kws env)).any (·.1.isNone) = false := by rfl) :
    wpAny M A (callWith pos (.type T) [] (backTo pos (starEach (e :: rest) env)) (backToKw pos (keywordEach kws env))) Q E s := by
  refine callWith_type_kwB hplain hkw ?_
  rw [he] at h ⊢
  exact evalArgs_kwB hall h
end
theorem pyNext_enum_endC {prog : Program} {w : World} {A : Around} {E : Value → Shared → Prop} {s : Shared} {e it l : Addr} {i : Nat} {c : Int} {items : Array Value} {old : Value} {Q : Option Value → Shared → Prop} (hh : A.handled = none)
    (he : IsEnum s.heap e it c old) (hit : s.heap.IsListIter it l i) (hl : s.heap.IsList l items) (hx : items[i]? = none)
    (hQ : ∀ h', Heap.ExtBut it s.heap h' → Q none { s with heap := h' }) : wpAny (model prog w) A (pyNext (.ref e)) Q E s := by
  have hT : s.TypeIs (.ref e) "enumerate" := ⟨_, he, rfl⟩
  unfold pyNext
  refine wpAny_bind (wpAny_attempt (wpAny_callSpecial?_slot (name := Str.ofString "__next__") hT F.slot_enumerate_next
    (wpAny_call_entry F.slot_enumerate_next hT F.entry_enumerate_next ?_ (F.args_enumerate_next_1 _))))
  show wpAny _ _ (field (.ref e) 2 >>= _) _ _ _
  refine wpAny_bind (wpAny_field he rfl (x := .ref it) rfl ?_)
  refine wpAny_bind (wpAny_nextOf_list_end hh hit hl hx fun h' x he' hx' => ?_)
  obtain ⟨o, ho, hc⟩ := hx'
  refine wpAny_bind (wpAny_isInstance (T := "StopIteration") (b := true) ⟨o, ho, hc⟩ isSubtype_stop ?_)
  exact wpAny_pure (hQ _ he')
/-- the list at a as it stands at each turn, each item in a new pair, counted from c -/
def Ites (K : PySem.W.Frag) (a : Addr) (c : Int) : It :=
  ⟨fun i H => ∃ (xs : List V) (x : V), SqL K H a xs ∧ xs[i]? = some x, fun i H v H' => ∃ T x, v = .ref T ∧ H T = none ∧ H' = upd H T (.tup [.int (c + (i : Nat)), x]) ∧ ∀ xs, SqL K H a xs → xs[i]? = some x, fun i H => ∃ xs : List V, SqL K H a xs ∧ xs.length ≤ i⟩
theorem turn_enums {P : Program} {w : World} {K : PySem.W.Frag} {elts : List Expr} {kk : Nat} {tpos : Pos} (a e it : Addr) (c : Int) (ha : a ≠ it) (hea : e ≠ a) :
    Turn P w K (.Tuple elts kk tpos) (Ites K a c) [e, it] e (fun i h => (∃ old, IsEnum h e it (c + ((i : Nat) : Int)) old) ∧ h.IsListIter it a i ∧ e ≠ it) where
  mem := by simp
  obj := fun i h st b hb => by
    obtain ⟨⟨old, he⟩, ⟨o, ho, hc, hd⟩, _⟩ := st
    have e' : b = e ∨ b = it := by simpa using hb
    rcases e' with z | z
    · rw [z]; exact ⟨_, he, fun v q => nomatch q⟩
    · rw [z]; exact ⟨o, ho, fun v q => by rw [hd] at q; cases q⟩
  keep := fun i h h' st k => let ⟨⟨old, he⟩, hi, hne⟩ := st; ⟨⟨old, k e (by simp) _ he⟩, hi.at fun o q => k it (by simp) o q, hne⟩
  item := by
    intro X hP hw hK hc i pins s σ H E I hf st hg
    subst hP hw hK
    obtain ⟨⟨old, he⟩, hit, hne⟩ := st
    obtain ⟨xs, x, hq, hx⟩ := hg
    obtain ⟨its, rv, p, hz⟩ := I.list hq
    obtain ⟨u, hu, ru⟩ := rv.get hx
    have hel : e < s.heap.objs.size := Heap.lt_size he
    have hil : it < s.heap.objs.size := by obtain ⟨_, q, _⟩ := hit; exact Heap.lt_size q
    have hlt : i < its.toArray.size := by
      have := (List.getElem?_eq_some_iff.mp hu).1
      simpa using this
    refine wpAny_pyNext_enum_itemC (Draws.list (A := X.A.in1) (show X.A.in1.handled = none from I.ok.hd hc) it a ha its.toArray) he ⟨hit, p.isList⟩ hlt hne (by simp; exact ⟨hne, hea⟩) fun u' h' tk hP ho hst hT hsz hk => ?_
    obtain rfl : u' = u := by
      have e1 : its.toArray[i]? = some u := by simpa using hu
      rw [e1] at hP
      exact (Option.some.inj hP).symm
    refine ⟨_, rfl, wpAny_letOwnedTupleGo_enum (s := { s with heap := h', toks := tk + 1 }) ho fun h'' he' sb => ?_⟩
    have hT2 : h''.get? s.heap.objs.size = some { cls := .type "tuple", data := .seq #[.int (c + (i : Int)) tk, u'] } := (sb.2 _ (Nat.ne_of_gt hel)).trans hT
    have new : ObjOk X.prog X.w (upd H s.heap.objs.size (.tup [.int (c + (i : Nat)), x])) h'' s.heap.objs.size (.tup [.int (c + (i : Nat)), x]) :=
      ⟨by show 2 ≤ sizeLine; decide, [.int (c + (i : Int)) tk, u'], .cons ⟨_, rfl⟩ (.cons ru .nil), ⟨_, hT2, rfl, _, rfl⟩⟩
    have I1 : Inv X pins σ (upd H s.heap.objs.size (.tup [.int (c + (i : Nat)), x])) { s with heap := h'', toks := tk + 1 } :=
      I.turnedNew (ch := [e, it]) (fun b ob hb q => (sb.2 b (fun z => hb (by simp [z]))).trans (hk b ob (fun z => hb (by simp [z])) (fun z => hb (by simp [z])) q)) hf (Nat.le_refl _) new
    refine ⟨.ref s.heap.objs.size, _, I1, rfl, ⟨_, x, rfl, I.hok.fresh (Nat.le_refl _), rfl, fun ys hy => by rw [I.list_inj hy hq]; exact hx⟩, ⟨⟨u', ?_⟩, hst.1.at fun o q => (sb.2 it (Ne.symm hne)).trans q, hne⟩, fun b hb => ?_⟩
    · have e1 : c + ((i + 1 : Nat) : Int) = c + (i : Int) + 1 := by omega
      rw [e1]; exact he'
    · have hb' : b < s.heap.objs.size := by
        have e' : b = e ∨ b = it := by simpa using hb
        rcases e' with z | z
        · rw [z]; exact hel
        · rw [z]; exact hil
      rw [upd_ne (Nat.ne_of_lt hb')]
      exact (hf b hb).1
  done := by
    intro X hP hw hK hc i pins s σ H E I hf st hg
    subst hP hw hK
    obtain ⟨⟨old, he⟩, hit, hne⟩ := st
    obtain ⟨xs, hq, hx⟩ := hg
    obtain ⟨its, rv, p, hz⟩ := I.list hq
    obtain ⟨f0, f1, f2, f3, f4, f5⟩ := hf it (by simp)
    have hl := rv.length
    exact pyNext_enum_endC (I.ok.hd hc) he hit p.isList (by simp; omega) fun h' eb => ⟨rfl, I.turned (t' := s.toks) (fun b o hb q => eb b o hb q) f0 f1 f3 f4 f5⟩
  self := fun A i s Q E st h => let ⟨⟨_, he⟩, _⟩ := st; wpAny_pyIter_enum he h
def iEnumS (K : PySem.W.Frag) (ta tk : TA) : TI := fun σ H R => ta σ H fun vs H1 => tk σ H1 fun ks H2 => ∃ a xs c, vs = [.ref a] ∧ ks = [.int c] ∧ -(2 ^ 62) ≤ c ∧ c < 2 ^ 62 ∧ SqL K H2 a xs ∧ R (Ites K a c) H2
theorem pi_enumS {X : Cx} {e k : Expr} {ta tk : TA} {p pos tpos kpos : Pos} {elts : List Expr} {kk : Nat} (hg : Gl X "enumerate") (hm : X.mg "enumerate" = none) (ha : PA X [e] ta) (hk : PK X [⟨some "start", k, kpos⟩] tk)
    (he : backTo pos (starEach [e] X.env) = (false, eval e X.env) :: backTo pos (starEach [] X.env) := by rfl) (hpl : (backTo pos (starEach [e] X.env)).any (·.1) = false := by rfl)
    (hall : (backToKw pos (keywordEach [⟨some "start", k, kpos⟩] X.env)).all (·.1.isSome) = true := by rfl) (hnone : (backToKw pos (keywordEach [⟨some "start", k, kpos⟩] X.env)).any (·.1.isNone) = false := by rfl) (hks : (backToKw pos (keywordEach [⟨some "start", k, kpos⟩] X.env)).filterMap (·.1) = [Str.ofString "start"] := by rfl) :
    PI X (.Tuple elts kk tpos) (.Call (.Name "enumerate" p) [e] [⟨some "start", k, kpos⟩] pos) (iEnumS X.K ta tk) := by
  refine ⟨fun pins s σ H R I h => ?_⟩
  refine wpAny_Call_Name_kw (ld_blt I hg hm boot_enumerate ?_)
  refine callWith_tkw (thn (ha.run pos pins s σ H _ I h) fun us s1 ⟨vs, H1, I1, r1, q1⟩ => thn (hk.run pos pins s1 σ H1 _ I1 q1) fun ws s2 ⟨zs, H2, I2, r2, q2⟩ => ?_) he hpl hall hnone
  rw [hks]
  obtain ⟨a, xs, c, rfl, rfl, c0, c1, hq, q⟩ := q2
  cases r1 with
  | cons r rr =>
    cases rr
    cases r
    cases r2 with
    | cons k1 k2 =>
      cases k2
      obtain ⟨t, rfl⟩ := k1
      obtain ⟨its, rv, p', hz⟩ := I2.list hq
      show wpAny _ _ (call (.type "enumerate") [.ref a] [(Str.ofString "start", .int c t)]) _ _ s2
      refine enum_begins_start (begins_list a its.toArray) p'.isList (by omega) (by omega) fun h' he hit hsz hk => wpAny_pyIter_enum he ?_
      have I3 : Inv X pins σ H2 { s2 with heap := h' } := I2.kept (t' := s2.toks) hk
      have hlt := p'.lt
      refine ⟨s2.heap.objs.size + 1, [s2.heap.objs.size + 1, s2.heap.objs.size], _, _, H2, rfl, I3, turn_enums a (s2.heap.objs.size + 1) s2.heap.objs.size c (Nat.ne_of_lt hlt) (Nat.ne_of_gt (Nat.lt_succ_of_lt hlt)), ⟨⟨.none, ?_⟩, ⟨_, hit, rfl, rfl⟩, Nat.succ_ne_self _⟩, fun b hb => ?_, q⟩
      · rw [show c + ((0 : Nat) : Int) = c by omega]
        exact he
      have e' : b = s2.heap.objs.size + 1 ∨ b = s2.heap.objs.size := by simpa using hb
      have hle : s2.heap.objs.size ≤ b := by
        rcases e' with z | z
        · rw [z]; exact Nat.le_add_right _ _
        · rw [z]; exact Nat.le_refl _
      exact I2.fpOk hle (I2.hok.fresh hle)
end EnS
namespace PD
open PySem PySem.Spec PyProof.Rows L2 RZ EnS
def enumS : Int → List PyData → List PyData
  | n, x :: xs => .tuple [.int n, x] :: enumS (n + 1) xs
  | _, _ => []
theorem enumS_len : ∀ (n : Int) (xs : List PyData), (enumS n xs).length = xs.length
  | _, [] => rfl
  | n, x :: xs => congrArg (· + 1) (enumS_len (n + 1) xs)
theorem enumS_at : ∀ (n : Int) (xs : List PyData) (i : Nat) (x : PyData), xs[i]? = some x → (enumS n xs)[i]? = some (.tuple [.int (n + (i : Nat)), x])
  | _, [], _, _, h => by simp at h
  | n, a :: xs, 0, x, h => by
    have e1 := Option.some.inj h
    rw [← e1]
    show some (PyData.tuple [.int n, a]) = some (.tuple [.int (n + ((0 : Nat) : Int)), a])
    simp
  | n, a :: xs, i + 1, x, h => by
    have := enumS_at (n + 1) xs i x h
    rw [show n + 1 + (i : Int) = n + ((i + 1 : Nat) : Int) by omega] at this
    exact this
theorem itd_enumS {K : PySem.W.Frag} {G : Hp} {a : Addr} {c : Int} {vs : List V} {xs : List PyData} (h : G a = some (.lst vs)) (d : DnAll K G vs xs) : Itd K (Ites K a c) G (enumS c xs) where
  go := fun i H g hi => by
    rw [enumS_len] at hi
    have h3 : i < vs.length := by rw [d.length]; omega
    exact ⟨vs, vs[i], sql_of (g _ _ h), List.getElem?_eq_getElem h3⟩
  stop := fun i H g hi => by
    rw [enumS_len] at hi
    exact ⟨vs, sql_of (g _ _ h), by rw [d.length]; omega⟩
  yld := fun i T G' H x H' g1 g2 tp hi y => by
    obtain ⟨p, x1, rfl, hp, rfl, f1⟩ := y
    obtain ⟨e1, q1, q2⟩ := (d.mono g1).get' (f1 vs (sql_of (g2 _ _ (g1 _ _ h))))
    refine ⟨upd G' p (.tup [.int (c + (i : Nat)), x1]), .tuple [.int (c + (i : Nat)), e1], enumS_at c xs i e1 q1, Step.new g2 tp hp, .tup (.inl (.inl upd_same)) ?_⟩
    exact DnAll.mono (fun c u e => by rw [upd_ne (ne_of_none e (g2.free hp))]; exact e) (.cons (.int _) (.cons q2 .nil))
theorem it_enumS {K : PySem.W.Frag} {ρ : Rho} {ta tb : TE} {xs : List PyData} {c : Int} (h : Pd K ta ρ (.list xs)) (hb : Pd K tb ρ (.int c)) (c0 : -(2 ^ 62) ≤ c) (c1 : c < 2 ^ 62) : Pitd K (iEnumS K (tCons ta tNil) (tCons tb tNil)) ρ (enumS c xs) := fun T H0 G H σ gh tp D R q =>
  h.bind gh tp D fun x v G1 H1 p1 s1 gh1 tp1 D1 x1 => hb.bind gh1 tp1 D1 fun y u G2 H2 p2 s2 gh2 tp2 D2 x2 => by
    subst p1 p2
    have x1 := x1.mono s2.g
    cases x2
    cases x1 with
    | @lst a vs _ e1 a1 => exact ⟨a, vs, c, rfl, rfl, c0, c1, sql_of (gh2 _ _ e1), q _ _ G2 H2 rfl (s1.trans s2) (itd_enumS e1 a1)⟩
/-! ### any(list), xs.index(x) -/
section
variable {K : PySem.W.Frag} {ρ : Rho} {ta tb : TE}
theorem yd_anyR {bs : List Bool} (ha : Rl K ta ρ (fun x => x = bs.map .bool)) : Pd K (tCB (rAny K) (tCons ta tNil)) ρ (.bool (bs.any id)) := fun T H0 G H σ gh tp D Q q =>
  ha.bind gh tp D fun xs p vs G1 H1 p1 s1 gh1 tp1 D1 rd a => by
    subst p1
    have := a.bools
    subst this
    exact ⟨p, bs, rfl, rd.sq gh1, q _ _ G1 H1 rfl s1 (.bl _)⟩
theorem yd_idx {ns : List Int} {x : Int} {j : Nat} (ha : Rl K ta ρ (fun y => y = ns.map .int)) (hb : Pd K tb ρ (.int x)) (hj : ns[j]? = some x) (hf : ∀ m, m < j → ns[m]? ≠ some x) : Pd K (tBM K "list" (rIndex K) ta (tCons tb tNil)) ρ (.int (j : Int)) := fun T H0 G H σ gh tp D Q q =>
  ha.bind gh tp D fun xs p vs G1 H1 p1 s1 gh1 tp1 D1 rd a => ⟨.inl ⟨rfl, vs, rd.sq gh1⟩, hb.bind gh1 tp1 D1 fun y u G2 H2 p2 s2 gh2 tp2 D2 x2 => by
    subst p1 p2
    cases x2
    have := a.ints
    subst this
    refine ⟨p, ns.map V.int, .int x, j, .int x, rfl, rfl, (rd.mono s2).sq gh2, rfl, ?_, ?_, ?_, fun m z' hm hz => ?_, q _ _ G2 H2 rfl (s1.trans s2) (.int _)⟩
    · rw [List.all_eq_true]
      intro v hv
      obtain ⟨n, _, rfl⟩ := List.mem_map.mp hv
      rfl
    · rw [List.getElem?_map, hj]
      rfl
    · show (x == x) = true
      simp
    · rw [List.getElem?_map] at hz
      cases e : ns[m]? with
      | none =>
        rw [e] at hz
        cases hz
      | some n =>
        rw [e] at hz
        cases hz
        show (n == x) = false
        have := hf m hm
        rw [e] at this
        simp
        intro z
        exact this (by rw [z])⟩
/-- a tuple that the module holds -/
theorem pe_gt {X : Cx} {x : Str} {d : PyData} {pos : Pos} (h : ∃ a, X.mg x = some (.ref a) ∧ ∀ G, Dn X.K G (.ref a) d) (hg : Gl X x := by rfl) (hd : (x == ("__debug__" : Str)) = false := by decide) : PE X (.Name x pos) (tC (.ref (Classical.choose h))) :=
  pe_glob hg (Classical.choose_spec h).1 rfl hd
theorem ye_K {a : Addr} {d : PyData} (h : ∀ G, Dn K G (.ref a) d) : Pd K (tC (.ref a)) ρ d := fun T H0 G H σ gh tp D Q q => q _ _ G H rfl (Step.refl gh tp) (h G)
theorem dn_ktup {G : Hp} {a : Addr} {dd : Option Addr} {its : Array Value} {n : Nat} {sl : Array (Option Value)} {vs : List V} {ds : List PyData} (lk : K.lookup a = some ⟨.type "tuple", dd, .seq its n, sl⟩) (hv : Vals vs its.toList) (hs : its.size ≤ sizeLine) (hd : DnAll K G vs ds) : Dn K G (.ref a) (.tuple ds) :=
  .tup (.inr ⟨_, its, n, lk, rfl, rfl, hs, hv⟩) hd
end
end PD

set_option maxHeartbeats 4000000
namespace PD
open PySem PySem.Spec PyProof.Rows L2 RZ
section
variable {K : PySem.W.Frag} {ρ ρ' : Rho} {te ta tb tc td tl : TE} {P P' : PyData → Prop}
theorem DnAll.eraseIdx {G : Hp} : ∀ {vs : List V} {ds : List PyData} (n : Nat), DnAll K G vs ds → DnAll K G (vs.eraseIdx n) (ds.eraseIdx n)
  | _, _, _, .nil => .nil
  | _, _, 0, .cons _ t => t
  | _, _, n + 1, .cons r t => .cons r (DnAll.eraseIdx n t)
/-- ys.append(xs.pop(j)), j drawn -/
theorem ws_appPop {i j : Nat} {xs ys : List PyData} {C : Int → Prop} {E : Ed} (ei : ρ[i]? = some (.ml ys)) (ej : ρ[j]? = some (.ml xs)) (hij : i ≠ j) (hb : Pe K tb ρ (isI C)) (hC : ∀ z, C z → 0 ≤ z ∧ z < xs.length) (hx : xs.length < 2 ^ 62) (hz : ys.length < sizeLine) (k : ∀ n (h : n < xs.length), E.nx ((ρ.set j (.ml (xs.eraseIdx n))).set i (.ml (ys ++ [xs[n]])))) :
    Ws K (tDrop (tBM K "list" rAppend (tVar i) (tCons (tBM K "list" rPopAt (tVar j) (tCons tb tNil)) tNil))) ρ E := fun T G0 H0 σ H D a ed => by
  obtain ⟨G, s, D0⟩ := a
  obtain ⟨o, e1, l, vs, rfl, hl, x, gl, h0, nt⟩ := D0.at ei
  obtain ⟨o', e1', l', us, rfl, hl', x', gl', h0', nt'⟩ := D0.at ej
  refine ⟨_, e1, .inl ⟨rfl, vs, sql_of hl⟩, _, e1', .inl ⟨rfl, us, sql_of hl'⟩, hb.bind s.gh s.tp D0 fun d v G' H' p s' gh' tp' D' y => ?_⟩
  obtain ⟨z, rfl, cz⟩ := p
  cases y
  obtain ⟨z0, z1⟩ := hC z cz
  obtain ⟨n, rfl⟩ : ∃ n : Nat, z = (n : Int) := ⟨z.toNat, by omega⟩
  have hn : n < xs.length := by omega
  have hu : n < us.length := by rw [x'.length]; omega
  have hl2' := s'.h _ _ nt' hl'
  have hl2 := s'.h _ _ nt hl
  obtain ⟨s2, D2⟩ := D'.mut (s.trans s') ej e1' (DnAll.eraseIdx n (x'.mono s'.g))
  have hne : l ≠ l' := fun q => by
    subst q
    exact D0.one i j ys xs l hij ei ej e1 e1'
  have ei2 : (ρ.set j (.ml (xs.eraseIdx n)))[i]? = some (.ml ys) := by rw [List.getElem?_set_ne (fun q => hij q.symm)]; exact ei
  obtain ⟨w, hw, dw⟩ := (x'.mono s'.g).get (List.getElem?_eq_getElem hn)
  obtain ⟨s3, D3⟩ := D2.mut s2 ei2 e1 ((x.mono s'.g).append (.cons dw .nil))
  exact ⟨l', us, (n : Int), n, w, rfl, rfl, hl2', by omega, by omega, by unfold seqIndex?; rw [x'.length]; simp; omega, hw, l, vs, w, rfl, rfl, by rw [upd_ne hne]; exact hl2, by rw [x.length]; exact hz, ed.nx _ _ _ (k n hn) ⟨G', s3, D3⟩⟩
end
end PD

set_option maxHeartbeats 4000000
namespace PD
open PySem PySem.Spec PyProof.Rows L2 RZ
section
variable {prog : Program} {w : World} {A : Around} {E : Value → Shared → Prop} {s : Shared} {l : Addr} {xs : Array (Int × Tok)}
theorem max_intTuple {Q : Value → Shared → Prop} (hh : A.handled = none) (hl : s.heap.IsTuple l (intItems xs)) (hne : 0 < xs.size)
    (h : ∀ v h' tk, (intItems xs)[argBest (fun i j => decide (numAt xs i > numAt xs j)) (xs.size - 1)]? = some v → (∀ b o, s.heap.get? b = some o → h'.get? b = some o) → Q v { s with heap := h', toks := tk }) :
    wpAny (model prog w) A (call (.builtin "max") [.ref l]) Q E s := by
  have hlt : l < s.heap.objs.size := by obtain ⟨_, e, _⟩ := hl; exact Heap.lt_size e
  refine call_max_walk (wpAny_pyIter_tuple hl ⟨s.heap.objs.size, _, _, _, _, _, _, rfl, Walks.tuple (A := A.in1) hh _ l (Nat.ne_of_lt hlt) (intItems xs), ⟨⟨_, Heap.get?_push_size _ rfl, rfl, rfl⟩, hl.push _⟩, fun b hb => ?_, by simpa [intItems] using hne, CmpOf.ints_gt (numAt xs) (fun _ _ => intItems_at), fun v h' tk hP hk => h v h' tk (by simpa [intItems] using hP) fun b o e => ?_⟩)
  · show b < (s.heap.push _).objs.size
    rw [Heap.size_push]
    simp only [List.mem_cons, List.not_mem_nil, or_false] at hb
    rcases hb with rfl | rfl
    · exact Nat.lt_succ_self _
    · exact Nat.lt_succ_of_lt hlt
  · refine hk b o (fun hm => ?_) (Heap.get?_push_of_some _ e)
    simp only [List.mem_cons, List.not_mem_nil, or_false] at hm
    exact absurd (hm ▸ Heap.lt_size e) (Nat.lt_irrefl _)
end
section
variable {X : Cx}
def rMaxT (K : PySem.W.Frag) : List V → Hp → VK → Prop := fun vs H Q => ∃ (a : Addr) (ns : List Int), vs = [V.ref a] ∧ SqT K H a (ns.map V.int) ∧ 0 < ns.length ∧ ∀ m, m ∈ ns → (∀ y, y ∈ ns → y ≤ m) → Q (.int m) H
theorem cr_maxT (hc : X.calm = true) : CallR X (.builtin "max") (rMaxT X.K) := by
  intro pins s σ H vs us Q I r h
  obtain ⟨a, ns, rfl, hs, hne, q⟩ := h
  obtain ⟨its, rv, ht, _⟩ := I.tuple hs
  rw [Vals.ref1 r]
  have hi := rv.ints
  obtain ⟨xs, e⟩ := hi.allInts.items
  have hn : numsOf (intItems xs).toList = ns := by rw [← e]; exact hi.numsOf
  rw [nums_intItems] at hn
  subst hn
  have hl : s.heap.IsTuple a its.toArray := ht
  rw [e] at hl
  have hsz : 0 < xs.size := by simpa using hne
  refine max_intTuple (I.ok.hd hc) hl hsz fun v h' tk hv hk => ?_
  obtain ⟨t, rfl⟩ := intItems_at hv
  obtain ⟨h1, h2⟩ := argBest_gt (numAt xs) (xs.size - 1)
  refine ⟨.int _, H, I.kept hk, ⟨_, rfl⟩, q _ ?_ fun a ha => ?_⟩
  · rw [numAt_eq]; exact PySem.getD_mem (by rw [List.length_map, Array.length_toList]; omega)
  · obtain ⟨j, hj, rfl⟩ := mem_getD ha
    rw [List.length_map, Array.length_toList] at hj
    rw [← numAt_eq]; exact h2 j (by omega)
end
section
variable {K : PySem.W.Frag} {ρ : Rho} {ta : TE} {P : PyData → Prop}
theorem yd_maxT {ns : List Int} {m : Int} (ha : Pd K ta ρ (.tuple (ns.map .int))) (h : m ∈ ns) (h2 : ∀ y, y ∈ ns → y ≤ m) : Pd K (tCB (rMaxT K) (tCons ta tNil)) ρ (.int m) := ye_cb1 ha fun x p1 T G H v gh tp x1 Q q => by
  subst p1
  cases x1 with
  | @tup a vs _ e1 a1 =>
    have := a1.ints
    subst this
    refine ⟨a, ns, rfl, sqt_mono gh e1, List.length_pos_of_mem h, fun k hk hk2 => ?_⟩
    have a := h2 k hk
    have b := hk2 m h
    rw [show k = m by omega]
    exact q _ _ G H rfl (Step.refl gh tp) (.int _)
end
end PD

namespace PD
open PySem PySem.Spec PyProof.Rows L2

/-! ### range(a, b, -1) -/
def dnD (a : Int) (n : Nat) : List PyData := (List.range n).map fun i => PyData.int (a - (i : Nat))
theorem dn_len (a : Int) (n : Nat) : (dnD a n).length = n := by
  unfold dnD
  rw [List.length_map, List.length_range]
theorem dn_at (a : Int) (n i : Nat) (h : i < n) : (dnD a n)[i]? = some (.int (a - (i : Int))) := by
  unfold dnD
  rw [List.getElem?_map, List.getElem?_range h]
  rfl
theorem itd_dn {K : PySem.W.Frag} {G : Hp} (a : Int) (n : Nat) : Itd K (Itc a (-1) n) G (dnD a n) where
  go := fun i H g hi => by
    rw [dn_len] at hi
    exact hi
  stop := fun i H g hi => by
    rw [dn_len] at hi
    exact hi
  yld := fun i T G' H x H' g1 g2 tp hi y => by
    rw [dn_len] at hi
    obtain ⟨rfl, rfl⟩ := y
    refine ⟨G', _, dn_at a n i hi, Step.refl g2 tp, ?_⟩
    rw [show a + (i : Int) * -1 = a - (i : Int) by omega]
    exact .int _
section
variable {K : PySem.W.Frag} {ρ : Rho} {ta tb tc : TE}
theorem it_dn {a b : Int} (h : Pd K ta ρ (.int a)) (h' : Pd K tb ρ (.int b)) (h'' : Pd K tc ρ (.int (-1))) (h1 : -(2 ^ 62) ≤ a ∧ a < 2 ^ 62 ∧ -(2 ^ 62) ≤ b ∧ b < 2 ^ 62) : Pitd K (iRng3 (tCons ta (tCons tb (tCons tc tNil)))) ρ (dnD a (a - b).toNat) := fun T H0 G H σ gh tp D R q =>
  (ya_d h (ya_d h' (ya_d h'' ya_n))).bind gh tp D fun ss vs G1 H1 p s gh1 tp1 D1 ar => by
    subst p
    cases ar with
    | cons r1 ar =>
      cases ar with
      | cons r2 ar =>
        cases ar with
        | cons r3 ar =>
          cases ar
          cases r1
          cases r2
          cases r3
          exact ⟨a, b, -1, (a - b).toNat, rfl, RgC.neg h1.1 h1.2.1 h1.2.2.1 h1.2.2.2, q _ _ G1 H1 rfl s (itd_dn a (a - b).toNat)⟩
end
end PD
namespace PD
open PySem PySem.Spec PyProof.Rows L2
theorem Pit.to {K : PySem.W.Frag} {wi : TI} {ρ : Rho} {xs ys : List PyData} (h : Pitd K wi ρ xs) (e : xs = ys) : Pitd K wi ρ ys := e ▸ h
end PD

/-! PD17: defs that may raise, try .. except X -/
namespace PD
open PySem PySem.Spec PyProof.Rows L2

def clsV (mg : Str → Option Value) (x : Str) : Value := (mg x).getD .none
theorem clsV_of {mg : Str → Option Value} {x : Str} {C : Addr} (h : mg x = some (.ref C)) : clsV mg x = .ref C := by
  unfold clsV
  rw [h]
  rfl
/-- what a def promises that may raise: of its arguments, its answer, its error -/
abbrev Px := List Sl → (PyData → Prop) → (Str → List (Str × PyData) → Prop) → Prop
def spX (K : PySem.W.Frag) (mg : Str → Option Value) (n : Nat) (R : Px) : Sp := fun vs H Q E => ∃ (T : Addr → Prop) (G : Hp) (ss : List Sl) (P : PyData → Prop) (B : Str → List (Str × PyData) → Prop), Same G H ∧ (∀ a, T a → Tp G H a) ∧ ArgsOk T K G ss vs ∧ ss.length = n ∧ R ss P B ∧
  (∀ d v G' H', P d → Step T G H G' H' → Dn K G' v d → Q v H') ∧ ∀ x fs d G' H', B x fs → Step T G H G' H' → XD K G' H' d fs → E (clsV mg x) d H'
/-- the one error that may leave -/
def oneErr (x : Str) (fs : List (Str × PyData)) : Str → List (Str × PyData) → Prop := fun y gs => y = x ∧ gs = fs
section
variable {K : PySem.W.Frag}
theorem fn_okX {Pg' : Program} {w : World} {mg : Str → Option Value} {base : Heap} {x qual : Str} {st : Stmt} {f : Addr} {fd : FuncData} {N ps : List Str} {k n : Nat} {R : Px} (F : Fun K x qual st f fd) (S : FnScope N ps (defScope st)) (hp : ps.length = n) (hN : n ≤ N.length)
    (hb : ∀ (cdv : Value) (A : Around) (outer : List Env) (s : Shared) (H : Hp) (E : XK), Room k (A.deeper (envOfC qual (defScope st) s.heap.objs.size f cdv)) →
      ∃ t, PSs (cxOf (L2.CX Pg' w) Pg' w K mg base N qual (defScope st) f cdv A outer s H E) (defBody st) t ∧ ∀ ss P B, ss.length = n → R ss P B → Ws K t (ss ++ List.replicate (N.length - n) .no) { nx := fun _ => P .none, rt := P, xw := fun c d _ H => E c d H, xr := fun c fs _ => ∃ x, c = clsV mg x ∧ B x fs }) :
    FnOk Pg' w K mg base (L2.CX Pg' w) (k + 1) f fd ps (spX K mg n R) := by
  refine F.okX S (fun vs H Q E h => ?_) (fun cdv A outer s H vs Q E hr h => ?_)
  · obtain ⟨T, G, ss, P, B, gh, tp, a, hl, _⟩ := h
    rw [← Paired.length a, hl, hp]
  · obtain ⟨t, ht, hw⟩ := hb cdv A outer s H E hr
    obtain ⟨T, G, ss, P, B, gh, tp, a, hl, hR, q, qx⟩ := h
    refine ⟨t, ht, ?_⟩
    have D0 : Den T K H G H (L2.start N vs) (ss ++ List.replicate (N.length - n) .no) := by
      have := den_start (H0 := H) (H := H) (N := N) a (by omega)
      rw [hl] at this
      exact this
    refine hw ss P B hl hR T G H _ H _ ⟨G, Step.refl gh tp, D0⟩ ⟨fun ρ σ H' p a => ?_, fun d v H' p a => ?_, fun _ _ _ z => z.elim, fun _ _ _ z => z.elim, fun cls fs d ρ σ G' H' p s' n x => ?_⟩
    · obtain ⟨G', s', _⟩ := a
      exact q _ _ G' H' p s' .non
    · obtain ⟨G', s', x⟩ := a
      exact q d v G' H' p s' x
    · obtain ⟨y, rfl, b⟩ := p
      exact qx y fs d G' H' b s' x
/-- an expression that may raise -/
def PeX (K : PySem.W.Frag) (te : TE) (ρ : Rho) (P : PyData → Prop) (E : Ed) : Prop := ∀ (T : Addr → Prop) (G0 H0 : Hp) (σ : L2.St) (H : Hp) (D : Ends), At T K G0 H0 ρ σ H → EdOk T K G0 H0 E D →
  ∀ Q : VK, (∀ d v G' H', P d → Step T G0 H0 G' H' → Den T K H0 G' H' σ ρ → Dn K G' v d → Q v H') → te σ H Q
variable {ρ : Rho} {te : TE} {P P' : PyData → Prop} {E : Ed} {u : TS}
theorem Pe.x (h : Pe K te ρ P) : PeX K te ρ P E := fun T G0 H0 σ H D a e Q q => a.eval h fun d v G' H' p s D' x => q d v G' H' p s D' x
theorem PeX.imp (h : PeX K te ρ P E) (i : ∀ d, P d → P' d) : PeX K te ρ P' E := fun T G0 H0 σ H D a e Q q => h T G0 H0 σ H D a e Q fun d v G' H' p => q d v G' H' (i d p)
/-- a call that may raise, where what is raised is wished for -/
theorem ex_call {mg : Str → Option Value} {n : Nat} {R : Px} {ta : TA} {PA : List Sl → Prop} {W : WX} (hW : E.xw = W) (h : Pas K ta ρ PA) (hR : ∀ ss, PA ss → ss.length = n ∧ ∃ B, R ss P B ∧ ∀ x fs, B x fs → E.xr (clsV mg x) fs ρ) :
    PeX K (tCallS (spX K mg n R) (WE W) ta) ρ P E := fun T G0 H0 σ H D a e Q q => by
  obtain ⟨G, s, D0⟩ := a
  refine h.bind s.gh s.tp D0 fun ss vs G1 H1 p1 s1 gh1 tp1 D1 x1 => ?_
  obtain ⟨hl, B, hr, hB⟩ := hR ss p1
  subst hW
  exact ⟨T, G1, ss, P, B, gh1, tp1, x1, hl, hr, fun d v G' H' p s2 x => q d v G' H' p ((s.trans s1).trans s2) (D1.mono s2) x, fun y fs d G' H' b s2 x => e.xx _ fs d ρ σ G' H' (hB y fs b) ((s.trans s1).trans s2) (D1.mono s2) x⟩
theorem ex_cl {mg : Str → Option Value} {n : Nat} {R : Px} {ta : TA} {ss : List Sl} {W : WX} (B : Str → List (Str × PyData) → Prop) (h : Pasd K ta ρ ss) (hl : ss.length = n) (hR : R ss P B) (hB : ∀ x fs, B x fs → E.xr (clsV mg x) fs ρ) (hW : E.xw = W := by rfl) :
    PeX K (tCallS (spX K mg n R) (WE W) ta) ρ P E := ex_call hW h fun x e => by rw [e]; exact ⟨hl, B, hR, hB⟩
/-- a call that does not raise, by what it is given -/
theorem ye_callX {mg : Str → Option Value} {n : Nat} {R : Px} {ta : TA} {PA : List Sl → Prop} {W : L2.St → XK} (h : Pas K ta ρ PA) (hR : ∀ ss, PA ss → ss.length = n ∧ R ss P fun _ _ => False) : Pe K (tCallS (spX K mg n R) W ta) ρ P := fun T H0 G H σ gh tp D Q q =>
  h.bind gh tp D fun ss vs G1 H1 p1 s1 gh1 tp1 D1 x1 => by
    obtain ⟨hl, hr⟩ := hR ss p1
    exact ⟨T, G1, ss, P, _, gh1, tp1, x1, hl, hr, fun d v G' H' p s x => q d v G' H' p (s1.trans s) x, fun _ _ _ _ _ z => z.elim⟩
theorem ye_clX {mg : Str → Option Value} {n : Nat} {R : Px} {ta : TA} {ss : List Sl} {W : L2.St → XK} (h : Pasd K ta ρ ss) (hl : ss.length = n) (hR : R ss P fun _ _ => False) : Pe K (tCallS (spX K mg n R) W ta) ρ P := ye_callX h fun x e => by rw [e]; exact ⟨hl, hR⟩
/-! statements -/
theorem ws_setX {i : Nat} (h : PeX K te ρ P E) (k : ∀ d, P d → E.nx (ρ.set i (.d d))) : Ws K (tAsg te (gName i)) ρ E := fun T G0 H0 σ H D a e =>
  h T G0 H0 σ H D a e _ fun d v G' H' p s D' x => e.nx _ _ _ (k d p) ⟨G', s, D'.set (s := .d d) (o := some v) ⟨v, rfl, x⟩ fun _ z => nomatch z⟩
theorem wq_setX {i : Nat} (h : PeX K te ρ P E) (k : ∀ d, P d → Ws K u (ρ.set i (.d d)) E) : Ws K (tSeq (tAsg te (gName i)) u) ρ E := fun T G0 H0 σ H D a e =>
  h T G0 H0 σ H D a e _ fun d v G' H' p s D' x => k d p T G0 H0 _ _ D ⟨G', s, D'.set (s := .d d) (o := some v) ⟨v, rfl, x⟩ fun _ z => nomatch z⟩ e
theorem ws_retX (h : PeX K te ρ P E) (k : ∀ d, P d → E.rt d) : Ws K (tRet te) ρ E := fun T G0 H0 σ H D a e =>
  h T G0 H0 σ H D a e _ fun d v G' H' p s D' x => e.rt d v H' (k d p) ⟨G', s, x⟩
theorem ws_dropX (h : PeX K te ρ P E) (k : ∀ d, P d → E.nx ρ) : Ws K (tDrop te) ρ E := fun T G0 H0 σ H D a e =>
  h T G0 H0 σ H D a e _ fun d v G' H' p s D' x => e.nx _ _ _ (k d p) ⟨G', s, D'⟩
theorem ws_asgX {g : TG} (h : PeX K te ρ P E) (k : ∀ x, P x → ∃ sl ρ', Pg K g sl x ρ ρ' ∧ E.nx ρ') : Ws K (tAsg te g) ρ E := fun T G0 H0 σ H D a e =>
  h T G0 H0 σ H D a e _ fun d v G' H' p s D' y => by
    obtain ⟨sl, ρ', hg, hk⟩ := k d p
    exact hg T H0 G' H' σ v s.gh D' y _ fun σ' D'' _ _ => e.nx _ _ _ hk ⟨G', s, D''⟩
/-- raise X('..') -/
theorem ws_raise0 {C : Addr} {W : WX} (hW : E.xw = W) (h : E.xr (.ref C) [] ρ) : Ws K (fun _ σ H => W (.ref C) none σ H) ρ E := fun T G0 H0 σ H D a e => by
  obtain ⟨G, s, D0⟩ := a
  subst hW
  exact e.xx _ [] none ρ σ G H h s D0 (.inl ⟨rfl, rfl⟩)
/-- try: .. except X: .. -/
def tTry (K : PySem.W.Frag) (c : Value) (tb : WX → TS) (ts : Addr → Value → Option Addr → TS) (Wout : WX) : TS := fun D σ H => tb (wOnly K c ts Wout D) D σ H
theorem ws_try {tb : WX → TS} {ts : Addr → Value → Option Addr → TS} {Wout : WX} {c : Value} (XR : Value → List (Str × PyData) → Rho → Prop)
    (hb : ∀ W, Ws K (tb W) ρ { nx := E.nx, rt := E.rt, bk := E.bk, ct := E.ct, xw := W, xr := XR })
    (hh : ∀ c' fs r, XR c' fs r → ∃ b, PySem.W.exmOne K c' c = some b ∧ (b = true → ∀ a d, Ws K (ts a c' d) r E) ∧ (b = false → E.xr c' fs r ∧ E.xw = Wout)) : Ws K (tTry K c tb ts Wout) ρ E := fun T G0 H0 σ H D a e => by
  refine hb (wOnly K c ts Wout D) T G0 H0 σ H D a ⟨e.nx, e.rt, e.bk, e.ct, fun cls fs d r σ' G' H' x s D' xd => ?_⟩
  obtain ⟨b, h1, h2, h3⟩ := hh cls fs r x
  refine ⟨b, h1, fun hb a _ => ?_, fun hb => ?_⟩
  · exact h2 hb a d T G0 H0 σ' H' D ⟨G', s, D'⟩ e
  · obtain ⟨h4, h5⟩ := h3 hb
    subst h5
    exact e.xx cls fs d r σ' G' H' h4 s D' xd
end
/-! ### the calls, as terms -/
structure CalX (Pg : Program) (w : World) (K : PySem.W.Frag) (mg : Str → Option Value) (base : Heap) (k : Nat) (x : Str) (ps : List Str) (sp : Sp) : Prop where
  ex : ∃ f fd, FnOk Pg w K mg base (L2.CX Pg w) k f fd ps sp ∧ mg x = some (.ref f) ∧ PySem.W.keepIn K (.ref f) = true ∧ Binds K fd ps []
theorem ps_tryT {X : Cx} {x : Str} {c : Value} {body suite : List Stmt} {b₀ : Stmt} {np pos pos' : Pos} {tb : WX → TS} {ts : Addr → Value → Option Addr → TS} {Wout : WX} (hs : X.stack = X.env :: X.outer) (hf : X.env.frame = some X.env.locals) (hc : Names X x c) (tk : Takes X Wout)
    (hb : ∀ (W : WX) (pn : List (Addr × Obj)) (xe : Value → Shared → Prop), Takes (X.tr pn xe) W → PassesOwn (model X.prog X.w) X.A X.env xe → PSs (X.tr pn xe) body (tb W))
    (hsu : ∀ (a : Addr) (oe : Obj) (cls : Value) (d : Option Addr) (pn : List (Addr × Obj)), Zc cls d oe → (∃ vs, oe.data = .fields vs) → PSs (X.suite a ((a, oe) :: pn)) (b₀ :: suite) (ts a cls d)) :
    PS X (.Try body [.ExceptHandler (some (.Name x np)) none (b₀ :: suite) pos'] [] [] pos) (tTry X.K c tb ts Wout) := ps_try_only hs hf hc tk hb hsu
section
variable {X : Cx}
theorem pe_calX {W : WX} {k j : Nat} {x : Str} {ps : List Str} {sp : Sp} {e : Expr} {es : List Expr} {t : TA} {p pos : Pos} (C : CalX X.prog X.w X.K X.mg X.base k x ps sp) (tk : Takes X W) (hr : Room j X.A) (ha : PA X (e :: es) t) (hk : k ≤ j := by decide) (hg : Gl X x := by rfl) (hdb : (x == ("__debug__" : Str)) = false := by decide)
    (he : starEach (e :: es) X.env = (false, eval e X.env) :: starEach es X.env := by rfl) (hpl : (backTo pos (starEach es X.env)).any (·.1) = false := by rfl) : PE X (.Call (.Name x p) (e :: es) [] pos) (tCallS sp (WE W) t) := by
  obtain ⟨f, fd, F, hm, kp, hb⟩ := C.ex
  exact pe_callS F (hr.mono hk) hg hm kp hb (fun σ => passAt tk σ) ha hdb he hpl
end
section
variable {K : PySem.W.Frag} {ρ : Rho} {ta tb : TE} {i j : Int}
theorem yd_eqI (ha : Pd K ta ρ (.int i)) (hb : Pd K tb ρ (.int j)) : Pd K (tOp (rEqX K) ta tb) ρ (.bool (decide (i = j))) := yd_eqS (x := .int i) (y := .int j) ha hb rfl
theorem yd_neI (ha : Pd K ta ρ (.int i)) (hb : Pd K tb ρ (.int j)) : Pd K (tOp (rNeX K) ta tb) ρ (.bool (!decide (i = j))) := yd_neS (x := .int i) (y := .int j) ha hb rfl
end
/-! a good way and a raising way -/
section
variable {P : Program} {w : World} {K : PySem.W.Frag} {mg : Str → Option Value} {base : Heap} {k j : Nat} {f : Addr} {fd : FuncData} {ps : List Str} {n : Nat}
theorem fnok_x {R : Pr} (F : FnOk P w K mg base CX0 j f fd ps (spR K n R)) (h : j ≤ k) : FnOk P w K mg base (L2.CX P w) k f fd ps (spX K mg n fun ss Q _ => R ss Q) := by
  refine ⟨fun vs H Q E ⟨T, G, ss, P', B, gh, tp, a, hl, hR, q, _⟩ => F.len vs H Q E ⟨T, G, ss, P', gh, tp, a, hl, hR, q⟩, fun A outer s H args us vs Q E hr he hb hv ⟨T, G, ss, P', B, gh, tp, a, hl, hR, q, _⟩ => ?_⟩
  refine codeAny_mono ((F.mono h).run A outer s H args us vs Q E hr he hb hv ⟨T, G, ss, P', gh, tp, a, hl, hR, q⟩) fun r s' hq => ?_
  cases r with
  | error e => exact hq.elim
  | ok fl =>
    cases fl with
    | ret u => exact hq
    | next => exact hq
    | brk => exact hq
    | cont => exact hq
theorem fnok_both {R : Pr} {RB : List Sl → (Str → List (Str × PyData) → Prop) → Prop} (F : FnOk P w K mg base CX0 j f fd ps (spR K n R)) (h : j ≤ k) (F2 : FnOk P w K mg base (L2.CX P w) k f fd ps (spX K mg n fun ss _ B => RB ss B)) :
    FnOk P w K mg base (L2.CX P w) k f fd ps (spX K mg n fun ss Q B => R ss Q ∨ RB ss B) := by
  have F1 := fnok_x F h
  refine ⟨fun vs H Q E ⟨T, G, ss, P', B, gh, tp, a, hl, hR, q, qx⟩ => ?_, fun A outer s H args us vs Q E hr he hb hv ⟨T, G, ss, P', B, gh, tp, a, hl, hR, q, qx⟩ => ?_⟩
  · rcases hR with hR | hR
    · exact F1.len vs H Q E ⟨T, G, ss, P', B, gh, tp, a, hl, hR, q, qx⟩
    · exact F2.len vs H Q E ⟨T, G, ss, P', B, gh, tp, a, hl, hR, q, qx⟩
  · rcases hR with hR | hR
    · exact F1.run A outer s H args us vs Q E hr he hb hv ⟨T, G, ss, P', B, gh, tp, a, hl, hR, q, qx⟩
    · exact F2.run A outer s H args us vs Q E hr he hb hv ⟨T, G, ss, P', B, gh, tp, a, hl, hR, q, qx⟩
end
/-- a first statement that raises -/
theorem ws_stop {K : PySem.W.Frag} {t u : TS} {ρ : Rho} {E : Ed} (h : Ws K t ρ { E with nx := fun _ => False }) : Ws K (tSeq t u) ρ E := ws_seq (fun _ => False) h fun _ z => z.elim
end PD

/-! PD18: zip kept in a name, walked in an assignment -/
namespace PD
open PySem PySem.Spec PyProof.Rows L2 ZV
section
variable {K : PySem.W.Frag} {ρ : Rho} {te ta tb : TE} {P : PyData → Prop}
theorem pj_tup {J : It} {zs : List PyData} {xs : List PyData} (h : PeJ K J zs te ρ (fun d => d = .list xs)) : PeJ K J zs (tCB (rTupOf K) (tCons te tNil)) ρ (fun d => d = .tuple xs) := fun T H0 G H σ gh tp D it Q q =>
  h T H0 G H σ gh tp D it _ fun d v G1 H1 p1 s1 x1 => by
    subst p1
    cases x1 with
    | @lst a vs _ e1 a1 => exact ⟨a, vs, rfl, .inl ⟨.inl (.inl (s1.gh _ _ e1)), new_tup s1.gh s1.tp a1 fun v G' H' s' x => q _ v G' H' rfl (s1.trans s') x⟩⟩
theorem zip_midA {i k n : Nat} {xs ys : List PyData} {E : Ed} {te' : It → TE} {u : TS} (ha : Pd K ta ρ (.list xs)) (hb : Pd K tb ρ (.list ys)) (h : ∀ J, PeJ K J (zipD xs ys) (te' J) (ρ.set i .no) P) (hu : ∀ σ H Q, te σ H Q = iZipV K n i σ H (fun J H1 => te' J σ H1 Q)) (hi : i < ρ.length) (kk : ∀ d, P d → Ws K u ((ρ.set i .no).set k (.d d)) E) :
    Ws K (tSeq (tAsg (tZipV K n (tCons ta (tCons tb tNil))) (gName i)) (tSeq (tAsg te (gName k)) u)) ρ E := fun T G0 H0 σ H D a e => by
  obtain ⟨G, s, D0⟩ := a
  refine ha.bind s.gh s.tp D0 fun x v G1 H1 p1 s1 gh1 tp1 D1 x1 => hb.bind gh1 tp1 D1 fun y w G2 H2 p2 s2 gh2 tp2 D2 x2 => ?_
  subst p1 p2
  have x1 := x1.mono s2.g
  have st := (s.trans s1).trans s2
  cases x1 with
  | @lst a vs _ e1 a1 =>
    cases x2 with
    | @lst b us _ e2 a2 =>
      refine ⟨a, b, vs, us, rfl, sql_of (gh2 _ _ e1), sql_of (gh2 _ _ e2), fun z TI TO i1 i2 oz oT oO o1 o2 F hf => ?_⟩
      show te (σ.set i (some (.ref z))) (up5 H2 z TI TO i1 i2 oz oT oO o1 o2) fun v H' => u D ((σ.set i (some (.ref z))).set k (some v)) H'
      rw [hu]
      have A := F.apart
      have fz := (hf z (by simp)).1
      have fT := (hf TI (by simp)).1
      have fO := (hf TO (by simp)).1
      have f1 := (hf i1 (by simp)).1
      have f2 := (hf i2 (by simp)).1
      refine ⟨z, TI, TO, i1, i2, a, b, oz, oT, oO, o1, o2, F, fun c hc => (hf c hc).2, List.getElem?_set_self (by rw [D0.len]; exact hi), ?_, ?_, ?_, ?_, ?_, ?_⟩
      · exact upd_same
      · unfold up5; rw [upd_ne A.TIz, upd_ne A.TITO]; exact upd_same
      · unfold up5; rw [upd_ne A.TOz]; exact upd_same
      · unfold up5; rw [upd_ne A.i1z, upd_ne A.TOi1.symm, upd_ne A.TIi1.symm, upd_ne A.i12]; exact upd_same
      · unfold up5; rw [upd_ne A.i2z, upd_ne A.TOi2.symm, upd_ne A.TIi2.symm]; exact upd_same
      · rw [drop_up A fz fT fO f1 f2]
        have D3 : Den T K H0 G2 H2 (σ.set i (some (.ref z))) (ρ.set i .no) := D2.set (s := .no) (o := some (.ref z)) trivial fun _ q => nomatch q
        exact h _ T H0 G2 H2 _ gh2 tp2 D3 (itd_zip e1 a1 e2 a2) _ fun d v G' H' p s' x => kk d p T G0 H0 _ _ D ⟨G', st.trans s', (D3.mono s').set (s := .d d) (o := some v) ⟨v, rfl, x⟩ fun _ z => nomatch z⟩ e
/-- pairs = zip(a, b); x = tuple([.. for .. in pairs]) -/
theorem wq_zip_tup {i k n : Nat} {xs ys : List PyData} {E : Ed} {g : TG} {vs sl : List Nat} {u : TS} (f : PyData → PyData) (ha : Pd K ta ρ (.list xs)) (hb : Pd K tb ρ (.list ys)) (hi : i < ρ.length) (hsl : ∀ i ∈ sl, i ∈ vs) (hz : (zipD xs ys).length < sizeLine)
    (hf : ∀ x, x ∈ zipD xs ys → ∃ r', PD.Pg K g sl x (wipeR (ρ.set i .no) vs) r' ∧ Pd K te r' (f x)) (kk : Ws K u ((ρ.set i .no).set k (.d (.tuple ((zipD xs ys).map f)))) E) :
    Ws K (tSeq (tAsg (tZipV K n (tCons ta (tCons tb tNil))) (gName i)) (tSeq (tAsg (tCB (rTupOf K) (tCons (tLc (iZipV K n i) g tYes te vs) tNil)) (gName k)) u)) ρ E :=
  zip_midA (te' := fun J => tCB (rTupOf K) (tCons (tLc (wiJ J) g tYes te vs) tNil)) ha hb (fun J => pj_tup (pj_lc f hsl hz hf)) (fun _ _ _ => rfl) hi fun d e => e ▸ kk
end
end PD

set_option maxHeartbeats 4000000
namespace PD
open PySem PySem.Spec PyProof.Rows L2 RZ
/-! ### expressions that change lists kept in names: the value and the slots after -/
def Pm (K : PySem.W.Frag) (te : TE) (ρ : Rho) (Q : PyData → Rho → Prop) : Prop := ∀ (T : Addr → Prop) (G0 H0 G H : Hp) (σ : L2.St), Step T G0 H0 G H → Den T K H0 G H σ ρ →
  ∀ R : VK, (∀ d ρ' v G' H', Q d ρ' → Step T G0 H0 G' H' → Same G G' → Den T K H0 G' H' σ ρ' → Dn K G' v d → R v H') → te σ H R
def Pms (K : PySem.W.Frag) (ta : TA) (ρ : Rho) (Q : List Sl → Rho → Prop) : Prop := ∀ (T : Addr → Prop) (G0 H0 G H : Hp) (σ : L2.St), Step T G0 H0 G H → Den T K H0 G H σ ρ →
  ∀ R : List V → Hp → Prop, (∀ ss ρ' vs G' H', Q ss ρ' → Step T G0 H0 G' H' → Same G G' → Den T K H0 G' H' σ ρ' → ArgsOk T K G' ss vs → R vs H') → ta σ H R
section
variable {K : PySem.W.Frag} {ρ ρ' : Rho} {te ta tb tc td tl : TE} {tr tt : TA} {P P' : PyData → Prop} {Q Q' : PyData → Rho → Prop} {QA : List Sl → Rho → Prop} {u : TS}
theorem Pm.imp (h : Pm K te ρ Q) (i : ∀ d r, Q d r → Q' d r) : Pm K te ρ Q' := fun T G0 H0 G H σ s D R r => h T G0 H0 G H σ s D R fun d ρ' v G' H' q => r d ρ' v G' H' (i d ρ' q)
theorem pm_e (h : Pe K te ρ P) (k : ∀ d, P d → Q d ρ) : Pm K te ρ Q := fun T G0 H0 G H σ s D R r =>
  h T H0 G H σ s.gh s.tp D R fun d v G' H' p s' x => r d ρ v G' H' (k d p) (s.trans s') s'.g (D.mono s') x
theorem pm_d {d : PyData} (h : Pd K te ρ d) (k : Q d ρ) : Pm K te ρ Q := pm_e h fun x e => e ▸ k
/-- xs.pop() -/
theorem pm_pop {j : Nat} {xs : List PyData} (ej : ρ[j]? = some (.ml xs)) (hx : xs ≠ []) (k : ∀ x, xs[xs.length - 1]? = some x → Q x (ρ.set j (.ml xs.dropLast))) : Pm K (tBM0 K "list" rPop (tVar j)) ρ Q := fun T G0 H0 G H σ s D R r => by
  obtain ⟨o, e1, l, vs, rfl, hl, x, gl, h0, nt⟩ := D.at ej
  have hv : 0 < vs.length := by
    rw [x.length]
    exact List.length_pos_iff.mpr hx
  have hx' : 0 < xs.length := List.length_pos_iff.mpr hx
  obtain ⟨s2, D2⟩ := D.mut s ej e1 x.dropLast
  obtain ⟨w, hw, dw⟩ := x.get (List.getElem?_eq_getElem (show xs.length - 1 < xs.length by omega))
  exact ⟨_, e1, .inl ⟨rfl, vs, sql_of hl⟩, l, vs, w, rfl, rfl, hl, by rw [x.length]; exact hw, r _ _ w G _ (k _ (List.getElem?_eq_getElem _)) s2 (Same.refl _) D2 dw⟩
/-- xs.pop(i) -/
theorem pm_popAt {j : Nat} {xs : List PyData} {C : Int → Prop} (ej : ρ[j]? = some (.ml xs)) (hb : Pe K tb ρ (isI C)) (hC : ∀ z, C z → 0 ≤ z ∧ z < xs.length) (hx : xs.length < 2 ^ 62) (k : ∀ n (h : n < xs.length), Q xs[n] (ρ.set j (.ml (xs.eraseIdx n)))) : Pm K (tBM K "list" rPopAt (tVar j) (tCons tb tNil)) ρ Q := fun T G0 H0 G H σ s D R r => by
  obtain ⟨o, e1, l, vs, rfl, hl, x, gl, h0, nt⟩ := D.at ej
  refine ⟨_, e1, .inl ⟨rfl, vs, sql_of hl⟩, hb.bind s.gh s.tp D fun d v G' H' p s' gh' tp' D' y => ?_⟩
  obtain ⟨z, rfl, cz⟩ := p
  cases y
  obtain ⟨z0, z1⟩ := hC z cz
  obtain ⟨n, rfl⟩ : ∃ n : Nat, z = (n : Int) := ⟨z.toNat, by omega⟩
  have hn : n < xs.length := by omega
  have hl2 := s'.h _ _ nt hl
  obtain ⟨s2, D2⟩ := D'.mut (s.trans s') ej e1 (DnAll.eraseIdx n (x.mono s'.g))
  obtain ⟨w, hw, dw⟩ := (x.mono s'.g).get (List.getElem?_eq_getElem hn)
  exact ⟨l, vs, (n : Int), n, w, rfl, rfl, hl2, by omega, by omega, by unfold seqIndex?; rw [x.length]; simp; omega, hw, r _ _ w G' _ (k n hn) s2 s'.g D2 dw⟩
theorem pms_n (k : QA [] ρ) : Pms K tNil ρ QA := fun T G0 H0 G H σ s D R r => r [] ρ [] G H k s (Same.refl _) D .nil
theorem pms_c (h : Pm K te ρ Q) (hr : ∀ d r, Q d r → Pms K tr r fun ss r' => QA (.d d :: ss) r') : Pms K (tCons te tr) ρ QA := fun T G0 H0 G H σ s D R r =>
  h T G0 H0 G H σ s D _ fun d ρ1 v G1 H1 q s1 g1 D1 x => hr d ρ1 q T G0 H0 G1 H1 σ s1 D1 _ fun ss ρ2 vs G2 H2 q2 s2 g2 D2 xs => r _ ρ2 _ G2 H2 q2 s2 (g1.trans g2) D2 (.cons (x.mono g2) xs)
theorem pms_t {i : Nat} (e : ρ[i]? = some .tp) (hr : Pms K tr ρ fun ss r' => QA (.tp :: ss) r') : Pms K (tCons (tVar i) tr) ρ QA := fun T G0 H0 G H σ s D R r => by
  obtain ⟨o, e1, a, rfl, t⟩ := D.at e
  exact ⟨_, e1, hr T G0 H0 G H σ s D _ fun ss ρ2 vs G2 H2 q2 s2 g2 D2 xs => r _ ρ2 _ G2 H2 q2 s2 g2 D2 (.cons ⟨a, rfl, t⟩ xs)⟩
theorem pm_call {n : Nat} {R : Pr} {E : XK} (h : Pms K tr ρ fun ss r => ss.length = n ∧ R ss fun d => Q d r) : Pm K (tCall (spR K n R) [] E tr) ρ Q := fun T G0 H0 G H σ s D R r =>
  h T G0 H0 G H σ s D _ fun ss ρ1 vs G1 H1 q s1 g1 D1 x1 => by
    show spR K n _ (vs ++ []) H1 _ E
    rw [List.append_nil]
    exact ⟨T, G1, ss, _, s1.gh, s1.tp, x1, q.1, q.2, fun d v G' H' p s' x => r d ρ1 v G' H' p (s1.trans s') (g1.trans s'.g) (D1.mono s') x⟩
theorem pm_tup (h : Pms K tr ρ fun ss r => ∃ ds, ss = ds.map .d ∧ ds.length ≤ sizeLine ∧ Q (.tuple ds) r) : Pm K (tTup tr) ρ Q := fun T G0 H0 G H σ s D R r =>
  h T G0 H0 G H σ s D _ fun ss ρ1 vs G1 H1 q s1 g1 D1 x1 => by
    obtain ⟨ds, rfl, hl, hq⟩ := q
    have a := dnall_of x1
    exact ⟨by rw [a.length]; exact hl, new_tup s1.gh s1.tp a fun v G' H' s' x => r _ ρ1 v G' H' hq (s1.trans s') (g1.trans s'.g) (D1.mono s') x⟩
/-- x = e -/
theorem ws_setM {i : Nat} {E : Ed} (h : Pm K te ρ fun d r => E.nx (r.set i (.d d))) : Ws K (tAsg te (gName i)) ρ E := fun T G0 H0 σ H D a e => by
  obtain ⟨G, s, D0⟩ := a
  exact h T G0 H0 G H σ s D0 _ fun d ρ' v G' H' p s' g D' x => e.nx _ _ _ p ⟨G', s', D'.set (s := .d d) (o := some v) ⟨v, rfl, x⟩ fun _ z => nomatch z⟩
theorem wq_setM {i : Nat} {E : Ed} (h : Pm K te ρ fun d r => Ws K u (r.set i (.d d)) E) : Ws K (tSeq (tAsg te (gName i)) u) ρ E := fun T G0 H0 σ H D a e => by
  obtain ⟨G, s, D0⟩ := a
  exact h T G0 H0 G H σ s D0 _ fun d ρ' v G' H' p s' g D' x => p T G0 H0 _ _ D ⟨G', s', D'.set (s := .d d) (o := some v) ⟨v, rfl, x⟩ fun _ z => nomatch z⟩ e
/-- x = a new list -/
theorem ws_setm {i : Nat} {PL : List PyData → Prop} {E : Ed} (h : Nl K te ρ PL) (k : ∀ xs, PL xs → E.nx (ρ.set i (.ml xs))) : Ws K (tAsg te (gName i)) ρ E := fun T G0 H0 σ H D a e => by
  obtain ⟨G, s, D0⟩ := a
  refine h T H0 G H σ s.gh s.tp D0 _ fun xs p vs G' H' px s' hp nt gp hl al => ?_
  have D1 := D0.mono s'
  refine e.nx _ _ _ (k xs px) ⟨G', s.trans s', set_ml (s.trans s') D1 hl al gp (s.no hp nt) nt fun j ys hj e1 e2 => ?_⟩
  obtain ⟨o, e3, l, ws, rfl, hl2, _⟩ := D0.at e1
  rw [e3] at e2
  cases e2
  rw [hp] at hl2
  cases hl2
/-- ys.append(e) -/
theorem ws_appM {i : Nat} {ys : List PyData} {E : Ed} (ei : ρ[i]? = some (.ml ys)) (h : Pm K te ρ fun d r => ∃ zs, r[i]? = some (.ml zs) ∧ zs.length < sizeLine ∧ E.nx (r.set i (.ml (zs ++ [d])))) : Ws K (tDrop (tBM K "list" rAppend (tVar i) (tCons te tNil))) ρ E := fun T G0 H0 σ H D a ed => by
  obtain ⟨G, s, D0⟩ := a
  obtain ⟨o, e1, l, vs, rfl, hl, x, gl, h0, nt⟩ := D0.at ei
  refine ⟨_, e1, .inl ⟨rfl, vs, sql_of hl⟩, h T G0 H0 G H σ s D0 _ fun d ρ' v G' H' p s' g D' y => ?_⟩
  obtain ⟨zs, ez, hz, q⟩ := p
  obtain ⟨o', e1', l', us, q1, hl', x', gl', h0', nt'⟩ := D'.at ez
  rw [e1] at e1'
  cases e1'
  cases q1
  obtain ⟨s2, D2⟩ := D'.mut s' ez e1 (x'.append (.cons y .nil))
  exact ⟨l, us, v, rfl, rfl, hl', by rw [x'.length]; exact hz, ed.nx _ _ _ q ⟨G', s2, D2⟩⟩
theorem wq_appM {i : Nat} {ys : List PyData} {E : Ed} (ei : ρ[i]? = some (.ml ys)) (h : Pm K te ρ fun d r => ∃ zs, r[i]? = some (.ml zs) ∧ zs.length < sizeLine ∧ Ws K u (r.set i (.ml (zs ++ [d]))) E) : Ws K (tSeq (tDrop (tBM K "list" rAppend (tVar i) (tCons te tNil))) u) ρ E :=
  ws_seq (fun r => ∃ d r' zs, r = r'.set i (.ml (zs ++ [d])) ∧ Ws K u r E) (ws_appM ei (h.imp fun d r ⟨zs, a, b, c⟩ => ⟨zs, a, b, d, r, zs, rfl, c⟩)) fun r ⟨d, r', zs, e, k⟩ => k
end
end PD

set_option maxHeartbeats 2000000
/-! accumulate over a tuple, walked -/
namespace Accu
open PySem PySem.Spec PyProof.Rows PySem.Builtin PySem.Builtin.Itertools
section
variable {prog : Program} {w : World} {A : Around} {E : Value → Shared → Prop} {s : Shared}
/-- one item of a tuple by its iterator, as itertools asks it -/
theorem raw_itemT {it l : Addr} {i : Nat} {xs : Array Value} {v : Value} {Q : Value → Shared → Prop} (hI : s.heap.IsTupleIter it l i) (hL : s.heap.IsTuple l xs) (hv : xs[i]? = some v)
    (k : ∀ h', h'.IsTupleIter it l (i + 1) → Heap.SameBut it s.heap h' → Q v { s with heap := h' }) : wpAny (model prog w) A (itRawNext (.ref it)) Q E s := by
  obtain ⟨oI, gI, cI, dI⟩ := id hI
  obtain ⟨oL, gL, _, nL, dL⟩ := hL
  unfold itRawNext
  refine wpAny_bind (wpAny_callSpecial?_slot (name := Str.ofString "__next__") hI.typeIs F.slot_tuple_iterator_next (wpAny_call_entry F.slot_tuple_iterator_next hI.typeIs F.entry_tuple_iterator_next ?_ (F.args_tuple_iterator_next_1 _)))
  show wpAny _ _ (field (.ref it) 0 >>= fun q => _) _ _ s
  refine wpAny_bind (wpAny_field gI dI (x := .ref l) rfl ?_)
  show wpAny _ _ (if (Value.ref l == Value.none) = true then _ else (_ : Sem PySem.Fin)) _ _ s
  rw [if_neg (show ¬ ((Value.ref l == Value.none) = true) from fun q => Bool.false_ne_true q)]
  show wpAny _ _ (field (.ref it) 1 >>= fun q => _) _ _ s
  refine wpAny_bind (wpAny_field gI dI (x := .int i 0) rfl ?_)
  show wpAny _ _ (seqItems? (.ref l) >>= fun q => _) _ _ s
  refine wpAny_bind (wpAny_seqItems gL dL ?_)
  simp only [Int.toNat_natCast, hv]
  refine wpAny_bind (wpAny_setField gI dI (by simp) (wpAny_pure ⟨v, rfl, wpAny_pure (k _ ?_ (Heap.SameBut.update ..))⟩))
  exact ⟨_, Heap.get?_update_self _ gI (Obj.isFreed_of_fields (Obj.data_mapFields dI _)), (Obj.cls_mapFields ..).trans cI, (Obj.data_mapFields dI _).trans (by simp [rawInt])⟩
theorem raw_endT {it l : Addr} {i : Nat} {xs : Array Value} {Q : Value → Shared → Prop} (hh : A.handled = none) (hI : s.heap.IsTupleIter it l i) (hL : s.heap.IsTuple l xs) (hv : xs[i]? = none)
    (k : ∀ h' e, Heap.ExtBut it s.heap h' → (∃ o, h'.get? e = some o ∧ o.cls = .type "StopIteration") → E (.ref e) { s with heap := h' }) : wpAny (model prog w) A (itRawNext (.ref it)) Q E s := by
  obtain ⟨oI, gI, cI, dI⟩ := id hI
  obtain ⟨oL, gL, _, nL, dL⟩ := hL
  unfold itRawNext
  refine wpAny_bind (wpAny_callSpecial?_slot (name := Str.ofString "__next__") hI.typeIs F.slot_tuple_iterator_next (wpAny_call_entry F.slot_tuple_iterator_next hI.typeIs F.entry_tuple_iterator_next ?_ (F.args_tuple_iterator_next_1 _)))
  show wpAny _ _ (field (.ref it) 0 >>= fun q => _) _ _ s
  refine wpAny_bind (wpAny_field gI dI (x := .ref l) rfl ?_)
  show wpAny _ _ (if (Value.ref l == Value.none) = true then _ else (_ : Sem PySem.Fin)) _ _ s
  rw [if_neg (show ¬ ((Value.ref l == Value.none) = true) from fun q => Bool.false_ne_true q)]
  show wpAny _ _ (field (.ref it) 1 >>= fun q => _) _ _ s
  refine wpAny_bind (wpAny_field gI dI (x := .int i 0) rfl ?_)
  show wpAny _ _ (seqItems? (.ref l) >>= fun q => _) _ _ s
  refine wpAny_bind (wpAny_seqItems gL dL ?_)
  simp only [Int.toNat_natCast, hv]
  refine wpAny_bind (wpAny_rule (wpAny_bind (wpAny_setField gI dI (by simp) ?_)))
  show wpAny _ _ (newExc (.type "StopIteration") [] >>= fun q => _) _ _ _
  refine wpAny_bind ?_
  simp only [newExc, newTuple]
  refine wpAny_bind (wpAny_newObj_type ?_ (by size_fits))
  refine wpAny_bind (m := firstArgMember _ _) (wpAny_of_eq (a := Value.none) (by first | rfl | (unfold firstArgMember; rfl)) ?_)
  refine wpAny_newObj_type ?_ (by size_fits)
  simp only [raiseNew]
  refine wpAny_bind (wpAny_handled ?_)
  rw [show A.in1.handled = none from hh]
  refine wpAny_bind (wpAny_pure (wpAny_throw (k _ _ (((Heap.SameBut.update ..).extBut.push _).push _) ⟨_, Heap.get?_push_size _ rfl, rfl⟩)))
theorem ac_nextT {m it l : Addr} {i : Nat} {xs : Array Value} {f : Nat → Int} {tot : Value} {Q : Value → Shared → Prop} (hf : ∀ (j : Nat) (v : Value), xs[j]? = some v → ∃ t, v = .int (f j) t)
    (hm : IsAc s.heap m it tot) (ht : Tot i f tot) (hI : s.heap.IsTupleIter it l i) (hL : s.heap.IsTuple l xs) (hi : i < xs.size) (hmi : m ≠ it) (hli : l ≠ it) (hlm : l ≠ m)
    (k : ∀ (v : Value) (s' : Shared) (tot' : Value), (∃ t, v = .int (preSum f (i + 1)) t) → IsAc s'.heap m it tot' → Tot (i + 1) f tot' → s'.heap.IsTupleIter it l (i + 1) → s'.heap.IsTuple l xs → (∀ b o, b ≠ it → b ≠ m → s.heap.get? b = some o → s'.heap.get? b = some o) →
      s'.gens = s.gens → s'.drawn = s.drawn → s'.os = s.os → s.toks ≤ s'.toks → Q v s') :
    wpAny (model prog w) A (Builtin.«itertools.accumulate.__next__» ⟨[.ref m], []⟩) (fun fin s' => ∃ v, fin = .done (.ret v) ∧ Q v s') E s := by
  obtain ⟨v, hv⟩ : ∃ v, xs[i]? = some v := ⟨xs[i], by simp [hi]⟩
  obtain ⟨tv, rfl⟩ := hf i v hv
  show wpAny _ _ (field (.ref m) 3 >>= fun q => _) _ _ s
  refine wpAny_bind (wpAny_field hm rfl (x := .none) rfl ?_)
  show wpAny _ _ (if (Value.none != Value.none) = true then _ else (_ : Sem PySem.Fin)) _ _ s
  rw [if_neg (show ¬ ((Value.none != Value.none) = true) from fun q => Bool.false_ne_true q)]
  refine wpAny_bind (wpAny_field hm rfl (x := .ref it) rfl ?_)
  refine wpAny_bind (raw_itemT hI hL hv fun h1 hI1 sb => ?_)
  have hm1 : IsAc h1 m it tot := sb.extBut _ _ hmi hm
  have hL1 : h1.IsTuple l xs := hL.extBut sb.extBut hli
  show wpAny _ _ (field (.ref m) 2 >>= fun q => _) _ _ _
  refine wpAny_bind (wpAny_field hm1 rfl (x := tot) rfl ?_)
  have fin : ∀ (nv : Value) (tk : Nat), (∃ t, nv = .int (preSum f (i + 1)) t) → s.toks ≤ tk → Q nv { s with heap := h1.update m (Obj.mapFields fun q => q.setIfInBounds 2 nv), toks := tk } := fun nv tk hn htk => by
    have hm2 : IsAc (h1.update m (Obj.mapFields fun q => q.setIfInBounds 2 nv)) m it nv := Heap.get?_update_self _ hm1 rfl
    have oth : ∀ b o, b ≠ m → h1.get? b = some o → (h1.update m (Obj.mapFields fun q => q.setIfInBounds 2 nv)).get? b = some o := fun b o hb e => (Heap.get?_update_other _ _ (Ne.symm hb)).trans e
    refine k nv _ nv hn hm2 (.inr ⟨Nat.succ_pos i, hn⟩) (hI1.at fun o e => oth it o hmi.symm e) (hL1.at fun o e => oth l o hlm e) (fun b o h1' h2' e => oth b o h2' (sb.extBut b o h1' e)) rfl rfl rfl htk
  by_cases hz : (tot == itNothing) = true
  · -- nothing so far, or a raw nought
    rw [if_pos hz]
    refine wpAny_bind (wpAny_rule ?_)
    refine wpAny_bind (wpAny_setField hm1 rfl (by simp) ?_)
    refine wpAny_pure ⟨_, rfl, fin _ s.toks ⟨tv, ?_⟩ (Nat.le_refl _)⟩
    have e : tot = itNothing := eq_of_beq hz
    rcases ht with ⟨rfl, _⟩ | ⟨_, t, et⟩
    · show Value.int (f 0) tv = Value.int (0 + f 0) tv
      rw [Int.zero_add]
    · rw [et] at e
      have e0 : preSum f i = 0 := by injection e
      show Value.int (f i) tv = Value.int (preSum f i + f i) tv
      rw [e0, Int.zero_add]
  · rw [if_neg hz]
    obtain ⟨t, rfl⟩ : ∃ t, tot = .int (preSum f i) t := by
      rcases ht with ⟨_, e⟩ | ⟨_, e⟩
      · exact absurd (by rw [e]; exact beq_self_eq_true _) hz
      · exact e
    refine wpAny_bind (wpAny_field hm1 rfl (x := .none) rfl ?_)
    refine wpAny_bind (wpAny_holding ?_)
    rw [if_pos (show (Value.none == Value.none) = true from rfl)]
    refine add_int ?_
    refine wpAny_bind (wpAny_setField hm1 rfl (by simp) ?_)
    refine wpAny_bind (wpAny_letGo ?_)
    exact wpAny_pure ⟨_, rfl, fin _ _ ⟨_, rfl⟩ (Nat.le_succ _)⟩
def AcStT (m it l : Addr) (xs : Array Value) (f : Nat → Int) (i : Nat) (s : Shared) : Prop := ∃ tot, IsAc s.heap m it tot ∧ Tot i f tot ∧ s.heap.IsTupleIter it l i ∧ s.heap.IsTuple l xs
theorem ac_itemT {m it l : Addr} {i : Nat} {xs : Array Value} {f : Nat → Int} {Q : Option Value → Shared → Prop} (hf : ∀ (j : Nat) (v : Value), xs[j]? = some v → ∃ t, v = .int (f j) t) (st : AcStT m it l xs f i s) (hi : i < xs.size) (hmi : m ≠ it) (hli : l ≠ it) (hlm : l ≠ m)
    (k : ∀ (v : Value) (s' : Shared), (∃ t, v = .int (preSum f (i + 1)) t) → AcStT m it l xs f (i + 1) s' → Moved [m, it] (fun a b => b = a) s s' → Q (some v) s') : wpAny (model prog w) A (pyNext (.ref m)) Q E s := by
  obtain ⟨tot, hm, ht, hI, hL⟩ := st
  have ty : s.TypeIs (.ref m) "itertools.accumulate" := ⟨_, hm, rfl⟩
  unfold pyNext
  refine wpAny_bind (wpAny_attempt (wpAny_callSpecial?_slot (name := Str.ofString "__next__") ty slot_ac_next (wpAny_call_entry slot_ac_next ty ent_ac_next
    (ac_nextT hf hm ht hI hL hi hmi hli hlm fun v s' tot' hv a1 a2 a3 a4 a5 g1 g2 g3 g4 => wpAny_pure (k v s' hv ⟨tot', a1, a2, a3, a4⟩ ⟨fun b o hb e => a5 b o (fun z => hb (by simp [z])) (fun z => hb (by simp [z])) e, g1, g2, g3, g4⟩)) (arg_ac_next _))))
theorem ac_endT {m it l : Addr} {xs : Array Value} {f : Nat → Int} {Q : Option Value → Shared → Prop} (hh : A.handled = none) {i : Nat} (st : AcStT m it l xs f i s) (hi : xs.size ≤ i)
    (k : ∀ s', Moved [m, it] (fun a b => b = a) s s' → Q none s') : wpAny (model prog w) A (pyNext (.ref m)) Q E s := by
  obtain ⟨tot, hm, ht, hI, hL⟩ := st
  have ty : s.TypeIs (.ref m) "itertools.accumulate" := ⟨_, hm, rfl⟩
  unfold pyNext
  refine wpAny_bind (wpAny_attempt (wpAny_callSpecial?_slot (name := Str.ofString "__next__") ty slot_ac_next (wpAny_call_entry slot_ac_next ty ent_ac_next ?_ (arg_ac_next _))))
  show wpAny _ _ (field (.ref m) 3 >>= fun q => _) _ _ s
  refine wpAny_bind (wpAny_field hm rfl (x := .none) rfl ?_)
  show wpAny _ _ (if (Value.none != Value.none) = true then _ else (_ : Sem PySem.Fin)) _ _ s
  rw [if_neg (show ¬ ((Value.none != Value.none) = true) from fun q => Bool.false_ne_true q)]
  refine wpAny_bind (wpAny_field hm rfl (x := .ref it) rfl ?_)
  refine wpAny_bind (raw_endT (by exact hh) hI hL (by simp; omega) fun h1 e hx hs => ?_)
  obtain ⟨oS, gS, cS⟩ := hs
  refine wpAny_bind (wpAny_isInstance (T := "StopIteration") (b := true) ⟨oS, gS, cS⟩ isSubtype_stop ?_)
  exact wpAny_pure (k _ ⟨fun b o hb q => hx b o (fun z => hb (by simp [z])) q, rfl, rfl, rfl, Nat.le_refl _⟩)
end
end Accu
namespace PD
open PySem PySem.Spec PyProof.Rows L2 Accu
def ItaT (K : PySem.W.Frag) (a : Addr) (ns : List Int) : It := ⟨fun i H => SqT K H a (ns.map V.int) ∧ i < ns.length, fun i H x H' => H' = H ∧ x = .int ((ns.take (i + 1)).sum), fun i H => SqT K H a (ns.map V.int) ∧ ns.length ≤ i⟩
theorem preSum_getD (ns : List Int) (i : Nat) (h : i ≤ ns.length) : preSum (fun j => ns.getD j 0) i = (ns.take i).sum := preSum_take ns i h
theorem turn_accuT {P : Program} {w : World} {K : PySem.W.Frag} {tg : Expr} {a m it : Addr} {ns : List Int} (hmi : m ≠ it) (hli : a ≠ it) (hlm : a ≠ m) :
    Turn P w K tg (ItaT K a ns) [m, it] m (fun i h => ∃ tot, IsAc h m it tot ∧ Tot i (fun j => ns.getD j 0) tot ∧ h.IsTupleIter it a i) where
  mem := by simp
  obj := fun i h st b hb => by
    obtain ⟨tot, h1, _, o, e, c, d⟩ := st
    have e' : b = m ∨ b = it := by simpa using hb
    rcases e' with q | q
    · rw [q]; exact ⟨_, h1, fun v z => nomatch z⟩
    · rw [q]; exact ⟨o, e, fun v z => by rw [d] at z; cases z⟩
  keep := fun i h h' st k => by
    obtain ⟨tot, h1, t, h2⟩ := st
    exact ⟨tot, k m (by simp) _ h1, t, h2.at fun o q => k it (by simp) o q⟩
  item := by
    intro X hP hw hK hc i pins s σ H E I hf st hg
    subst hP hw hK
    obtain ⟨hq, hi⟩ := hg
    obtain ⟨its, rv, p, _⟩ := I.tuple hq
    have hlen : its.length = ns.length := by rw [← rv.length, List.length_map]
    have hff : ∀ (j : Nat) (v : Value), its.toArray[j]? = some v → ∃ t, v = .int (ns.getD j 0) t := fun j v ej => by
      rw [List.getElem?_toArray] at ej
      obtain ⟨y, ey, ry⟩ := vals_get' rv ej
      rw [List.getElem?_map] at ey
      cases en : ns[j]? with
      | none => rw [en] at ey; cases ey
      | some n =>
        rw [en] at ey
        cases ey
        rw [List.getD_eq_getElem?_getD, en]
        exact ry
    obtain ⟨tot, h1, t, h2⟩ := st
    refine ac_itemT (f := fun j => ns.getD j 0) (xs := its.toArray) hff ⟨tot, h1, t, h2, p⟩ (by rw [List.size_toArray]; omega) hmi hli hlm fun v s' hv st' mv => ?_
    obtain ⟨u, rfl⟩ := hv
    have es := Moved.eq_with mv
    obtain ⟨tot', k1, k2, k3, _⟩ := st'
    rw [es]
    have I1 : Inv X pins σ H { s with heap := s'.heap, toks := s'.toks } := I.turnedL (ch := [m, it]) (fun b o hb e => mv.heap b o hb e) hf
    have eo : ({ s with heap := s'.heap, toks := s'.toks } : Shared).heap.get? m = _ := k1
    refine ⟨_, rfl, go_of (n := "itertools.accumulate") eo rfl rfl (by decide) ⟨.int (preSum (fun j => ns.getD j 0) (i + 1)), H, I1, ⟨u, rfl⟩, ⟨rfl, ?_⟩, ⟨tot', k1, k2, k3⟩, fun b hb => (hf b hb).1⟩⟩
    rw [preSum_getD ns (i + 1) (by omega)]
  done := by
    intro X hP hw hK hc i pins s σ H E I hf st hg
    subst hP hw hK
    obtain ⟨hq, hi⟩ := hg
    obtain ⟨its, rv, p, _⟩ := I.tuple hq
    have hlen : its.length = ns.length := by rw [← rv.length, List.length_map]
    obtain ⟨tot, h1, t, h2⟩ := st
    refine ac_endT (f := fun j => ns.getD j 0) (xs := its.toArray) (I.ok.hd hc) ⟨tot, h1, t, h2, p⟩ (by rw [List.size_toArray]; omega) fun s' mv => ?_
    have es := Moved.eq_with mv
    rw [es]
    exact ⟨rfl, I.turnedL (ch := [m, it]) (fun b o hb e => mv.heap b o hb e) hf⟩
  self := fun A i s Q E st hQ => by
    obtain ⟨tot, hm, _⟩ := st
    have ty : s.TypeIs (.ref m) "itertools.accumulate" := ⟨_, hm, rfl⟩
    refine wpAny_pyIter_slot ty slot_ac_iter (wpAny_call_entry slot_ac_iter ty ent_ac_iter ?_ (arg_ac_iter _))
    show wpAny _ _ (ret (.ref m)) _ _ s
    exact wpAny_pure ⟨_, rfl, "itertools.accumulate", _, ty, slot_ac_next.lookup, hQ⟩
def iAccuT (K : PySem.W.Frag) (ta : TA) : TI := fun σ H R => ta σ H fun vs H1 => ∃ a ns, vs = [.ref a] ∧ SqT K H1 a (ns.map V.int) ∧ R (ItaT K a ns) H1
theorem pi_accuT {X : Cx} {tg e : Expr} {ta : TA} {p pos : Pos} (hg : Gl X "accumulate") (hm : X.mg "accumulate" = some (.type "itertools.accumulate")) (ha : PA X [e] ta)
    (hs : starEach [e] X.env = (false, eval e X.env) :: starEach [] X.env := by rfl) : PI X tg (.Call (.Name "accumulate" p) [e] [] pos) (iAccuT X.K ta) := by
  refine ⟨fun pins s σ H R I h => ?_⟩
  refine Call_ (ld_glob I hg hm (PyProof.Rows.callWith_type1 (thn (ha.run pos pins s σ H _ I h) fun us s1 ⟨vs, H1, I1, r1, q1⟩ => ?_) hs rfl))
  obtain ⟨a, ns, ex, sq, q⟩ := q1
  subst ex
  cases r1 with
  | cons r rr =>
    cases rr
    cases r
    obtain ⟨its, rv, pt, _⟩ := I1.tuple sq
    obtain ⟨o1, ho1, _⟩ := id pt
    have hal : a < s1.heap.objs.size := Heap.lt_size ho1
    refine Accu.call_ac (wpAny_pyIter_tuple (show s1.heap.IsTuple a its.toArray from pt) ?_)
    have k0 : ∀ b o, s1.heap.get? b = some o → ((s1.heap.push { cls := .type "tuple_iterator", data := .fields #[.ref a, .int 0 0] }).push { cls := .type "itertools.accumulate", data := .fields #[.ref s1.heap.objs.size, .none, Builtin.Itertools.itNothing, .none] }).get? b = some o := fun b o q =>
      Heap.get?_push_of_some _ (Heap.get?_push_of_some _ q)
    have kit : (s1.heap.push { cls := .type "tuple_iterator", data := .fields #[.ref a, .int 0 0] }).get? s1.heap.objs.size = some { cls := .type "tuple_iterator", data := .fields #[.ref a, .int 0 0] } := Heap.get?_push_size _ rfl
    have sz1 : (s1.heap.push { cls := .type "tuple_iterator", data := .fields #[.ref a, .int 0 0] }).objs.size = s1.heap.objs.size + 1 := Heap.size_push ..
    have I2 : Inv X pins σ H1 { s1 with heap := (s1.heap.push { cls := .type "tuple_iterator", data := .fields #[.ref a, .int 0 0] }).push { cls := .type "itertools.accumulate", data := .fields #[.ref s1.heap.objs.size, .none, Builtin.Itertools.itNothing, .none] } } := I1.kept (t' := s1.toks) k0
    have hm : (s1.heap.push { cls := .type "tuple_iterator", data := .fields #[.ref a, .int 0 0] }).objs.size ≠ s1.heap.objs.size := by rw [sz1]; exact Nat.succ_ne_self _
    have T := turn_accuT (P := X.prog) (w := X.w) (K := X.K) (tg := tg) (ns := ns) hm (Nat.ne_of_lt hal) (show a ≠ (s1.heap.push { cls := .type "tuple_iterator", data := .fields #[.ref a, .int 0 0] }).objs.size by rw [sz1]; exact Nat.ne_of_lt (Nat.lt_succ_of_lt hal))
    have st0 : ∃ tot, IsAc ((s1.heap.push { cls := .type "tuple_iterator", data := .fields #[.ref a, .int 0 0] }).push { cls := .type "itertools.accumulate", data := .fields #[.ref s1.heap.objs.size, .none, Builtin.Itertools.itNothing, .none] }) (s1.heap.push { cls := .type "tuple_iterator", data := .fields #[.ref a, .int 0 0] }).objs.size s1.heap.objs.size tot ∧ Tot 0 (fun j => ns.getD j 0) tot ∧ ((s1.heap.push { cls := .type "tuple_iterator", data := .fields #[.ref a, .int 0 0] }).push { cls := .type "itertools.accumulate", data := .fields #[.ref s1.heap.objs.size, .none, Builtin.Itertools.itNothing, .none] }).IsTupleIter s1.heap.objs.size a 0 :=
      ⟨Builtin.Itertools.itNothing, Heap.get?_push_size _ rfl, .inl ⟨rfl, rfl⟩, ⟨_, Heap.get?_push_of_some _ kit, rfl, rfl⟩⟩
    obtain ⟨tot, z1, z2, z3⟩ := st0
    have ty : ({ s1 with heap := (s1.heap.push { cls := .type "tuple_iterator", data := .fields #[.ref a, .int 0 0] }).push { cls := .type "itertools.accumulate", data := .fields #[.ref s1.heap.objs.size, .none, Builtin.Itertools.itNothing, .none] } } : Shared).TypeIs (.ref (s1.heap.push { cls := .type "tuple_iterator", data := .fields #[.ref a, .int 0 0] }).objs.size) "itertools.accumulate" := ⟨_, z1, rfl⟩
    refine T.self _ 0 _ _ _ ⟨tot, z1, z2, z3⟩ ?_
    refine ⟨_, [(s1.heap.push { cls := .type "tuple_iterator", data := .fields #[.ref a, .int 0 0] }).objs.size, s1.heap.objs.size], _, _, H1, rfl, I2, T, ⟨tot, z1, z2, z3⟩, fun b hb => ?_, q⟩
    have e' : b = (s1.heap.push { cls := .type "tuple_iterator", data := .fields #[.ref a, .int 0 0] }).objs.size ∨ b = s1.heap.objs.size := by simpa using hb
    have hle : s1.heap.objs.size ≤ b := by
      rcases e' with z | z
      · rw [z, sz1]; exact Nat.le_succ _
      · rw [z]; exact Nat.le_refl _
    exact I1.fpOk hle (I1.hok.fresh hle)
/-! ### as data -/
theorem itd_accuT {K : PySem.W.Frag} {G : Hp} {a : Addr} {ns : List Int} (h : SqT K G a (ns.map V.int)) : Itd K (ItaT K a ns) G ((runs 0 ns).map .int) where
  go := fun i H g hi => by
    rw [List.length_map, runs_length] at hi
    exact ⟨sqt_mono g h, hi⟩
  stop := fun i H g hi => by
    rw [List.length_map, runs_length] at hi
    exact ⟨sqt_mono g h, hi⟩
  yld := fun i T G' H x H' g1 g2 tp hi y => by
    rw [List.length_map, runs_length] at hi
    obtain ⟨rfl, rfl⟩ := y
    refine ⟨G', .int ((ns.take (i + 1)).sum), ?_, Step.refl g2 tp, .int _⟩
    rw [List.getElem?_map, runs_get ns 0 i hi, Int.zero_add]
    rfl
section
variable {K : PySem.W.Frag} {ρ : Rho} {ta : TE}
theorem it_accuT {ns : List Int} (h : Pd K ta ρ (.tuple (ns.map .int))) : Pitd K (iAccuT K (tCons ta tNil)) ρ ((runs 0 ns).map .int) := fun T H0 G H σ gh tp D R q =>
  (ya_d h ya_n).bind gh tp D fun ss vs G1 H1 p s gh1 tp1 D1 ar => by
    subst p
    cases ar with
    | cons r1 ar =>
      cases ar
      cases r1 with
      | @tup a us _ e1 a1 =>
        have := a1.ints
        subst this
        exact ⟨a, ns, rfl, sqt_mono gh1 e1, q _ _ G1 H1 rfl s (itd_accuT e1)⟩
end
end PD

set_option maxHeartbeats 4000000
namespace PD
open PySem PySem.Spec PyProof.Rows L2
/-! ### truth of a list, membership, sorted, set -/
def tTru (K : PySem.W.Frag) (ta : TE) : TT := fun σ H Q => ta σ H fun x H' => ∃ k, TruV K x H' k ∧ Q k H'
section
variable {X : Cx} {a : Expr} {ta : TE}
theorem pt_tru (ha : PE X a ta) (he : ∀ whole, isTrue a X.env whole = (do let v ← whole; standAt a.pos; holding [v] (truthy v))) : PT X a (tTru X.K ta) := pt_truth ha he
theorem op_in_seqK {K : PySem.W.Frag} (h : X.K = K) : OpR X (compareOp .In) (rIn K false) := h ▸ op_in_seq
theorem op_notIn_seqK {K : PySem.W.Frag} (h : X.K = K) : OpR X (compareOp .NotIn) (rIn K true) := h ▸ op_notIn_seq
/-- set(t), t a tuple of ints -/
def rSetI (K : PySem.W.Frag) (w : World) : List V → Hp → VK → Prop := fun xs H Q => ∃ (p0 : Addr) (ns : List Int), xs = [V.ref p0] ∧ SqT K H p0 (ns.map V.int) ∧ ns.length ≤ 1000 ∧ ∀ p c, H p = none → c ≤ ns.length → Q (.ref p) (upd H p (SetO w p (fun j => decide (j ∈ ns)) c))
theorem cr_setI (hc : X.calm = true) : CallR X (.type "set") (rSetI X.K X.w) := by
  intro pins s σ H xs us Q I r h
  obtain ⟨p0, ns, rfl, hq, hl, q⟩ := h
  rw [Vals.ref1 r]
  obtain ⟨its, rv, pt, hz⟩ := I.tuple hq
  have hi : IntsAre its.toArray.toList ns := ints_of_vals rv
  refine call_set_tupI ns (I.ok.hd hc) (show s.heap.IsTuple p0 its.toArray from pt) hi (by unfold scanBound; omega) fun h' tk c R1 hcn k => ?_
  exact ⟨.ref _, upd H s.heap.objs.size (SetO X.w s.heap.objs.size (fun j => decide (j ∈ ns)) c), I.laid (t' := tk) k (Nat.le_refl _) (setO_new R1), rfl, q _ c (I.hok.fresh (Nat.le_refl _)) hcn⟩
end
section
variable {K : PySem.W.Frag} {ρ : Rho} {ta tb : TE} {P : PyData → Prop}
theorem yt_truR {xs : List PyData} (h : Rl K ta ρ (fun x => x = xs)) : Ptd K (tTru K ta) ρ (!xs.isEmpty) := fun T H0 G H σ gh tp D Q q =>
  h.bind gh tp D fun ys p vs G1 H1 e s gh1 tp1 D1 rd a => by
    subst e
    refine ⟨!ys.isEmpty, .inl ⟨vs, rd.sq gh1, ?_⟩, q _ G1 H1 rfl s⟩
    cases a <;> rfl
theorem yt_truT {xs : List PyData} (h : Pd K ta ρ (.tuple xs)) : Ptd K (tTru K ta) ρ (!xs.isEmpty) := fun T H0 G H σ gh tp D Q q =>
  h.bind gh tp D fun y v G1 H1 e s gh1 tp1 D1 a => by
    subst e
    cases a with
    | @tup p vs _ e1 a1 =>
      refine ⟨!xs.isEmpty, .inr (.inl ⟨vs, sqt_mono gh1 e1, ?_⟩), q _ G1 H1 rfl s⟩
      cases a1 <;> rfl
theorem inV_ints (x : Int) : ∀ ns : List Int, inV (.int x) (ns.map V.int) = decide (x ∈ ns)
  | [] => rfl
  | n :: ns => by
    show (eqV (.int n) (.int x) || inV (.int x) (ns.map V.int)) = _
    rw [inV_ints x ns]
    show ((n == x) || decide (x ∈ ns)) = decide (x ∈ n :: ns)
    by_cases h : x = n
    · subst h
      simp
    · simp [h, Ne.symm h]
theorem flat_ints (ns : List Int) : (ns.map V.int).all flatV = true := by
  rw [List.all_eq_true]
  intro v hv
  obtain ⟨n, _, rfl⟩ := List.mem_map.mp hv
  rfl
theorem yd_inR {neg : Bool} {x : Int} {ns : List Int} (ha : Pd K ta ρ (.int x)) (hb : Rl K tb ρ (fun y => y = ns.map .int)) : Pd K (tOp (rIn K neg) ta tb) ρ (.bool (if neg then !decide (x ∈ ns) else decide (x ∈ ns))) := fun T H0 G H σ gh tp D Q q =>
  ha.bind gh tp D fun y v G1 H1 p1 s1 gh1 tp1 D1 x1 => hb.bind gh1 tp1 D1 fun ys p vs G2 H2 e s2 gh2 tp2 D2 rd a => by
    subst p1 e
    cases x1
    have := a.ints
    subst this
    refine ⟨p, _, rfl, .inl (rd.sq gh2), rfl, flat_ints ns, ?_⟩
    rw [inV_ints]
    exact q _ _ G2 H2 rfl (s1.trans s2) (.bl _)
theorem yd_inT {neg : Bool} {x : Int} {ns : List Int} (ha : Pd K ta ρ (.int x)) (hb : Pd K tb ρ (.tuple (ns.map .int))) : Pd K (tOp (rIn K neg) ta tb) ρ (.bool (if neg then !decide (x ∈ ns) else decide (x ∈ ns))) := fun T H0 G H σ gh tp D Q q =>
  ha.bind gh tp D fun y v G1 H1 p1 s1 gh1 tp1 D1 x1 => hb.bind gh1 tp1 D1 fun y2 u G2 H2 e s2 gh2 tp2 D2 x2 => by
    subst p1 e
    cases x1
    cases x2 with
    | @tup p vs _ e1 a1 =>
      have := a1.ints
      subst this
      refine ⟨p, _, rfl, .inr (sqt_mono gh2 e1), rfl, flat_ints ns, ?_⟩
      rw [inV_ints]
      exact q _ _ G2 H2 rfl (s1.trans s2) (.bl _)
/-- sorted(xs), ints -/
theorem nl_sorted {ns : List Int} (ha : Rl K ta ρ (fun x => x = ns.map .int)) : Nl K (tCB (rSortedI K) (tCons ta tNil)) ρ (fun ys => ∃ ns' : List Int, ys = ns'.map .int ∧ ns'.Perm ns ∧ ns'.Pairwise (· ≤ ·)) := fun T H0 G H σ gh tp D Q q =>
  ha.bind gh tp D fun xs p vs G1 H1 e s1 gh1 tp1 D1 rd a => by
    subst e
    have := a.ints
    subst this
    refine ⟨p, ns, rfl, rd.sq gh1, fun ns' p' hp hs hn => ?_⟩
    exact q (ns'.map .int) p' (ns'.map V.int) G1 _ ⟨ns', rfl, hp, hs⟩ (s1.trans (Step.newM gh1 tp1 hn)) (s1.no hn (tape_some tp1 hn)) (tape_some tp1 hn) (gh1.free hn) upd_same (DnAll.of_ints ns')
/-- sorted(set(t)) -/
theorem nl_sortedSet {w : World} {ns : List Int} (ha : Pd K ta ρ (.tuple (ns.map .int))) (hl : ns.length < 64) : Nl K (tCB (rSortedSet w) (tCons (tCB (rSetI K w) (tCons ta tNil)) tNil)) ρ (fun ys => ∃ ns' : List Int, ys = ns'.map .int ∧ ns'.Pairwise (· < ·) ∧ ∀ k, k ∈ ns' ↔ k ∈ ns) := fun T H0 G H σ gh tp D Q q =>
  ha.bind gh tp D fun y v G1 H1 e s1 gh1 tp1 D1 x => by
    subst e
    cases x with
    | @tup p vs _ e1 a1 =>
      have := a1.ints
      subst this
      refine ⟨p, ns, rfl, sqt_mono gh1 e1, by omega, fun p1 c hn hc => ?_⟩
      have s2 := Step.newM (o := SetO w p1 (fun j => decide (j ∈ ns)) c) gh1 tp1 hn
      refine ⟨p1, _, c, rfl, upd_same, by omega, fun ns' p2 hs hm hlen hn2 => ?_⟩
      have nt2 := tape_some s2.tp hn2
      exact q (ns'.map .int) p2 (ns'.map V.int) G1 _ ⟨ns', rfl, hs, fun k => (hm k).trans decide_eq_true_iff⟩ ((s1.trans s2).trans (Step.newM s2.gh s2.tp hn2)) ((s1.trans s2).no hn2 nt2) nt2 (s2.gh.free hn2) upd_same (DnAll.of_ints ns')
end
end PD
namespace PD
open PySem PySem.Spec PyProof.Rows L2
/-! ### comprehensions of two clauses -/
/-- a step but for one object -/
structure StepX (D : Addr) (T : Addr → Prop) (G H G' H' : Hp) : Prop where
  g : Same G G'
  h : ∀ p o, ¬ T p → p ≠ D → H p = some o → H' p = some o
  fr : ∀ p, p ≠ D → G p = none → H p ≠ none → G' p = none
theorem StepX.refl {D : Addr} {T : Addr → Prop} {G H : Hp} : StepX D T G H G H := ⟨Same.refl _, fun _ _ _ _ e => e, fun _ _ e _ => e⟩
theorem StepX.step {D : Addr} {T : Addr → Prop} {G H G1 H1 G2 H2 : Hp} (a : StepX D T G H G1 H1) (s : Step T G1 H1 G2 H2) : StepX D T G H G2 H2 where
  g := a.g.trans s.g
  h := fun p o nt ne e => s.h p o nt (a.h p o nt ne e)
  fr := fun p ne e n => by
    by_cases t : T p
    · obtain ⟨b, ns, x, y, m, _, _, ea, _⟩ := s.tp p t
      exact ea
    · refine s.fr p (a.fr p ne e n) fun z => ?_
      cases q : H p with
      | none => exact n q
      | some o =>
        rw [a.h p o t ne q] at z
        cases z
theorem StepX.upd {D : Addr} {T : Addr → Prop} {G H G1 H1 : Hp} {o : HO} (a : StepX D T G H G1 H1) : StepX D T G H G1 (L2.upd H1 D o) := ⟨a.g, fun p u nt ne e => by rw [upd_ne ne]; exact a.h p u nt ne e, a.fr⟩
theorem Den.skip {D : Addr} {T : Addr → Prop} {K : PySem.W.Frag} {H0 G H G' H' : Hp} {σ : L2.St} {ρ : Rho} (h : Den T K H0 G H σ ρ) (hD : H0 D ≠ none) (s : StepX D T G H G' H') : Den T K H0 G' H' σ ρ := by
  refine ⟨h.len, fun i x o e1 e2 => ?_, h.one⟩
  have old := h.ok i x o e1 e2
  cases x with
  | no => trivial
  | d x => exact let ⟨v, e, d⟩ := old; ⟨v, e, d.mono s.g⟩
  | tp => exact old
  | rf a => exact old
  | rg lo hi => exact let ⟨a, e, g⟩ := old; ⟨a, e, s.g _ _ g⟩
  | ml xs =>
    obtain ⟨l, vs, e, hl, d, gl, h0, nt⟩ := old
    have ne : l ≠ D := fun z => hD (z ▸ h0)
    exact ⟨l, vs, e, s.h l _ nt ne hl, d.mono s.g, s.fr l ne gl (by rw [hl]; intro z; cases z), h0, nt⟩
/-- one address more is taken -/
theorem Den.taken {D : Addr} {T : Addr → Prop} {K : PySem.W.Frag} {H0 G H : Hp} {σ : L2.St} {ρ : Rho} {o : HO} (h : Den T K H0 G H σ ρ) (hD : H D = none) : Den T K (upd H0 D o) G H σ ρ := by
  refine ⟨h.len, fun i x u e1 e2 => ?_, h.one⟩
  have old := h.ok i x u e1 e2
  cases x with
  | no => trivial
  | d x => exact old
  | tp => exact old
  | rf a => exact old
  | rg lo hi => exact old
  | ml xs =>
    obtain ⟨l, vs, e, hl, d, gl, h0, nt⟩ := old
    exact ⟨l, vs, e, hl, d, gl, by rw [upd_ne (ne_of_none hl hD)]; exact h0, nt⟩
theorem flat_len {F inner : PyData → List PyData} (h : ∀ x, (F x).length ≤ (inner x).length) : ∀ xs : List PyData, (xs.flatMap F).length ≤ (xs.flatMap inner).length
  | [] => Nat.le_refl _
  | x :: xs => by
    rw [List.flatMap_cons, List.flatMap_cons, List.length_append, List.length_append]
    have := h x
    have := flat_len h xs
    omega
theorem flat_take {inner : PyData → List PyData} {xs : List PyData} {i : Nat} {d : PyData} (e : xs[i]? = some d) : ((xs.take i).flatMap inner).length + (inner d).length ≤ (xs.flatMap inner).length := by
  have hi := (List.getElem?_eq_some_iff.mp e).1
  have q : xs.flatMap inner = (xs.take (i + 1)).flatMap inner ++ (xs.drop (i + 1)).flatMap inner := by rw [← List.flatMap_append, List.take_append_drop]
  rw [q, List.take_add_one, e, List.flatMap_append, List.length_append, List.length_append]
  simp
theorem wipe_twice {σ σ' : L2.St} {vs sl : List Nat} (hsl : ∀ i ∈ sl, i ∈ vs) (hl : σ'.length = (L2.wipe σ vs).length) (hf : ∀ i, i ∉ sl → σ'[i]? = (L2.wipe σ vs)[i]?) : L2.wipe σ' vs = L2.wipe σ vs := by
  refine (wipe_eq hl fun j hj => hf j fun z => hj (hsl j z)).trans ?_
  refine wipe_eq (wipe_length σ vs) fun j hj => ?_
  rw [wipe_at, if_neg (fun z => hj z.1)]
theorem tYes_go {σ : L2.St} {H : Hp} {A B : Hp → Prop} (h : A H) : tYes σ H (fun b H3 => if b = true then A H3 else B H3) := by
  show (if true = true then A H else B H)
  rw [if_pos rfl]
  exact h
section
variable {K : PySem.W.Frag} {ρ : Rho} {te : TE}
theorem nd_lc2k {wi wi1 : TI} {g g1 : TG} {tt1 : TT} {vs vs1 sl sl1 : List Nat} {xs : List PyData} (inner : PyData → List PyData) (keep : PyData → PyData → Bool) (f : PyData → PyData → PyData) (hi : Pitd K wi ρ xs) (hsl : ∀ i ∈ sl, i ∈ vs) (hsl1 : ∀ i ∈ sl1, i ∈ vs1)
    (hz : (xs.flatMap inner).length ≤ sizeLine)
    (hb : ∀ x, x ∈ xs → ∃ r', Pg K g sl x (wipeR ρ vs) r' ∧ Pitd K wi1 r' (inner x) ∧ ∀ y, y ∈ inner x → ∃ r2, Pg K g1 sl1 y (wipeR r' vs1) r2 ∧ Ptd K tt1 r2 (keep x y) ∧ (keep x y = true → Pd K te r2 (f x y))) :
    Nld K (tLc2 wi g tYes wi1 g1 tt1 te vs vs1) ρ (xs.flatMap fun x => ((inner x).filter (keep x)).map (f x)) := fun T H0 G H σ gh tp D Q q => by
  have flen : ∀ x, (((inner x).filter (keep x)).map (f x)).length ≤ (inner x).length := fun x => by rw [List.length_map]; exact List.length_filter_le ..
  refine hi T H0 G H σ gh tp D _ fun xs' J G1 H1 hx s1 it Dl hD => ?_
  subst hx
  have nt : ¬ T Dl := tape_some s1.tp hD
  have gd : G1 Dl = none := s1.gh.free hD
  have hD0 : (upd H0 Dl (.lst [])) Dl ≠ none := by rw [upd_same]; intro z; cases z
  have Dn1 := ((D.mono s1).taken (o := .lst []) hD).wipe vs
  refine ⟨fun i m H => m = xs'.length - i ∧ i ≤ xs'.length ∧ ∃ G acc, Step T G1 H1 G H ∧ H Dl = some (.lst acc) ∧ G Dl = none ∧ DnAll K G acc ((xs'.take i).flatMap fun x => ((inner x).filter (keep x)).map (f x)),
    ⟨xs'.length, by simp, Nat.zero_le _, G1, [], Step.newM s1.gh s1.tp hD, upd_same, gd, .nil⟩, ?_⟩
  rintro i m H2 ⟨rfl, hil, G2, acc, s2, hacc, g2d, da⟩
  have g2 : Same G1 H2 := s2.g.trans s2.gh
  by_cases hlt : i < xs'.length
  · refine .inr ⟨it.go i H2 g2 hlt, fun H' => ∃ G acc, Step T G1 H1 G H' ∧ H' Dl = some (.lst acc) ∧ G Dl = none ∧ DnAll K G acc ((xs'.take (i + 1)).flatMap fun x => ((inner x).filter (keep x)).map (f x)), fun H' p => ⟨xs'.length - (i + 1), by omega, rfl, hlt, p⟩, fun x H' y => ?_⟩
    obtain ⟨G3, d, ed, s3, dx⟩ := it.yld i T G2 H2 x H' s2.g s2.gh s2.tp hlt y
    obtain ⟨r', hg, hi1, he⟩ := hb d (List.mem_of_getElem? ed)
    have s13 := s2.trans s3
    have hD2 : H2 Dl ≠ none := by rw [hacc]; intro z; cases z
    refine hg T (upd H0 Dl (.lst [])) G3 H' _ x s3.gh (Dn1.mono s13) dx _ fun σ2 D' hl hf => ⟨wipe_twice hsl hl hf, ?_⟩
    refine tYes_go ?_
    refine hi1 T _ G3 H' σ2 s3.gh s3.tp D' _ fun ys J1 G4 H4 hys s4 it1 => ?_
    subst hys
    have s14 := s13.trans s4
    have a4 : H4 Dl = some (.lst acc) := s4.h _ _ nt (s3.h _ _ nt hacc)
    have g4d : G4 Dl = none := s4.fr _ (s3.fr _ g2d hD2) (s3.so hD2)
    have da4 := (da.mono s3.g).mono s4.g
    have D4 := D'.mono s4
    refine ⟨fun j k H => k = (inner d).length - j ∧ j ≤ (inner d).length ∧ ∃ G acc, Step T G1 H1 G H ∧ StepX Dl T G4 H4 G H ∧ H Dl = some (.lst acc) ∧ G Dl = none ∧ DnAll K G acc ((xs'.take i).flatMap (fun x => ((inner x).filter (keep x)).map (f x)) ++ (((inner d).take j).filter (keep d)).map (f d)),
      ⟨(inner d).length, by simp, Nat.zero_le _, G4, acc, s14, .refl, a4, g4d, by simpa using da4⟩, ?_⟩
    rintro j k H5 ⟨rfl, hjl, G5, acc5, s15, x45, a5, g5d, da5⟩
    have g45 : Same G4 H5 := x45.g.trans s15.gh
    have Dw := (D4.skip hD0 x45).wipe vs1
    by_cases hlt1 : j < (inner d).length
    · refine .inr ⟨it1.go j H5 g45 hlt1, fun H => ∃ G acc, Step T G1 H1 G H ∧ StepX Dl T G4 H4 G H ∧ H Dl = some (.lst acc) ∧ G Dl = none ∧ DnAll K G acc ((xs'.take i).flatMap (fun x => ((inner x).filter (keep x)).map (f x)) ++ (((inner d).take (j + 1)).filter (keep d)).map (f d)), fun H' p => ⟨(inner d).length - (j + 1), by omega, rfl, hlt1, p⟩, fun z H6 y1 => ?_⟩
      obtain ⟨G6, e, ee, s6, dz⟩ := it1.yld j T G5 H5 z H6 x45.g s15.gh s15.tp hlt1 y1
      obtain ⟨r2, hg1, ht1, he1⟩ := he e (List.mem_of_getElem? ee)
      have hD5 : H5 Dl ≠ none := by rw [a5]; intro z; cases z
      have s16 := s15.trans s6
      refine hg1 T _ G6 H6 _ z s6.gh (Dw.mono s6) dz _ fun σ3 D6 hl1 hf1 => ⟨wipe_twice hsl1 hl1 hf1, ?_⟩
      refine ht1 T _ G6 H6 σ3 s6.gh s6.tp D6 _ fun b G7 H7 pb s7 => ?_
      subst pb
      have s17 := s16.trans s7
      have x47 := (x45.step s6).step s7
      have a7 : H7 Dl = some (.lst acc5) := s7.h _ _ nt (s6.h _ _ nt a5)
      have g7d : G7 Dl = none := s7.fr _ (s6.fr _ g5d hD5) (s6.so hD5)
      have da7 := (da5.mono s6.g).mono s7.g
      have et : (((inner d).take (j + 1)).filter (keep d)).map (f d) = (((inner d).take j).filter (keep d)).map (f d) ++ (if keep d e = true then [f d e] else []) := by
        rw [List.take_add_one, ee, List.filter_append, List.map_append]
        congr 1
        show (List.filter (keep d) [e]).map (f d) = _
        cases hk : keep d e with
        | true => simp [hk]
        | false => simp [hk]
      cases hk : keep d e with
      | true =>
        rw [hk] at et
        rw [if_pos rfl] at et
        rw [if_pos rfl]
        have D7 := D6.mono s7
        refine (he1 hk).bind s7.gh s7.tp D7 fun w v G8 H8 p8 s8 gh8 tp8 D8 x8 => ?_
        subst p8
        have a8 : H8 Dl = some (.lst acc5) := s8.h _ _ nt a7
        have g8d : G8 Dl = none := s8.fr _ g7d (by rw [a7]; intro z; cases z)
        have s18 := s17.trans s8
        refine ⟨acc5, a8, ?_, G8, acc5 ++ [v], ?_, (x47.step s8).upd, upd_same, g8d, ?_⟩
        · have l5 := da5.length
          rw [List.length_append, List.length_map] at l5
          have f1 := flat_len flen (xs'.take i)
          have f2 := flat_take (inner := inner) ed
          have f3 := List.length_filter_le (keep d) ((inner d).take j)
          rw [List.length_take] at f3
          omega
        · refine ⟨s18.g, fun c u e => ?_, fun p o np ep => ?_, s18.fr, fun a t => ?_⟩
          · rw [upd_ne (ne_of_none e g8d)]
            exact gh8 _ _ e
          · rw [upd_ne (ne_of_none ep hD)]
            exact s18.h p o np ep
          · have z := tp8 a t
            obtain ⟨b, ns, x, y, m, e, eb, ea, r⟩ := id z
            exact z.mono (Same.refl _) (upd_ne (fun w => nt (w ▸ t))) ea
        · rw [et, ← List.append_assoc]
          exact (da7.mono s8.g).append (.cons x8 .nil)
      | false =>
        rw [hk] at et
        rw [if_neg Bool.false_ne_true, List.append_nil] at et
        rw [if_neg Bool.false_ne_true]
        refine ⟨G7, acc5, s17, x47, a7, g7d, ?_⟩
        rw [et]
        exact da7
    · have e1 : j = (inner d).length := by omega
      subst e1
      rw [List.take_of_length_le (Nat.le_refl _)] at da5
      refine .inl ⟨it1.stop _ H5 g45 (Nat.le_refl _), G5, acc5, s15, a5, g5d, ?_⟩
      rw [List.take_add_one, ed, List.flatMap_append]
      simpa using da5
  · have e1 : i = xs'.length := by omega
    subst e1
    rw [List.take_of_length_le (Nat.le_refl _)] at da
    refine .inl ⟨it.stop _ H2 g2 (Nat.le_refl _), q _ Dl acc G2 H2 rfl (s1.trans s2) ?_ nt g2d hacc da⟩
    exact s1.no hD nt
theorem nd_lc2 {wi wi1 : TI} {g g1 : TG} {vs vs1 sl sl1 : List Nat} {xs : List PyData} (inner : PyData → List PyData) (f : PyData → PyData → PyData) (hi : Pitd K wi ρ xs) (hsl : ∀ i ∈ sl, i ∈ vs) (hsl1 : ∀ i ∈ sl1, i ∈ vs1)
    (hz : (xs.flatMap inner).length ≤ sizeLine)
    (hb : ∀ x, x ∈ xs → ∃ r', Pg K g sl x (wipeR ρ vs) r' ∧ Pitd K wi1 r' (inner x) ∧ ∀ y, y ∈ inner x → ∃ r2, Pg K g1 sl1 y (wipeR r' vs1) r2 ∧ Pd K te r2 (f x y)) :
    Nld K (tLc2 wi g tYes wi1 g1 tYes te vs vs1) ρ (xs.flatMap fun x => (inner x).map (f x)) := by
  have h := nd_lc2k inner (fun _ _ => true) f hi hsl hsl1 hz fun x hx => let ⟨r', a, b, c⟩ := hb x hx; ⟨r', a, b, fun y hy => let ⟨r2, a2, b2⟩ := c y hy; ⟨r2, a2, yt_yes, fun _ => b2⟩⟩
  have e : (xs.flatMap fun x => ((inner x).filter fun _ => true).map (f x)) = xs.flatMap fun x => (inner x).map (f x) := by
    congr 1
    funext x
    rw [filter_all]
  rw [e] at h
  exact h
end
end PD
namespace PD
open PySem PySem.Spec PyProof.Rows L2
theorem nl_slR {K : PySem.W.Frag} {ρ : Rho} {ta : TE} {PL PM : List PyData → Prop} {tl th : TO} {lo hi : Option Int} (ha : Rl K ta ρ PL) (hl : Pod K tl ρ lo) (hh : Pod K th ρ hi) (h : ∀ xs, PL xs → PM (cut xs lo hi)) : Nl K (tSl (rSlX K) ta tl th) ρ PM := fun T H0 G H σ gh tp D Q q =>
  ha.bind gh tp D fun x p vs G1 H1 p1 s1 gh1 tp1 D1 rd a1 => hl.bind gh1 tp1 D1 fun o1 G2 H2 p2 s2 gh2 tp2 D2 => hh.bind gh2 tp2 D2 fun o2 G3 H3 p3 s3 gh3 tp3 D3 => by
    subst p2 p3
    have s := (s1.trans s2).trans s3
    exact .inl ⟨p, vs, rfl, ((rd.mono s2).mono s3).sq gh3, new_end gh3 tp3 (((a1.mono s2.g).mono s3.g).cut o1 o2) fun p G' H' s' hp nt gp e a' => q _ p _ G' H' (h x p1) (s.trans s') (s.no hp nt) nt gp e a'⟩
end PD

set_option maxHeartbeats 4000000
/-! zip of any number of lists and tuples -/
namespace ZN
open PySem PySem.Spec PyProof.Rows PySem.Builtin
section
variable {prog : Program} {w : World} {A : Around} {E : Value → Shared → Prop} {s : Shared}
abbrev IsZr (h : Heap) (z TI TO : Addr) (v : Value) (f : Bool) : Prop :=
  h.get? z = some { cls := .type "zip", dict := none, data := .fields #[v, .bool f, .bool false, .ref TI, .ref TO], slots := #[] }
abbrev IsTu (h : Heap) (T : Addr) (xs : Array Value) : Prop := h.get? T = some { cls := .type "tuple", data := .seq xs }
/-- kd tells which of the sources are tuples -/
def IsIt (kd : Addr → Bool) (h : Heap) (a l : Addr) (i : Nat) : Prop := if kd l = true then h.IsTupleIter a l i else h.IsListIter a l i
def IsSq (kd : Addr → Bool) (h : Heap) (l : Addr) (xs : Array Value) : Prop := if kd l = true then h.IsTuple l xs else h.IsList l xs
theorem IsIt.extBut {kd : Addr → Bool} {h h' : Heap} {a b l : Addr} {i : Nat} (x : IsIt kd h a l i) (hs : Heap.ExtBut b h h') (hab : a ≠ b) : IsIt kd h' a l i := by
  unfold IsIt at x ⊢
  split
  · rename_i q; rw [if_pos q] at x; exact x.extBut hs hab
  · rename_i q; rw [if_neg q] at x; exact x.extBut hs hab
theorem IsIt.at {kd : Addr → Bool} {h h' : Heap} {a l : Addr} {i : Nat} (x : IsIt kd h a l i) (e : ∀ o, h.get? a = some o → h'.get? a = some o) : IsIt kd h' a l i := by
  unfold IsIt at x ⊢
  split
  · rename_i q; rw [if_pos q] at x; exact x.at e
  · rename_i q; rw [if_neg q] at x; exact x.at e
theorem IsIt.obj {kd : Addr → Bool} {h : Heap} {a l : Addr} {i : Nat} (x : IsIt kd h a l i) : ∃ o, h.get? a = some o ∧ ∃ vs, o.data = .fields vs := by
  unfold IsIt at x
  split at x
  · obtain ⟨o, e, _, d⟩ := x; exact ⟨o, e, _, d⟩
  · obtain ⟨o, e, _, d⟩ := x; exact ⟨o, e, _, d⟩
theorem IsSq.at {kd : Addr → Bool} {h h' : Heap} {l : Addr} {xs : Array Value} (x : IsSq kd h l xs) (e : ∀ o, h.get? l = some o → h'.get? l = some o) : IsSq kd h' l xs := by
  unfold IsSq at x ⊢
  split
  · rename_i q; rw [if_pos q] at x; exact x.at e
  · rename_i q; rw [if_neg q] at x; exact x.at e
theorem IsSq.extBut {kd : Addr → Bool} {h h' : Heap} {l b : Addr} {xs : Array Value} (x : IsSq kd h l xs) (hs : Heap.ExtBut b h h') (hab : l ≠ b) : IsSq kd h' l xs := by
  unfold IsSq at x ⊢
  split
  · rename_i q; rw [if_pos q] at x; exact x.extBut hs hab
  · rename_i q; rw [if_neg q] at x; exact x.extBut hs hab
theorem IsSq.obj {kd : Addr → Bool} {h : Heap} {l : Addr} {xs : Array Value} (x : IsSq kd h l xs) : ∃ o, h.get? l = some o := by
  unfold IsSq at x
  split at x
  · obtain ⟨o, e, _⟩ := x; exact ⟨o, e⟩
  · obtain ⟨o, e, _⟩ := x; exact ⟨o, e⟩
theorem nextOf_item {kd : Addr → Bool} {it l : Addr} {i : Nat} {items : Array Value} {x : Value} {Q : Value → Shared → Prop} (hit : IsIt kd s.heap it l i) (hl : IsSq kd s.heap l items) (hx : items[i]? = some x)
    (hQ : ∀ h', IsIt kd h' it l (i + 1) → Heap.SameBut it s.heap h' → Q x { s with heap := h' }) : wpAny (model prog w) A (Builtin.SmallTypes.nextOf (.ref it)) Q E s := by
  unfold IsIt at hit hQ
  unfold IsSq at hl
  by_cases q : kd l = true
  · rw [if_pos q] at hit hl
    exact wpAny_nextOf_tuple_item hit hl hx fun h' a b => hQ h' (by rw [if_pos q]; exact a) b
  · rw [if_neg q] at hit hl
    exact wpAny_nextOf_list_item hit hl hx fun h' a b => hQ h' (by rw [if_neg q]; exact a) b
theorem nextOf_end {kd : Addr → Bool} {it l : Addr} {i : Nat} {items : Array Value} {Q : Value → Shared → Prop} (hh : A.handled = none) (hit : IsIt kd s.heap it l i) (hl : IsSq kd s.heap l items) (hx : items[i]? = none)
    (hE : ∀ h' e, Heap.ExtBut it s.heap h' → (∃ o, h'.get? e = some o ∧ o.cls = .type "StopIteration") → E (.ref e) { s with heap := h' }) : wpAny (model prog w) A (Builtin.SmallTypes.nextOf (.ref it)) Q E s := by
  unfold IsIt at hit
  unfold IsSq at hl
  by_cases q : kd l = true
  · rw [if_pos q] at hit hl
    exact wpAny_nextOf_tuple_end hh hit hl hx hE
  · rw [if_neg q] at hit hl
    exact wpAny_nextOf_list_end hh hit hl hx hE
theorem iter_sq {kd : Addr → Bool} {l : Addr} {xs : Array Value} {Q : Value → Shared → Prop} (hl : IsSq kd s.heap l xs)
    (hQ : ∀ o, (∃ vs, o.data = .fields vs) → (∀ h : Heap, h.get? s.heap.objs.size = some o → IsIt kd h s.heap.objs.size l 0) → (s.heap.push o).get? s.heap.objs.size = some o → Q (.ref s.heap.objs.size) { s with heap := s.heap.push o }) : wpAny (model prog w) A (pyIter (.ref l)) Q E s := by
  unfold IsSq at hl
  unfold IsIt at hQ
  by_cases q : kd l = true
  · rw [if_pos q] at hl
    exact wpAny_pyIter_tuple hl (hQ _ ⟨_, rfl⟩ (fun h e => by rw [if_pos q]; exact ⟨_, e, rfl, rfl⟩) (Heap.get?_push_size _ rfl))
  · rw [if_neg q] at hl
    exact wpAny_pyIter_list hl (hQ _ ⟨_, rfl⟩ (fun h e => by rw [if_neg q]; exact ⟨_, e, rfl, rfl⟩) (Heap.get?_push_size _ rfl))
def VOk (v : Value) : Prop := v = .none ∨ ∃ T : Addr, v = rawInt T
theorem loop_gen {M : Model} {α β : Type} {body : α → β → Sem (ForInStep β)} (I : List α → β → Shared → Prop) {Q : β → Shared → Prop}
    (step : ∀ it rest b s, I (it :: rest) b s → wpAny M A (body it b) (fun r s' => ∃ b', r = .yield b' ∧ I rest b' s') E s) (fin : ∀ b s, I [] b s → Q b s) :
    ∀ (L : List α) (b : β) (s : Shared), I L b s → wpAny M A (forIn L b body) Q E s
  | [], b, s, h => by
    rw [List.forIn_nil]
    exact wpAny_pure (fin b s h)
  | it :: L, b, s, h => by
    rw [List.forIn_cons]
    refine wpAny_bind (wpAny_mono (step it L b s h) (fun r s' ⟨b', e, h'⟩ => ?_) fun _ _ z => z)
    subst e
    exact loop_gen I step fin L b' s' h'
theorem alive_any {a : Addr} {Q : Option Obj → Shared → Prop} (h : Q (s.heap.get? a) s) : wpAny (model prog w) A (loadIfAlive a) Q E s := fun _ _ _ => h
theorem free_or_held {z TI TO : Addr} {v : Value} {f : Bool} {Q : Bool → Shared → Prop} (hz : IsZr s.heap z TI TO v f) (hv : VOk v) (hfree : Q true s)
    (hheld : ∀ h', IsZr h' z TI TO v true → Heap.SameBut z s.heap h' → Q false { s with heap := h' }) : wpAny (model prog w) A (Builtin.SmallTypes.ownedTupleIsFree (.ref z)) Q E s := by
  unfold Builtin.SmallTypes.ownedTupleIsFree
  refine wpAny_bind (wpAny_field hz rfl (x := v) rfl ?_)
  rcases hv with rfl | ⟨T, rfl⟩
  · exact wpAny_pure hfree
  · show wpAny _ _ (loadIfAlive ((T : Int).toNat) >>= _) _ _ _
    rw [Int.toNat_natCast]
    refine wpAny_bind (alive_any ?_)
    cases hT : s.heap.get? T with
    | none =>
      simp only [Option.isNone_none, if_true]
      exact wpAny_pure hfree
    | some oT =>
      simp only [Option.isNone_some, Bool.false_eq_true, if_false]
      refine wpAny_bind (wpAny_field hz rfl (x := .bool f) rfl ?_)
      cases f with
      | true =>
        rw [if_neg (show ¬ ((Value.bool true != Value.bool true) = true) from Bool.false_ne_true)]
        exact wpAny_pure (hheld s.heap hz (Heap.SameBut.refl _ _))
      | false =>
        rw [if_pos (show (Value.bool false != Value.bool true) = true from rfl)]
        exact wpAny_bind (wpAny_setField_rec hz (by simp) fun h₁ hz₁ hs₁ => wpAny_pure (hheld h₁ hz₁ hs₁))
theorem let_any {tg : Expr} {z TI TO T : Addr} {v : Value} {f : Bool} {Q : Unit → Shared → Prop} (hz : IsZr s.heap z TI TO v f) (h0 : Q () s) (h1 : ∀ h', IsZr h' z TI TO .none f → Heap.SameBut z s.heap h' → Q () { s with heap := h' }) :
    wpAny (model prog w) A (letOwnedTupleGo tg (.ref z) (.ref T)) Q E s := by
  have go : ∀ b : Bool, wpAny (model prog w) A (if b = true then (do rule "for.unpacks-the-owned-tuple"; updateField z 0 .none) else pure ()) Q E s := fun b => by
    cases b with
    | false => exact wpAny_pure h0
    | true =>
      refine wpAny_bind (wpAny_rule ?_)
      show wpAny _ _ (setField (.ref z) 0 .none) Q E s
      exact wpAny_setField_rec hz (by simp) fun h' hz' hs' => h1 h' hz' hs'
  unfold letOwnedTupleGo
  cases tg
  case Tuple => exact wpAny_bind (wpAny_load hz (go _))
  case List => exact wpAny_bind (wpAny_load hz (go _))
  all_goals exact wpAny_pure h0
structure Ap (z TI TO : Addr) (L : List (Addr × Addr)) : Prop where
  nd : (L.map (·.1)).Nodup
  zz : ∀ p ∈ L, p.1 ≠ z ∧ p.2 ≠ z
  o : ∀ p ∈ L, p.1 ≠ TO ∧ p.2 ≠ TO
  t : TI ∉ L.map (·.1)
  il : ∀ p ∈ L, p.2 ∉ L.map (·.1)
  tz : TI ≠ z
  oz : TO ≠ z
  tt : TI ≠ TO
/-- what the next turn takes of a list -/
def Rw (kd : Addr → Bool) (h : Heap) (i : Nat) (p : Addr × Addr) (x : Value) : Prop := ∃ xs : Array Value, IsSq kd h p.2 xs ∧ xs[i]? = some x
/-- iterators behind are turned, the others not yet -/
structure St (kd : Addr → Bool) (z TO : Addr) (L : List (Addr × Addr)) (i : Nat) (h0 h : Heap) (L1 L2 : List (Addr × Addr)) : Prop where
  a : ∀ p ∈ L1, IsIt kd h p.1 p.2 (i + 1)
  b : ∀ p ∈ L2, IsIt kd h p.1 p.2 i
  sz : h.objs.size = h0.objs.size
  k : ∀ c o, c ≠ z → c ≠ TO → c ∉ L.map (·.1) → h0.get? c = some o → h.get? c = some o
theorem St.more {kd : Addr → Bool} {z TI TO : Addr} {L L1 L2 : List (Addr × Addr)} {i : Nat} {h0 h h' : Heap} {p : Addr × Addr} (D : Ap z TI TO L) (e : L = L1 ++ p :: L2) (S : St kd z TO L i h0 h L1 (p :: L2)) (hp : IsIt kd h' p.1 p.2 (i + 1)) (sb : Heap.SameBut p.1 h h') : St kd z TO L i h0 h' (L1 ++ [p]) L2 := by
  have nd := D.nd
  rw [e, List.map_append, List.map_cons, List.nodup_append] at nd
  have n2 := List.nodup_cons.mp nd.2.1
  have pm : p ∈ L := by rw [e]; simp
  refine ⟨fun q hq => ?_, fun q hq => ?_, by rw [sb.1]; exact S.sz, fun c o c1 c2 c3 x => sb.extBut _ _ (fun y => c3 (by rw [y]; exact List.mem_map_of_mem pm)) (S.k c o c1 c2 c3 x)⟩
  · rcases List.mem_append.mp hq with w | w
    · exact (S.a q w).extBut sb.extBut (nd.2.2 _ (List.mem_map_of_mem w) _ List.mem_cons_self)
    · rw [List.mem_singleton.mp w]; exact hp
  · exact (S.b q (List.mem_cons_of_mem _ hq)).extBut sb.extBut fun y => n2.1 (by rw [← y]; exact List.mem_map_of_mem hq)
theorem St.other {kd : Addr → Bool} {z TI TO a : Addr} {L L1 L2 : List (Addr × Addr)} {i : Nat} {h0 h h' : Heap} (D : Ap z TI TO L) (e : L = L1 ++ L2) (S : St kd z TO L i h0 h L1 L2) (ha : a = z ∨ a = TO) (sb : Heap.SameBut a h h') : St kd z TO L i h0 h' L1 L2 := by
  have ne : ∀ p ∈ L, p.1 ≠ a := fun p hp => by
    rcases ha with rfl | rfl
    · exact (D.zz p hp).1
    · exact (D.o p hp).1
  refine ⟨fun q hq => (S.a q hq).extBut sb.extBut (ne q (by rw [e]; exact List.mem_append.mpr (.inl hq))), fun q hq => (S.b q hq).extBut sb.extBut (ne q (by rw [e]; exact List.mem_append.mpr (.inr hq))), by rw [sb.1]; exact S.sz, fun c o c1 c2 c3 x => sb.extBut _ _ (fun y => ?_) (S.k c o c1 c2 c3 x)⟩
  rcases ha with w | w
  · exact c1 (y.trans w)
  · exact c2 (y.trans w)
theorem upd_tu {T : Addr} {xs : Array Value} {x : Value} {k : Nat} {Q : Unit → Shared → Prop} (hT : IsTu s.heap T xs) (hl : xs.size ≤ 1000)
    (h : ∀ h', IsTu h' T (xs.setIfInBounds k x) → Heap.SameBut T s.heap h' → Q () { s with heap := h' }) : wpAny (model prog w) A (updateSeq T (·.setIfInBounds k x)) Q E s := by
  refine wpAny_updateSeq hT rfl (h _ ?_ (Heap.SameBut.update ..)) (by rw [sizeLine_eq]; omega) (by rw [Array.size_setIfInBounds, sizeLine_eq]; omega)
  show (s.heap.update T _).get? T = _
  rw [Heap.get?_update_self _ hT rfl]
  simp [Obj.mapSeq]
theorem set_mid (v1 w : List Value) (a x : Value) : (v1 ++ a :: w).toArray.setIfInBounds v1.length x = ((v1 ++ [x]) ++ w).toArray := by
  simp [List.set_append_right]
theorem next_item {kd : Addr → Bool} {z TI TO : Addr} {v : Value} {f : Bool} {L : List (Addr × Addr)} {i : Nat} {vals kept : List Value} {Q : Value → Shared → Prop} (D : Ap z TI TO L)
    (hz : IsZr s.heap z TI TO v f) (hv : VOk v) (hTI : IsTu s.heap TI (L.map fun p => Value.ref p.1).toArray) (hTO : IsTu s.heap TO kept.toArray) (hkl : kept.length = L.length) (hne : L ≠ []) (hl : L.length ≤ 1000)
    (hi : ∀ p ∈ L, IsIt kd s.heap p.1 p.2 i) (hr : Paired (Rw kd s.heap i) L vals)
    (hQ : ∀ h' v' f' (kept' : List Value), IsZr h' z TI TO v' f' → VOk v' → IsTu h' TO kept'.toArray → kept'.length = L.length → (∀ p ∈ L, IsIt kd h' p.1 p.2 (i + 1)) → h'.get? s.heap.objs.size = some { cls := .type "tuple", data := .seq vals.toArray } →
      (∀ c o, c ≠ z → c ≠ TO → c ∉ L.map (·.1) → s.heap.get? c = some o → h'.get? c = some o) → Q (.ref s.heap.objs.size) { s with heap := h' }) :
    wpAny (model prog w) A (Builtin.«zip.__next__» ⟨[.ref z], []⟩) (fun fin s' => ∃ v, fin = .done (.ret v) ∧ Q v s') E s := by
  have hvl : vals.length = L.length := (Paired.length hr).symm
  have hfr : ∀ {h' : Heap} {L1 L2}, St kd z TO L i s.heap h' L1 L2 → ∀ p ∈ L, ∀ xs, IsSq kd s.heap p.2 xs → IsSq kd h' p.2 xs := fun S p hp xs q => q.at fun o e => S.k _ o (D.zz p hp).2 (D.o p hp).2 (D.il p hp) e
  show wpAny _ _ (field (.ref z) 2 >>= _) _ _ _
  refine wpAny_bind (wpAny_field hz rfl (x := .bool false) rfl ?_)
  show wpAny _ _ (field (.ref z) 3 >>= _) _ _ _
  refine wpAny_bind (wpAny_field hz rfl (x := .ref TI) rfl ?_)
  refine wpAny_bind (wpAny_seqItems hTI rfl ?_)
  have he : (L.map fun p => Value.ref p.1).toArray.isEmpty = false := by
    cases L with
    | nil => exact absurd rfl hne
    | cons a l => rfl
  dsimp only
  rw [he]
  simp only [Bool.false_eq_true, if_false]
  refine wpAny_bind (free_or_held hz hv ?_ fun h₁ hz₁ hs₁ => ?_)
  · simp only [if_true]
    refine wpAny_bind (wpAny_rule ?_)
    refine wpAny_bind (wpAny_field hz rfl (x := .ref TO) rfl ?_)
    dsimp only
    refine wpAny_bind (wpAny_setField_rec hz (by simp) fun h₁ hz₁ hs₁ => ?_)
    replace hz₁ : IsZr h₁ z TI TO .ellipsis f := hz₁
    have S0 : St kd z TO L i s.heap h₁ [] L := ⟨fun _ h => (by cases h), fun p hp => (hi p hp).extBut hs₁.extBut (D.zz p hp).1, hs₁.1, fun c o c1 _ _ x => hs₁.extBut _ _ c1 x⟩
    refine wpAny_bind (wpAny_mono (loop_gen (fun rest b s' => ∃ (L1 L2 : List (Addr × Addr)) (v1 v2 ks : List Value) (h' : Heap), L = L1 ++ L2 ∧ Paired (Rw kd s.heap i) L2 v2 ∧ v1 ++ v2 = vals ∧ v1.length = L1.length ∧ rest = (L2.map fun p => Value.ref p.1).zipIdx L1.length ∧ b = (none, ()) ∧ s' = { s with heap := h' } ∧ St kd z TO L i s.heap h' L1 L2 ∧ IsZr h' z TI TO .ellipsis f ∧ IsTu h' TO (v1 ++ ks).toArray ∧ ks.length = L2.length)
      (Q := fun b s' => b = (none, ()) ∧ ∃ h', s' = { s with heap := h' } ∧ St kd z TO L i s.heap h' L [] ∧ IsZr h' z TI TO .ellipsis f ∧ IsTu h' TO vals.toArray) ?_ ?_ _ _ _ ⟨[], L, [], vals, kept, h₁, rfl, hr, rfl, rfl, rfl, rfl, rfl, S0, hz₁, hs₁.extBut _ _ D.oz hTO, hkl⟩) (fun b s' h => ?_) fun _ _ z => z)
    · rintro it rest b s' ⟨L1, L2, v1, v2, ks, h', eL, pr, ev, vl, er, rfl, rfl, S, hz', hTO', kl⟩
      cases pr with
      | nil => cases er
      | @cons p x L2 v2 r pr =>
        cases er
        have pm : p ∈ L := by rw [eL]; simp
        obtain ⟨xs, hxl, hx⟩ := r
        obtain ⟨k0, ks, rfl⟩ : ∃ k0 ks', ks = k0 :: ks' := by
          cases ks with
          | nil => simp at kl
          | cons a l => exact ⟨a, l, rfl⟩
        refine wpAny_bind (wpAny_onRaise ?_)
        show wpAny _ _ (Builtin.SmallTypes.nextOf (.ref p.1) >>= _) _ _ _
        refine wpAny_bind (nextOf_item (s := { s with heap := h' }) (S.b p List.mem_cons_self) (hfr S p pm xs hxl) hx fun h2 hit2 sb => wpAny_pure ?_)
        have hTO2 : IsTu h2 TO (v1 ++ k0 :: ks).toArray := sb.extBut _ _ (Ne.symm (D.o p pm).1) hTO'
        have S2 := S.more D eL hit2 sb
        have eL2 : L = (L1 ++ [p]) ++ L2 := by rw [eL, List.append_assoc]; rfl
        refine wpAny_bind (wpAny_seqItems hTO2 rfl ?_)
        dsimp only
        have sz2 : (v1 ++ k0 :: ks).toArray.size ≤ 1000 := by
          have : L.length = L1.length + (L2.length + 1) := by rw [eL, List.length_append, List.length_cons]
          have kl2 : ks.length = L2.length := by simpa using kl
          rw [List.size_toArray, List.length_append, List.length_cons, vl]
          omega
        refine wpAny_bind (upd_tu hTO2 sz2 fun h3 hTO3 sb3 => ?_)
        rw [← vl, set_mid] at hTO3
        refine wpAny_bind (wpAny_letGo (wpAny_pure ?_))
        refine ⟨_, rfl, L1 ++ [p], L2, v1 ++ [x], v2, ks, h3, eL2, pr, by rw [← ev, List.append_assoc]; rfl, by rw [List.length_append, List.length_append, vl]; rfl, by rw [List.length_append]; rfl, rfl, rfl, S2.other D eL2 (.inr rfl) sb3, sb3.extBut _ _ (Ne.symm D.oz) (sb.extBut _ _ (Ne.symm (D.zz p pm).1) hz'), hTO3, by simpa using kl⟩
    · rintro b s' ⟨L1, L2, v1, v2, ks, h', eL, pr, ev, vl, er, rfl, rfl, S, hz', hTO', kl⟩
      have e2 : L2 = [] := by simpa using er.symm
      subst e2
      cases pr
      have ek : ks = [] := by simpa using kl
      subst ek
      rw [List.append_nil] at eL ev hTO'
      subst eL ev
      exact ⟨rfl, h', rfl, S, hz', hTO'⟩
    · obtain ⟨rfl, h', rfl, S, hz', hTO'⟩ := h
      dsimp only
      refine wpAny_bind (wpAny_seqItems hTO' rfl ?_)
      dsimp only
      refine wpAny_bind (wpAny_newTuple ?_ (by rw [sizeLine_eq]; show vals.length ≤ _; omega))
      have zlt : z < h'.objs.size := Heap.lt_size hz'
      have olt : TO < h'.objs.size := Heap.lt_size hTO'
      show wpAny _ _ (Builtin.SmallTypes.ownedTupleHandOut (.ref z) (.ref h'.objs.size) >>= _) _ _ _
      refine wpAny_bind ?_
      unfold Builtin.SmallTypes.ownedTupleHandOut
      have hz6 : IsZr (h'.push { cls := .type "tuple", data := .seq vals.toArray }) z TI TO .ellipsis f := Heap.get?_push_of_some _ hz'
      refine wpAny_bind (wpAny_setField_rec hz6 (by simp) fun h7 hz7 hs7 => ?_)
      replace hz7 : IsZr h7 z TI TO (rawInt h'.objs.size) f := hz7
      refine wpAny_setField_rec hz7 (by simp) fun h8 hz8 hs8 => ?_
      replace hz8 : IsZr h8 z TI TO (rawInt h'.objs.size) false := hz8
      have up : ∀ c o, c ≠ z → h'.get? c = some o → h8.get? c = some o := fun c o c1 e => hs8.extBut _ _ c1 (hs7.extBut _ _ c1 (Heap.get?_push_of_some _ e))
      have hT8 : h8.get? h'.objs.size = some { cls := .type "tuple", data := .seq vals.toArray } := hs8.extBut _ _ (Nat.ne_of_gt zlt) (hs7.extBut _ _ (Nat.ne_of_gt zlt) (Heap.get?_push_size _ rfl))
      refine wpAny_pure ⟨_, rfl, ?_⟩
      show Q (.ref h'.objs.size) _
      rw [S.sz] at hT8 hz8 ⊢
      exact hQ h8 _ false vals hz8 (.inr ⟨_, rfl⟩) (up _ _ D.oz hTO') hvl (fun p hp => (S.a p hp).at fun o e => up _ o (D.zz p hp).1 e) hT8 fun c o c1 c2 c3 e => up c o c1 (S.k c o c1 c2 c3 e)
  · simp only [Bool.false_eq_true, if_false]
    rw [← Array.forIn_toList]
    have S0 : St kd z TO L i s.heap h₁ [] L := ⟨fun _ h => (by cases h), fun p hp => (hi p hp).extBut hs₁.extBut (D.zz p hp).1, hs₁.1, fun c o c1 _ _ x => hs₁.extBut _ _ c1 x⟩
    refine wpAny_bind (wpAny_mono (loop_gen (fun rest b s' => ∃ (L1 L2 : List (Addr × Addr)) (v1 v2 : List Value) (h' : Heap), L = L1 ++ L2 ∧ Paired (Rw kd s.heap i) L2 v2 ∧ v1 ++ v2 = vals ∧ rest = L2.map (fun p => Value.ref p.1) ∧ b = (none, v1.toArray) ∧ s' = { s with heap := h' } ∧ St kd z TO L i s.heap h' L1 L2 ∧ IsZr h' z TI TO v true ∧ IsTu h' TO kept.toArray)
      (Q := fun b s' => b = (none, vals.toArray) ∧ ∃ h', s' = { s with heap := h' } ∧ St kd z TO L i s.heap h' L [] ∧ IsZr h' z TI TO v true ∧ IsTu h' TO kept.toArray) ?_ ?_ _ _ _ ⟨[], L, [], vals, h₁, rfl, hr, rfl, rfl, rfl, rfl, S0, hz₁, hs₁.extBut _ _ D.oz hTO⟩) (fun b s' h => ?_) fun _ _ z => z)
    · rintro it rest b s' ⟨L1, L2, v1, v2, h', eL, pr, ev, er, rfl, rfl, S, hz', hTO'⟩
      cases pr with
      | nil => cases er
      | @cons p x L2 v2 r pr =>
        cases er
        have pm : p ∈ L := by rw [eL]; simp
        obtain ⟨xs, hxl, hx⟩ := r
        refine wpAny_bind (wpAny_holding ?_)
        show wpAny _ _ (Builtin.SmallTypes.nextOf (.ref p.1) >>= _) _ _ _
        refine wpAny_bind (nextOf_item (s := { s with heap := h' }) (S.b p List.mem_cons_self) (hfr S p pm xs hxl) hx fun h2 hit2 sb => wpAny_pure ?_)
        refine wpAny_pure ⟨_, rfl, L1 ++ [p], L2, v1 ++ [x], v2, h2, by rw [eL, List.append_assoc]; rfl, pr, by rw [← ev, List.append_assoc]; rfl, rfl, by simp, rfl, S.more D eL hit2 sb, sb.extBut _ _ (Ne.symm (D.zz p pm).1) hz', sb.extBut _ _ (Ne.symm (D.o p pm).1) hTO'⟩
    · rintro b s' ⟨L1, L2, v1, v2, h', eL, pr, ev, er, rfl, rfl, S, hz', hTO'⟩
      have e2 : L2 = [] := by simpa using er.symm
      subst e2
      cases pr
      rw [List.append_nil] at eL ev
      subst eL ev
      exact ⟨rfl, h', rfl, S, hz', hTO'⟩
    · obtain ⟨rfl, h', rfl, S, hz', hTO'⟩ := h
      dsimp only
      refine wpAny_bind (wpAny_newTuple ?_ (by rw [sizeLine_eq]; show vals.length ≤ _; omega))
      refine wpAny_pure ⟨_, rfl, ?_⟩
      show Q (.ref h'.objs.size) _
      have zlt : z < h'.objs.size := Heap.lt_size hz'
      have olt : TO < h'.objs.size := Heap.lt_size hTO'
      have ilt : ∀ p ∈ L, p.1 < h'.objs.size := fun p hp => by obtain ⟨_, e, _⟩ := (S.a p hp).obj; exact Heap.lt_size e
      rw [S.sz]
      refine hQ _ v true kept (Heap.get?_push_of_some _ hz') hv (Heap.get?_push_of_some _ hTO') hkl (fun p hp => (S.a p hp).at fun o e => Heap.get?_push_of_some _ e) ?_ fun c o c1 c2 c3 e => Heap.get?_push_of_some _ (S.k c o c1 c2 c3 e)
      rw [← S.sz]
      exact Heap.get?_push_size _ rfl
theorem next_end {kd : Addr → Bool} {z TI TO : Addr} {v : Value} {f : Bool} {p : Addr × Addr} {L : List (Addr × Addr)} {i : Nat} {xs : Array Value} {kept : Array Value} {Q : Fin → Shared → Prop} (hh : A.handled = none) (D : Ap z TI TO (p :: L))
    (hz : IsZr s.heap z TI TO v f) (hv : VOk v) (hTI : IsTu s.heap TI ((p :: L).map fun p => Value.ref p.1).toArray) (hTO : IsTu s.heap TO kept)
    (hi : IsIt kd s.heap p.1 p.2 i) (hl : IsSq kd s.heap p.2 xs) (hx : xs[i]? = none)
    (hE : ∀ h' e, (∀ c o, c ≠ z → c ≠ TO → c ∉ (p :: L).map (·.1) → s.heap.get? c = some o → h'.get? c = some o) → (∃ o, h'.get? e = some o ∧ o.cls = .type "StopIteration") → E (.ref e) { s with heap := h' }) :
    wpAny (model prog w) A (Builtin.«zip.__next__» ⟨[.ref z], []⟩) Q E s := by
  have pm : p ∈ p :: L := List.mem_cons_self
  have pz := D.zz p pm
  have pin : p.1 ∈ (p :: L).map (·.1) := List.mem_map_of_mem pm
  show wpAny _ _ (field (.ref z) 2 >>= _) _ _ _
  refine wpAny_bind (wpAny_field hz rfl (x := .bool false) rfl ?_)
  show wpAny _ _ (field (.ref z) 3 >>= _) _ _ _
  refine wpAny_bind (wpAny_field hz rfl (x := .ref TI) rfl ?_)
  refine wpAny_bind (wpAny_seqItems hTI rfl ?_)
  have he : ((p :: L).map fun p => Value.ref p.1).toArray.isEmpty = false := rfl
  dsimp only
  rw [he]
  simp only [Bool.false_eq_true, if_false]
  refine wpAny_bind (free_or_held hz hv ?_ fun h₁ hz₁ hs₁ => ?_)
  · simp only [if_true]
    refine wpAny_bind (wpAny_rule ?_)
    refine wpAny_bind (wpAny_field hz rfl (x := .ref TO) rfl ?_)
    dsimp only
    refine wpAny_bind (wpAny_setField_rec hz (by simp) fun h₁ hz₁ hs₁ => ?_)
    replace hz₁ : IsZr h₁ z TI TO .ellipsis f := hz₁
    refine wpAny_bind ?_
    rw [List.map_cons, List.zipIdx_cons, List.forIn_cons]
    refine wpAny_bind (wpAny_bind (wpAny_onRaise ?_))
    show wpAny _ _ (Builtin.SmallTypes.nextOf (.ref p.1) >>= _) _ _ _
    refine wpAny_bind (nextOf_end (s := { s with heap := h₁ }) hh (hi.extBut hs₁.extBut pz.1) (hl.extBut hs₁.extBut pz.2) hx fun h₂ e hs₂ he => ?_)
    obtain ⟨oe, hoe, hce⟩ := he
    have hz₂ : IsZr h₂ z TI TO .ellipsis f := hs₂ _ _ (Ne.symm pz.1) hz₁
    have hez : e ≠ z := fun x => by subst x; rw [hz₂] at hoe; cases hoe; simp at hce
    refine wpAny_setField_rec hz₂ (by simp) fun h₃ _ hs₃ => hE h₃ e (fun c o c1 _ c3 x => hs₃.extBut _ _ c1 (hs₂ _ _ (fun y => c3 (by rw [y]; exact pin)) (hs₁.extBut _ _ c1 x))) ⟨oe, hs₃.extBut _ _ hez hoe, hce⟩
  · simp only [Bool.false_eq_true, if_false]
    rw [← Array.forIn_toList]
    refine wpAny_bind ?_
    show wpAny _ _ (forIn ((Value.ref p.1) :: L.map fun p => Value.ref p.1) _ _) _ _ _
    rw [List.forIn_cons]
    refine wpAny_bind (wpAny_bind (wpAny_holding ?_))
    show wpAny _ _ (Builtin.SmallTypes.nextOf (.ref p.1) >>= _) _ _ _
    refine wpAny_bind (nextOf_end (s := { s with heap := h₁ }) hh (hi.extBut hs₁.extBut pz.1) (hl.extBut hs₁.extBut pz.2) hx fun h₂ e hs₂ he => ?_)
    exact hE h₂ e (fun c o c1 _ c3 x => hs₂ _ _ (fun y => c3 (by rw [y]; exact pin)) (hs₁.extBut _ _ c1 x)) he
theorem pyNext_item {kd : Addr → Bool} {z TI TO : Addr} {v : Value} {f : Bool} {L : List (Addr × Addr)} {i : Nat} {vals kept : List Value} {Q : Option Value → Shared → Prop} (D : Ap z TI TO L)
    (hz : IsZr s.heap z TI TO v f) (hv : VOk v) (hTI : IsTu s.heap TI (L.map fun p => Value.ref p.1).toArray) (hTO : IsTu s.heap TO kept.toArray) (hkl : kept.length = L.length) (hne : L ≠ []) (hl : L.length ≤ 1000)
    (hi : ∀ p ∈ L, IsIt kd s.heap p.1 p.2 i) (hr : Paired (Rw kd s.heap i) L vals)
    (hQ : ∀ h' v' f' (kept' : List Value), IsZr h' z TI TO v' f' → VOk v' → IsTu h' TO kept'.toArray → kept'.length = L.length → (∀ p ∈ L, IsIt kd h' p.1 p.2 (i + 1)) → h'.get? s.heap.objs.size = some { cls := .type "tuple", data := .seq vals.toArray } →
      (∀ c o, c ≠ z → c ≠ TO → c ∉ L.map (·.1) → s.heap.get? c = some o → h'.get? c = some o) → Q (some (.ref s.heap.objs.size)) { s with heap := h' }) : wpAny (model prog w) A (pyNext (.ref z)) Q E s := by
  have hT : s.TypeIs (.ref z) "zip" := ⟨_, hz, rfl⟩
  unfold pyNext
  exact wpAny_bind (wpAny_attempt (wpAny_callSpecial?_slot (name := Str.ofString "__next__") hT F.slot_zip_next
    (wpAny_call_entry F.slot_zip_next hT F.entry_zip_next
      (next_item D hz hv hTI hTO hkl hne hl hi hr fun h' v' f' k' a1 a2 a3 a4 a5 a6 a7 => wpAny_pure (hQ h' v' f' k' a1 a2 a3 a4 a5 a6 a7)) (F.args_zip_next_1 _))))
theorem pyNext_end {kd : Addr → Bool} {z TI TO : Addr} {v : Value} {f : Bool} {p : Addr × Addr} {L : List (Addr × Addr)} {i : Nat} {xs : Array Value} {kept : Array Value} {Q : Option Value → Shared → Prop} (hh : A.handled = none) (D : Ap z TI TO (p :: L))
    (hz : IsZr s.heap z TI TO v f) (hv : VOk v) (hTI : IsTu s.heap TI ((p :: L).map fun p => Value.ref p.1).toArray) (hTO : IsTu s.heap TO kept)
    (hi : IsIt kd s.heap p.1 p.2 i) (hl : IsSq kd s.heap p.2 xs) (hx : xs[i]? = none)
    (hQ : ∀ h', (∀ c o, c ≠ z → c ≠ TO → c ∉ (p :: L).map (·.1) → s.heap.get? c = some o → h'.get? c = some o) → Q none { s with heap := h' }) : wpAny (model prog w) A (pyNext (.ref z)) Q E s := by
  have hT : s.TypeIs (.ref z) "zip" := ⟨_, hz, rfl⟩
  unfold pyNext
  refine wpAny_bind (wpAny_attempt (wpAny_callSpecial?_slot (name := Str.ofString "__next__") hT F.slot_zip_next
    (wpAny_call_entry F.slot_zip_next hT F.entry_zip_next (next_end hh D hz hv hTI hTO hi hl hx fun h' e hk he => ?_) (F.args_zip_next_1 _))))
  obtain ⟨o, ho, hc⟩ := he
  refine wpAny_bind (wpAny_isInstance (T := "StopIteration") (b := true) ⟨o, ho, hc⟩ isSubtype_stop ?_)
  exact wpAny_pure (hQ _ hk)
theorem pyIter_self {z TI TO : Addr} {v : Value} {f : Bool} {Q : Value → Shared → Prop} (hz : IsZr s.heap z TI TO v f) (h : Q (.ref z) s) : wpAny (model prog w) A (pyIter (.ref z)) Q E s := by
  have hT : s.TypeIs (.ref z) "zip" := ⟨_, hz, rfl⟩
  refine wpAny_pyIter_slot hT F.slot_zip_iter (wpAny_call_entry F.slot_zip_iter hT F.entry_zip_iter ?_ (F.args_zip_iter_1 _))
  show wpAny _ _ (ret (.ref z)) _ _ s
  exact wpAny_pure ⟨_, rfl, "zip", _, hT, F.slot_zip_next.lookup, h⟩
end
structure ZArgs (us : List Value) : Prop where
  tc : checkTypeCall "zip" ⟨us, []⟩ = pure ()
  nc : checkBuiltinCall "zip.__new__" ⟨.type "zip" :: us, []⟩ = pure ()
  ob : ∀ obj, argsOk "object.__init__" ⟨obj :: us, []⟩
theorem tc_ok (us : List Value) : checkTypeCall "zip" ⟨us, []⟩ = pure () := by kernel_rfl
theorem zargs : ∀ (us : List Value), us.length ≤ 6 → ZArgs us
  | [], _ => ⟨tc_ok _, by kernel_rfl, fun obj => by unfold argsOk; rw [signature?_of (id := "object.__init__") (n := ['_', '_', 't', 'i', 'n', 'i', '_', '_']) (o := ['t', 'c', 'e', 'j', 'b', 'o']) (by kernel_rfl) PySem.F.owner_object]; kernel_rfl⟩
  | [_], _ => ⟨tc_ok _, by kernel_rfl, fun obj => by unfold argsOk; rw [signature?_of (id := "object.__init__") (n := ['_', '_', 't', 'i', 'n', 'i', '_', '_']) (o := ['t', 'c', 'e', 'j', 'b', 'o']) (by kernel_rfl) PySem.F.owner_object]; kernel_rfl⟩
  | [_, _], _ => ⟨tc_ok _, by kernel_rfl, fun obj => by unfold argsOk; rw [signature?_of (id := "object.__init__") (n := ['_', '_', 't', 'i', 'n', 'i', '_', '_']) (o := ['t', 'c', 'e', 'j', 'b', 'o']) (by kernel_rfl) PySem.F.owner_object]; kernel_rfl⟩
  | [_, _, _], _ => ⟨tc_ok _, by kernel_rfl, fun obj => by unfold argsOk; rw [signature?_of (id := "object.__init__") (n := ['_', '_', 't', 'i', 'n', 'i', '_', '_']) (o := ['t', 'c', 'e', 'j', 'b', 'o']) (by kernel_rfl) PySem.F.owner_object]; kernel_rfl⟩
  | [_, _, _, _], _ => ⟨tc_ok _, by kernel_rfl, fun obj => by unfold argsOk; rw [signature?_of (id := "object.__init__") (n := ['_', '_', 't', 'i', 'n', 'i', '_', '_']) (o := ['t', 'c', 'e', 'j', 'b', 'o']) (by kernel_rfl) PySem.F.owner_object]; kernel_rfl⟩
  | [_, _, _, _, _], _ => ⟨tc_ok _, by kernel_rfl, fun obj => by unfold argsOk; rw [signature?_of (id := "object.__init__") (n := ['_', '_', 't', 'i', 'n', 'i', '_', '_']) (o := ['t', 'c', 'e', 'j', 'b', 'o']) (by kernel_rfl) PySem.F.owner_object]; kernel_rfl⟩
  | [_, _, _, _, _, _], _ => ⟨tc_ok _, by kernel_rfl, fun obj => by unfold argsOk; rw [signature?_of (id := "object.__init__") (n := ['_', '_', 't', 'i', 'n', 'i', '_', '_']) (o := ['t', 'c', 'e', 'j', 'b', 'o']) (by kernel_rfl) PySem.F.owner_object]; kernel_rfl⟩
  | _ :: _ :: _ :: _ :: _ :: _ :: _ :: _, h => by simp at h
section
variable {prog : Program} {w : World} {A : Around} {E : Value → Shared → Prop} {s : Shared}
theorem cls_zip (us : List Value) : Builtin.SmallTypes.newClass "zip" ⟨.type "zip" :: us, []⟩ = pure (.type "zip", us) := by
  unfold Builtin.SmallTypes.newClass
  simp only [isType, pure_bind, Bool.not_true, Bool.false_eq_true, if_false]
  rw [sub_zip]
  rfl
abbrev H3 (h : Heap) (its : List Value) : Heap := h.push { cls := .type "tuple", data := .seq its.toArray }
abbrev H4 (h : Heap) (its : List Value) : Heap := (H3 h its).push { cls := .type "tuple", data := .seq (its.map fun _ => Value.none).toArray }
abbrev H5 (h : Heap) (its : List Value) : Heap := (H4 h its).push { cls := .type "zip", data := .fields #[.none, .bool false, .bool false, .ref h.objs.size, .ref (H3 h its).objs.size] }
theorem new_zip (us : List Value) : MeetsIn prog w (Builtin.«zip.__new__» ⟨.type "zip" :: us, []⟩)
    (fun B R s => wpAny (model prog w) B.in1 (Builtin.SmallTypes.iterAll us) (fun its s1 => its.length ≤ 1000 ∧ R (.ok (.ret (.ref (H4 s1.heap its).objs.size))) { s1 with heap := H5 s1.heap its }) (fun e s1 => R (.error e) s1) s) :=
  .of_wp fun B R s h => by
    unfold Builtin.«zip.__new__»
    refine wpAny_bind (wpAny_of_eq (cls_zip us) ?_)
    show wpAny _ _ (Builtin.SmallTypes.iterAll us >>= _) _ _ _
    refine wpAny_bind (wpAny_mono h (fun its s1 hR => ?_) fun _ _ z => z)
    obtain ⟨hl, hR⟩ := hR
    refine wpAny_bind (wpAny_newTuple ?_ (by rw [sizeLine_eq]; omega))
    refine wpAny_bind (wpAny_newTuple ?_ (by rw [sizeLine_eq, List.length_map]; omega))
    refine wpAny_bind ?_
    unfold Builtin.SmallTypes.newRecord
    refine wpAny_newObj_type ?_ (show 5 ≤ sizeLine + 2 by rw [sizeLine_eq]; omega)
    exact wpAny_pure ⟨_, rfl, hR⟩
theorem iter_lists {kd : Addr → Bool} (ls : List Addr) {Q : List Value → Shared → Prop} (hl : ∀ l ∈ ls, ∃ xs, IsSq kd s.heap l xs)
    (k : ∀ (L : List (Addr × Addr)) (h' : Heap), L.map (·.2) = ls → (∀ p ∈ L, IsIt kd h' p.1 p.2 0 ∧ s.heap.objs.size ≤ p.1 ∧ p.1 < h'.objs.size) → (L.map (·.1)).Nodup → (∀ c o, s.heap.get? c = some o → h'.get? c = some o) → s.heap.objs.size ≤ h'.objs.size → Q (L.map fun p => Value.ref p.1) { s with heap := h' }) :
    wpAny (model prog w) A (Builtin.SmallTypes.iterAll (ls.map Value.ref)) Q E s := by
  unfold Builtin.SmallTypes.iterAll
  refine wpAny_bind (wpAny_mono (loop_gen (fun rest b s' => ∃ (L1 : List (Addr × Addr)) (ls2 : List Addr) (h' : Heap), L1.map (·.2) ++ ls2 = ls ∧ rest = ls2.map Value.ref ∧ b = (L1.map fun p => Value.ref p.1).toArray ∧ s' = { s with heap := h' } ∧ (∀ p ∈ L1, IsIt kd h' p.1 p.2 0 ∧ s.heap.objs.size ≤ p.1 ∧ p.1 < h'.objs.size) ∧ (L1.map (·.1)).Nodup ∧ (∀ c o, s.heap.get? c = some o → h'.get? c = some o) ∧ s.heap.objs.size ≤ h'.objs.size)
    (Q := fun b s' => ∃ (L1 : List (Addr × Addr)) (h' : Heap), L1.map (·.2) = ls ∧ b = (L1.map fun p => Value.ref p.1).toArray ∧ s' = { s with heap := h' } ∧ (∀ p ∈ L1, IsIt kd h' p.1 p.2 0 ∧ s.heap.objs.size ≤ p.1 ∧ p.1 < h'.objs.size) ∧ (L1.map (·.1)).Nodup ∧ (∀ c o, s.heap.get? c = some o → h'.get? c = some o) ∧ s.heap.objs.size ≤ h'.objs.size) ?_ ?_ _ _ _ ⟨[], ls, s.heap, rfl, rfl, rfl, rfl, fun _ h => (by cases h), List.nodup_nil, fun _ _ e => e, Nat.le_refl _⟩) (fun b s' h => ?_) fun _ _ z => z)
  · rintro it rest b s' ⟨L1, ls2, h', e1, e2, rfl, rfl, hi, nd, kp, sz⟩
    cases ls2 with
    | nil => cases e2
    | cons l ls2 =>
      cases e2
      obtain ⟨xs, hx⟩ := hl l (by rw [← e1]; simp)
      have hx' : IsSq kd h' l xs := hx.at fun o e => kp _ o e
      refine wpAny_bind (wpAny_holding (iter_sq (s := { s with heap := h' }) hx' fun oi _ isit hpush => ?_))
      have z1 : (h'.push oi).objs.size = h'.objs.size + 1 := Heap.size_push ..
      refine wpAny_pure ⟨_, rfl, L1 ++ [(h'.objs.size, l)], ls2, _, by rw [List.map_append, List.append_assoc]; exact e1, rfl, by simp, rfl, fun p hp => ?_, ?_, fun c o e => Heap.get?_push_of_some _ (kp c o e), by rw [z1]; omega⟩
      · rcases List.mem_append.mp hp with q | q
        · obtain ⟨a, b, c⟩ := hi p q
          exact ⟨a.at fun o e => Heap.get?_push_of_some _ e, b, by rw [z1]; exact Nat.lt_succ_of_lt c⟩
        · rw [List.mem_singleton.mp q]
          exact ⟨isit _ hpush, sz, by rw [z1]; exact Nat.lt_succ_self _⟩
      · rw [List.map_append, List.nodup_append]
        refine ⟨nd, by simp, fun a ha b hb => ?_⟩
        obtain ⟨p, hp, rfl⟩ := List.mem_map.mp ha
        have : b = h'.objs.size := by simpa using hb
        rw [this]
        exact Nat.ne_of_lt (hi p hp).2.2
  · rintro b s' ⟨L1, ls2, h', e1, e2, rfl, rfl, hi, nd, kp, sz⟩
    have : ls2 = [] := by simpa using e2.symm
    subst this
    rw [List.append_nil] at e1
    exact ⟨L1, h', e1, rfl, rfl, hi, nd, kp, sz⟩
  · obtain ⟨L1, h', e1, rfl, rfl, hi, nd, kp, sz⟩ := h
    exact wpAny_pure (k L1 h' e1 hi nd kp sz)
/-- zip(l, ..) made: all apart -/
theorem call_zip {kd : Addr → Bool} (ls : List Addr) {Q : Value → Shared → Prop} (hl : ∀ l ∈ ls, ∃ xs, IsSq kd s.heap l xs) (h6 : ls.length ≤ 6)
    (k : ∀ (z TI TO : Addr) (L : List (Addr × Addr)) (h' : Heap) (kept : List Value), L.map (·.2) = ls → Ap z TI TO L → IsZr h' z TI TO .none false → IsTu h' TI (L.map fun p => Value.ref p.1).toArray → IsTu h' TO kept.toArray → kept.length = L.length → (∀ p ∈ L, IsIt kd h' p.1 p.2 0) →
      (∀ c, c = z ∨ c = TI ∨ c = TO ∨ c ∈ L.map (·.1) → s.heap.objs.size ≤ c) → (∀ c o, s.heap.get? c = some o → h'.get? c = some o) → Q (.ref z) { s with heap := h' }) :
    wpAny (model prog w) A (call (.type "zip") (ls.map Value.ref)) Q E s := by
  have za := zargs (ls.map Value.ref) (by rw [List.length_map]; exact h6)
  refine callType_newIn F.called_zip (by decide) za.tc za.nc za.ob F.entry_zip_new (new_zip _) ?_
  refine iter_lists ls hl fun L h' e hi nd kp sz => ⟨by have := congrArg List.length e; rw [List.length_map] at this; rw [List.length_map]; omega, ?_⟩
  have lsl : ∀ p ∈ L, p.2 < s.heap.objs.size := fun p hp => by
    obtain ⟨xs, hsq⟩ := hl p.2 (by rw [← e]; exact List.mem_map_of_mem hp)
    obtain ⟨o, ho⟩ := hsq.obj
    exact Heap.lt_size ho
  have z3 : (H3 h' (L.map fun p => Value.ref p.1)).objs.size = h'.objs.size + 1 := Heap.size_push ..
  have z4 : (H4 h' (L.map fun p => Value.ref p.1)).objs.size = h'.objs.size + 2 := by rw [Heap.size_push, z3]
  have g5 : (H5 h' (L.map fun p => Value.ref p.1)).get? (H4 h' (L.map fun p => Value.ref p.1)).objs.size = some _ := Heap.get?_push_size _ rfl
  have g4 : (H5 h' (L.map fun p => Value.ref p.1)).get? (H3 h' (L.map fun p => Value.ref p.1)).objs.size = some _ := Heap.get?_push_of_some _ (Heap.get?_push_size _ rfl)
  have g3 : (H5 h' (L.map fun p => Value.ref p.1)).get? h'.objs.size = some _ := Heap.get?_push_of_some _ (Heap.get?_push_of_some _ (Heap.get?_push_size _ rfl))
  have up : ∀ c o, h'.get? c = some o → (H5 h' (L.map fun p => Value.ref p.1)).get? c = some o := fun c o q => Heap.get?_push_of_some _ (Heap.get?_push_of_some _ (Heap.get?_push_of_some _ q))
  have fl : ∀ c ∈ L.map (·.1), s.heap.objs.size ≤ c ∧ c < h'.objs.size := fun c hc => by
    obtain ⟨p, hp, rfl⟩ := List.mem_map.mp hc
    exact (hi p hp).2
  refine ⟨⟨_, g5, rfl⟩, k (H4 h' (L.map fun p => Value.ref p.1)).objs.size h'.objs.size (H3 h' (L.map fun p => Value.ref p.1)).objs.size L _ ((L.map fun p => Value.ref p.1).map fun _ => Value.none) e ?_ g5 g3 g4 (by rw [List.length_map, List.length_map]) (fun p hp => (hi p hp).1.at fun o q => up _ o q) (fun c hc => ?_) fun c o q => up c o (kp c o q)⟩
  · refine ⟨nd, fun p hp => ?_, fun p hp => ?_, fun hc => ?_, fun p hp hc => ?_, ?_, ?_, ?_⟩
    · have a := (hi p hp).2.2
      have b := Nat.lt_of_lt_of_le (lsl p hp) sz
      rw [z4]
      exact ⟨Nat.ne_of_lt (Nat.lt_of_lt_of_le a (Nat.le_add_right _ _)), Nat.ne_of_lt (Nat.lt_of_lt_of_le b (Nat.le_add_right _ _))⟩
    · have a := (hi p hp).2.2
      have b := Nat.lt_of_lt_of_le (lsl p hp) sz
      rw [z3]
      exact ⟨Nat.ne_of_lt (Nat.lt_of_lt_of_le a (Nat.le_add_right _ _)), Nat.ne_of_lt (Nat.lt_of_lt_of_le b (Nat.le_add_right _ _))⟩
    · exact Nat.lt_irrefl _ (fl _ hc).2
    · exact Nat.lt_irrefl _ (Nat.lt_of_le_of_lt (fl _ hc).1 (lsl p hp))
    · rw [z4]; exact Nat.ne_of_lt (Nat.lt_add_of_pos_right (by decide))
    · rw [z3, z4]; exact Nat.ne_of_lt (Nat.lt_succ_self _)
    · rw [z3]; exact Nat.ne_of_lt (Nat.lt_succ_self _)
  · rcases hc with rfl | rfl | rfl | hc
    · rw [z4]; exact Nat.le_trans sz (Nat.le_add_right _ _)
    · exact sz
    · rw [z3]; exact Nat.le_trans sz (Nat.le_add_right _ _)
    · exact (fl c hc).1
end

section
variable {M : Model} {A : Around} {E : Value → Shared → Prop} {s : Shared}
theorem callWith_typeS {T : String} {e : Expr} {env : Env} {p pos : Pos} {Q : Value → Shared → Prop}
    (h : wpAny M A (eval e env) (fun v s₁ => PySem.W.StarOf M A E v (fun vs s₂ => wpAny M A (call (.type T) vs) Q E s₂) s₁) E s) (he : starEach [.Starred e p] env = [(true, eval e env)] := by rfl) :
    wpAny M A (callWith pos (.type T) [] (backTo pos (starEach [.Starred e p] env)) []) Q E s := by
  rw [he]
  refine PySem.W.ks_call (P := fun _ => True) rfl (fun h _ => ⟨.machine, .inr (.inl rfl), PySem.W.Looks.of_pure rfl⟩) (PySem.W.ks_lone (wpAny_mono h (fun v s1 q => ?_) fun _ _ z => z))
  unfold PySem.W.StarOf at q ⊢
  exact wpAny_mono q (fun b s2 ⟨e, q⟩ => ⟨e, wpAny_mono q (fun vs s3 q => ⟨trivial, q⟩) fun _ _ z => z⟩) fun _ _ z => z
end
end ZN
namespace PD
open PySem PySem.Spec PyProof.Rows L2 ZN
/-! ### zip of lists and tuples -/
/-- a source: a tuple or a list -/
def SqB (K : PySem.W.Frag) (H : Hp) (b : Bool) (a : Addr) (r : List V) : Prop := if b = true then SqT K H a r else SqL K H a r
def SqK (kd : Addr → Bool) (K : PySem.W.Frag) (H : Hp) (a : Addr) (r : List V) : Prop := SqB K H (kd a) a r
theorem sqb_mono {K : PySem.W.Frag} {G G' : Hp} {b : Bool} {a : Addr} {xs : List V} (e : Same G G') (h : SqB K G b a xs) : SqB K G' b a xs := by
  unfold SqB at h ⊢
  cases b with
  | true =>
    rw [if_pos rfl] at h ⊢
    exact sqt_mono e h
  | false =>
    rw [if_neg Bool.false_ne_true] at h ⊢
    rcases h with (h | ⟨o, h⟩) | h
    · exact .inl (.inl (e _ _ h))
    · exact .inl (.inr ⟨o, e _ _ h⟩)
    · exact .inr h
theorem sq_at {X : Cx} {pins : List (Addr × Obj)} {σ : L2.St} {H : Hp} {s : Shared} {kd : Addr → Bool} {a : Addr} {r : List V} (I : Inv X pins σ H s) (h : SqK kd X.K H a r) : ∃ its : List Value, Vals r its ∧ IsSq kd s.heap a its.toArray := by
  unfold SqK SqB at h
  unfold IsSq
  split at h
  · rename_i q
    obtain ⟨its, rv, p, _⟩ := I.tuple h
    refine ⟨its, rv, ?_⟩
    rw [if_pos q]
    exact let ⟨o, a, b, n, c⟩ := p; ⟨o, a, b, n, c⟩
  · rename_i q
    obtain ⟨its, rv, p, _⟩ := I.list h
    refine ⟨its, rv, ?_⟩
    rw [if_neg q]
    exact p.isList
def colV (rows : List (List V)) (i : Nat) : List V := rows.map fun r => r.getD i .non
def ItzN (kd : Addr → Bool) (K : PySem.W.Frag) (as : List Addr) (rows : List (List V)) (N : Nat) : It := ⟨fun i H => Paired (SqK kd K H) as rows ∧ i < N, fun i H x H' => ∃ T, x = .ref T ∧ H T = none ∧ H' = upd H T (.tup (colV rows i)), fun i H => Paired (SqK kd K H) as rows ∧ N ≤ i⟩
theorem rows_at {kd : Addr → Bool} {X : Cx} {pins : List (Addr × Obj)} {σ : L2.St} {H : Hp} {s : Shared} (I : Inv X pins σ H s) {i N : Nat} (hi : i < N) : ∀ {L : List (Addr × Addr)} {rows : List (List V)}, Paired (SqK kd X.K H) (L.map (·.2)) rows → (∀ r ∈ rows, r.length = N) → ∃ vals, Paired (ZN.Rw kd s.heap i) L vals ∧ Vals (colV rows i) vals
  | [], _, h, _ => by
    cases h
    exact ⟨[], .nil, .nil⟩
  | p :: L, _, h, hn => by
    cases h with
    | @cons _ r _ rows q t =>
      obtain ⟨vals, h1, h2⟩ := rows_at I hi t fun x hx => hn x (List.mem_cons_of_mem _ hx)
      obtain ⟨its, rv, pl⟩ := sq_at I q
      have hr : i < r.length := by rw [hn r List.mem_cons_self]; exact hi
      obtain ⟨u, hu, ru⟩ := rv.get (List.getElem?_eq_getElem hr)
      refine ⟨u :: vals, .cons ⟨_, pl, by simpa using hu⟩ h1, .cons ?_ h2⟩
      show RelV (r.getD i V.non) u
      rw [List.getD_eq_getElem?_getD, List.getElem?_eq_getElem hr]
      exact ru
theorem turn_zipN {kd : Addr → Bool} {P : Program} {w : World} {K : PySem.W.Frag} {tg : Expr} {z TI TO : Addr} {L : List (Addr × Addr)} {rows : List (List V)} {N : Nat} (D : ZN.Ap z TI TO L) (hne : L ≠ []) (h6 : L.length ≤ 6) (hn : ∀ r ∈ rows, r.length = N) :
    Turn P w K tg (ItzN kd K (L.map (·.2)) rows N) (z :: TI :: TO :: L.map (·.1)) z (fun i h => ∃ (v : Value) (f : Bool) (kept : List Value), IsZr h z TI TO v f ∧ VOk v ∧ IsTu h TI (L.map fun p => Value.ref p.1).toArray ∧ IsTu h TO kept.toArray ∧ kept.length = L.length ∧ ∀ p ∈ L, IsIt kd h p.1 p.2 i) where
  mem := List.mem_cons_self
  obj := fun i h st c hc => by
    obtain ⟨v, f, kept, hz, _, hTI, hTO, _, hi⟩ := st
    rcases List.mem_cons.mp hc with rfl | hc
    · exact ⟨_, hz, fun v q => nomatch q⟩
    rcases List.mem_cons.mp hc with rfl | hc
    · exact ⟨_, hTI, fun v q => nomatch q⟩
    rcases List.mem_cons.mp hc with rfl | hc
    · exact ⟨_, hTO, fun v q => nomatch q⟩
    obtain ⟨p, hp, rfl⟩ := List.mem_map.mp hc
    obtain ⟨o, e, vs, d⟩ := (hi p hp).obj
    exact ⟨o, e, fun v q => by rw [d] at q; cases q⟩
  keep := fun i h h' st k => by
    obtain ⟨v, f, kept, hz, hv, hTI, hTO, kl, hi⟩ := st
    refine ⟨v, f, kept, k z (by simp) _ hz, hv, k TI (by simp) _ hTI, k TO (by simp) _ hTO, kl, fun p hp => (hi p hp).at fun o q => k p.1 ?_ o q⟩
    exact List.mem_cons_of_mem _ (List.mem_cons_of_mem _ (List.mem_cons_of_mem _ (List.mem_map_of_mem hp)))
  item := by
    intro X hP hw hK hc i pins s σ H E I hf st hg
    subst hP hw hK
    obtain ⟨v, f, kept, hz, hv, hTI, hTO, kl, hi⟩ := st
    obtain ⟨hrows, hlt⟩ := hg
    obtain ⟨vals, hr, rv⟩ := rows_at I hlt hrows hn
    have vl : vals.length = L.length := (Paired.length hr).symm
    have zl : z < s.heap.objs.size := Heap.lt_size hz
    have lt : ∀ c ∈ z :: TI :: TO :: L.map (·.1), c < s.heap.objs.size := fun c hc => by
      rcases List.mem_cons.mp hc with rfl | hc
      · exact zl
      rcases List.mem_cons.mp hc with rfl | hc
      · exact Heap.lt_size hTI
      rcases List.mem_cons.mp hc with rfl | hc
      · exact Heap.lt_size hTO
      obtain ⟨p, hp, rfl⟩ := List.mem_map.mp hc
      obtain ⟨o, e, _⟩ := (hi p hp).obj
      exact Heap.lt_size e
    refine pyNext_item D hz hv hTI hTO kl hne (by omega) hi hr fun h' v' f' kept' a1 a2 a3 a4 a5 a6 a7 => ?_
    refine ⟨_, rfl, ?_⟩
    have fin : ∀ (h2 : Heap) (v2 : Value), IsZr h2 z TI TO v2 f' → VOk v2 → (∀ c o, c ≠ z → h'.get? c = some o → h2.get? c = some o) → ∃ (x : V) (H' : Hp), Inv X pins σ H' { s with heap := h2 } ∧ RelV x (.ref s.heap.objs.size) ∧ (ItzN kd X.K (L.map (·.2)) rows N).yld i H x H' ∧ (∃ (v : Value) (f : Bool) (kept : List Value), IsZr h2 z TI TO v f ∧ VOk v ∧ IsTu h2 TI (L.map fun p => Value.ref p.1).toArray ∧ IsTu h2 TO kept.toArray ∧ kept.length = L.length ∧ ∀ p ∈ L, IsIt kd h2 p.1 p.2 (i + 1)) ∧ ∀ b ∈ z :: TI :: TO :: L.map (·.1), H' b = none := fun h2 v2 z2 vk up => by
      have b6 := up _ _ (Nat.ne_of_gt zl) a6
      have new : ObjOk X.prog X.w (upd H s.heap.objs.size (.tup (colV rows i))) h2 s.heap.objs.size (.tup (colV rows i)) := ⟨by rw [Paired.length rv, vl, sizeLine_eq]; omega, vals, rv, ⟨_, b6, rfl, _, rfl⟩⟩
      have I1 : Inv X pins σ (upd H s.heap.objs.size (.tup (colV rows i))) { s with heap := h2 } := I.turnedNew (t' := s.toks) (ch := z :: TI :: TO :: L.map (·.1)) (fun c o hb q => up _ _ (fun y => hb (by simp [y])) (a7 c o (fun y => hb (by simp [y])) (fun y => hb (by simp [y])) (fun y => hb (List.mem_cons_of_mem _ (List.mem_cons_of_mem _ (List.mem_cons_of_mem _ y)))) q)) hf (Nat.le_refl _) new
      refine ⟨.ref s.heap.objs.size, _, I1, rfl, ⟨_, rfl, I.hok.fresh (Nat.le_refl _), rfl⟩, ⟨v2, f', kept', z2, vk, ?_, up _ _ D.oz a3, a4, fun p hp => (a5 p hp).at fun o q => up _ o (D.zz p hp).1 q⟩, fun c hcm => ?_⟩
      · exact up _ _ D.tz (a7 _ _ D.tz D.tt D.t hTI)
      · rw [upd_ne (Nat.ne_of_lt (lt c hcm))]
        exact (hf c hcm).1
    exact let_any (s := { s with heap := h' }) a1 (fin h' v' a1 a2 fun _ _ _ e => e) fun h2 z2 sb => fin h2 .none z2 (.inl rfl) fun c o hc e => sb.extBut _ _ hc e
  done := by
    intro X hP hw hK hc i pins s σ H E I hf st hg
    subst hP hw hK
    obtain ⟨v, f, kept, hz, hv, hTI, hTO, kl, hi⟩ := st
    obtain ⟨hrows, hge⟩ := hg
    cases L with
    | nil => exact absurd rfl hne
    | cons p L =>
      rw [List.map_cons] at hrows
      cases hrows with
      | @cons _ r _ rows q t =>
        obtain ⟨its, rv, pl⟩ := sq_at I q
        have hl : its.length = N := by rw [← rv.length]; exact hn r List.mem_cons_self
        exact pyNext_end (I.ok.hd hc) D hz hv hTI hTO (hi p List.mem_cons_self) pl (by simp; omega) fun h' hk => ⟨rfl, I.turnedL (t' := s.toks) (ch := z :: TI :: TO :: (p :: L).map (·.1)) (fun c o hb q => hk c o (fun y => hb (by simp [y])) (fun y => hb (by simp [y])) (fun y => hb (List.mem_cons_of_mem _ (List.mem_cons_of_mem _ (List.mem_cons_of_mem _ y)))) q) hf⟩
  self := fun A i s Q E ⟨v, f, kept, hz, _⟩ h => pyIter_self hz h
/-- zip over sources with their kinds -/
theorem go_zip {X : Cx} {tg : Expr} {pins : List (Addr × Obj)} {σ : L2.St} {H1 : Hp} {s2 : Shared} {R : It → Hp → Prop} {E : Value → Shared → Prop} {ts : List (Addr × Bool)} {rows : List (List V)} {N : Nat} (I2 : Inv X pins σ H1 s2) (hrows : Paired (fun (t : Addr × Bool) r => SqB X.K H1 t.2 t.1 r) ts rows) (hn : ∀ r ∈ rows, r.length = N) (h1 : 1 ≤ ts.length) (h6 : ts.length ≤ 6)
    (q : ∀ kd : Addr → Bool, (∀ t ∈ ts, kd t.1 = t.2) → R (ItzN kd X.K (ts.map (·.1)) rows N) H1) :
    wpAny (model X.prog X.w) X.A (call (.type "zip") ((ts.map (·.1)).map Value.ref)) (fun v s1 => wpAny (model X.prog X.w) X.A (pyIter v) (PIE X pins σ tg R) E s1) E s2 := by
  have some : ∀ {ts : List (Addr × Bool)} {rows : List (List V)}, Paired (fun (t : Addr × Bool) r => SqB X.K H1 t.2 t.1 r) ts rows → ∀ t ∈ ts, ∃ r, SqB X.K H1 t.2 t.1 r := by
    intro ts rows h
    induction h with
    | nil => intro t ht; cases ht
    | cons q _ ih =>
      intro t ht
      rcases List.mem_cons.mp ht with rfl | ht
      · exact ⟨_, q⟩
      · exact ih t ht
  have apart : ∀ a, (a, true) ∈ ts → (a, false) ∈ ts → False := fun a p1 p2 => by
    obtain ⟨r, k1⟩ := some hrows _ p1
    obtain ⟨r2, k2⟩ := some hrows _ p2
    unfold SqB at k1 k2
    rw [if_pos rfl] at k1
    rw [if_neg Bool.false_ne_true] at k2
    obtain ⟨_, _, ⟨o, e1, c1, _⟩, _⟩ := I2.tuple k1
    obtain ⟨_, _, pl, _⟩ := I2.list k2
    obtain ⟨o2, e2, c2, _⟩ := pl.isList
    rw [e1] at e2
    cases e2
    rw [c1] at c2
    simp at c2
  obtain ⟨kd, hkd⟩ : ∃ kd : Addr → Bool, ∀ t ∈ ts, kd t.1 = t.2 := by
    refine ⟨fun a => decide ((a, true) ∈ ts), fun t ht => ?_⟩
    obtain ⟨a, b⟩ := t
    cases b with
    | true => exact decide_eq_true ht
    | false => exact decide_eq_false fun z => apart a z ht
  have hk : ∀ {ts : List (Addr × Bool)} {rows : List (List V)}, (∀ t ∈ ts, kd t.1 = t.2) → Paired (fun (t : Addr × Bool) r => SqB X.K H1 t.2 t.1 r) ts rows → Paired (SqK kd X.K H1) (ts.map (·.1)) rows := by
    intro ts rows hh h
    induction h with
    | nil => exact .nil
    | @cons t r ts rows q _ ih =>
      refine .cons ?_ (ih fun t ht => hh t (List.mem_cons_of_mem _ ht))
      show SqB X.K H1 (kd t.1) t.1 r
      rw [hh t List.mem_cons_self]
      exact q
  have ll : ∀ l ∈ ts.map (·.1), ∃ xs, IsSq kd s2.heap l xs := fun l hl => by
    obtain ⟨t, ht, rfl⟩ := List.mem_map.mp hl
    obtain ⟨r, k⟩ := some hrows t ht
    have k2 : SqK kd X.K H1 t.1 r := by
      show SqB X.K H1 (kd t.1) t.1 r
      rw [hkd t ht]
      exact k
    obtain ⟨its, _, pl⟩ := sq_at I2 k2
    exact ⟨_, pl⟩
  refine call_zip (kd := kd) (ts.map (·.1)) ll (by rw [List.length_map]; exact h6) fun z TI TO L h' kept eL D hz hTI hTO kl hi hfr kp => ?_
  have I3 : Inv X pins σ H1 { s2 with heap := h' } := I2.kept (t' := s2.toks) kp
  have lL : L.length = ts.length := by have := congrArg List.length eL; rw [List.length_map, List.length_map] at this; exact this
  refine pyIter_self hz ?_
  have T := turn_zipN (kd := kd) (P := X.prog) (w := X.w) (K := X.K) (tg := tg) (rows := rows) (N := N) D (fun q => by rw [q] at lL; simp at lL; omega) (by omega) hn
  rw [eL] at T
  refine ⟨z, _, _, _, H1, rfl, I3, T, ⟨.none, false, kept, hz, .inl rfl, hTI, hTO, kl, hi⟩, fun c hc => ?_, q kd hkd⟩
  have hle : s2.heap.objs.size ≤ c := hfr c (by simpa using hc)
  exact I2.fpOk hle (I2.hok.fresh hle)
def iZipN (K : PySem.W.Frag) (te : TE) : TI := fun σ H R => te σ H fun x H1 => ∃ p as rows N, x = V.ref p ∧ SqL K H1 p (as.map V.ref) ∧ Paired (SqL K H1) as rows ∧ (∀ r ∈ rows, r.length = N) ∧ 1 ≤ as.length ∧ as.length ≤ 6 ∧ ∀ kd : Addr → Bool, (∀ a ∈ as, kd a = false) → R (ItzN kd K as rows N) H1
def iZipM (K : PySem.W.Frag) (ta : TA) : TI := fun σ H R => ta σ H fun vs H1 => ∃ (ts : List (Addr × Bool)) (rows : List (List V)) (N : Nat), vs = ts.map (fun t => V.ref t.1) ∧ Paired (fun (t : Addr × Bool) r => SqB K H1 t.2 t.1 r) ts rows ∧ (∀ r ∈ rows, r.length = N) ∧ 1 ≤ ts.length ∧ ts.length ≤ 6 ∧ ∀ kd : Addr → Bool, (∀ t ∈ ts, kd t.1 = t.2) → R (ItzN kd K (ts.map (·.1)) rows N) H1
theorem refs_of : ∀ {as : List Addr} {us : List Value}, Vals (as.map V.ref) us → us = as.map Value.ref
  | [], _, h => by cases h; rfl
  | a :: as, _, h => by
    cases h with
    | cons r t =>
      rw [refs_of t, show _ = Value.ref a from r]
      rfl
theorem pi_zipN {X : Cx} {tg : Expr} {e : Expr} {te : TE} {p sp pos : Pos} (hg : Gl X "zip") (hm : X.mg "zip" = none) (he : PE X e te) (hst : starEach [.Starred e sp] X.env = [(true, eval e X.env)] := by rfl) :
    PI X tg (.Call (.Name "zip" p) [.Starred e sp] [] pos) (iZipN X.K te) := by
  refine ⟨fun pins s σ H R I h => ?_⟩
  refine Call_ (ld_blt I hg hm PyProof.Rows.boot_zip (callWith_typeS (thn (he.run pins s σ H _ I h) fun v s1 ⟨y, H1, I1, r1, q1⟩ => ?_) hst))
  obtain ⟨q0, as, rows, N, ex, sq, hrows, hn, h1, h6, q⟩ := q1
  subst ex
  obtain rfl : v = Value.ref q0 := r1
  refine StX.star_lst I1 sq fun us s2 I2 rv => ?_
  rw [refs_of rv]
  have pr : ∀ {as : List Addr} {rows : List (List V)}, Paired (SqL X.K H1) as rows → Paired (fun (t : Addr × Bool) r => SqB X.K H1 t.2 t.1 r) (as.map fun a => (a, false)) rows := by
    intro as rows h
    induction h with
    | nil => exact .nil
    | cons q _ ih => exact .cons q ih
  have e1 : (as.map fun a => (a, false)).map (·.1) = as := by rw [List.map_map]; exact List.map_id _
  have := go_zip (tg := tg) (R := R) (E := X.xe) I2 (pr hrows) hn (by rw [List.length_map]; exact h1) (by rw [List.length_map]; exact h6) fun kd hkd => by
    rw [e1]
    exact q kd fun a ha => hkd (a, false) (List.mem_map.mpr ⟨a, ha, rfl⟩)
  rw [e1] at this
  exact this
theorem pi_zipM {X : Cx} {tg e : Expr} {es : List Expr} {ta : TA} {p pos : Pos} (hg : Gl X "zip") (hm : X.mg "zip" = none) (ha : PA X (e :: es) ta) (hst : starEach (e :: es) X.env = (false, eval e X.env) :: starEach es X.env := by rfl) (hpl : (backTo pos (starEach es X.env)).any (·.1) = false := by rfl) :
    PI X tg (.Call (.Name "zip" p) (e :: es) [] pos) (iZipM X.K ta) := by
  refine ⟨fun pins s σ H R I h => ?_⟩
  refine Call_ (ld_blt I hg hm PyProof.Rows.boot_zip (PyProof.Rows.callWith_type1 (thn (ha.run pos pins s σ H _ I h) fun us s1 ⟨vs, H1, I1, r1, q1⟩ => ?_) hst hpl))
  obtain ⟨ts, rows, N, ex, hrows, hn, h1, h6, q⟩ := q1
  have e2 : ts.map (fun t => V.ref t.1) = (ts.map (·.1)).map V.ref := by rw [List.map_map]; rfl
  rw [ex, e2] at r1
  rw [refs_of r1]
  exact go_zip I1 hrows hn h1 h6 q
/-! ### as data -/
def colD (xss : List (List PyData)) (i : Nat) : PyData := .tuple (xss.map fun r => r.getD i .none)
theorem dn_rows {K : PySem.W.Frag} {G : Hp} : ∀ {vs : List V} {xss : List (List PyData)}, DnAll K G vs (xss.map PyData.list) → ∃ (as : List Addr) (rows : List (List V)), vs = as.map V.ref ∧ Paired (fun a us => G a = some (.lst us)) as rows ∧ Paired (DnAll K G) rows xss
  | _, [], h => by
    cases h
    exact ⟨[], [], rfl, .nil, .nil⟩
  | _, xs :: xss, h => by
    cases h with
    | cons r t =>
      obtain ⟨as, rows, e, h1, h2⟩ := dn_rows t
      cases r with
      | @lst a us _ ga da => exact ⟨a :: as, us :: rows, by rw [e]; rfl, .cons ga h1, .cons da h2⟩
theorem rows_len {K : PySem.W.Frag} {G : Hp} {N : Nat} : ∀ {rows : List (List V)} {xss : List (List PyData)}, Paired (DnAll K G) rows xss → (∀ r ∈ xss, r.length = N) → ∀ r ∈ rows, r.length = N
  | _, _, .nil, _, _, h => by cases h
  | _, _, .cons d t, hn, r, h => by
    rcases List.mem_cons.mp h with rfl | h
    · rw [d.length]; exact hn _ List.mem_cons_self
    · exact rows_len t (fun x hx => hn x (List.mem_cons_of_mem _ hx)) r h
theorem col_dn {K : PySem.W.Frag} {G : Hp} {i N : Nat} (hi : i < N) : ∀ {rows : List (List V)} {xss : List (List PyData)}, Paired (DnAll K G) rows xss → (∀ r ∈ xss, r.length = N) → DnAll K G (colV rows i) (xss.map fun r => r.getD i .none)
  | _, _, .nil, _ => .nil
  | _, _, @Paired.cons _ _ _ us ds _ _ d t, hn => by
    refine .cons ?_ (col_dn hi t fun x hx => hn x (List.mem_cons_of_mem _ hx))
    have hd : i < ds.length := by rw [hn ds List.mem_cons_self]; exact hi
    obtain ⟨v, hv, dv⟩ := d.get (List.getElem?_eq_getElem hd)
    show Dn K G (us.getD i V.non) (ds.getD i PyData.none)
    rw [List.getD_eq_getElem?_getD, List.getD_eq_getElem?_getD, hv, List.getElem?_eq_getElem hd]
    exact dv
theorem itd_zipN {kd : Addr → Bool} {K : PySem.W.Frag} {G : Hp} {as : List Addr} {rows : List (List V)} {xss : List (List PyData)} {N : Nat} (h1 : Paired (SqK kd K G) as rows) (h2 : Paired (DnAll K G) rows xss) (hn : ∀ r ∈ xss, r.length = N) : Itd K (ItzN kd K as rows N) G ((List.range N).map (colD xss)) where
  go := fun i H g hi => by
    rw [List.length_map, List.length_range] at hi
    exact ⟨Paired.mapP h1 fun a us q => sqb_mono g q, hi⟩
  stop := fun i H g hi => by
    rw [List.length_map, List.length_range] at hi
    exact ⟨Paired.mapP h1 fun a us q => sqb_mono g q, hi⟩
  yld := fun i T G' H x H' g1 g2 tp hi y => by
    rw [List.length_map, List.length_range] at hi
    obtain ⟨t, rfl, ht, rfl⟩ := y
    have up : Same G' (upd G' t (.tup (colV rows i))) := fun c w e => by rw [upd_ne (ne_of_none e (g2.free ht))]; exact e
    refine ⟨upd G' t (.tup (colV rows i)), colD xss i, ?_, Step.new g2 tp ht, .tup (.inl (.inl upd_same)) (((col_dn hi h2 hn).mono g1).mono up)⟩
    rw [List.getElem?_map, List.getElem?_range hi]
    rfl
theorem it_zipN {K : PySem.W.Frag} {ρ : Rho} {te : TE} {xss : List (List PyData)} {N : Nat} (h : Rl K te ρ (fun x => x = xss.map PyData.list)) (hn : ∀ r ∈ xss, r.length = N) (h1 : 1 ≤ xss.length) (h6 : xss.length ≤ 6) : Pitd K (iZipN K te) ρ ((List.range N).map (colD xss)) := fun T H0 G H σ gh tp D R q =>
  h.bind gh tp D fun ys p vs G1 H1 e s gh1 tp1 D1 rd a => by
    subst e
    obtain ⟨as, rows, e, a1, a2⟩ := dn_rows a
    subst e
    have ll : as.length = xss.length := (Paired.length a1).trans (Paired.length a2)
    refine ⟨p, as, rows, N, rfl, rd.sq gh1, Paired.mapP a1 fun a us q => .inl (.inl (gh1 _ _ q)), rows_len a2 hn, by omega, by omega, fun kd hkd => q _ _ G1 H1 rfl s (itd_zipN ?_ a2 hn)⟩
    have go : ∀ {as : List Addr} {rows : List (List V)}, (∀ a ∈ as, kd a = false) → Paired (fun a us => G1 a = some (.lst us)) as rows → Paired (SqK kd K G1) as rows := by
      intro as rows hh h
      induction h with
      | nil => exact .nil
      | @cons a r as rows q _ ih =>
        refine .cons ?_ (ih fun t ht => hh t (List.mem_cons_of_mem _ ht))
        show SqB K G1 (kd a) a r
        rw [hh a List.mem_cons_self]
        exact .inl (.inl q)
    exact go hkd a1
/-- a source as data: a tuple (true) or a list -/
def srcD (p : Bool × List PyData) : PyData := if p.1 then .tuple p.2 else .list p.2
theorem arg_rows {T : Addr → Prop} {K : PySem.W.Frag} {G : Hp} : ∀ {vs : List V} {xss : List (Bool × List PyData)}, ArgsOk T K G (xss.map fun p => .d (srcD p)) vs → ∃ (ts : List (Addr × Bool)) (rows : List (List V)), vs = ts.map (fun t => V.ref t.1) ∧ Paired (fun (t : Addr × Bool) r => SqB K G t.2 t.1 r) ts rows ∧ Paired (DnAll K G) rows (xss.map (·.2)) ∧ ts.length = xss.length
  | _, [], h => by
    cases h
    exact ⟨[], [], rfl, .nil, .nil, rfl⟩
  | _, (b, xs) :: xss, h => by
    cases h with
    | cons r t =>
      obtain ⟨ts, rows, e, h1, h2, h3⟩ := arg_rows t
      cases b with
      | true =>
        have r : Dn K G _ (.tuple xs) := r
        cases r with
        | @tup a us _ ga da => exact ⟨(a, true) :: ts, us :: rows, by rw [e]; rfl, .cons ga h1, .cons da h2, by rw [List.length_cons, List.length_cons, h3]⟩
      | false =>
        have r : Dn K G _ (.list xs) := r
        cases r with
        | @lst a us _ ga da => exact ⟨(a, false) :: ts, us :: rows, by rw [e]; rfl, .cons (show SqL K G a us from .inl (.inl ga)) h1, .cons da h2, by rw [List.length_cons, List.length_cons, h3]⟩
theorem it_zipM {K : PySem.W.Frag} {ρ : Rho} {ta : TA} {N : Nat} (xss : List (Bool × List PyData)) (h : Pasd K ta ρ (xss.map fun p => .d (srcD p))) (hn : ∀ r ∈ xss.map (·.2), r.length = N) (h1 : 1 ≤ xss.length := by decide) (h6 : xss.length ≤ 6 := by decide) : Pitd K (iZipM K ta) ρ ((List.range N).map (colD (xss.map (·.2)))) := fun T H0 G H σ gh tp D R q =>
  h.bind gh tp D fun ss vs G1 H1 e s gh1 tp1 D1 a => by
    subst e
    obtain ⟨ts, rows, e, a1, a2, a3⟩ := arg_rows a
    refine ⟨ts, rows, N, e, Paired.mapP a1 fun a us q => sqb_mono gh1 q, rows_len a2 hn, by omega, by omega, fun kd hkd => q _ _ G1 H1 rfl s (itd_zipN ?_ a2 hn)⟩
    have go : ∀ {ts : List (Addr × Bool)} {rows : List (List V)}, (∀ t ∈ ts, kd t.1 = t.2) → Paired (fun (t : Addr × Bool) r => SqB K G1 t.2 t.1 r) ts rows → Paired (SqK kd K G1) (ts.map (·.1)) rows := by
      intro ts rows hh h
      induction h with
      | nil => exact .nil
      | @cons t r ts rows q _ ih =>
        refine .cons ?_ (ih fun t ht => hh t (List.mem_cons_of_mem _ ht))
        show SqB K G1 (kd t.1) t.1 r
        rw [hh t List.mem_cons_self]
        exact q
    exact go hkd a1
end PD

set_option maxHeartbeats 4000000
/-! all(list of bools) -/
namespace PD
open PySem PySem.Spec PyProof.Rows L2
section
variable {K : PySem.W.Frag} {ρ : Rho} {ta tb : TE}
theorem yd_allR {bs : List Bool} (ha : Rl K ta ρ (fun x => x = bs.map .bool)) : Pd K (tCB (rAll K) (tCons ta tNil)) ρ (.bool (bs.all id)) := fun T H0 G H σ gh tp D Q q =>
  ha.bind gh tp D fun xs p vs G1 H1 p1 s1 gh1 tp1 D1 rd a => by
    subst p1
    have := a.bools
    subst this
    exact ⟨p, bs, rfl, rd.sq gh1, q _ _ G1 H1 rfl s1 (.bl _)⟩
end
theorem sortedKP {X : Cx} {K : PySem.W.Frag} (h : X.K = K) : CallR X (.builtin "sorted") (rSortedI K) := h ▸ cr_sortedI
end PD

set_option maxHeartbeats 2000000
/-! PD24: the caught exception as a value: except X as e, isinstance(e, C), a def that is given e -/
namespace PD
open PySem PySem.Spec PyProof.Rows L2
/-! bs.count(k) of bools -/
def rCntB (K : PySem.W.Frag) : V → List V → Hp → VK → Prop := fun x xs H Q => ∃ (a : Addr) (bs : List Bool) (k : Bool), x = .ref a ∧ xs = [V.bl k] ∧ SqL K H a (bs.map V.bl) ∧ Q (.int (bs.count k : Nat)) H
theorem vals_bls : ∀ {bs : List Bool} {us : List Value}, Vals (bs.map V.bl) us → us = bs.map Value.bool
  | [], _, .nil => rfl
  | b :: bs, _, .cons r t => by
    cases r
    rw [vals_bls t]
    rfl
theorem rds_bls (h : Heap) : ∀ bs : List Bool, ReadsAll h (bs.map Value.bool) (bs.map PyData.bool) (bs.flatMap fun _ => [])
  | [] => .nil
  | b :: bs => by
    show ReadsAll h (.bool b :: bs.map Value.bool) (.bool b :: bs.map PyData.bool) ([] ++ bs.flatMap fun _ => [])
    exact .cons (.bool b) (rds_bls h bs)
theorem cnt_bls (k : Bool) : ∀ bs : List Bool, countIn (.bool k) (bs.map PyData.bool) = (bs.count k : Nat)
  | [] => rfl
  | b :: bs => by
    show (if same (.bool b) (.bool k) then (1 : Int) else 0) + countIn (.bool k) (bs.map PyData.bool) = _
    rw [cnt_bls k bs, List.count_cons]
    cases b <;> cases k <;> simp [same] <;> omega
theorem mt_cntB {X : Cx} : MtR X "list.count" (rCntB X.K) := by
  intro pins s σ H x xs v us Q I rx rxs h
  obtain ⟨a, bs, k, rfl, rfl, hs, q⟩ := h
  cases rx
  cases rxs with
  | cons ry rt =>
    cases rt
    cases ry
    obtain ⟨its, rv, pl, _⟩ := I.list hs
    have e := vals_bls rv
    subst e
    obtain ⟨o, n, ho, hc, hdn, hd⟩ := pl
    refine count_list_bools (vs := bs.map Value.bool) (xs := bs.map PyData.bool) (k := k) ⟨o, ho, hc, n, hd⟩ (rds_bls s.heap bs) ?_ ?_
    · rw [List.all_eq_true]
      intro y hy
      obtain ⟨b, _, rfl⟩ := List.mem_map.mp hy
      rfl
    · rw [cnt_bls]
      exact ⟨.int (bs.count k : Nat), H, I.tok _, ⟨_, rfl⟩, q⟩
theorem yd_cntB {K : PySem.W.Frag} {ρ : Rho} {ta tb : TE} {bs : List Bool} {k : Bool} (ha : Rl K ta ρ (fun y => y = bs.map .bool)) (hb : Pd K tb ρ (.bool k)) : Pd K (tBM K "list" (rCntB K) ta (tCons tb tNil)) ρ (.int (bs.count k : Nat)) := fun T H0 G H σ gh tp D Q q =>
  ha.bind gh tp D fun xs p vs G1 H1 p1 s1 gh1 tp1 D1 rd a => ⟨.inl ⟨rfl, vs, rd.sq gh1⟩, hb.bind gh1 tp1 D1 fun y u G2 H2 p2 s2 gh2 tp2 D2 x2 => by
    subst p1 p2
    cases x2
    have := a.bools
    subst this
    exact ⟨p, bs, k, rfl, rfl, (rd.mono s2).sq gh2, q _ _ G2 H2 rfl (s1.trans s2) (.int _)⟩⟩
/-! isinstance(e, C), e's object a pin -/
theorem call_isP {X : Cx} {p : Addr × Obj} {D : Addr} (C : ExcC X.K D) (hp : p ∈ X.pn) (hz : Zc (.ref D) none p.2) (hf : ∃ vs, p.2.data = .fields vs) : CallR X (.builtin "isinstance") (rIsE X.K D p.1) := fun pins s σ H xs us Q I r h => by
  obtain ⟨c, cv, b, rfl, hcv, e, q⟩ := h
  obtain ⟨u1, u2, rfl, r1, r2⟩ := vals2 r
  cases (show u1 = Value.ref p.1 from r1)
  cases hcv _ r2
  have hget := (I.pin p (List.mem_append_left _ hp)).1
  obtain ⟨vs, hv⟩ := hf
  have J : PySem.W.InstAt s.heap p.1 p.2 D none := by
    obtain ⟨a, oc, od, oda, osl⟩ := p
    obtain ⟨z1, z2⟩ := hz
    simp only at z1 z2 hv
    subst z1 z2 hv
    exact ⟨hget, rfl, rfl, trivial⟩
  have kx := PySem.W.handS_kitx_exc (x := p.1) (ox := p.2) C.hg C.hk C.hs C.hd C.ha C.hn C.ht C.hm
  exact PySem.W.kia_one kx I.kIn J e (fun z => nomatch z) fun tk => ⟨.bl b, H, I.kept (t' := tk) fun _ _ z => z, rfl, q⟩
theorem yd_isE {K : PySem.W.Frag} {ρ : Rho} {i : Nat} {a D : Addr} {c : V} {cv : Value} {b : Bool} (hi : ρ[i]? = some (.rf a)) (hc : ClsV c cv) (hk : PySem.W.kitOne K (.ref D) cv = some b) :
    Pd K (tCB (rIsE K D a) (tCons (tVar i) (tCons (tC c) tNil))) ρ (.bool b) := fun T H0 G H σ gh tp D' Q q => by
  obtain ⟨o, e1, rfl⟩ := D'.at hi
  exact ⟨_, e1, c, cv, b, rfl, fun u r => hc.eq r, hk, q _ _ G H rfl (Step.refl gh tp) (.bl b)⟩
theorem opx_eqU {X : Cx} (hu : X.A.units + 64 < cLine) : OpR X (compareOp .Eq) (rEqX X.K) := op_eq.or (op_eqD hu)
theorem ws_setd {K : PySem.W.Frag} {ρ : Rho} {te : TE} {d : PyData} {E : Ed} {i : Nat} (h : Pd K te ρ d) (k : E.nx (ρ.set i (.d d))) : Ws K (tAsg te (gName i)) ρ E := ws_set h fun _ e => e ▸ k
/-! a def that is given the caught exception and answers True, if it is of the class D -/
def spE (a : Addr) : List V → Hp → VK → Prop := fun vs H Q => vs = [.ref a] ∧ ∃ (T : Addr → Prop) (G : Hp), Same G H ∧ (∀ x, T x → Tp G H x) ∧ ∀ G' H', Step T G H G' H' → Q (.bl true) H'
structure FnE (P : Program) (w : World) (K : PySem.W.Frag) (mg : Str → Option Value) (base : Heap) (k : Nat) (f : Addr) (fd : FuncData) (x : Str) (D : Addr) : Prop where
  run : ∀ (A : Around) (outer : List Env) (s : Shared) (H : Hp) (args : Args) (us : List Value) (Q : VK) (E : XK) (p : Addr × Obj), L2H.RoomH k A → L2H.PinOk outer H s p → Zc (.ref D) none p.2 → (∃ vs, p.2.data = .fields vs) → Env0 P w K mg base A outer s H →
    BindsTo s fd args ([x].zip us) → Vals [V.ref p.1] us → spE p.1 [.ref p.1] H Q → codeAny (model P w) A (.call (.ref f) args) (CR CX0 outer P w H s Q E) s
theorem fn_e {P : Program} {w : World} {K : PySem.W.Frag} {mg : Str → Option Value} {base : Heap} {x qual y : Str} {st : Stmt} {f D : Addr} {fd : FuncData} {N : List Str} {k : Nat} (F : Fun K x qual st f fd) (S : FnScope N [y] (defScope st))
    (hb : ∀ (cdv : Value) (A : Around) (outer : List Env) (s : Shared) (H : Hp) (E : XK) (p : Addr × Obj), Zc (.ref D) none p.2 → (∃ vs, p.2.data = .fields vs) → (A.deeper (envOfC qual (defScope st) s.heap.objs.size f cdv)).units + 64 < cLine →
      ∃ t, PSs (L2H.cxH CX0 P w K mg base N qual (defScope st) f cdv A outer s H E p) (defBody st) t ∧ Ws K t (.rf p.1 :: List.replicate (N.length - 1) .no) { rt := fun d => d = .bool true }) :
    FnE P w K mg base (k + 1) f fd y D := by
  obtain ⟨oc, od, kV, doc, pm, an, cdv, ct, osl, rfl, lk, hcd⟩ := F.ex
  refine ⟨fun A outer s H args us Q E p hr hpin hz hf e0 hbind r hsp => ?_⟩
  have KIn := PySem.W.Frag.In.keeps e0.mod.kin (h' := s.heap) fun b o e => (e0.bs b o e).1
  have lim := Heap.NoLimit.keeps (h' := s.heap) e0.mod.nolimit fun b o e => (e0.bs b o e).1
  have kinds : ∀ z ∈ [y].zip us, (defScope st).names.lookup z.1 = some .local ∨ ((defScope st).names.lookup z.1 = some .cell ∧ ((cellsFrom (s.heap.objs.size + 1) (defScope st).names []).lookup z.1).isSome = true) := by
    rintro ⟨n, v⟩ hz'
    exact (S.par n (List.of_mem_zip hz').1).imp id fun q => ⟨q, PySem.W.cellsFrom_some _ _ _ (.inl q)⟩
  refine codeAny_call_function hr.depth (KIn _ _ lk) rfl S.co S.gen rfl (PySem.W.codeRec_of KIn hcd) (hbind _ _ _ _ ?_)
  refine wpAny_newFunctionEnv_cells S.kind kinds fun env he s1 hx => ?_
  cases he
  refine ⟨lim.keeps hx.toInCall.keep, codeAny_func ?_⟩
  obtain ⟨t, ht, hw⟩ := hb cdv A outer s H E p hz hf (by have := (hr.deeper (envOfC qual (defScope st) s.heap.objs.size f cdv)).un; omega)
  have I := L2H.inv_startH (CX := CX0) (E := E) (cd := cdv) S hpin e0 (vs := [V.ref p.1]) rfl r hx
  obtain ⟨_, T, G, gh, tp, q⟩ := hsp
  have hN : 1 ≤ N.length := by
    have := congrArg List.length S.pre
    rw [List.length_take] at this
    simp only [List.length_singleton] at this
    omega
  have D0 : Den T K H G H (L2.start N [V.ref p.1]) (.rf p.1 :: List.replicate (N.length - 1) .no) := by
    refine ⟨?_, fun i x o e1 e2 => ?_, fun i j xs ys l hij e1 _ _ _ => ?_⟩
    · unfold L2.start
      simp
    · cases i with
      | zero =>
        cases e1
        cases e2
        rfl
      | succ i =>
        have e1 : (List.replicate (N.length - 1) Sl.no)[i]? = some x := e1
        rw [List.getElem?_replicate] at e1
        split at e1
        · cases e1; trivial
        · cases e1
    · cases i with
      | zero => cases e1
      | succ i =>
        have e1 : (List.replicate (N.length - 1) Sl.no)[i]? = some (.ml xs) := e1
        rw [List.getElem?_replicate] at e1
        split at e1 <;> cases e1
  have hfin := hw T G H (L2.start N [V.ref p.1]) H { nx := fun _ H' => Q .non H', rt := Q } ⟨G, Step.refl gh tp, D0⟩ ⟨fun _ _ _ z => z.elim, fun d v H' e a => by
    obtain ⟨G', s', dn⟩ := a
    cases e
    cases dn
    exact q G' H' s', fun _ _ _ z => z.elim, fun _ _ _ z => z.elim, fun _ _ _ _ _ _ _ z => z.elim⟩
  refine wpAny_mono (ht.run [] s1 _ H _ I hfin) (fun fl s' hs => ?_) fun _ _ z => z
  cases fl with
  | ret u => exact let ⟨v, σ', H', J, rv, qv⟩ := hs; ⟨v, H', J.os, J.bare, J.base, J.hok, rv, qv⟩
  | next => exact let ⟨σ', H', J, qv⟩ := hs; ⟨.non, H', J.os, J.bare, J.base, J.hok, rfl, qv⟩
  | brk => exact let ⟨_, _, _, z⟩ := hs; z.elim
  | cont => exact let ⟨_, _, _, z⟩ := hs; z.elim
structure CalE (Pg : Program) (w : World) (K : PySem.W.Frag) (mg : Str → Option Value) (base : Heap) (k : Nat) (x y : Str) (D : Addr) : Prop where
  ex : ∃ f fd, FnE Pg w K mg base k f fd y D ∧ mg x = some (.ref f) ∧ PySem.W.keepIn K (.ref f) = true ∧ Binds K fd [y] []
/-- what the call wishes: slot i holds the exception, its class is D -/
def tE (i : Nat) (a D : Addr) (cls : Value) (d : Option Addr) : TE := fun σ H Q => cls = .ref D ∧ d = none ∧ σ[i]? = some (some (.ref a)) ∧ spE a [.ref a] H Q
theorem pe_callE {X : Cx} {k j : Nat} {x y n : Str} {D a : Addr} {oe : Obj} {pn : List (Addr × Obj)} {cls : Value} {d : Option Addr} {i : Nat} {q pos np : Pos} (C : CalE X.prog X.w X.K X.mg X.base k x y D) (hr : Room j X.A) (hN : X.N[i]? = some n) (hv : Vis X.env.scope n) (hz : Zc cls d oe) (hf : ∃ vs, oe.data = .fields vs)
    (hk : k ≤ j := by decide) (hg : Gl X x := by rfl) (hdb : (x == ("__debug__" : Str)) = false := by decide) (hnd : (n == ("__debug__" : Str)) = false := by decide) (hnc : (n == ("__classdict__" : Str)) = false := by decide) :
    PE (X.suite a ((a, oe) :: pn)) (.Call (.Name x q) [.Name n np] [] pos) (tE i a D cls d) := by
  obtain ⟨f, fd, F, hm, kp, hb⟩ := C.ex
  refine ⟨fun pins s σ H Q I h => ?_⟩
  obtain ⟨rfl, rfl, hσ, hsp⟩ := h
  refine wpAny_Call_Name_kw (ld_glob I (X := X.suite a ((a, oe) :: pn)) hg hm ?_ hdb)
  have pa : PA (X.suite a ((a, oe) :: pn)) [.Name n np] (tCons (tVar i) tNil) := pa_cons (pe_var hN hv hnd hnc) pa_nil
  refine PySem.W.callWith_K (h₀ := X.base) I.ok.mod.kin kp (thn (pa.run pos pins s σ H (fun vs H' => vs = [.ref a] ∧ H' = H) I ⟨_, hσ, rfl, rfl⟩) fun us s1 ⟨vs, H1, I1, r, e1, e2⟩ => ⟨I1.kIn, ?_⟩) rfl rfl
  subst e1 e2
  have bs := hb s1 us I1.kIn (by rw [List.append_nil, ← r.length]; rfl)
  rw [List.append_nil] at bs
  have P1 := I1.pin (a, oe) (List.mem_append_left _ List.mem_cons_self)
  have hpin : L2H.PinOk X.stack H1 s1 (a, oe) := ⟨P1.1, P1.2.1, fun hm' => (List.mem_cons.mp (I1.stkSub a hm')).elim P1.2.2.1 P1.2.2.2.1, P1.2.2.2.2⟩
  have room : L2H.RoomH k (X.suite a ((a, oe) :: pn)).A := by
    have := L2H.roomH_of hr
    exact ⟨by have := this.dp; show X.A.depth + 3 * k + 5 < _; omega, by have := this.un; show X.A.units + 16 * k + 200 < _; omega⟩
  refine wpAny_call (codeAny_mono (F.run _ X.stack s1 H1 ⟨us, []⟩ us Q (fun _ _ _ => False) (a, oe) room hpin hz hf I1.env0 bs r hsp) fun rs s' hq => ?_)
  cases rs with
  | error e => exact hq.elim
  | ok fl =>
    cases fl with
    | ret u => exact I1.after hq
    | next => exact hq.elim
    | brk => exact hq.elim
    | cont => exact hq.elim
/-- _law_single(e) in the suite -/
theorem yd_callE {K : PySem.W.Frag} {ρ : Rho} {i : Nat} {a D : Addr} (hi : ρ[i]? = some (.rf a)) : Pd K (tE i a D (.ref D) none) ρ (.bool true) := fun T H0 G H σ gh tp D' Q q => by
  obtain ⟨o, e1, rfl⟩ := D'.at hi
  exact ⟨rfl, rfl, e1, rfl, T, G, gh, tp, fun G' H' s => q _ _ G' H' rfl s (.bl true)⟩
/-! try: .. except X as e: .. -/
def tTryAs (K : PySem.W.Frag) (c : Value) (i : Nat) (tb : WX → TS) (ts : Addr → Value → Option Addr → TS) (Wout : WX) : TS := fun D σ H => tb (wAs K c i ts Wout D) D σ H
theorem ps_tryAsT {X : Cx} {x n : Str} {c : Value} {i : Nat} {body suite : List Stmt} {b₀ : Stmt} {np pos pos' : Pos} {tb : WX → TS} {ts : Addr → Value → Option Addr → TS} {Wout : WX} (hs : X.stack = X.env :: X.outer) (hf : X.env.frame = some X.env.locals) (hN : X.N.Nodup) (hi : X.N[i]? = some n) (hln : X.env.kindOf n = some .local) (hc : Names X x c) (tk : Takes X Wout)
    (hb : ∀ (W : WX) (pn : List (Addr × Obj)) (xe : Value → Shared → Prop), Takes (X.tr pn xe) W → PassesOwn (model X.prog X.w) X.A X.env xe → PSs (X.tr pn xe) body (tb W))
    (hsu : ∀ (a : Addr) (oe : Obj) (cls : Value) (d : Option Addr) (pn : List (Addr × Obj)), Zc cls d oe → (∃ vs, oe.data = .fields vs) → PSs (X.suite a ((a, oe) :: pn)) (b₀ :: suite) (ts a cls d)) :
    PS X (.Try body [.ExceptHandler (some (.Name x np)) (some n) (b₀ :: suite) pos'] [] [] pos) (tTryAs X.K c i tb ts Wout) := ps_try_as hs hf hN hi hln hc tk hb hsu
theorem ws_tryAs {K : PySem.W.Frag} {ρ : Rho} {E : Ed} {i : Nat} {tb : WX → TS} {ts : Addr → Value → Option Addr → TS} {Wout : WX} {c : Value} (XR : Value → List (Str × PyData) → Rho → Prop)
    (hb : ∀ W, Ws K (tb W) ρ { nx := E.nx, rt := E.rt, bk := E.bk, ct := E.ct, xw := W, xr := XR })
    (hh : ∀ c' fs r, XR c' fs r → fs = [] ∧ ∃ b, PySem.W.exmOne K c' c = some b ∧ (b = true → ∀ a, Ws K (ts a c' none) (r.set i (.rf a)) { nx := fun q => E.nx (q.set i .no), rt := E.rt, bk := fun q => E.bk (q.set i .no), ct := fun q => E.ct (q.set i .no) }) ∧ (b = false → E.xr c' fs r ∧ E.xw = Wout)) : Ws K (tTryAs K c i tb ts Wout) ρ E := fun T G0 H0 σ H D a e => by
  refine hb (wAs K c i ts Wout D) T G0 H0 σ H D a ⟨e.nx, e.rt, e.bk, e.ct, fun cls fs d r σ' G' H' x s D' xd => ?_⟩
  obtain ⟨hfs, b, h1, h2, h3⟩ := hh cls fs r x
  refine ⟨b, h1, fun hbt a' na => ?_, fun hbf => ?_⟩
  · have hd : d = none := by
      rcases xd with ⟨z, _⟩ | ⟨z, _⟩
      · exact z
      · exact absurd hfs z
    subst hd
    have go : ∀ {P : Rho → Prop} {R : L2.St → Hp → Prop}, (∀ ρ σ H, P ρ → At T K G0 H0 ρ σ H → R σ H) → ∀ ρ σ H, P (ρ.set i .no) → At T K G0 H0 ρ σ H → R (σ.set i none) H := fun hR ρ σ H p ⟨G, s, dn⟩ => hR _ _ _ p ⟨G, s, dn.set trivial fun _ z => nomatch z⟩
    exact h2 hbt a' T G0 H0 _ H' _ ⟨G', s, D'.set (s := .rf a') rfl fun _ z => nomatch z⟩ ⟨go e.nx, e.rt, go e.bk, go e.ct, fun _ _ _ _ _ _ _ z => z.elim⟩
  · obtain ⟨h4, h5⟩ := h3 hbf
    subst h5
    exact e.xx cls fs d r σ' G' H' h4 s D' xd
end PD

set_option maxHeartbeats 2000000
/-! PD25: xs[j] += e, len(set(xs)) of distinct ints -/
namespace PD
open PySem PySem.Spec PyProof.Rows L2
def rGetL (K : PySem.W.Frag) : V → V → Hp → VK → Prop := fun x y H Q => ∃ p xs i v, x = V.ref p ∧ y = V.int i ∧ 0 ≤ i ∧ SqL K H p xs ∧ xs[i.toNat]? = some v ∧ Q v H
theorem pget_list {X : Cx} : PGet X (rGetL X.K) := fun pins s σ H o i ov iv Q I ro ri h => by
  obtain ⟨p, xs, j, v, rfl, rfl, j0, hq, he, q⟩ := h
  cases ro
  obtain ⟨t, rfl⟩ := ri
  obtain ⟨its, r, pl, hz⟩ := I.list hq
  obtain ⟨w, ew, rw'⟩ := r.get he
  have hlt := (List.getElem?_eq_some_iff.mp he).1
  have hz' : xs.length ≤ 16777216 := hz
  exact wpAny_getItem_list pl.isList j0 (by omega) (by simpa using ew) ⟨v, H, I, rw', q⟩
/-- xs[j] += b -/
theorem ws_augI {K : PySem.W.Frag} {ρ : Rho} {tb te : TE} {i n : Nat} {xs : List PyData} {a b : Int} {E : Ed} (e : ρ[i]? = some (.ml xs)) (hj : Pd K tb ρ (.int (n : Int))) (hx : xs[n]? = some (.int a)) (h : Pd K te ρ (.int b)) (k : E.nx (ρ.set i (.ml (xs.set n (.int (a + b)))))) :
    Ws K (tAugS (tVar i) tb te (rGetL K) (ipI fun i j => i + j) rSetL) ρ E := fun T G0 H0 σ H D at' ed => by
  obtain ⟨G, s, D0⟩ := at'
  obtain ⟨o, e1, l, vs, rfl, hl, x, gl, h0, nt⟩ := D0.at e
  refine ⟨_, e1, hj.bind s.gh s.tp D0 fun z w G2 H2 p2 s2 gh2 tp2 D2 y2 => ?_⟩
  subst p2
  cases y2
  have hl2 := s2.h _ _ nt hl
  obtain ⟨u, hu, du⟩ := x.get hx
  cases du
  refine ⟨l, vs, (n : Int), .int a, rfl, rfl, by omega, .inl (.inl hl2), by simpa using hu, ?_⟩
  refine h.bind gh2 tp2 D2 fun z w G3 H3 p3 s3 gh3 tp3 D3 y3 => ?_
  subst p3
  cases y3
  refine ⟨a, b, rfl, rfl, ?_⟩
  have hlt := (List.getElem?_eq_some_iff.mp hu).1
  obtain ⟨s4, D4⟩ := D3.mut ((s.trans s2).trans s3) e e1 (((x.mono s2.g).mono s3.g).set n (.int (a + b)))
  exact ⟨l, vs, (n : Int), n, rfl, rfl, s3.h _ _ nt hl2, by unfold ixN; rw [if_pos (by omega), if_pos (by omega)]; simp, ed.nx _ _ _ k ⟨G3, s4, D4⟩⟩
theorem yd_lenSetI {K : PySem.W.Frag} {ρ : Rho} {ta : TE} {ns : List Int} (ha : Rl K ta ρ (fun x => x = ns.map .int)) (hl : ns.length < 64) (nd : ns.Nodup) : Pd K (tLenSetI K ta) ρ (.int (ns.length : Int)) := fun T H0 G H σ gh tp D Q q =>
  ha.bind gh tp D fun xs p vs G1 H1 p1 s1 gh1 tp1 D1 rd a => by
    subst p1
    have := a.ints
    subst this
    exact ⟨p, ns, rfl, rd.sq gh1, hl, nd, q _ _ G1 H1 rfl s1 (.int _)⟩
/-! a def whose answer is a list that was just made -/
abbrev PrL := List Sl → (List PyData → Prop) → Prop
def spL (K : PySem.W.Frag) (n : Nat) (R : PrL) : Sp := fun vs H Q _ => ∃ (T : Addr → Prop) (G : Hp) (ss : List Sl) (P : List PyData → Prop), Same G H ∧ (∀ a, T a → Tp G H a) ∧ ArgsOk T K G ss vs ∧ ss.length = n ∧ R ss P ∧
  ∀ xs p us G' H', P xs → Step T G H G' H' → H p = none → ¬ T p → G' p = none → H' p = some (.lst us) → DnAll K G' us xs → Q (.ref p) H'
theorem nl_call {K : PySem.W.Frag} {ρ : Rho} {n : Nat} {R : PrL} {ta : TA} {ss : List Sl} {P : List PyData → Prop} {E : XK} (h : Pasd K ta ρ ss) (hl : ss.length = n) (hR : R ss P) : Nl K (tCall (spL K n R) [] E ta) ρ P := fun T H0 G H σ gh tp D Q q =>
  h.bind gh tp D fun ss' vs G1 H1 p1 s1 gh1 tp1 D1 x1 => by
    subst p1
    show spL K n R (vs ++ []) H1 Q E
    rw [List.append_nil]
    exact ⟨T, G1, _, P, gh1, tp1, x1, hl, hR, fun xs p us G' H' hp s hn nt gn hh d => q xs p us G' H' hp (s1.trans s) (s1.no hn nt) nt gn hh d⟩
theorem fn_okL {K : PySem.W.Frag} {Pg' : Program} {w : World} {mg : Str → Option Value} {base : Heap} {x qual : Str} {st : Stmt} {f : Addr} {fd : FuncData} {N ps : List Str} {k n : Nat} {R : PrL} (F : Fun K x qual st f fd) (S : FnScope N ps (defScope st)) (hp : ps.length = n) (hN : n ≤ N.length)
    (hb : ∀ (cdv : Value) (A : Around) (outer : List Env) (s : Shared) (H : Hp) (E : XK), Room k (A.deeper (envOfC qual (defScope st) s.heap.objs.size f cdv)) →
      ∃ te, PSs (cxOf CX0 Pg' w K mg base N qual (defScope st) f cdv A outer s H E).nox (defBody st) (tRet te) ∧ ∀ ss P, ss.length = n → R ss P → Nl K te (ss ++ List.replicate (N.length - n) .no) P) :
    FnOk Pg' w K mg base CX0 (k + 1) f fd ps (spL K n R) := by
  refine F.ok S (fun vs H Q E h => ?_) (fun cdv A outer s H vs Q E hr h => ?_)
  · obtain ⟨T, G, ss, P, gh, tp, a, hl, _⟩ := h
    rw [← Paired.length a, hl, hp]
  · obtain ⟨te, ht, hw⟩ := hb cdv A outer s H E hr
    obtain ⟨T, G, ss, P, gh, tp, a, hl, hR, q⟩ := h
    refine ⟨tRet te, ht, ?_⟩
    have D0 : Den T K H G H (L2.start N vs) (ss ++ List.replicate (N.length - n) .no) := by
      have := den_start (H0 := H) (H := H) (N := N) a (by omega)
      rw [hl] at this
      exact this
    exact hw ss P hl hR T H G H _ gh tp D0 Q fun xs p us G' H' hp' s' hn nt gn hh d => q xs p us G' H' hp' s' hn nt gn hh d
end PD

set_option maxHeartbeats 4000000
/-! PD26: enumerate of a tuple -/
namespace EnT
open PySem PySem.Spec PyProof.Rows L2 EnS
set_option maxHeartbeats 4000000 in
theorem new_tup (t : Addr) (xs : Array Value) (n : Nat) (dd : Option Addr) (sl : Array (Option Value)) :
    Meets (Builtin.«enumerate.__new__» ⟨[.type "enumerate", .ref t], []⟩) (fun _ R s => s.heap.get? t = some { cls := .type "tuple", dict := dd, data := .seq xs n, slots := sl } ∧
      R (.ok (.ret (.ref (s.heap.push { cls := .type "tuple_iterator", data := .fields #[.ref t, .int 0 0] }).objs.size)))
        { s with heap := (s.heap.push { cls := .type "tuple_iterator", data := .fields #[.ref t, .int 0 0] }).push { cls := .type "enumerate", data := .fields #[.none, .bool false, .ref s.heap.objs.size, rawInt 0, .none, .none] } }) :=
  .of_wp fun prog w A R s h => by
    obtain ⟨hp, gg, dr, tk, oo⟩ := s
    obtain ⟨ht, h⟩ := h
    have es := sub_enumerate
    have T0 : Heap.IsTuple (Shared.heap ⟨hp, gg, dr, tk, oo⟩) t xs := ⟨_, ht, rfl, n, rfl⟩
    wp_walk using wpAny_loadPart' ht
    refine wpAny_stack_any fun _ => wpAny_pure ?_
    split
    · rename_i c _ _ _ _ _
      cases (c == Value.type "enumerate")
      all_goals
        wp_walk using wpAny_loadPart' ht, wpAny_pyIter_tuple T0
        exact ⟨_, rfl, h⟩
    · wp_walk using wpAny_loadPart' ht, wpAny_pyIter_tuple T0
      exact ⟨_, rfl, h⟩
theorem call_tup {prog : Program} {w : World} {A : Around} {E : Value → Shared → Prop} {s : Shared} {t : Addr} {xs : Array Value} {Q : Value → Shared → Prop} (hT : s.heap.IsTuple t xs)
    (k : ∀ h1, IsEnum h1 (s.heap.objs.size + 1) s.heap.objs.size 0 .none → h1.IsTupleIter s.heap.objs.size t 0 → (∀ b o, s.heap.get? b = some o → h1.get? b = some o) → Q (.ref (s.heap.objs.size + 1)) { s with heap := h1 }) : wpAny (model prog w) A (call (.type "enumerate") [.ref t]) Q E s := by
  obtain ⟨⟨cc, dd, dt, sl⟩, ht, hc, n, hd⟩ := hT
  simp only at hc hd
  subst hc hd
  refine callType_new F.called_enumerate (by decide) (F.typeCall_enumerate_1 _) (F.newCall_enumerate_1 _) (fun ob => F.args_object_init_2 ob _) F.entry_enumerate_new (new_tup t xs n dd sl) ⟨ht, ?_⟩
  obtain ⟨h0, e0⟩ : ∃ h0, h0 = s.heap.push { cls := .type "tuple_iterator", data := .fields #[.ref t, .int 0 0] } := ⟨_, rfl⟩
  have z : h0.objs.size = s.heap.objs.size + 1 := by rw [e0]; exact Heap.size_push ..
  have g0 : h0.get? s.heap.objs.size = some { cls := .type "tuple_iterator", data := .fields #[.ref t, .int 0 0] } := by rw [e0]; exact Heap.get?_push_size _ rfl
  have up : ∀ b o, s.heap.get? b = some o → h0.get? b = some o := fun b o q => by rw [e0]; exact Heap.get?_push_of_some _ q
  show _ ∧ _
  rw [← e0, z]
  have ge := Heap.get?_push_size h0 (o := { cls := .type "enumerate", data := .fields #[.none, .bool false, .ref s.heap.objs.size, rawInt 0, .none, .none] }) rfl
  rw [z] at ge
  exact ⟨⟨_, ge, rfl⟩, k _ ge ⟨_, Heap.get?_push_of_some _ g0, rfl, rfl⟩ fun b o q => Heap.get?_push_of_some _ (up b o q)⟩
theorem end_tup {prog : Program} {w : World} {A : Around} {E : Value → Shared → Prop} {s : Shared} {e it t : Addr} {i : Nat} {c : Int} {xs : Array Value} {old : Value} {Q : Option Value → Shared → Prop} (hh : A.handled = none) (he : IsEnum s.heap e it c old) (hit : s.heap.IsTupleIter it t i) (hl : s.heap.IsTuple t xs) (hx : xs[i]? = none)
    (k : ∀ h', Heap.ExtBut it s.heap h' → Q none { s with heap := h' }) : wpAny (model prog w) A (pyNext (.ref e)) Q E s := by
  have hT : s.TypeIs (.ref e) "enumerate" := ⟨_, he, rfl⟩
  unfold pyNext
  refine wpAny_bind (wpAny_attempt (wpAny_callSpecial?_slot (name := Str.ofString "__next__") hT F.slot_enumerate_next
    (wpAny_call_entry F.slot_enumerate_next hT F.entry_enumerate_next ?_ (F.args_enumerate_next_1 _))))
  show wpAny _ _ (field (.ref e) 2 >>= _) _ _ _
  refine wpAny_bind (wpAny_field he rfl (x := .ref it) rfl ?_)
  refine wpAny_bind (wpAny_nextOf_tuple_end hh hit hl hx fun h1 y kp yo => ?_)
  obtain ⟨o, ho, hc⟩ := yo
  exact wpAny_bind (wpAny_isInstance (T := "StopIteration") (b := true) ⟨o, ho, hc⟩ isSubtype_stop (wpAny_pure (k _ kp)))
def IteT (K : PySem.W.Frag) (a : Addr) : It :=
  ⟨fun i H => ∃ (xs : List V) (x : V), SqT K H a xs ∧ xs[i]? = some x, fun i H v H' => ∃ t x, v = .ref t ∧ H t = none ∧ H' = upd H t (.tup [.int (i : Nat), x]) ∧ ∀ xs, SqT K H a xs → xs[i]? = some x, fun i H => ∃ xs : List V, SqT K H a xs ∧ xs.length ≤ i⟩
theorem turn_enumT {P : Program} {w : World} {K : PySem.W.Frag} {elts : List Expr} {kk : Nat} {tpos : Pos} (a e it : Addr) (ha : a ≠ it) (hea : e ≠ a) :
    Turn P w K (.Tuple elts kk tpos) (IteT K a) [e, it] e (fun i h => (∃ old, IsEnum h e it ((i : Nat) : Int) old) ∧ h.IsTupleIter it a i ∧ e ≠ it) where
  mem := by simp
  obj := fun i h st b hb => by
    obtain ⟨⟨old, he⟩, ⟨o, ho, _, dd⟩, _⟩ := st
    rcases (show b = e ∨ b = it by simpa using hb) with rfl | rfl
    · exact ⟨_, he, fun v q => nomatch q⟩
    · exact ⟨o, ho, fun v q => by rw [dd] at q; cases q⟩
  keep := fun i h h' st k => let ⟨⟨old, he⟩, hi, hne⟩ := st; ⟨⟨old, k e (by simp) _ he⟩, hi.at fun o q => k it (by simp) o q, hne⟩
  item := by
    intro X hP hw hK hc i pins s σ H E I hf st hg
    subst hP hw hK
    obtain ⟨⟨old, he⟩, hit, hne⟩ := st
    obtain ⟨xs, x, hq, hx⟩ := hg
    obtain ⟨its, rv, p, hz⟩ := I.tuple hq
    have p : s.heap.IsTuple a its.toArray := let ⟨o, a, b, n, c⟩ := p; ⟨o, a, b, n, c⟩
    obtain ⟨u, hu, ru⟩ := rv.get hx
    have el : e < s.heap.objs.size := Heap.lt_size he
    have il : it < s.heap.objs.size := by obtain ⟨_, q, _⟩ := hit; exact Heap.lt_size q
    have hlt : i < its.toArray.size := by simpa using (List.getElem?_eq_some_iff.mp hu).1
    refine wpAny_pyNext_enum_itemD (Draws.tuple (A := X.A.in1) (show X.A.in1.handled = none from I.ok.hd hc) it a ha its.toArray) he ⟨hit, p⟩ hlt hne (by simp; exact ⟨hne, hea⟩) fun u' h1 tk hP ho hst hT hsz hk => ?_
    obtain rfl : u' = u := by
      have e1 : its.toArray[i]? = some u := by simpa using hu
      exact (Option.some.inj (e1.symm.trans hP)).symm
    refine ⟨_, rfl, wpAny_letOwnedTupleGo_enum (s := { s with heap := h1, toks := tk + 1 }) ho fun h2 he2 sb => ?_⟩
    have hT2 := (sb.2 _ (Nat.ne_of_gt el)).trans hT
    have new : ObjOk X.prog X.w (upd H s.heap.objs.size (.tup [.int (i : Nat), x])) h2 s.heap.objs.size (.tup [.int (i : Nat), x]) := ⟨by show 2 ≤ sizeLine; decide, [.int i tk, u'], .cons ⟨_, rfl⟩ (.cons ru .nil), ⟨_, hT2, rfl, _, rfl⟩⟩
    have I1 : Inv X pins σ (upd H s.heap.objs.size (.tup [.int (i : Nat), x])) { s with heap := h2, toks := tk + 1 } :=
      I.turnedNew (ch := [e, it]) (fun b ob hb q => (sb.2 b (fun z => hb (by simp [z]))).trans (hk b ob (fun z => hb (by simp [z])) (fun z => hb (by simp [z])) q)) hf (Nat.le_refl _) new
    refine ⟨.ref s.heap.objs.size, _, I1, rfl, ⟨_, x, rfl, I.hok.fresh (Nat.le_refl _), rfl, fun ys hy => by rw [I.tuple_inj hy hq]; exact hx⟩, ⟨⟨u', ?_⟩, hst.1.at fun o q => (sb.2 it (Ne.symm hne)).trans q, hne⟩, fun b hb => ?_⟩
    · rw [show ((i + 1 : Nat) : Int) = (i : Int) + 1 by omega]; exact he2
    · have hb' : b < s.heap.objs.size := by
        rcases (show b = e ∨ b = it by simpa using hb) with rfl | rfl
        · exact el
        · exact il
      rw [upd_ne (Nat.ne_of_lt hb')]
      exact (hf b hb).1
  done := by
    intro X hP hw hK hc i pins s σ H E I hf st hg
    subst hP hw hK
    obtain ⟨⟨old, he⟩, hit, hne⟩ := st
    obtain ⟨xs, hq, hx⟩ := hg
    obtain ⟨its, rv, p, hz⟩ := I.tuple hq
    have p : s.heap.IsTuple a its.toArray := let ⟨o, a, b, n, c⟩ := p; ⟨o, a, b, n, c⟩
    obtain ⟨f0, f1, f2, f3, f4, f5⟩ := hf it (by simp)
    have hl := rv.length
    exact end_tup (I.ok.hd hc) he hit p (by simp; omega) fun h' eb => ⟨rfl, I.turned (t' := s.toks) (fun b o hb q => eb b o hb q) f0 f1 f3 f4 f5⟩
  self := fun A i s Q E st h => let ⟨⟨_, he⟩, _⟩ := st; wpAny_pyIter_enum he h
def iEnumT (K : PySem.W.Frag) (ta : TA) : TI := fun σ H R => ta σ H fun vs H1 => ∃ a xs, vs = [.ref a] ∧ SqT K H1 a xs ∧ R (IteT K a) H1
theorem pi_enumT {X : Cx} {e : Expr} {ta : TA} {p pos tpos : Pos} {elts : List Expr} {kk : Nat} (hg : Gl X "enumerate") (hm : X.mg "enumerate" = none) (ha : PA X [e] ta) (hs : starEach [e] X.env = [(false, eval e X.env)] := by rfl) :
    PI X (.Tuple elts kk tpos) (.Call (.Name "enumerate" p) [e] [] pos) (iEnumT X.K ta) := ⟨fun pins s σ H R I h => by
  refine Call_ (ld_blt I hg hm boot_enumerate (PyProof.Rows.callWith_type1 (thn (ha.run pos pins s σ H _ I h) fun us s1 ⟨vs, H1, I1, r1, q1⟩ => ?_) hs rfl))
  obtain ⟨a, xs, rfl, hq, q⟩ := q1
  cases r1 with
  | cons r rr =>
    cases rr
    cases r
    obtain ⟨its, rv, p', hz⟩ := I1.tuple hq
    have p' : s1.heap.IsTuple a its.toArray := let ⟨o, a, b, n, c⟩ := p'; ⟨o, a, b, n, c⟩
    have al : a < s1.heap.objs.size := by obtain ⟨_, q, _⟩ := p'; exact Heap.lt_size q
    refine call_tup p' fun h1 he hit hk => wpAny_pyIter_enum he ?_
    refine ⟨s1.heap.objs.size + 1, [s1.heap.objs.size + 1, s1.heap.objs.size], _, _, H1, rfl, I1.kept (t' := s1.toks) hk, turn_enumT a (s1.heap.objs.size + 1) s1.heap.objs.size (Nat.ne_of_lt al) (Nat.ne_of_gt (Nat.lt_succ_of_lt al)), ⟨⟨.none, he⟩, hit, Nat.succ_ne_self _⟩, fun b hb => ?_, q⟩
    have hle : s1.heap.objs.size ≤ b := by
      rcases (show b = s1.heap.objs.size + 1 ∨ b = s1.heap.objs.size by simpa using hb) with z | z
      · rw [z]; exact Nat.le_succ _
      · rw [z]; exact Nat.le_refl _
    exact I1.fpOk hle (I1.hok.fresh hle)⟩
end EnT
namespace PD
open PySem PySem.Spec PyProof.Rows L2 EnT
theorem itd_enumT {K : PySem.W.Frag} {G : Hp} {a : Addr} {vs : List V} {xs : List PyData} (h : SqT K G a vs) (d : DnAll K G vs xs) : Itd K (IteT K a) G (enumD 0 xs) where
  go := fun i H g hi => by
    rw [enumD_len, ← d.length] at hi
    exact ⟨vs, vs[i], sqt_mono g h, List.getElem?_eq_getElem hi⟩
  stop := fun i H g hi => by
    rw [enumD_len, ← d.length] at hi
    exact ⟨vs, sqt_mono g h, hi⟩
  yld := fun i T G' H x H' g1 g2 tp hi y => by
    obtain ⟨p, x1, rfl, hp, rfl, f1⟩ := y
    obtain ⟨e1, q1, q2⟩ := (d.mono g1).get' (f1 vs (sqt_mono g2 (sqt_mono g1 h)))
    refine ⟨upd G' p (.tup [.int (i : Nat), x1]), .tuple [.int (i : Nat), e1], ?_, Step.new g2 tp hp, .tup (.inl (.inl upd_same)) ?_⟩
    · rw [enumD_at 0 xs i e1 q1, Nat.zero_add]
    · exact DnAll.mono (fun c u e => by rw [upd_ne (ne_of_none e (g2.free hp))]; exact e) (.cons (.int _) (.cons q2 .nil))
theorem it_enumT {K : PySem.W.Frag} {ρ : Rho} {ta : TE} {xs : List PyData} (h : Pd K ta ρ (.tuple xs)) : Pitd K (iEnumT K (tCons ta tNil)) ρ (enumD 0 xs) := fun T H0 G H σ gh tp D R q =>
  h.bind gh tp D fun x v G1 H1 p1 s1 gh1 tp1 D1 x1 => by
    subst p1
    cases x1 with
    | @tup a vs _ e1 a1 => exact ⟨a, vs, rfl, sqt_mono gh1 e1, q _ _ G1 H1 rfl s1 (itd_enumT e1 a1)⟩
end PD

set_option maxHeartbeats 4000000
/-! PD27: reversed(range(n)), max of a list, raise X(f'{i} ..') -/
namespace PD
open PySem PySem.Spec PyProof.Rows L2
theorem rev_one {a b : Int} (ha : -(2 ^ 62) ≤ a) (ha' : a < 2 ^ 62) (hb : -(2 ^ 62) ≤ b) (hb' : b < 2 ^ 62) : Builtin.Range.smallRev a b 1 = true := by
  unfold Builtin.Range.smallRev
  rw [rangeSize_one]
  simp only [Builtin.Range.rangeFitsLong, Bool.and_eq_true, decide_eq_true_eq]
  split <;> omega
def iRevRg (te : L2.St → Hp → (Int → Int → Hp → Prop) → Prop) : TI := fun σ H R => te σ H fun a b H1 => RgOk a b ∧ R (Itc (a + (((b - a).toNat : Int) - 1) * 1) (-1) (b - a).toNat) H1
theorem pi_revRg {X : Cx} {tg e : Expr} {te : L2.St → Hp → (Int → Int → Hp → Prop) → Prop} {p pos : Pos} (hg : Gl X "reversed") (hm : X.mg "reversed" = none) (he : PRg X e te) (na : starEach [e] X.env = (false, eval e X.env) :: starEach [] X.env := by rfl) : PI X tg (.Call (.Name "reversed" p) [e] [] pos) (iRevRg te) := ⟨fun pins s σ H R I h => by
  refine Call_ (ld_blt I hg hm PyProof.Rows.boot_reversed (PyProof.Rows.callWith_type1 (args_cons (thn (he pins s σ H _ I h) fun x s1 ⟨r, a, b, t, u, v, H1, ex, hr, I1, ok, q⟩ => args_nil ?_) na) na))
  subst ex
  obtain ⟨b1, b2, b3, b4, b5⟩ := ok
  refine reversed_range hr (rev_one b1 b2 b3 b4) (rangeSize_nat a b) fun h1 hit _ hk => wpAny_pyIter_rangeiter hit ?_
  refine ⟨s1.heap.objs.size, [s1.heap.objs.size], _, _, H1, rfl, I1.kept (t' := s1.toks) hk, turn_rangeC _ (a + (((b - a).toNat : Int) - 1) * 1) (-1) (b - a).toNat, range_st hit, fun c hc => ?_, q⟩
  have e : c = s1.heap.objs.size := by simpa using hc
  subst e
  exact I1.fpOk (Nat.le_refl _) (I1.hok.fresh (Nat.le_refl _))⟩
theorem it_revRg {K : PySem.W.Frag} {ρ : Rho} {ta : TE} {n : Nat} (h : Pd K ta ρ (.int (n : Int))) (hn : n ≤ 1000) : Pitd K (iRevRg (tRg1 ta)) ρ (dnD ((n : Int) - 1) n) := fun T H0 G H σ gh tp D R q =>
  h.bind gh tp D fun x v G1 H1 p1 s1 gh1 tp1 D1 x1 => by
    subst p1
    cases x1
    refine ⟨(n : Int), rfl, ⟨by omega, by omega, by omega, by omega, by omega⟩, ?_⟩
    rw [show ((n : Int) - 0).toNat = n by omega, show (0 : Int) + ((n : Int) - 1) * 1 = (n : Int) - 1 by omega]
    exact q _ _ G1 H1 rfl s1 (itd_dn _ _)
theorem ye_maxR {K : PySem.W.Frag} {ρ : Rho} {ta : TE} {P : PyData → Prop} {PL : List PyData → Prop} (ha : Rl K ta ρ PL) (h : ∀ xs, PL xs → ∃ ns : List Int, xs = ns.map .int ∧ 0 < ns.length ∧ ∀ m, m ∈ ns → (∀ y, y ∈ ns → y ≤ m) → P (.int m)) : Pe K (tCB (rMaxX K) (tCons ta tNil)) ρ P := fun T H0 G H σ gh tp D Q q =>
  ha.bind gh tp D fun xs p vs G1 H1 p1 s1 gh1 tp1 D1 rd a => by
    obtain ⟨ns, e, hl, hP⟩ := h xs p1
    subst e
    have iv := a.ints
    subst iv
    exact .inr ⟨p, ns, rfl, rd.sq gh1, hl, fun m h1 h2 => q _ _ G1 H1 (hP m h1 h2) s1 (.int _)⟩
theorem str_app (x y : Str) : (x ++ y).length = x.length + y.length := by
  show (x.cps ++ y.cps).size = _
  rw [Array.size_append]
  rfl
/-- raise X(e) -/
theorem ws_raiseE {K : PySem.W.Frag} {ρ : Rho} {te : TE} {P : PyData → Prop} {E : Ed} {C : Addr} {W : WX} (hW : E.xw = W) (he : Pe K te ρ P) (h : E.xr (.ref C) [] ρ) : Ws K (fun _ σ H => te σ H fun _ H1 => W (.ref C) none σ H1) ρ E := fun T G0 H0 σ H D a e => by
  subst hW
  exact a.eval he fun d v G' H' _ s D' _ => e.xx _ [] none ρ σ G' H' h s D' (.inl ⟨rfl, rfl⟩)
/-- xs.reverse() -/
theorem ws_rev {K : PySem.W.Frag} {ρ : Rho} {E : Ed} {i : Nat} {xs : List PyData} (e : ρ[i]? = some (.ml xs)) (k : E.nx (ρ.set i (.ml xs.reverse))) : Ws K (tDrop (tBM0 K "list" rReverse (tVar i))) ρ E := fun T G0 H0 σ H D a ed => by
  obtain ⟨G, s, D0⟩ := a
  obtain ⟨o, e1, l, vs, rfl, hl, x, gl, h0, nt⟩ := D0.at e
  obtain ⟨s2, D2⟩ := D0.mut s e e1 x.rev
  exact ⟨_, e1, .inl ⟨rfl, vs, sql_of hl⟩, l, vs, rfl, rfl, hl, ed.nx _ _ _ k ⟨G, s2, D2⟩⟩
/-- (c, f(..)), f raises -/
theorem ex_tup2 {K : PySem.W.Frag} {ρ : Rho} {te : TE} {P : PyData → Prop} {E : Ed} {c : V} (h : PeX K te ρ (fun _ => False) E) : PeX K (tTup (tCons (tC c) (tCons te tNil))) ρ P E := fun T G0 H0 σ H D a e Q q => h T G0 H0 σ H D a e _ fun d v G' H' z => z.elim
/-- f'{i}c' -/
theorem ye_js2 {K : PySem.W.Frag} {ρ : Rho} {ta : TE} {i : Int} {c : Str} (h : Pd K ta ρ (.int i)) (h1 : 0 ≤ i) (h2 : i < 10 ^ 6) (hc : c.length ≤ 1000 := by decide +kernel) : Pe K (fun σ H Q => tJs [tFmt ta, tC (.str c)] Str.empty σ H fun out H1 => Q (.str out) H1) ρ (fun d => ∃ y, d = .str y) := fun T H0 G H σ gh tp D Q q =>
  h.bind gh tp D fun d v G1 H1 p1 s1 gh1 tp1 D1 x1 => by
    subst p1
    cases x1
    have l1 : (Str.ofString (toString i)).length ≤ 7 := by
      rw [PySem.ofString_length]
      exact int_text_length_le10 (k := 6) (by decide) (by omega)
    have e0 : (Str.empty ++ Str.ofString (toString i)).length ≤ 7 := by
      rw [str_app]
      show 0 + _ ≤ 7
      omega
    refine .inr ⟨i, rfl, ?_, _, rfl, Nat.le_trans e0 (by decide), c, rfl, ?_, ?_⟩
    · have : i.natAbs < 2 ^ 1920 := Nat.lt_of_lt_of_le (show i.natAbs < 10 ^ 6 by omega) (by decide +kernel)
      by_cases z : i.natAbs = 0
      · rw [z]; decide
      · exact (Nat.log2_lt z).mpr this
    · rw [str_app]
      have e0 := e0
      show _ ≤ (16777216 : Nat)
      have : (Str.empty ++ (toString i : Str)).length ≤ 7 := e0
      omega
    · exact q _ _ G1 H1 ⟨_, rfl⟩ s1 (.str _)
end PD

set_option maxHeartbeats 2000000
/-! PD28: a range kept in a name, not of a tuple as a value -/
namespace PD
open PySem PySem.Spec PyProof.Rows L2
/-! r = range(n) -/
def rRgV : List V → Hp → VK → Prop := fun vs H Q => ∃ j : Int, vs = [V.int j] ∧ ∀ p, H p = none → Q (.ref p) (upd H p (.rng 0 j))
theorem cr_rgV {X : Cx} : CallR X (.type "range") rRgV := fun pins s σ H vs us Q I r h => by
  obtain ⟨j, rfl, q⟩ := h
  cases r with
  | cons rj rr =>
    cases rr
    obtain ⟨u, rfl⟩ := rj
    refine call_range_1 ⟨.ref s.heap.objs.size, upd H s.heap.objs.size (.rng 0 j), I.laid (fun b o e => Heap.get?_push_of_some _ e) (Nat.le_refl _) (show ObjOk X.prog X.w _ _ _ (.rng 0 j) from ?_), rfl, q _ (I.hok.fresh (Nat.le_refl _))⟩
    exact ⟨_, _, _, Heap.get?_push_size _ rfl⟩
theorem wq_setRg {K : PySem.W.Frag} {ρ : Rho} {te : TE} {i : Nat} {j : Int} {u : TS} {E : Ed} (h : Pd K te ρ (.int j)) (k : Ws K u (ρ.set i (.rg 0 j)) E) : Ws K (tSeq (tAsg (tCB rRgV (tCons te tNil)) (gName i)) u) ρ E := fun T G0 H0 σ H D a e => by
  obtain ⟨G, s, D0⟩ := a
  refine h.bind s.gh s.tp D0 fun d v G1 H1 p1 s1 gh1 tp1 D1 x1 => ?_
  subst p1
  cases x1
  refine ⟨j, rfl, fun p hp => ?_⟩
  have st := Step.new (T := T) (o := .rng 0 j) gh1 tp1 hp
  exact k T G0 H0 _ _ D ⟨upd G1 p (.rng 0 j), (s.trans s1).trans st, (D1.mono st).set (s := .rg 0 j) (o := some (.ref p)) ⟨p, rfl, upd_same⟩ fun _ z => nomatch z⟩ e
def iRgV (i : Nat) : TI := fun σ H R => ∃ a lo hi, σ[i]? = some (some (V.ref a)) ∧ H a = some (.rng lo hi) ∧ -(2 ^ 62) ≤ lo ∧ lo < 2 ^ 62 ∧ -(2 ^ 62) ≤ hi ∧ hi < 2 ^ 62 ∧ R (Itr lo (hi - lo).toNat) H
theorem pi_rgV {X : Cx} {tg : Expr} {i : Nat} {x : Str} {pos : Pos} (hN : X.N[i]? = some x) (hv : Vis X.env.scope x) (hd : (x == ("__debug__" : Str)) = false := by decide) (hcd : (x == ("__classdict__" : Str)) = false := by decide) : PI X tg (.Name x pos) (iRgV i) := ⟨fun pins s σ H R I h => by
  obtain ⟨a, lo, hi, e1, e2, h1, h2, h3, h4, q⟩ := h
  refine thn ((pe_var (X := X) (pos := pos) hN hv hd hcd).run pins s σ H (fun v H1 => v = .ref a ∧ H1 = H) I ⟨_, e1, rfl, rfl⟩) fun v s1 ⟨x1, H1, I1, r1, ex, eH⟩ => ?_
  subst ex eH
  cases r1
  obtain ⟨t, u, w, g⟩ := (show ObjOk X.prog X.w H1 s1.heap a (.rng lo hi) from I1.hok a _ e2)
  refine wpAny_pyIter_range (a := lo) (b := hi) (c := 1) g (small_one h1 h2 h3 h4) ?_
  refine pi_one (tk := s1.toks) I1 _ (turn_range _ lo (hi - lo).toNat) ?_ q
  have z1 : lo + ((0 : Nat) : Int) * 1 = lo := by simp
  have z2 : (((hi - lo).toNat : Nat) : Int) - ((0 : Nat) : Int) = Builtin.Range.rangeSize lo hi 1 := by rw [rangeSize_one]; split <;> omega
  show IsRangeIter _ _ (lo + ((0 : Nat) : Int) * 1) ((((hi - lo).toNat : Nat) : Int) - ((0 : Nat) : Int)) 1
  rw [z1, z2]
  exact Heap.get?_push_size _ rfl⟩
theorem it_rgV {K : PySem.W.Frag} {ρ : Rho} {i n : Nat} (e : ρ[i]? = some (.rg 0 (n : Int))) (hn : n ≤ 1000000) : Pitd K (iRgV i) ρ (rgD 0 (n : Int)) := fun T H0 G H σ gh tp D R q => by
  obtain ⟨o, e1, a, rfl, ga⟩ := D.at e
  exact ⟨a, 0, (n : Int), e1, gh _ _ ga, by omega, by omega, by omega, by omega, q _ _ G H rfl (Step.refl gh tp) (itd_rg 0 (n : Int))⟩
/-! not t, as a value -/
theorem pe_notTK {X : Cx} {K : PySem.W.Frag} {a : Expr} {ta : TE} {pos : Pos} (h : X.K = K) (ha : PE X a ta) : PE X (.UnaryOp .Not a pos) (tNotT K ta) := h ▸ pe_notT ha
theorem yd_notT {K : PySem.W.Frag} {ρ : Rho} {ta : TE} {xs : List PyData} (h : Pd K ta ρ (.tuple xs)) : Pd K (tNotT K ta) ρ (.bool xs.isEmpty) := fun T H0 G H σ gh tp D Q q =>
  h.bind gh tp D fun x v G1 H1 e s1 gh1 tp1 D1 x1 => by
    subst e
    cases x1 with
    | @tup a vs _ sq al =>
      refine ⟨!vs.isEmpty, .inr (.inl ⟨vs, sqt_mono gh1 sq, rfl⟩), ?_⟩
      have : (!(!vs.isEmpty)) = xs.isEmpty := by
        cases al <;> rfl
      rw [this]
      exact q _ _ G1 H1 rfl s1 (.bl _)
end PD

set_option maxHeartbeats 2000000
/-! PD29: a, *b, c = t; a dict of the module read by a text; a def of more statements that returns a list just made -/
namespace PD
open PySem PySem.Spec PyProof.Rows L2
/-! a, *b, c = t -/
theorem star_tup {prog : Program} {w : World} {A : Around} {E : Value → Shared → Prop} {s : Shared} {l : Addr} {items : Array Value} {n i : Nat} {Q : List Value → Shared → Prop} (hl : IsTup s.heap l items) (hh : A.handled = none) (hi : i < n) (hn : n ≤ items.size + 1) (hz : items.size ≤ 1000)
    (k : ∀ (h2 : Heap) (tk : _), (∀ b o, s.heap.get? b = some o → h2.get? b = some o) → Q (items.toList.take i ++ [.ref h2.objs.size] ++ (items.toList.drop i).drop (items.size + 1 - n)) { s with heap := h2.push { cls := .type "list", data := .seq ((items.toList.drop i).take (items.size + 1 - n)).toArray }, toks := tk }) :
    wpAny (model prog w) A (unpackItems (.ref l) n (some i)) Q E s := by
  have hll : l < s.heap.objs.size := by obtain ⟨o, ho, _⟩ := hl; exact Heap.lt_size ho
  have hlt : l ≠ s.heap.objs.size := Nat.ne_of_lt hll
  unfold unpackItems
  refine wpAny_bind ?_
  unfold notIterableAtAll
  refine wpAny_bind (wpAny_specialOf hl.typeIs slot_tuple_iter.lookup (wpAny_pure ?_))
  simp only [Bool.false_eq_true, if_false]
  refine wpAny_bind (wpAny_holding (iter_tuple hl (wpAny_bind (wpAny_holding (draw_tuple hlt i 0 _ _ ⟨_, Heap.get?_push_size _ rfl, rfl, rfl⟩ (hl.push _) (by omega) fun h1 it1 sb1 => ?_)))))
  have hl1 : IsTup h1 l items := (hl.push _).extBut sb1.extBut hlt
  rw [Nat.zero_add] at it1
  obtain ⟨oi, hoi, _⟩ := id it1
  obtain ⟨ol, hol, _⟩ := id hl1
  have lenI : (items.toList.take i).length = i := by rw [List.length_take, Array.length_toList]; omega
  have lenR : (items.toList.drop i).length = items.size - i := by rw [List.length_drop, Array.length_toList]
  rw [List.drop_zero, if_neg (show ¬ ((items.toList.take i).length < i) by rw [lenI]; exact Nat.lt_irrefl _)]
  have col := fun Q hQ => PySem.W.kun_collect (prog := prog) (w := w) (A := A) (E := E) (s := { s with heap := h1 }) (Q := Q) (T := "tuple_iterator") (.inr (.inr (.inr rfl))) (Walks.tuple (A := A.in1) hh s.heap.objs.size l hlt items) (fun j u st => st.1.typeIs) (k := i) (by omega) ⟨it1, hl1⟩ (Heap.lt_size hoi) (Heap.lt_size hol) hQ (by rw [sizeLine_eq]; omega)
  refine wpAny_bind (wpAny_holding (col _ fun h2 tk hk => ?_))
  have cnt : (items.toList.drop i).length - (n - 1 - i) = items.size + 1 - n := by rw [lenR]; omega
  show wpAny _ _ (if (items.toList.drop i).length < n - 1 - i then _ else _) _ _ _
  rw [if_neg (by rw [lenR]; omega)]
  show wpAny _ _ (newList ((items.toList.drop i).take ((items.toList.drop i).length - (n - 1 - i))) >>= fun d => pure (items.toList.take i ++ [d] ++ (items.toList.drop i).drop ((items.toList.drop i).length - (n - 1 - i)))) _ _ _
  rw [cnt]
  have keep : ∀ b o, s.heap.get? b = some o → h2.get? b = some o := fun b o e => by
    have nb : b ≠ s.heap.objs.size := Nat.ne_of_lt (Heap.lt_size e)
    exact hk b o nb (sb1.extBut b o nb (Heap.get?_push_of_some _ e))
  refine wpAny_bind ?_
  unfold newList
  exact wpAny_newObj_type (wpAny_pure (k h2 tk keep)) (by show ((items.toList.drop i).take (items.size + 1 - n)).length ≤ sizeLine; rw [List.length_take, lenR, sizeLine_eq]; omega)
def gStar (K : PySem.W.Frag) (n i : Nat) (t : TGs) : TG := fun v σ H Q => ∃ (a : Addr) (xs : List V), v = .ref a ∧ SqT K H a xs ∧ n ≤ xs.length + 1 ∧ xs.length ≤ 1000 ∧ i < n ∧
  ∀ D, H D = none → t (xs.take i ++ [V.ref D] ++ (xs.drop i).drop (xs.length + 1 - n)) σ (upd H D (.lst ((xs.drop i).take (xs.length + 1 - n)))) Q
theorem vals_take {xs : List V} {us : List Value} (r : Vals xs us) (n : Nat) : Vals (xs.take n) (us.take n) := by
  induction r generalizing n with
  | nil => rw [List.take_nil, List.take_nil]; exact .nil
  | cons a t ih =>
    cases n with
    | zero => exact .nil
    | succ n => exact .cons a (ih n)
theorem vals_drop {xs : List V} {us : List Value} (r : Vals xs us) (n : Nat) : Vals (xs.drop n) (us.drop n) := by
  induction r generalizing n with
  | nil => rw [List.drop_nil, List.drop_nil]; exact .nil
  | cons a t ih =>
    cases n with
    | zero => exact .cons a t
    | succ n => exact ih n
theorem vals_app {xs ys : List V} {us vs : List Value} (r : Vals xs us) (q : Vals ys vs) : Vals (xs ++ ys) (us ++ vs) := by
  induction r with
  | nil => exact q
  | cons a t ih => exact .cons a ih
theorem pg_star {X : Cx} {es : List Expr} {k n i : Nat} {t : TGs} {pos : Pos} (hc : X.calm = true) (h : PGs X es t)
    (hn : (assignEach es X.env).length = n := by rfl) (hst : (assignEach es X.env).findIdx? (·.1) = some i := by rfl) : PG X (.Tuple es k pos) (gStar X.K n i t) := ⟨fun pins s σ H v u Q I r hw => by
  obtain ⟨a, xs, rfl, hq, h1, h2, h3, hw⟩ := hw
  cases r
  obtain ⟨its, rv, ht, hz⟩ := I.tuple hq
  have hl := rv.length
  rw [assign_Tuple]
  refine wpAny_bind (wpAny_standAt ?_)
  unfold unpack
  rw [hn, hst]
  refine wpAny_bind (wpAny_holding (star_tup ht (I.ok.hd hc) h3 (by simp; omega) (by simp; omega) fun h2 tk keep => ?_))
  have I1 : Inv X pins σ H { s with heap := h2 } := I.kept (t' := s.toks) keep
  have el : its.toArray.size = xs.length := by simp; omega
  rw [el]
  have e0 : its.toArray.toList = its := rfl
  rw [e0]
  have rm := vals_take (vals_drop rv i) (xs.length + 1 - n)
  have lay : ObjOk X.prog X.w (upd H h2.objs.size (.lst ((xs.drop i).take (xs.length + 1 - n)))) (h2.push { cls := .type "list", data := .seq ((its.drop i).take (xs.length + 1 - n)).toArray }) h2.objs.size (.lst ((xs.drop i).take (xs.length + 1 - n))) := ⟨by rw [List.length_take, List.length_drop, sizeLine_eq]; omega, _, 0, rm, Heap.get?_push_size _ rfl⟩
  have I2 := I1.laid (t' := tk) (fun b o e => Heap.get?_push_of_some _ e) (Nat.le_refl _) lay
  exact h.run pins _ σ _ _ _ Q I2 (vals_app (vals_app (vals_take rv i) (.cons (show RelV (V.ref _) (.ref _) from rfl) .nil)) (vals_drop (vals_drop rv i) _)) (hw _ (I1.hok.fresh (Nat.le_refl _)))⟩
/-- the middle as data -/
theorem wq_asgStar {K : PySem.W.Frag} {ρ ρ' : Rho} {te : TE} {u : TS} {E : Ed} {ds : List PyData} {n i : Nat} {gs : TGs} {sl : List Nat} (h : Pd K te ρ (.tuple ds)) (h1 : n ≤ ds.length + 1) (h2 : ds.length ≤ 1000) (h3 : i < n)
    (hg : Pgs K gs sl (ds.take i ++ [.list ((ds.drop i).take (ds.length + 1 - n))] ++ (ds.drop i).drop (ds.length + 1 - n)) ρ ρ') (k : Ws K u ρ' E) : Ws K (tSeq (tAsg te (gStar K n i gs)) u) ρ E := fun T G0 H0 σ H D a e =>
  a.eval h fun d v G1 H1 p1 s D1 x => by
    subst p1
    cases x with
    | @tup a vs _ sq al =>
      have ll := al.length
      refine ⟨a, vs, rfl, sqt_mono s.gh sq, by omega, by omega, h3, fun P hP => ?_⟩
      rw [ll]
      have st := Step.new (T := T) (o := .lst ((vs.drop i).take (ds.length + 1 - n))) s.gh s.tp hP
      have al2 := al.mono st.g
      refine hg T H0 _ _ σ _ st.gh (D1.mono st) (((al2.take i).append (.cons (.lst upd_same (((al2.drop i).take _))) .nil)).append ((al2.drop i).drop _)) _ fun σ' D2 _ _ => ?_
      exact k T G0 H0 σ' _ D ⟨_, s.trans st, D2⟩ e
theorem pgs_consS {X : Cx} {e : Expr} {c : Pos} {es : List Expr} {t : TG} {u : TGs} (h1 : PG X e t) (h2 : PGs X es u)
    (hs : (assignEach (.Starred e c :: es) X.env).map (·.2) = assign e X.env :: (assignEach es X.env).map (·.2) := by rfl) : PGs X (.Starred e c :: es) (gCons t u) := by
  refine ⟨fun pins s σ H vs us Q I r h => ?_⟩
  obtain ⟨v, vr, e1, h⟩ := h
  subst e1
  cases r with
  | cons r rr =>
    rw [hs]
    refine assignInOrder_cons (thn (h1.run pins s σ H _ _ _ I r h) fun _ s1 ⟨σ1, H1, I1, q1⟩ => ?_)
    exact h2.run pins s1 σ1 H1 _ _ Q I1 rr q1
/-! PARTS[word] -/
theorem pe_gd {X : Cx} {x : Str} {R : Addr → Prop} {pos : Pos} (h : ∃ a, X.mg x = some (.ref a) ∧ R a) (hg : Gl X x := by rfl) (hd : (x == ("__debug__" : Str)) = false := by decide) : PE X (.Name x pos) (tC (.ref (Classical.choose h))) :=
  pe_glob hg (Classical.choose_spec h).1 rfl hd
theorem yd_kdct {K : PySem.W.Frag} {w : World} {ρ : Rho} {tb : TE} {a : Addr} {z : Str} {i : Int} (hb : Pd K tb ρ (.str z)) (hk : KDct K w a z (.int i)) : Pd K (tOp (rIxD K w) (tC (.ref a)) tb) ρ (.int i) := fun T H0 G H σ gh tp D Q q =>
  hb.bind gh tp D fun d v G1 H1 p1 s1 gh1 tp1 D1 x1 => by
    subst p1
    cases x1
    exact ⟨a, z, .int i, rfl, rfl, hk, q _ _ G1 H1 rfl s1 (.int i)⟩
/-! a def that returns a list just made -/
def WsF (K : PySem.W.Frag) (t : TS) (ρ : Rho) (P : List PyData → Prop) : Prop := ∀ (T : Addr → Prop) (G0 H0 : Hp) (σ : L2.St) (H : Hp) (D : Ends), At T K G0 H0 ρ σ H →
  (∀ xs p us G' H', P xs → Step T G0 H0 G' H' → H0 p = none → ¬ T p → G' p = none → H' p = some (.lst us) → DnAll K G' us xs → D.rt (.ref p) H') → t D σ H
section
variable {K : PySem.W.Frag} {ρ ρ' : Rho} {te : TE} {u : TS} {P : List PyData → Prop}
theorem wf_ret (h : Nl K te ρ P) : WsF K (tRet te) ρ P := fun T G0 H0 σ H D a q => by
  obtain ⟨G, s, D0⟩ := a
  exact h T H0 G H σ s.gh s.tp D0 D.rt fun xs p us G' H' hp s' hn nt gn hh d => q xs p us G' H' hp (s.trans s') (s.no hn nt) nt gn hh d
theorem wf_asg {g : TG} {sl : List Nat} {x : PyData} (h : Pd K te ρ x) (hg : Pg K g sl x ρ ρ') (k : WsF K u ρ' P) : WsF K (tSeq (tAsg te g) u) ρ P := fun T G0 H0 σ H D a q =>
  a.eval h fun d v G1 H1 p1 s D1 y => by
    subst p1
    exact hg T H0 G1 H1 σ v s.gh D1 y _ fun σ' D2 _ _ => k T G0 H0 σ' H1 D ⟨G1, s, D2⟩ q
theorem wf_setd {i : Nat} {x : PyData} (h : Pd K te ρ x) (k : WsF K u (ρ.set i (.d x)) P) : WsF K (tSeq (tAsg te (gName i)) u) ρ P := wf_asg h yg_n k
theorem fn_okF {Pg' : Program} {w : World} {mg : Str → Option Value} {base : Heap} {x qual : Str} {st : Stmt} {f : Addr} {fd : FuncData} {N ps : List Str} {k n : Nat} {R : PrL} (F : Fun K x qual st f fd) (S : FnScope N ps (defScope st)) (hp : ps.length = n) (hN : n ≤ N.length)
    (hb : ∀ (cdv : Value) (A : Around) (outer : List Env) (s : Shared) (H : Hp) (E : XK), Room k (A.deeper (envOfC qual (defScope st) s.heap.objs.size f cdv)) →
      ∃ t, PSs (cxOf CX0 Pg' w K mg base N qual (defScope st) f cdv A outer s H E).nox (defBody st) t ∧ ∀ ss P, ss.length = n → R ss P → WsF K t (ss ++ List.replicate (N.length - n) .no) P) :
    FnOk Pg' w K mg base CX0 (k + 1) f fd ps (spL K n R) := by
  refine F.ok S (fun vs H Q E h => ?_) (fun cdv A outer s H vs Q E hr h => ?_)
  · obtain ⟨T, G, ss, P, gh, tp, a, hl, _⟩ := h
    rw [← Paired.length a, hl, hp]
  · obtain ⟨t, ht, hw⟩ := hb cdv A outer s H E hr
    obtain ⟨T, G, ss, P, gh, tp, a, hl, hR, q⟩ := h
    have D0 : Den T K H G H (L2.start N vs) (ss ++ List.replicate (N.length - n) .no) := by
      have := den_start (H0 := H) (H := H) (N := N) a (by omega)
      rw [hl] at this
      exact this
    exact ⟨t, ht, hw ss P hl hR T G H _ H _ ⟨G, Step.refl gh tp, D0⟩ q⟩
end
end PD

set_option Elab.async false
set_option linter.all false
set_option maxRecDepth 100000
set_option maxHeartbeats 4000000
namespace PF
open PySem PySem.Spec PyProof.Rows L2 RZ PD
def topS (i : Nat) : Stmt := PySem.Challenge.pw_plantrace_k48_disrupted_plants.main.body.getD i (.Pass ⟨0, 0, 0, 0⟩)
structure Tx (w : World) (K : PySem.W.Frag) (mg : Str → Option Value) : Prop where
  b_abs : mg "abs" = none
  b_bool : mg "bool" = none
  b_int : mg "int" = none
  b_isinstance : mg "isinstance" = none
  b_len : mg "len" = none
  b_list : mg "list" = none
  b_max : mg "max" = none
  b_min : mg "min" = none
  b_range : mg "range" = none
  b_str : mg "str" = none
  b_sum : mg "sum" = none
  b_tuple : mg "tuple" = none
  d_PARTS : ∃ a, mg "PARTS" = some (.ref a) ∧ (KDct K w a "yield" (.int 1) ∧ KDct K w a "extra" (.int 0) ∧ KDct K w a "slow" (.int 3) ∧ KDct K w a "cost" (.int 2))
/-! ### curves -/
structure Cv where
  i : Int
  t : List Int
  p : List Int
def tI (xs : List Int) : PyData := .tuple (xs.map .int)
def cvD (c : Cv) : PyData := .tuple [.int c.i, tI c.t, tI c.p]
/-- element k of a sequence that repeats p behind t -/
def seqAt (t p : List Int) (k : Nat) : Int := if k < t.length then t.getD k 0 else p.getD ((k - t.length) % p.length) 0
def psum (f : Nat → Int) : Nat → Int
  | 0 => 0
  | n + 1 => psum f n + f n
def Cv.inc (c : Cv) (k : Nat) : Int := seqAt c.t c.p k
def Cv.val (c : Cv) (x : Nat) : Int := c.i + psum c.inc x
/-- what is passed -/
structure Cv.Ok (first top : Int) (c : Cv) : Prop where
  i0 : 0 ≤ c.i
  i1 : c.i ≤ first
  t : ∀ x ∈ c.t, 0 ≤ x ∧ x ≤ top
  p : ∀ x ∈ c.p, 0 ≤ x ∧ x ≤ top
  tl : c.t.length ≤ 4
  pl : c.p.length ≤ 4
  p1 : 1 ≤ c.p.length
theorem psum_add (f : Nat → Int) (n m : Nat) : psum f (n + m) = psum f n + psum (fun k => f (n + k)) m := by
  induction m with
  | zero => simp [psum]
  | succ m ih =>
    show psum f (n + m) + f (n + m) = psum f n + (psum (fun k => f (n + k)) m + f (n + m))
    rw [ih]
    omega
theorem psum_congr {f g : Nat → Int} : ∀ (n : Nat), (∀ k, k < n → f k = g k) → psum f n = psum g n
  | 0, _ => rfl
  | n + 1, h => by
    show psum f n + f n = psum g n + g n
    rw [psum_congr n (fun k hk => h k (by omega)), h n (by omega)]
theorem psum_take (l : List Int) : ∀ (n : Nat), n ≤ l.length → psum (fun k => l.getD k 0) n = (l.take n).sum
  | 0, _ => by simp [psum]
  | n + 1, h => by
    show psum (fun k => l.getD k 0) n + l.getD n 0 = _
    have e : l[n]? = some l[n] := List.getElem?_eq_getElem (by omega)
    rw [psum_take l n (by omega), sum_take e, List.getD_eq_getElem?_getD, e]
    rfl
theorem psum_nn {f : Nat → Int} (h : ∀ k, 0 ≤ f k) : ∀ n, 0 ≤ psum f n
  | 0 => Int.le_refl _
  | n + 1 => by
    show 0 ≤ psum f n + f n
    have := psum_nn h n
    have := h n
    omega
/-- a whole number of periods, then some more -/
theorem psum_rep (p : List Int) (hp : 1 ≤ p.length) (q r : Nat) (hr : r ≤ p.length) : psum (fun k => p.getD (k % p.length) 0) (q * p.length + r) = q * p.sum + (p.take r).sum := by
  induction q with
  | zero =>
    rw [Nat.zero_mul, Nat.zero_add]
    rw [psum_congr (g := fun k => p.getD k 0) r (fun k hk => by show p.getD (k % p.length) 0 = _; rw [Nat.mod_eq_of_lt (by omega)]), psum_take p r hr]
    simp
  | succ q ih =>
    rw [show (q + 1) * p.length + r = p.length + (q * p.length + r) by rw [Nat.add_mul]; omega, psum_add]
    rw [psum_congr (g := fun k => p.getD (k % p.length) 0) (q * p.length + r) (fun k hk => by show p.getD ((p.length + k) % p.length) 0 = _; rw [Nat.add_mod_left]), ih]
    rw [psum_congr (g := fun k => p.getD k 0) p.length (fun k hk => by show p.getD (k % p.length) 0 = _; rw [Nat.mod_eq_of_lt hk]), psum_take p p.length (Nat.le_refl _), List.take_of_length_le (Nat.le_refl _)]
    have : ((q + 1 : Nat) : Int) * p.sum = q * p.sum + p.sum := by
      rw [Int.natCast_add, Int.add_mul]
      simp
    rw [this]
    omega
theorem val_t (c : Cv) (x : Nat) (h : x ≤ c.t.length) : c.val x = c.i + (c.t.take x).sum := by
  unfold Cv.val
  rw [psum_congr (g := fun k => c.t.getD k 0) x (fun k hk => by unfold Cv.inc seqAt; rw [if_pos (by omega)]), psum_take c.t x h]
theorem val_p (c : Cv) (hp : 1 ≤ c.p.length) (y : Nat) : c.val (c.t.length + y) = c.i + c.t.sum + (y / c.p.length : Nat) * c.p.sum + (c.p.take (y % c.p.length)).sum := by
  unfold Cv.val
  rw [psum_add]
  rw [psum_congr (g := fun k => c.t.getD k 0) c.t.length (fun k hk => by unfold Cv.inc seqAt; rw [if_pos hk]), psum_take c.t _ (Nat.le_refl _), List.take_of_length_le (Nat.le_refl _)]
  rw [psum_congr (g := fun k => c.p.getD (k % c.p.length) 0) y (fun k hk => by unfold Cv.inc seqAt; rw [if_neg (by omega), Nat.add_sub_cancel_left])]
  have e : y = (y / c.p.length) * c.p.length + y % c.p.length := by
    rw [Nat.mul_comm]
    exact (Nat.div_add_mod y c.p.length).symm
  have h2 : y % c.p.length ≤ c.p.length := Nat.le_of_lt (Nat.mod_lt _ (by omega))
  have := psum_rep c.p hp (y / c.p.length) (y % c.p.length) h2
  rw [← e] at this
  rw [this]
  omega
theorem sum_nn : ∀ {l : List Int}, (∀ x ∈ l, 0 ≤ x) → 0 ≤ l.sum
  | [], _ => by simp
  | x :: r, h => by
    rw [List.sum_cons]
    have := sum_nn (l := r) fun y hy => h y (List.mem_cons_of_mem _ hy)
    have := h x List.mem_cons_self
    omega
theorem sum_le : ∀ {l : List Int} {m : Int}, (∀ x ∈ l, x ≤ m) → l.sum ≤ l.length * m
  | [], m, _ => by simp
  | x :: r, m, h => by
    rw [List.sum_cons, List.length_cons]
    have := sum_le (l := r) (m := m) fun y hy => h y (List.mem_cons_of_mem _ hy)
    have := h x List.mem_cons_self
    have e : ((r.length + 1 : Nat) : Int) * m = r.length * m + m := by
      rw [Int.natCast_add, Int.add_mul]
      simp
    rw [e]
    omega
theorem cut_tI (xs : List Int) (lo hi : Option Int) : PyData.tuple (cut (xs.map .int) lo hi) = tI (cut xs lo hi) := by
  rw [cut_map]
  rfl
theorem len_tI (xs : List Int) : PyData.int ((xs.map PyData.int).length : Int) = .int (xs.length : Int) := by rw [List.length_map]
section
variable {K : PySem.W.Frag} {ρ : Rho} {te ta tb tc td : TE}
/-- of tuples of ints -/
theorem y_len {xs : List Int} (h : Pd K te ρ (tI xs)) : Pd K (tCB (PD.rLen K) (tCons te tNil)) ρ (.int (xs.length : Int)) := (yd_lenT (xs := xs.map .int) h).to (len_tI xs)
theorem y_sum {xs : List Int} (h : Pd K te ρ (tI xs)) : Pd K (tCB (rSumX K) (tCons te tNil)) ρ (.int xs.sum) := yd_sumT h
theorem y_sl {xs : List Int} {tl th : TO} {lo hi : Option Int} (h : Pd K te ρ (tI xs)) (hl : Pod K tl ρ lo) (hh : Pod K th ρ hi) : Pd K (tSl (rSlX K) te tl th) ρ (tI (cut xs lo hi)) := (yd_slT (xs := xs.map .int) h hl hh).to (cut_tI xs lo hi)
theorem y_ix {xs : List Int} {i : Int} {z : Int} (h : Pd K te ρ (tI xs)) (hb : Pd K tb ρ (.int i)) (e : atI xs i = some z) : Pd K (tOp (rIx K) te tb) ρ (.int z) := yd_ixT (xs := xs.map .int) h hb (by rw [atI_map, e]; rfl)
theorem y_cat {xs ys : List Int} (h : Pd K ta ρ (tI xs)) (hb : Pd K tb ρ (tI ys)) (hl : xs.length + ys.length ≤ sizeLine) : Pd K (tOp (rPlus K) ta tb) ρ (tI (xs ++ ys)) := (yd_catT (xs := xs.map .int) (ys := ys.map .int) h hb (by rw [List.length_map, List.length_map]; exact hl)).to (by unfold tI; rw [List.map_append])
/-- curve[1], curve[2] .. -/
theorem y_c0 {c : Cv} (h : Pd K ta ρ (cvD c)) (hb : Pd K tb ρ (.int 0)) : Pd K (tOp (rIx K) ta tb) ρ (.int c.i) := yd_ixT h hb rfl
theorem y_c1 {c : Cv} (h : Pd K ta ρ (cvD c)) (hb : Pd K tb ρ (.int 1)) : Pd K (tOp (rIx K) ta tb) ρ (tI c.t) := yd_ixT h hb rfl
theorem y_c2 {c : Cv} (h : Pd K ta ρ (cvD c)) (hb : Pd K tb ρ (.int 2)) : Pd K (tOp (rIx K) ta tb) ρ (tI c.p) := yd_ixT h hb rfl
end


/-! ### lists -/
theorem getD_app (a b : List Int) (k : Nat) : (a ++ b).getD k 0 = if k < a.length then a.getD k 0 else b.getD (k - a.length) 0 := by
  rw [List.getD_eq_getElem?_getD, List.getElem?_append]
  split
  · rw [List.getD_eq_getElem?_getD]
  · rw [List.getD_eq_getElem?_getD]
theorem rep_len (p : List Int) : ∀ n : Nat, (List.replicate n p).flatten.length = n * p.length
  | 0 => by simp
  | n + 1 => by rw [List.replicate_succ, List.flatten_cons, List.length_append, rep_len p n, Nat.add_mul]; omega
theorem rep_getD (p : List Int) (hp : 0 < p.length) : ∀ (n k : Nat), k < n * p.length → (List.replicate n p).flatten.getD k 0 = p.getD (k % p.length) 0
  | 0, k, h => by omega
  | n + 1, k, h => by
    rw [List.replicate_succ, List.flatten_cons, getD_app]
    by_cases h1 : k < p.length
    · rw [if_pos h1, Nat.mod_eq_of_lt h1]
    · rw [if_neg h1, rep_getD p hp n (k - p.length) (by rw [Nat.add_mul] at h; omega)]
      congr 1
      rw [← Nat.mod_eq_sub_mod (by omega)]
theorem rep_map (p : List Int) (n : Nat) : (List.replicate n (p.map PyData.int)).flatten = ((List.replicate n p).flatten).map .int := by
  induction n with
  | zero => rfl
  | succ n ih => rw [List.replicate_succ, List.flatten_cons, ih, List.replicate_succ, List.flatten_cons, List.map_append]


/-! ### normal forms -/
theorem ext_getD : ∀ {a b : List Int}, a.length = b.length → (∀ k, k < a.length → a.getD k 0 = b.getD k 0) → a = b
  | [], [], _, _ => rfl
  | x :: a, y :: b, hl, h => by
    have e0 : x = y := h 0 (by simp)
    have e1 : a = b := ext_getD (by simpa using hl) fun k hk => h (k + 1) (by simpa using hk)
    rw [e0, e1]
theorem getD_take (p : List Int) (d k : Nat) (h : k < d) : (p.take d).getD k 0 = p.getD k 0 := by
  rw [List.getD_eq_getElem?_getD, List.getD_eq_getElem?_getD, List.getElem?_take_of_lt h]
theorem getD_drop (p : List Int) (d k : Nat) : (p.drop d).getD k 0 = p.getD (d + k) 0 := by
  rw [List.getD_eq_getElem?_getD, List.getD_eq_getElem?_getD, List.getElem?_drop]
def cyc (p : List Int) (k : Nat) : Int := p.getD (k % p.length) 0
def Shift (g : Nat → Int) (d : Nat) : Prop := ∀ k, g (k + d) = g k
theorem Shift.mul {g : Nat → Int} {d : Nat} (h : Shift g d) : ∀ n, Shift g (d * n)
  | 0 => fun k => by rw [Nat.mul_zero, Nat.add_zero]
  | n + 1 => fun k => by
    rw [Nat.mul_succ, ← Nat.add_assoc, h]
    exact Shift.mul h n k
theorem Shift.sub {g : Nat → Int} {a b : Nat} (h : Shift g (a + b)) (ha : Shift g a) : Shift g b := fun k => by
  have e := h k
  rw [Nat.add_comm a b, ← Nat.add_assoc, ha] at e
  exact e
theorem Shift.mod {g : Nat → Int} {a b : Nat} (ha : Shift g a) (hb : Shift g b) : Shift g (b % a) := by
  have e : a * (b / a) + b % a = b := Nat.div_add_mod b a
  refine Shift.sub (a := a * (b / a)) ?_ (ha.mul _)
  rw [e]
  exact hb
theorem Shift.gcd {g : Nat → Int} {a b : Nat} : Shift g a → Shift g b → Shift g (Nat.gcd a b) := by
  induction a, b using Nat.gcd.induction with
  | H0 n => intro _ hb; rw [Nat.gcd_zero_left]; exact hb
  | H1 m n hm ih =>
    intro ha hb
    rw [Nat.gcd_rec]
    exact ih (ha.mod hb) ha
theorem Shift.at {g : Nat → Int} {d : Nat} (h : Shift g d) (k : Nat) : g k = g (k % d) := by
  have e := h.mul (k / d) (k % d)
  rw [Nat.mod_add_div] at e
  exact e
theorem cyc_len (p : List Int) : Shift (cyc p) p.length := fun k => by
  unfold cyc
  rw [Nat.add_mod_right]
theorem cyc_lt (p : List Int) {k : Nat} (h : k < p.length) : cyc p k = p.getD k 0 := by
  unfold cyc
  rw [Nat.mod_eq_of_lt h]
structure Per (p : List Int) (d : Nat) : Prop where
  pos : 1 ≤ d
  dvd : d ∣ p.length
  sh : Shift (cyc p) d
theorem Per.self {p : List Int} (h : 1 ≤ p.length) : Per p p.length := ⟨h, Nat.dvd_refl _, cyc_len p⟩
theorem Per.le {p : List Int} {d : Nat} (h : Per p d) (hp : 1 ≤ p.length) : d ≤ p.length := Nat.le_of_dvd hp h.dvd
theorem per_rep {p : List Int} {d f : Nat} (hp : 1 ≤ p.length) (hs : Per p (d * f)) (hd : 1 ≤ d) : (List.replicate f (p.take d)).flatten = p.take (d * f) ↔ Per p d := by
  have hle : d * f ≤ p.length := hs.le hp
  have hf : 0 < f := by
    cases f with
    | zero => have := hs.pos; omega
    | succ f => omega
  have hdl : d ≤ p.length := Nat.le_trans (Nat.le_mul_of_pos_right d hf) hle
  have l1 : (p.take d).length = d := by rw [List.length_take]; omega
  have l2 : (p.take (d * f)).length = d * f := by rw [List.length_take]; omega
  have g1 : ∀ k, k < d * f → (List.replicate f (p.take d)).flatten.getD k 0 = p.getD (k % d) 0 := fun k hk => by
    rw [rep_getD _ (by omega) f k (by rw [l1, Nat.mul_comm]; exact hk), l1, getD_take _ _ _ (Nat.mod_lt _ (by omega))]
  constructor
  · intro e
    refine ⟨hd, Nat.dvd_trans (Nat.dvd_mul_right d f) hs.dvd, fun k => ?_⟩
    have key : ∀ k, cyc p k = p.getD (k % d) 0 := fun k => by
      rw [hs.sh.at k]
      have hm : k % (d * f) < d * f := Nat.mod_lt _ (by have := hs.pos; omega)
      rw [cyc_lt p (by omega)]
      have := congrArg (fun l => l.getD (k % (d * f)) 0) e
      rw [g1 _ hm, getD_take _ _ _ hm, Nat.mod_mod_of_dvd _ (Nat.dvd_mul_right d f)] at this
      exact this.symm
    rw [key, key, Nat.add_mod_right]
  · intro h
    refine ext_getD (by rw [rep_len, l1, l2, Nat.mul_comm]) fun k hk => ?_
    rw [rep_len, l1, Nat.mul_comm] at hk
    rw [g1 k hk, getD_take _ _ _ hk, ← cyc_lt p (show k < p.length by omega), h.sh.at k, cyc_lt p (by have := Nat.mod_lt k (show 0 < d by omega); omega)]
structure LeastPer (p : List Int) (m : Nat) : Prop where
  per : Per p m
  least : ∀ d, Per p d → m ≤ d
theorem exists_least (Q : Nat → Prop) : ∀ n, Q n → ∃ m, Q m ∧ ∀ d, Q d → m ≤ d := by
  intro n
  induction n using Nat.strongRecOn with
  | ind n ih =>
    intro h
    by_cases z : ∃ d, Q d ∧ d < n
    · obtain ⟨d, hd, hl⟩ := z
      exact ih d hl hd
    · exact ⟨n, h, fun d hd => Nat.le_of_not_lt fun hl => z ⟨d, hd, hl⟩⟩
theorem least_ex {p : List Int} (h : 1 ≤ p.length) : ∃ m, LeastPer p m := by
  obtain ⟨m, h1, h2⟩ := exists_least (Per p) _ (Per.self h)
  exact ⟨m, h1, h2⟩
theorem LeastPer.uniq {p : List Int} {m n : Nat} (a : LeastPer p m) (b : LeastPer p n) : m = n := Nat.le_antisymm (a.least _ b.per) (b.least _ a.per)
theorem LeastPer.dvd {p : List Int} {m d : Nat} (a : LeastPer p m) (h : Per p d) : m ∣ d := by
  have g : Per p (Nat.gcd m d) := ⟨Nat.gcd_pos_of_pos_left _ a.per.pos, Nat.dvd_trans (Nat.gcd_dvd_left _ _) a.per.dvd, a.per.sh.gcd h.sh⟩
  have e : Nat.gcd m d = m := Nat.le_antisymm (Nat.le_of_dvd a.per.pos (Nat.gcd_dvd_left _ _)) (a.least _ g)
  rw [← e]
  exact Nat.gcd_dvd_right _ _
theorem Per.mult {p : List Int} {m d : Nat} (h : Per p m) (hd : 1 ≤ d) (h1 : m ∣ d) (h2 : d ∣ p.length) : Per p d := by
  obtain ⟨c, rfl⟩ := h1
  exact ⟨hd, h2, h.sh.mul c⟩
/-! ### prime factors -/
def Prm (f : Nat) : Prop := 2 ≤ f ∧ ∀ d, d ∣ f → d = 1 ∨ d = f
def prodL : List Nat → Nat
  | [] => 1
  | x :: r => x * prodL r
theorem prodL_app : ∀ (a b : List Nat), prodL (a ++ b) = prodL a * prodL b
  | [], b => by show prodL b = 1 * prodL b; omega
  | x :: a, b => by
    show x * prodL (a ++ b) = x * prodL a * prodL b
    rw [prodL_app a b, Nat.mul_assoc]
theorem Prm.cop {f r : Nat} (h : Prm f) (n : ¬ f ∣ r) : Nat.Coprime f r := by
  rcases h.2 _ (Nat.gcd_dvd_left f r) with e | e
  · exact e
  · exact absurd (e ▸ Nat.gcd_dvd_right f r) n
/-- no divisor below f, f a divisor: a prime -/
theorem prm_of {m f : Nat} (hf : 2 ≤ f) (hd : f ∣ m) (h : ∀ d, 2 ≤ d → d < f → ¬ d ∣ m) : Prm f := by
  refine ⟨hf, fun d hdf => ?_⟩
  by_cases e : d = 1
  · exact .inl e
  · right
    have h0 : d ≠ 0 := fun z => by
      subst z
      have := Nat.eq_zero_of_zero_dvd hdf
      omega
    have hle : d ≤ f := Nat.le_of_dvd (by omega) hdf
    by_cases q : d = f
    · exact q
    · exact absurd (Nat.dvd_trans hdf hd) (h d (by omega) (by omega))
theorem prm_last {m f : Nat} (hm : 2 ≤ m) (hff : m < f * f) (h : ∀ d, 2 ≤ d → d < f → ¬ d ∣ m) : Prm m := by
  refine ⟨hm, fun d hdm => ?_⟩
  obtain ⟨c, rfl⟩ := hdm
  by_cases e : d = 1
  · exact .inl e
  · right
    have hd0 : d ≠ 0 := fun z => by subst z; simp at hm
    have hc0 : c ≠ 0 := fun z => by subst z; simp at hm
    by_cases e2 : c = 1
    · subst e2; rw [Nat.mul_one]
    · exfalso
      by_cases q : d < f
      · exact h d (by omega) q (Nat.dvd_mul_right d c)
      · by_cases q2 : c < f
        · exact h c (by omega) q2 (Nat.dvd_mul_left c d)
        · have : f * f ≤ d * c := Nat.mul_le_mul (by omega) (by omega)
          omega
structure Facs (n : Nat) (fs : List Nat) : Prop where
  prod : prodL fs = n
  prm : ∀ f ∈ fs, Prm f
structure FacSt (n : Nat) (s : List Nat × Nat × Nat) : Prop where
  prod : prodL s.1 * s.2.1 = n
  prm : ∀ f ∈ s.1, Prm f
  m : 1 ≤ s.2.1
  f : 2 ≤ s.2.2
  no : ∀ d, 2 ≤ d → d < s.2.2 → ¬ d ∣ s.2.1
theorem FacSt.yes {n m f : Nat} {fs : List Nat} (h : FacSt n (fs, m, f)) (hd : m % f = 0) : FacSt n (fs ++ [f], m / f, f) := by
  have hdv : f ∣ m := Nat.dvd_of_mod_eq_zero hd
  have hf : 2 ≤ f := h.f
  refine ⟨?_, fun g hg => ?_, ?_, h.f, fun d h1 h2 h3 => ?_⟩
  · show prodL (fs ++ [f]) * (m / f) = n
    rw [prodL_app]
    show prodL fs * (f * 1) * (m / f) = n
    rw [Nat.mul_one, Nat.mul_assoc, Nat.mul_div_cancel' hdv]
    exact h.prod
  · rcases List.mem_append.mp hg with hg | hg
    · exact h.prm g hg
    · rw [List.mem_singleton.mp hg]
      exact prm_of h.f hdv h.no
  · exact Nat.div_pos (Nat.le_of_dvd h.m hdv) (by omega)
  · exact h.no d h1 h2 (Nat.dvd_trans h3 (Nat.div_dvd_of_dvd hdv))
theorem FacSt.next {n m f : Nat} {fs : List Nat} (h : FacSt n (fs, m, f)) (hd : m % f ≠ 0) : FacSt n (fs, m, f + 1) := by
  refine ⟨h.prod, h.prm, h.m, Nat.le_succ_of_le h.f, fun d h1 h2 h3 => ?_⟩
  have h2 : d < f + 1 := h2
  by_cases q : d = f
  · subst q
    exact hd (Nat.mod_eq_zero_of_dvd h3)
  · exact h.no d h1 (show d < f by omega) h3
theorem FacSt.fin {n m f : Nat} {fs : List Nat} (h : FacSt n (fs, m, f)) (hf : m < f * f) : Facs n (if 1 < m then fs ++ [m] else fs) := by
  split
  · rename_i hm
    refine ⟨?_, fun g hg => ?_⟩
    · rw [prodL_app]
      show prodL fs * (m * 1) = n
      rw [Nat.mul_one]
      exact h.prod
    · rcases List.mem_append.mp hg with hg | hg
      · exact h.prm g hg
      · rw [List.mem_singleton.mp hg]
        exact prm_last hm hf h.no
  · rename_i hm
    have : m = 1 := by have h1 : 1 ≤ m := h.m; omega
    subst this
    exact ⟨by have h2 : prodL fs * 1 = n := h.prod; omega, h.prm⟩
/-! ### the shortest period, factor by factor -/
structure SpSt (p : List Int) (m : Nat) (size : Nat) (rest : List Nat) : Prop where
  per : Per p size
  dv : prodL rest ∣ size
  md : size / m ∣ prodL rest
theorem SpSt.start {p : List Int} {m : Nat} {fs : List Nat} (hp : 1 ≤ p.length) (hm : LeastPer p m) (h : Facs p.length fs) : SpSt p m p.length fs :=
  ⟨Per.self hp, by rw [h.prod]; exact Nat.dvd_refl _, by rw [h.prod]; exact Nat.div_dvd_of_dvd hm.per.dvd⟩
theorem SpSt.exact {p : List Int} {m size f : Nat} {rest : List Nat} (h : SpSt p m size (f :: rest)) (hf : Prm f) : ∃ d, size = d * f ∧ 1 ≤ d ∧ size / f = d := by
  have hd : f ∣ size := Nat.dvd_trans (Nat.dvd_mul_right f (prodL rest)) h.dv
  obtain ⟨d, rfl⟩ := hd
  have hf0 : 0 < f := by have := hf.1; omega
  refine ⟨d, Nat.mul_comm _ _, ?_, Nat.mul_div_cancel_left d hf0⟩
  cases d with
  | zero => have := h.per.pos; omega
  | succ d => omega
theorem SpSt.yes {p : List Int} {m d f : Nat} {rest : List Nat} (hm : LeastPer p m) (h : SpSt p m (d * f) (f :: rest)) (hf : Prm f) (hd : Per p d) : SpSt p m d rest := by
  have hf0 : 0 < f := by have := hf.1; omega
  have hmd : m ∣ d := hm.dvd hd
  refine ⟨hd, ?_, ?_⟩
  · have := h.dv
    rw [Nat.mul_comm d f] at this
    exact Nat.dvd_of_mul_dvd_mul_left hf0 this
  · have := h.md
    obtain ⟨c, rfl⟩ := hmd
    have m0 := hm.per.pos
    rw [Nat.mul_assoc, Nat.mul_div_cancel_left _ (by omega), Nat.mul_comm c f] at this
    rw [Nat.mul_div_cancel_left _ (by omega)]
    exact Nat.dvd_of_mul_dvd_mul_left hf0 this
theorem SpSt.no {p : List Int} {m d f : Nat} {rest : List Nat} (hm : LeastPer p m) (h : SpSt p m (d * f) (f :: rest)) (hf : Prm f) (hd1 : 1 ≤ d) (hd : ¬ Per p d) : SpSt p m (d * f) rest := by
  have m0 := hm.per.pos
  refine ⟨h.per, Nat.dvd_trans (Nat.dvd_mul_left _ _) h.dv, ?_⟩
  have hmd : m ∣ d * f := hm.dvd h.per
  have nf : ¬ f ∣ d * f / m := fun z => by
    obtain ⟨c, hc⟩ := z
    have e : d * f = m * c * f := by
      rw [← Nat.mul_div_cancel' hmd, hc, Nat.mul_comm f c, Nat.mul_assoc]
    have e2 : d = m * c := Nat.eq_of_mul_eq_mul_right (by have := hf.1; omega) e
    exact hd (hm.per.mult hd1 ⟨c, e2⟩ (Nat.dvd_trans (Nat.dvd_mul_right d f) h.per.dvd))
  exact (Nat.Coprime.symm (hf.cop nf)).dvd_of_dvd_mul_left h.md
theorem SpSt.fin {p : List Int} {m size : Nat} (hm : LeastPer p m) (h : SpSt p m size []) : size = m := by
  have m0 := hm.per.pos
  have hmd : m ∣ size := hm.dvd h.per
  have e : size / m = 1 := Nat.dvd_one.mp h.md
  have := Nat.mul_div_cancel' hmd
  rw [e] at this
  omega
/-! ### stripping -/
def mt (t q : List Int) (j : Nat) : Prop := t.getD (t.length - 1 - j) 0 = q.getD (q.length - 1 - j % q.length) 0
instance (t q : List Int) (j : Nat) : Decidable (mt t q j) := inferInstanceAs (Decidable (_ = _))
structure Strip (t q : List Int) (s : Nat) : Prop where
  le : s ≤ t.length
  all : ∀ j, j < s → mt t q j
  stop : s < t.length → ¬ mt t q s
theorem Strip.uniq {t q : List Int} {s r : Nat} (a : Strip t q s) (b : Strip t q r) : s = r := by
  rcases Nat.lt_trichotomy s r with h | h | h
  · exact absurd (b.all s h) (a.stop (Nat.lt_of_lt_of_le h b.le))
  · exact h
  · exact absurd (a.all r h) (b.stop (Nat.lt_of_lt_of_le h a.le))
def rotR (q : List Int) (s : Nat) : List Int := q.drop (q.length - s % q.length) ++ q.take (q.length - s % q.length)
theorem rotR_len (q : List Int) (s : Nat) : (rotR q s).length = q.length := by
  unfold rotR
  rw [List.length_append, List.length_drop, List.length_take]
  omega
theorem rotR_0 (q : List Int) : rotR q 0 = q := by
  unfold rotR
  rw [Nat.zero_mod, Nat.sub_zero, List.drop_of_length_le (Nat.le_refl _), List.take_of_length_le (Nat.le_refl _), List.nil_append]
theorem rotR_at (q : List Int) (s k : Nat) (hk : k < q.length) : (rotR q s).getD k 0 = cyc q (k + (q.length - s % q.length)) := by
  have hm := Nat.mod_lt s (show 0 < q.length by omega)
  unfold rotR cyc
  rw [getD_app, List.length_drop, getD_drop]
  generalize s % q.length = z at *
  by_cases h : k < z
  · rw [if_pos (by omega)]
    congr 1
    rw [Nat.mod_eq_of_lt (by omega)]
    omega
  · rw [if_neg (by omega), getD_take _ _ _ (by omega)]
    congr 1
    rw [Nat.mod_eq_sub_mod (by omega), Nat.mod_eq_of_lt (by omega)]
    omega
theorem cyc_rotR (q : List Int) (hq : 1 ≤ q.length) (s k : Nat) : cyc (rotR q s) k = cyc q (k + (q.length - s % q.length)) := by
  have hm := Nat.mod_lt k (show 0 < q.length by omega)
  show (rotR q s).getD (k % (rotR q s).length) 0 = _
  rw [rotR_len, rotR_at q s _ hm]
  unfold cyc
  rw [Nat.mod_add_mod]
/-- the last of the turned period -/
theorem rotR_last (q : List Int) (hq : 1 ≤ q.length) (s : Nat) : (rotR q s).getD (q.length - 1) 0 = q.getD (q.length - 1 - s % q.length) 0 := by
  have hm := Nat.mod_lt s (show 0 < q.length by omega)
  rw [rotR_at q s _ (by omega)]
  unfold cyc
  generalize s % q.length = z at *
  congr 1
  rw [Nat.mod_eq_sub_mod (by omega), Nat.mod_eq_of_lt (by omega)]
  omega
/-- turned once more -/
theorem rotR_succ (q : List Int) (hq : 1 ≤ q.length) (s : Nat) : rotR (rotR q s) 1 = rotR q (s + 1) := by
  refine ext_getD (by rw [rotR_len, rotR_len, rotR_len]) fun k hk => ?_
  rw [rotR_len, rotR_len] at hk
  have hm := Nat.mod_lt s (show 0 < q.length by omega)
  have hm2 := Nat.mod_lt (s + 1) (show 0 < q.length by omega)
  have hm3 := Nat.mod_lt 1 (show 0 < q.length by omega)
  rw [rotR_at _ _ _ (by rw [rotR_len]; exact hk), cyc_rotR q hq, rotR_at q _ _ hk, rotR_len]
  unfold cyc
  congr 1
  by_cases h1 : q.length = 1
  · rw [h1, Nat.mod_one, Nat.mod_one]
  · have e1 : 1 % q.length = 1 := Nat.mod_eq_of_lt (by omega)
    rw [e1]
    by_cases h2 : s % q.length = q.length - 1
    · have e2 : (s + 1) % q.length = 0 := by
        rw [Nat.add_mod, h2, e1, Nat.sub_add_cancel (by omega), Nat.mod_self]
      rw [e2, h2]
      rw [show k + (q.length - 1) + (q.length - (q.length - 1)) = k + (q.length - 0) by omega]
    · have e2 : (s + 1) % q.length = s % q.length + 1 := by
        rw [Nat.add_mod, e1, Nat.mod_eq_of_lt (by omega)]
      rw [e2]
      rw [show k + (q.length - 1) + (q.length - s % q.length) = k + (q.length - (s % q.length + 1)) + q.length by omega, Nat.add_mod_right]
/-- the normal form -/
def NF (t p t' p' : List Int) : Prop := ∃ m s, LeastPer p m ∧ Strip t (p.take m) s ∧ t' = t.take (t.length - s) ∧ p' = rotR (p.take m) s
theorem NF.uniq {t p a b c d : List Int} (h : NF t p a b) (k : NF t p c d) : a = c ∧ b = d := by
  obtain ⟨m, s, h1, h2, rfl, rfl⟩ := h
  obtain ⟨n, r, k1, k2, rfl, rfl⟩ := k
  obtain rfl := h1.uniq k1
  obtain rfl := h2.uniq k2
  exact ⟨rfl, rfl⟩
theorem cyc_take {p : List Int} {m : Nat} (hp : 1 ≤ p.length) (h : Per p m) (k : Nat) : cyc (p.take m) k = cyc p k := by
  have hl : (p.take m).length = m := by rw [List.length_take]; have := h.le hp; omega
  have hm := Nat.mod_lt k h.pos
  unfold cyc
  rw [hl, getD_take _ _ _ hm]
  have := h.sh.at k
  unfold cyc at this
  rw [this, Nat.mod_eq_of_lt (show k % m < p.length by have := h.le hp; omega)]
theorem Shift.back {g : Nat → Int} {a d m : Nat} (hm : 1 ≤ m) (sm : Shift g m) (h : Shift (fun k => g (k + a)) d) : Shift g d := fun k => by
  have e1 := sm.mul a (k + d)
  have e2 := sm.mul a k
  have e3 := h (k + (m - 1) * a)
  simp only at e3
  have q : m * a = (m - 1) * a + a := by
    obtain ⟨n, rfl⟩ : ∃ n, m = n + 1 := ⟨m - 1, by omega⟩
    rw [Nat.add_sub_cancel, Nat.add_mul, Nat.one_mul]
  rw [show k + (m - 1) * a + d + a = k + d + m * a by rw [q]; omega, show k + (m - 1) * a + a = k + m * a by rw [q]; omega, e1, e2] at e3
  exact e3
theorem NF.len {t p t' p' : List Int} (hp : 1 ≤ p.length) (h : NF t p t' p') : t'.length ≤ t.length ∧ 1 ≤ p'.length ∧ p'.length ≤ p.length := by
  obtain ⟨m, s, h1, h2, rfl, rfl⟩ := h
  have hl : (p.take m).length = m := by rw [List.length_take]; have := h1.per.le hp; omega
  rw [rotR_len, hl, List.length_take]
  exact ⟨Nat.min_le_right _ _, h1.per.pos, h1.per.le hp⟩
theorem mem_rotR {q : List Int} {s : Nat} {x : Int} (h : x ∈ rotR q s) : x ∈ q := by
  rcases List.mem_append.mp h with h | h
  · exact List.mem_of_mem_drop h
  · exact List.mem_of_mem_take h
theorem NF.mem {t p t' p' : List Int} (h : NF t p t' p') : (∀ x ∈ t', x ∈ t) ∧ ∀ x ∈ p', x ∈ p := by
  obtain ⟨m, s, h1, h2, rfl, rfl⟩ := h
  exact ⟨fun x hx => List.mem_of_mem_take hx, fun x hx => List.mem_of_mem_take (mem_rotR hx)⟩
/-- a normal form is its own -/
theorem NF.idem {t p t' p' : List Int} (hp : 1 ≤ p.length) (h : NF t p t' p') : NF t' p' t' p' := by
  obtain ⟨m, s, h1, h2, rfl, rfl⟩ := h
  have hl : (p.take m).length = m := by rw [List.length_take]; have := h1.per.le hp; omega
  have hq1 : 1 ≤ (p.take m).length := by rw [hl]; exact h1.per.pos
  have hr : (rotR (p.take m) s).length = m := by rw [rotR_len, hl]
  have sm : Shift (cyc (p.take m)) m := by
    have := cyc_len (p.take m)
    rw [hl] at this
    exact this
  refine ⟨m, 0, ⟨?_, fun d hd => ?_⟩, ?_, ?_, ?_⟩
  · have := Per.self (p := rotR (p.take m) s) (by rw [hr]; exact h1.per.pos)
    rw [hr] at this
    exact this
  · refine h1.least d ⟨hd.pos, Nat.dvd_trans (hr ▸ hd.dvd) h1.per.dvd, ?_⟩
    have e : Shift (fun k => cyc (p.take m) (k + ((p.take m).length - s % (p.take m).length))) d := fun k => by
      have := hd.sh k
      rw [cyc_rotR _ hq1, cyc_rotR _ hq1] at this
      exact this
    have := Shift.back h1.per.pos sm e
    intro k
    have q := this k
    rw [cyc_take hp h1.per, cyc_take hp h1.per] at q
    exact q
  · refine ⟨Nat.zero_le _, fun j hj => absurd hj (Nat.not_lt_zero _), fun hs => ?_⟩
    have hs2 : s < t.length := by
      rw [List.length_take] at hs
      omega
    have := h2.stop hs2
    unfold mt at this ⊢
    rw [List.take_of_length_le (show (rotR (p.take m) s).length ≤ m by rw [hr]; exact Nat.le_refl _)]
    rw [hr, Nat.zero_mod, Nat.sub_zero, Nat.sub_zero, List.length_take, Nat.min_eq_left (by omega), getD_take _ _ _ (by omega)]
    have e := rotR_last (p.take m) hq1 s
    rw [hl] at e this
    rw [e]
    rw [show t.length - s - 1 = t.length - 1 - s by omega]
    exact this
  · rw [Nat.sub_zero, List.take_of_length_le (Nat.le_refl _)]
  · rw [List.take_of_length_le (show (rotR (p.take m) s).length ≤ m by rw [hr]; exact Nat.le_refl _), rotR_0]
/-! ### == of tuples and lists of ints -/
theorem eqvAll_ints : ∀ (a b : List Int), PyData.eqvAll (a.map .int) (b.map .int) = decide (a = b)
  | [], [] => rfl
  | [], _ :: _ => rfl
  | _ :: _, [] => rfl
  | x :: a, y :: b => by
    show ((x == y) && PyData.eqvAll (a.map .int) (b.map .int)) = _
    rw [eqvAll_ints a b]
    by_cases h : x = y
    · subst h
      by_cases h2 : a = b
      · subst h2; simp
      · simp [h2]
    · simp [h]
theorem canLay_ints : ∀ (a : List Int), PyData.canLayAll0 (a.map .int) = true
  | [] => rfl
  | x :: a => by
    show (true && PyData.canLayAll0 (a.map .int)) = true
    rw [canLay_ints a]
    rfl
theorem depth_ints : ∀ (a : List Int), PyData.depthAll (a.map .int) = 0
  | [] => rfl
  | x :: a => by
    show max 0 (PyData.depthAll (a.map .int)) = 0
    rw [depth_ints a]
    rfl
theorem shaped_tup (a : List Int) : SeqAt.shaped (.tuple (a.map .int)) = true := by
  show (PyData.canLayAll0 (a.map .int) && decide (PyData.depthAll (a.map .int) + 1 ≤ 64)) = true
  rw [canLay_ints, depth_ints]
  rfl
theorem shaped_lst (a : List Int) : SeqAt.shaped (.list (a.map .int)) = true := by
  show (PyData.canLayAll0 (a.map .int) && decide (PyData.depthAll (a.map .int) + 1 ≤ 64)) = true
  rw [canLay_ints, depth_ints]
  rfl
section
variable {K : PySem.W.Frag} {ρ : Rho} {te ta tb tc td : TE}
theorem y_eqT {a b : List Int} (h : Pd K ta ρ (tI a)) (h' : Pd K tb ρ (tI b)) : Pd K (tOp (rEqX K) ta tb) ρ (.bool (decide (a = b))) := (yd_eqD h h' (shaped_tup a) (shaped_tup b)).to (by
  show PyData.bool (PyData.eqvAll (a.map .int) (b.map .int)) = _
  rw [eqvAll_ints])
theorem y_eqL {a b : List Int} (h : Pd K ta ρ (.list (a.map .int))) (h' : Pd K tb ρ (.list (b.map .int))) : Pd K (tOp (rEqX K) ta tb) ρ (.bool (decide (a = b))) := (yd_eqD h h' (shaped_lst a) (shaped_lst b)).to (by
  show PyData.bool (PyData.eqvAll (a.map .int) (b.map .int)) = _
  rw [eqvAll_ints])
end


theorem seq_lo {t p : List Int} {k : Nat} (h : k < t.length) : seqAt t p k = t.getD k 0 := by unfold seqAt; rw [if_pos h]
theorem seq_hi {t p : List Int} {k : Nat} (h : t.length ≤ k) : seqAt t p k = cyc p (k - t.length) := by unfold seqAt cyc; rw [if_neg (by omega)]
theorem cyc_add (p : List Int) (k n : Nat) : cyc p (k + p.length * n) = cyc p k := (cyc_len p).mul n k
theorem NF.seq {t p t' p' : List Int} (hp : 1 ≤ p.length) (h : NF t p t' p') (k : Nat) : seqAt t' p' k = seqAt t p k := by
  obtain ⟨m, s, h1, h2, rfl, rfl⟩ := h
  have ct := fun k => cyc_take hp h1.per k
  have m0 := h1.per.pos
  have hl : (p.take m).length = m := by rw [List.length_take]; have := h1.per.le hp; omega
  generalize hq : p.take m = q at *
  have hs := h2.le
  have hL : (t.take (t.length - s)).length = t.length - s := by rw [List.length_take]; omega
  have ds := Nat.div_add_mod s m
  have ms := Nat.mod_lt s (show 0 < m by omega)
  by_cases k1 : k < t.length - s
  · rw [seq_lo (by rw [hL]; exact k1), seq_lo (by omega), getD_take _ _ _ k1]
  · rw [seq_hi (by rw [hL]; omega), hL, cyc_rotR q (by omega), hl]
    by_cases k2 : k < t.length
    · rw [seq_lo k2]
      have := h2.all (t.length - 1 - k) (by omega)
      unfold mt at this
      rw [show t.length - 1 - (t.length - 1 - k) = k by omega, hl] at this
      rw [this]
      have dj := Nat.div_add_mod (t.length - 1 - k) m
      have mj := Nat.mod_lt (t.length - 1 - k) (show 0 < m by omega)
      have le : (t.length - 1 - k) / m ≤ s / m := Nat.div_le_div_right (by omega)
      obtain ⟨z, hz⟩ : ∃ z, s / m = (t.length - 1 - k) / m + z := ⟨s / m - (t.length - 1 - k) / m, by omega⟩
      rw [hz, Nat.mul_add] at ds
      rw [show k - (t.length - s) + (m - s % m) = (m - 1 - (t.length - 1 - k) % m) + m * z by omega]
      have := cyc_add q (m - 1 - (t.length - 1 - k) % m) z
      rw [hl] at this
      rw [this, cyc_lt q (by omega)]
    · rw [seq_hi (by omega), ← ct]
      have := cyc_add q (k - t.length) (s / m + 1)
      rw [hl, Nat.mul_add, Nat.mul_one] at this
      rw [← this]
      congr 1
      omega
/-- a normal form -/
structure Norm (a b : List Int) : Prop where
  b1 : 1 ≤ b.length
  prim : ∀ d, Per b d → b.length ≤ d
  last : a ≠ [] → a.getD (a.length - 1) 0 ≠ b.getD (b.length - 1) 0
theorem NF.norm {t p a b : List Int} (hp : 1 ≤ p.length) (h : NF t p a b) : Norm a b := by
  have hb := (h.len hp).2.1
  obtain ⟨m, s, h1, h2, e1, e2⟩ := h.idem hp
  have hs : s = 0 := by
    have := congrArg List.length e1
    rw [List.length_take] at this
    have := h2.le
    omega
  subst hs
  rw [rotR_0] at e2
  have hm : m = b.length := by
    have := congrArg List.length e2
    rw [List.length_take] at this
    have := h1.per.le hb
    omega
  subst hm
  refine ⟨hb, h1.least, fun ha => ?_⟩
  have := h2.stop (by cases a with | nil => exact absurd rfl ha | cons x r => simp)
  unfold mt at this
  rw [← e2, Nat.zero_mod] at this
  exact this
theorem shift_add {g : Nat → Int} {d : Nat} (h : Shift g d) (e : Nat) : Shift (fun k => g (k + e)) d := fun k => by
  show g (k + d + e) = g (k + e)
  rw [show k + d + e = k + e + d by omega]
  exact h _
theorem Norm.canon {a b c d : List Int} (h : Norm a b) (k : Norm c d) (e : ∀ n, seqAt a b n = seqAt c d n) : a = c ∧ b = d := by
  have hb := h.b1
  have hd := k.b1
  obtain ⟨N, n1, n2⟩ : ∃ N, a.length ≤ N ∧ c.length ≤ N := ⟨max a.length c.length, by omega, by omega⟩
  have g1 : ∀ n, seqAt a b (n + N) = cyc b (n + (N - a.length)) := fun n => by rw [seq_hi (by omega)]; congr 1; omega
  have g2 : ∀ n, seqAt a b (n + N) = cyc d (n + (N - c.length)) := fun n => by rw [e, seq_hi (by omega)]; congr 1; omega
  have s1 : Shift (fun n => seqAt a b (n + N)) b.length := fun n => by
    simp only [g1]
    exact shift_add (cyc_len b) _ n
  have s2 : Shift (fun n => seqAt a b (n + N)) d.length := fun n => by
    simp only [g2]
    exact shift_add (cyc_len d) _ n
  have sg := s1.gcd s2
  have p1 : Shift (cyc b) (Nat.gcd b.length d.length) := Shift.back (a := N - a.length) hb (cyc_len b) (by have := sg; simp only [g1] at this; exact this)
  have p2 : Shift (cyc d) (Nat.gcd b.length d.length) := Shift.back (a := N - c.length) hd (cyc_len d) (by have := sg; simp only [g2] at this; exact this)
  have gp : 1 ≤ Nat.gcd b.length d.length := Nat.gcd_pos_of_pos_left _ hb
  have l1 := h.prim _ ⟨gp, Nat.gcd_dvd_left _ _, p1⟩
  have l2 := k.prim _ ⟨gp, Nat.gcd_dvd_right _ _, p2⟩
  have l3 := Nat.le_of_dvd hb (Nat.gcd_dvd_left b.length d.length)
  have l4 := Nat.le_of_dvd hd (Nat.gcd_dvd_right b.length d.length)
  have hL : b.length = d.length := by omega
  have key : ∀ {a b c d : List Int}, Norm c d → 1 ≤ b.length → b.length = d.length → (∀ n, seqAt a b n = seqAt c d n) → ¬ a.length < c.length := fun {a b c d} k hb hL e lt => by
    refine k.last (fun z => by rw [z] at lt; simp at lt) ?_
    have e1 := e (c.length - 1)
    have e2 := e (c.length - 1 + d.length)
    rw [seq_lo (t := c) (by omega), seq_hi (by omega)] at e1
    rw [seq_hi (t := c) (by omega), seq_hi (t := a) (by omega), show c.length - 1 + d.length - c.length = d.length - 1 by omega, cyc_lt d (by omega),
      show c.length - 1 + d.length - a.length = (c.length - 1 - a.length) + b.length by omega, cyc_len b] at e2
    rw [← e1, ← e2]
  have ha : a.length = c.length := by
    have := key k hb hL e
    have := key h hd hL.symm fun n => (e n).symm
    omega
  refine ⟨ext_getD ha fun n hn => ?_, ext_getD hL fun n hn => ?_⟩
  · have := e n
    rw [seq_lo hn, seq_lo (by omega)] at this
    exact this
  · have := e (n + a.length)
    rw [seq_hi (by omega), seq_hi (by omega), ← ha, Nat.add_sub_cancel, cyc_lt b hn, cyc_lt d (by omega)] at this
    exact this
/-- equal for so long, equal for ever -/
theorem seq_all {a b c d : List Int} {N l : Nat} (hb : 1 ≤ b.length) (hl : 1 ≤ l) (h1 : a.length ≤ N) (h2 : c.length ≤ N) (d1 : b.length ∣ l) (d2 : d.length ∣ l) (e : ∀ n, n < N + l → seqAt a b n = seqAt c d n) : ∀ n, seqAt a b n = seqAt c d n := by
  intro n
  induction n using Nat.strongRecOn with
  | ind n ih =>
    by_cases h : n < N + l
    · exact e n h
    · have := ih (n - l) (by omega)
      obtain ⟨x, hx⟩ := d1
      obtain ⟨y, hy⟩ := d2
      rw [seq_hi (by omega), seq_hi (by omega)] at this ⊢
      rw [show n - a.length = n - l - a.length + b.length * x by omega, show n - c.length = n - l - c.length + d.length * y by omega, cyc_add, cyc_add]
      exact this


def isC (first top : Int) : PyData → Prop := fun d => ∃ c : Cv, d = cvD c ∧ c.Ok first top
theorem Cv.Ok.sum {first top : Int} {c : Cv} (h : c.Ok first top) : 0 ≤ c.p.sum ∧ c.p.sum ≤ c.p.length * top := ⟨sum_nn fun x hx => (h.p x hx).1, sum_le fun x hx => (h.p x hx).2⟩
theorem Cv.Ok.sum20 {first : Int} {c : Cv} (h : c.Ok first 20) : 0 ≤ c.p.sum ∧ c.p.sum ≤ 80 := by
  have := h.sum
  have := h.pl
  omega


structure Cv.Nn (c : Cv) : Prop where
  i : 0 ≤ c.i
  t : ∀ x ∈ c.t, 0 ≤ x
  p : ∀ x ∈ c.p, 0 ≤ x
theorem Cv.Ok.nn {a b : Int} {c : Cv} (h : c.Ok a b) : c.Nn := ⟨h.i0, fun x hx => (h.t x hx).1, fun x hx => (h.p x hx).1⟩
theorem Cv.Nn.inc {c : Cv} (h : c.Nn) (k : Nat) : 0 ≤ c.inc k := by
  have g : ∀ {l : List Int}, (∀ x ∈ l, 0 ≤ x) → ∀ k, 0 ≤ l.getD k 0 := fun {l} hl k => by
    rw [List.getD_eq_getElem?_getD]
    by_cases hk : k < l.length
    · rw [List.getElem?_eq_getElem hk]
      exact hl _ (List.getElem_mem hk)
    · rw [List.getElem?_eq_none (by omega)]
      exact Int.le_refl _
  unfold Cv.inc seqAt
  split
  · exact g h.t _
  · exact g h.p _
theorem Cv.Nn.mono {c : Cv} (h : c.Nn) (x y : Nat) : c.val x ≤ c.val (x + y) := by
  unfold Cv.val
  rw [psum_add]
  have := psum_nn (f := fun k => c.inc (x + k)) (fun k => h.inc _) y
  omega
theorem Cv.Nn.le {c : Cv} (h : c.Nn) {x y : Nat} (l : x ≤ y) : c.val x ≤ c.val y := by
  have := h.mono x (y - x)
  rwa [show x + (y - x) = y by omega] at this
theorem Cv.Nn.val {c : Cv} (h : c.Nn) (x : Nat) : 0 ≤ c.val x := by
  have := h.le (Nat.zero_le x)
  have e : c.val 0 = c.i + 0 := rfl
  have := h.i
  omega


theorem extD {a b : List Int} (h : a.length = b.length) (e : ∀ k, k < a.length → a.getD k 0 = b.getD k 0) : a = b := by
  refine List.ext_getElem h fun k h1 h2 => ?_
  have := e k h1
  rwa [List.getD_eq_getElem?_getD, List.getD_eq_getElem?_getD, List.getElem?_eq_getElem h1, List.getElem?_eq_getElem h2] at this
theorem getD_range (f : Nat → Int) (n k : Nat) (h : k < n) : ((List.range n).map f).getD k 0 = f k := by
  rw [List.getD_eq_getElem?_getD, List.getElem?_map, List.getElem?_range h]
  rfl
/-- its first m increments -/
def incs (c : Cv) (m : Nat) : List Int := (List.range m).map c.inc
def vals (c : Cv) (m : Nat) : List Int := (List.range m).map fun x => c.val x
theorem incs_len (c : Cv) (m : Nat) : (incs c m).length = m := by unfold incs; rw [List.length_map, List.length_range]
theorem vals_len (c : Cv) (m : Nat) : (vals c m).length = m := by unfold vals; rw [List.length_map, List.length_range]
theorem incs_eq (c : Cv) (hp : 1 ≤ c.p.length) (m r : Nat) (h : m ≤ c.t.length + r * c.p.length) : (c.t ++ (List.replicate r c.p).flatten).take m = incs c m := by
  have hl : (c.t ++ (List.replicate r c.p).flatten).length = c.t.length + r * c.p.length := by rw [List.length_append, rep_len]
  refine extD (by rw [List.length_take, hl, incs_len, Nat.min_eq_left h]) fun k hk => ?_
  rw [List.length_take, hl, Nat.min_eq_left h] at hk
  unfold incs
  rw [getD_range _ _ _ hk, List.getD_eq_getElem?_getD, List.getElem?_take_of_lt hk, ← List.getD_eq_getElem?_getD, getD_app]
  unfold Cv.inc seqAt
  by_cases h1 : k < c.t.length
  · rw [if_pos h1, if_pos h1]
  · rw [if_neg h1, if_neg h1, rep_getD c.p hp r _ (by omega)]
theorem vals_at (c : Cv) (m x : Nat) (h : x < m) : atI ((vals c m).map PyData.int) (x : Int) = some (.int (c.val x)) := by
  refine atI_nat ?_
  unfold vals
  rw [List.map_map, List.getElem?_map, List.getElem?_range h]
  rfl
theorem rise_ub {x : Int} {q : Nat} (h : 0 ≤ x) (c : x < (q : Int)) : x.toNat < q := by omega
def valF (c : Cv) : PyData → PyData
  | .int i => .int (c.val i.toNat)
  | d => d


/-- the normal form of a curve, told by its values -/
structure Is (c : Cv) (i : Int) (f : Nat → Int) : Prop where
  n : Norm c.t c.p
  i : c.i = i
  f : ∀ x, c.inc x = f x
theorem Is.uniq {c d : Cv} {i : Int} {f : Nat → Int} (h : Is c i f) (k : Is d i f) : c = d := by
  obtain ⟨e1, e2⟩ := h.n.canon k.n fun x => (h.f x).trans (k.f x).symm
  obtain ⟨ci, ct, cp⟩ := c
  obtain ⟨di, dt, dp⟩ := d
  have e3 : ci = di := h.i.trans k.i.symm
  simp only at e1 e2
  rw [e1, e2, e3]
theorem NF.is {c : Cv} {a b : List Int} (hp : 1 ≤ c.p.length) (h : NF c.t c.p a b) : Is ⟨c.i, a, b⟩ c.i c.inc := ⟨h.norm hp, rfl, fun x => h.seq hp x⟩
theorem Is.val {c : Cv} {i : Int} {f : Nat → Int} (h : Is c i f) (x : Nat) : c.val x = i + psum f x := by
  unfold Cv.val
  rw [h.i, psum_congr x fun k _ => h.f k]
theorem inc_t {c : Cv} {k : Nat} (h : k < c.t.length) : c.inc k = c.t.getD k 0 := seq_lo h
theorem inc_p {c : Cv} {k : Nat} (h : k < c.p.length) : c.inc (c.t.length + k) = c.p.getD k 0 := by
  unfold Cv.inc
  rw [seq_hi (by omega), Nat.add_sub_cancel_left, cyc_lt _ h]
theorem mem_getD {l : List Int} {x : Int} (h : x ∈ l) : ∃ k, k < l.length ∧ l.getD k 0 = x := by
  obtain ⟨k, hk, e⟩ := List.getElem_of_mem h
  exact ⟨k, hk, by rw [List.getD_eq_getElem?_getD, List.getElem?_eq_getElem hk]; exact e⟩
theorem nn_of {c : Cv} (h0 : 0 ≤ c.i) (h : ∀ x, 0 ≤ c.inc x) : c.Nn := ⟨h0, fun x hx => by
  obtain ⟨k, hk, rfl⟩ := mem_getD hx
  rw [← inc_t hk]
  exact h k, fun x hx => by
  obtain ⟨k, hk, rfl⟩ := mem_getD hx
  rw [← inc_p hk]
  exact h _⟩
theorem Is.nn {c : Cv} {i : Int} {f : Nat → Int} (h : Is c i f) (h0 : 0 ≤ i) (hf : ∀ x, 0 ≤ f x) : c.Nn := nn_of (by rw [h.i]; exact h0) fun x => by rw [h.f]; exact hf x
/-- turned to the left -/
theorem cyc_rotL (p : List Int) (hp : 1 ≤ p.length) {r : Nat} (hr : r < p.length) (k : Nat) : cyc (p.drop r ++ p.take r) k = cyc p (k + r) := by
  by_cases h : r = 0
  · subst h
    rw [List.drop_zero, List.take_zero, List.append_nil, Nat.add_zero]
  · have e : p.drop r ++ p.take r = rotR p (p.length - r) := by
      unfold rotR
      rw [Nat.mod_eq_of_lt (by omega), show p.length - (p.length - r) = r by omega]
    rw [e, cyc_rotR p hp, Nat.mod_eq_of_lt (by omega), show p.length - (p.length - r) = r by omega]
theorem cyc_mod (p : List Int) (k r : Nat) : cyc p (k + r % p.length) = cyc p (k + r) := by
  unfold cyc
  rw [Nat.add_mod_mod]
theorem seq_adv (t p : List Int) (hp : 1 ≤ p.length) (k x : Nat) : seqAt (t.drop k) (p.drop ((k - t.length) % p.length) ++ p.take ((k - t.length) % p.length)) x = seqAt t p (x + k) := by
  by_cases h : x + k < t.length
  · rw [seq_lo (by rw [List.length_drop]; omega), seq_lo h, getD_drop, Nat.add_comm]
  · rw [seq_hi (by rw [List.length_drop]; omega), seq_hi (by omega), cyc_rotL p hp (Nat.mod_lt _ (by omega)), cyc_mod, List.length_drop]
    congr 1
    omega


theorem val_shift (c : Cv) (hp : 1 ≤ c.p.length) (x r : Nat) (h : c.t.length ≤ x) : c.val (x + r * c.p.length) = c.val x + r * c.p.sum := by
  obtain ⟨y, rfl⟩ : ∃ y, x = c.t.length + y := ⟨x - c.t.length, by omega⟩
  rw [Nat.add_assoc, val_p c hp, val_p c hp, Nat.add_mul_mod_self_right, Nat.add_mul_div_right _ _ (by omega), Int.natCast_add, Int.add_mul]
  omega
theorem Cv.Nn.sum {c : Cv} (h : c.Nn) : 0 ≤ c.p.sum := sum_nn h.p
/-- the least point -/
def Least (c : Cv) (h : Int) (a : Nat) : Prop := h ≤ c.val a ∧ ∀ y, y < a → c.val y < h
theorem Least.le {c : Cv} {h : Int} {a : Nat} (l : Least c h a) {x : Nat} (hx : h ≤ c.val x) : a ≤ x := Nat.le_of_not_lt fun q => by
  have := l.2 x q
  omega
theorem Least.gt {c : Cv} (n : c.Nn) {h : Int} {a : Nat} (l : Least c h a) {x : Nat} (hx : c.val x < h) : x < a := Nat.lt_of_not_le fun q => by
  have := n.le q
  have := l.1
  omega
theorem least_of {c : Cv} {h : Int} {x : Nat} (hx : h ≤ c.val x) : ∃ a, Least c h a ∧ a ≤ x := by
  obtain ⟨a, h1, h2⟩ := exists_least (fun a => h ≤ c.val a) x hx
  refine ⟨a, ⟨h1, fun y hy => ?_⟩, h2 x hx⟩
  by_cases z : h ≤ c.val y
  · exact absurd (h2 y z) (by omega)
  · omega
/-- bounded: no more than at the end of the transient part -/
theorem flat {c : Cv} (n : c.Nn) (hp : 1 ≤ c.p.length) (h0 : c.p.sum = 0) (x : Nat) : c.val x ≤ c.val c.t.length := by
  have e := val_shift c hp c.t.length x (Nat.le_refl _)
  rw [h0, Int.mul_zero, Int.add_zero] at e
  rw [← e]
  refine n.le ?_
  have : x ≤ x * c.p.length := Nat.le_mul_of_pos_right x (by omega)
  omega
theorem reach_math {c : Cv} (n : c.Nn) (hp : 1 ≤ c.p.length) {h : Int} {a : Nat} (l : Least c h a) {r : Nat} (hr : (r : Int) = max 0 (h - c.val c.t.length - 1) / max 1 c.p.sum) :
    ∃ x0, a = x0 + r * c.p.length ∧ x0 ≤ c.t.length + c.p.length ∧ Least c (h - r * c.p.sum) x0 := by
  have s0 := n.sum
  have vs := val_shift c hp c.t.length
  have one : c.val (c.t.length + c.p.length) = c.val c.t.length + c.p.sum := by
    have := vs 1 (Nat.le_refl _)
    rw [Nat.one_mul] at this
    rw [this]
    simp
  by_cases hz : c.p.sum = 0
  · have le := flat n hp hz a
    have := l.1
    have e0 : max 0 (h - c.val c.t.length - 1) = 0 := by omega
    rw [e0, Int.zero_ediv] at hr
    obtain rfl : r = 0 := by omega
    refine ⟨a, by omega, ?_, ?_⟩
    · have := l.le (show h ≤ c.val c.t.length by omega)
      omega
    · rw [Int.natCast_zero, Int.zero_mul, Int.sub_zero]
      exact l
  · rw [show max 1 c.p.sum = c.p.sum by omega] at hr
    by_cases r0 : r = 0
    · subst r0
      refine ⟨a, by omega, ?_, ?_⟩
      · refine l.le ?_
        rw [one]
        have h1 := Int.lt_mul_ediv_self_add (x := max 0 (h - c.val c.t.length - 1)) (k := c.p.sum) (by omega)
        rw [← hr, Int.natCast_zero, Int.mul_zero] at h1
        omega
      · rw [Int.natCast_zero, Int.zero_mul, Int.sub_zero]
        exact l
    · have h1 := Int.lt_mul_ediv_self_add (x := max 0 (h - c.val c.t.length - 1)) (k := c.p.sum) (by omega)
      have h2 := Int.mul_ediv_self_le (x := max 0 (h - c.val c.t.length - 1)) (k := c.p.sum) hz
      rw [← hr, Int.mul_comm] at h1 h2
      have pos : 1 * 1 ≤ (r : Int) * c.p.sum := Int.mul_le_mul (by omega) (by omega) (by omega) (by omega)
      have far := vs r (Nat.le_refl _)
      have g := l.gt n (x := c.t.length + r * c.p.length) (by omega)
      refine ⟨a - r * c.p.length, by omega, ?_, ?_, fun y hy => ?_⟩
      · have e := val_shift c hp (c.t.length + c.p.length) r (by omega)
        have := l.le (x := c.t.length + c.p.length + r * c.p.length) (by omega)
        omega
      · have e := val_shift c hp (a - r * c.p.length) r (by omega)
        rw [Nat.sub_add_cancel (by omega)] at e
        have := l.1
        omega
      · by_cases hy2 : c.t.length ≤ y
        · have e := val_shift c hp y r hy2
          have := l.2 (y + r * c.p.length) (by omega)
          omega
        · have := n.le (show y ≤ c.t.length by omega)
          omega
/-- the places of a list at which something holds -/
theorem enum_filter {keep : PyData → Bool} {f : PyData → PyData} : ∀ (l : List PyData) (s : Nat), ((enumD s l).filter keep).map f = (((List.range l.length).filter fun i => keep (.tuple [.int ((s + i : Nat) : Int), l.getD i .none])).map fun i => f (.tuple [.int ((s + i : Nat) : Int), l.getD i .none])) := by
  intro l
  induction l with
  | nil => intro s; rfl
  | cons x r ih =>
    intro s
    rw [show enumD s (x :: r) = .tuple [.int (s : Nat), x] :: enumD (s + 1) r from rfl, List.length_cons, List.range_succ_eq_map, List.filter_cons, List.filter_cons, List.filter_map]
    have e : ∀ i : Nat, (PyData.tuple [.int ((s + (i + 1) : Nat) : Int), (x :: r).getD (i + 1) .none]) = .tuple [.int ((s + 1 + i : Nat) : Int), r.getD i .none] := fun i => by
      rw [List.getD_cons_succ, show s + (i + 1) = s + 1 + i by omega]
    have tail : ((enumD (s + 1) r).filter keep).map f = (((List.range r.length).filter ((fun i => keep (.tuple [.int ((s + i : Nat) : Int), (x :: r).getD i .none])) ∘ Nat.succ)).map Nat.succ).map fun i => f (.tuple [.int ((s + i : Nat) : Int), (x :: r).getD i .none]) := by
      rw [ih, List.map_map]
      congr 1
      · funext i
        show _ = f (.tuple [.int ((s + (i + 1) : Nat) : Int), (x :: r).getD (i + 1) .none])
        rw [e]
      · congr 1
        funext i
        show _ = keep (.tuple [.int ((s + (i + 1) : Nat) : Int), (x :: r).getD (i + 1) .none])
        rw [e]
    simp only [Nat.add_zero, List.getD_cons_zero]
    split
    · rw [List.map_cons, List.map_cons, tail]
      simp
    · exact tail
theorem first_place {n a : Nat} {P : Nat → Bool} (h : a < n) (ha : P a = true) (hb : ∀ y, y < a → P y = false) : ((List.range n).filter P)[0]? = some a := by
  rw [← List.head?_eq_getElem?, List.head?_filter, List.find?_range_eq_some]
  exact ⟨ha, List.mem_range.mpr h, fun j hj => by rw [hb j hj]; rfl⟩


/-- the greatest point with at most x -/
def Most (c : Cv) (x : Int) (n : Nat) : Prop := c.val n ≤ x ∧ x < c.val (n + 1)
theorem Most.uniq {c : Cv} (h : c.Nn) {x : Int} {n m : Nat} (a : Most c x n) (b : Most c x m) : n = m := by
  rcases Nat.lt_trichotomy n m with q | q | q
  · have := h.le (show n + 1 ≤ m by omega)
    have := a.2
    have := b.1
    omega
  · exact q
  · have := h.le (show m + 1 ≤ n by omega)
    have := b.2
    have := a.1
    omega
theorem Most.iff {c : Cv} (h : c.Nn) {x : Int} {n : Nat} (a : Most c x n) (y : Nat) : y ≤ n ↔ c.val y ≤ x := by
  constructor
  · intro q
    have := h.le q
    have := a.1
    omega
  · intro q
    refine Nat.le_of_not_lt fun z => ?_
    have := h.le (show n + 1 ≤ y by omega)
    have := a.2
    omega
theorem far_ex {c : Cv} (h : c.Nn) (hp : 1 ≤ c.p.length) (hs : 0 < c.p.sum) (x : Int) : ∃ n, x ≤ c.val n := by
  refine ⟨c.t.length + x.toNat * c.p.length, ?_⟩
  rw [val_shift c hp _ _ (Nat.le_refl _)]
  have := h.val c.t.length
  have : (x.toNat : Int) * 1 ≤ x.toNat * c.p.sum := Int.mul_le_mul_of_nonneg_left (by omega) (by omega)
  omega
theorem Least.most {c : Cv} {x : Int} {a : Nat} (h : c.i ≤ x) (l : Least c (x + 1) a) : ∃ n, a = n + 1 ∧ Most c x n := by
  have e0 : c.val 0 = c.i + 0 := rfl
  cases a with
  | zero =>
    have := l.1
    omega
  | succ n =>
    refine ⟨n, rfl, ?_, ?_⟩
    · have := l.2 n (by omega)
      omega
    · have := l.1
      omega
theorem Most.least {c : Cv} (h : c.Nn) {x : Int} {n : Nat} (a : Most c (x - 1) n) : Least c x (n + 1) := by
  refine ⟨?_, fun y hy => ?_⟩
  · have := a.2
    omega
  · have := h.le (show y ≤ n by omega)
    have := a.1
    omega
theorem Least.uniq {c : Cv} {x : Int} {a b : Nat} (h : Least c x a) (k : Least c x b) : a = b := Nat.le_antisymm (h.le k.1) (k.le h.1)
theorem most_ex {c : Cv} (h : c.Nn) (hp : 1 ≤ c.p.length) (hs : 0 < c.p.sum) {x : Int} (hx : c.i ≤ x) : ∃ n, Most c x n := by
  obtain ⟨m, hm⟩ := far_ex h hp hs (x + 1)
  obtain ⟨a, la, _⟩ := least_of hm
  obtain ⟨n, _, q⟩ := la.most hx
  exact ⟨n, q⟩
theorem least_ex' {c : Cv} (h : c.Nn) (hp : 1 ≤ c.p.length) (hs : 0 < c.p.sum) (x : Int) : ∃ n, Least c x n := by
  obtain ⟨m, hm⟩ := far_ex h hp hs x
  obtain ⟨a, la, _⟩ := least_of hm
  exact ⟨a, la⟩
/-- as functions -/
noncomputable def utm (c : Cv) (x : Int) : Nat := open Classical in if h : ∃ n, Most c x n then Classical.choose h else 0
theorem utm_of {c : Cv} (h : c.Nn) {x : Int} {n : Nat} (a : Most c x n) : utm c x = n := by
  unfold utm
  rw [dif_pos ⟨n, a⟩]
  exact (Classical.choose_spec (⟨n, a⟩ : ∃ n, Most c x n)).uniq h a
theorem utm_most {c : Cv} (h : c.Nn) (hp : 1 ≤ c.p.length) (hs : 0 < c.p.sum) {x : Int} (hx : c.i ≤ x) : Most c x (utm c x) := by
  obtain ⟨n, a⟩ := most_ex h hp hs hx
  rw [utm_of h a]
  exact a
noncomputable def lst (c : Cv) (x : Int) : Nat := open Classical in if h : ∃ n, Least c x n then Classical.choose h else 0
theorem lst_of {c : Cv} {x : Int} {n : Nat} (a : Least c x n) : lst c x = n := by
  unfold lst
  rw [dif_pos ⟨n, a⟩]
  exact (Classical.choose_spec (⟨n, a⟩ : ∃ n, Least c x n)).uniq a
theorem lst_least {c : Cv} (h : c.Nn) (hp : 1 ≤ c.p.length) (hs : 0 < c.p.sum) (x : Int) : Least c x (lst c x) := by
  obtain ⟨n, a⟩ := least_ex' h hp hs x
  rw [lst_of a]
  exact a
/-- bounds: no further than the height, in periods -/
theorem Least.ub {c : Cv} (h : c.Nn) (hp : 1 ≤ c.p.length) (hs : 0 < c.p.sum) {x : Int} {a : Nat} (l : Least c x a) : (a : Int) ≤ c.t.length + (x.toNat : Int) * c.p.length := by
  have e := val_shift c hp c.t.length x.toNat (Nat.le_refl _)
  have := h.val c.t.length
  have : (x.toNat : Int) * 1 ≤ x.toNat * c.p.sum := Int.mul_le_mul_of_nonneg_left (by omega) (by omega)
  have := l.le (x := c.t.length + x.toNat * c.p.length) (by omega)
  have : (a : Int) ≤ ((c.t.length + x.toNat * c.p.length : Nat) : Int) := by omega
  rw [Int.natCast_add, Int.natCast_mul] at this
  exact this


theorem getD_get {α : Type} {l : List α} {k : Nat} (h : k < l.length) (d : α) : l.getD k d = l[k] := by rw [List.getD_eq_getElem?_getD, List.getElem?_eq_getElem h]; rfl
/-- inputs of stages -/
structure Fe where
  b : Int
  c : Cv
  s : Int
  u : Bool
def feD (f : Fe) : PyData := .tuple [.int f.b, cvD f.c, .int f.s, .bool f.u]
structure Fe.Ok (f : Fe) : Prop where
  c : f.c.Ok 0 4
  p : 0 < f.c.p.sum
  s0 : 0 ≤ f.s
  s1 : f.s ≤ 4
theorem Fe.Ok.i {f : Fe} (h : f.Ok) : f.c.i = 0 := by
  have := h.c.i0
  have := h.c.i1
  omega
theorem Cv.Ok.wide {a b c d : Int} {e : Cv} (h : e.Ok a b) (ha : a ≤ c) (hb : b ≤ d) : e.Ok c d := ⟨h.i0, by have := h.i1; omega, fun x hx => by have := h.t x hx; omega, fun x hx => by have := h.p x hx; omega, h.tl, h.pl, h.p1⟩
theorem Cv.Ok.sum4 {a : Int} {e : Cv} (h : e.Ok a 4) : 0 ≤ e.p.sum ∧ e.p.sum ≤ 16 := by
  have := h.sum
  have := h.pl
  omega
section
variable {K : PySem.W.Frag} {ρ : Rho} {te ta tb tc td : TE}
theorem y_f0 {f : Fe} (h : Pd K ta ρ (feD f)) (hb : Pd K tb ρ (.int 0)) : Pd K (tOp (rIx K) ta tb) ρ (.int f.b) := yd_ixT h hb rfl
theorem y_f1 {f : Fe} (h : Pd K ta ρ (feD f)) (hb : Pd K tb ρ (.int 1)) : Pd K (tOp (rIx K) ta tb) ρ (cvD f.c) := yd_ixT h hb rfl
theorem y_f2 {f : Fe} (h : Pd K ta ρ (feD f)) (hb : Pd K tb ρ (.int 2)) : Pd K (tOp (rIx K) ta tb) ρ (.int f.s) := yd_ixT h hb rfl
theorem y_f3 {f : Fe} (h : Pd K ta ρ (feD f)) (hb : Pd K tb ρ (.int 3)) : Pd K (tOp (rIx K) ta tb) ρ (.bool f.u) := yd_ixT h hb rfl
end
def isFe : PyData → Prop := fun d => ∃ f : Fe, d = feD f ∧ f.Ok
theorem paired_isF : ∀ {xs ys : List PyData}, Paired (fun _ d => isFe d) xs ys → ∃ fs : List Fe, ys = fs.map feD ∧ fs.length = xs.length ∧ ∀ f ∈ fs, f.Ok
  | _, _, .nil => ⟨[], rfl, rfl, fun _ h => by cases h⟩
  | _, _, .cons ⟨c, e, h⟩ t => by
    obtain ⟨cs, e1, e2, e3⟩ := paired_isF t
    refine ⟨c :: cs, by rw [e, e1]; rfl, congrArg (· + 1) e2, fun x hx => ?_⟩
    rcases List.mem_cons.mp hx with rfl | hx
    · exact h
    · exact e3 x hx


theorem rep_zero (k : Nat) : (List.replicate k [PyData.int 0]).flatten = (List.replicate k (0 : Int)).map .int := by
  rw [List.flatten_replicate_singleton, List.map_replicate]
theorem getD_rep0 (k n : Nat) : (List.replicate k (0 : Int)).getD n 0 = 0 := by
  rw [List.getD_eq_getElem?_getD]
  by_cases h : n < k
  · rw [List.getElem?_replicate_of_lt h]
    rfl
  · rw [List.getElem?_eq_none (by rw [List.length_replicate]; omega)]
    rfl
theorem seq_del (k : Nat) (t p : List Int) (x : Nat) : seqAt (List.replicate k 0 ++ t) p x = if x < k then 0 else seqAt t p (x - k) := by
  have l : (List.replicate k (0 : Int) ++ t).length = k + t.length := by rw [List.length_append, List.length_replicate]
  by_cases h : x < k
  · rw [if_pos h, seq_lo (by omega), getD_app, if_pos (by rw [List.length_replicate]; exact h), getD_rep0]
  · rw [if_neg h]
    by_cases h2 : x < k + t.length
    · rw [seq_lo (by omega), seq_lo (by omega), getD_app, List.length_replicate, if_neg h]
    · rw [seq_hi (by omega), seq_hi (by omega), l]
      congr 1
      omega
theorem seq_cons (z : Int) (t p : List Int) (x : Nat) : seqAt (z :: t) p x = if x = 0 then z else seqAt t p (x - 1) := by
  by_cases h : x = 0
  · subst h
    rw [if_pos rfl, seq_lo (by simp)]
    rfl
  · rw [if_neg h]
    obtain ⟨y, rfl⟩ : ∃ y, x = y + 1 := ⟨x - 1, by omega⟩
    by_cases h2 : y < t.length
    · rw [seq_lo (by rw [List.length_cons]; omega), Nat.add_sub_cancel, seq_lo h2, List.getD_cons_succ]
    · rw [seq_hi (by rw [List.length_cons]; omega), Nat.add_sub_cancel, seq_hi (by omega), List.length_cons]
      congr 1
      omega
/-- a normal form, told by its values -/
structure IsV (d : Cv) (v : Nat → Int) : Prop where
  n : Norm d.t d.p
  v : ∀ x, d.val x = v x
theorem val_succ (c : Cv) (x : Nat) : c.val (x + 1) = c.val x + c.inc x := by
  show c.i + (psum c.inc x + c.inc x) = c.i + psum c.inc x + c.inc x
  omega
theorem val_zero (c : Cv) : c.val 0 = c.i := by
  show c.i + 0 = c.i
  omega
theorem val_of {d : Cv} {v : Nat → Int} (h0 : d.i = v 0) (h : ∀ x, v (x + 1) = v x + d.inc x) : ∀ x, d.val x = v x
  | 0 => by rw [val_zero, h0]
  | x + 1 => by rw [val_succ, val_of h0 h x, h]
theorem IsV.inc {d : Cv} {v : Nat → Int} (h : IsV d v) (x : Nat) : d.inc x = v (x + 1) - v x := by
  have := val_succ d x
  rw [h.v, h.v] at this
  omega
theorem IsV.uniq {c d : Cv} {v : Nat → Int} (h : IsV c v) (k : IsV d v) : c = d :=
  Is.uniq (i := v 0) (f := fun x => v (x + 1) - v x) ⟨h.n, by rw [← val_zero, h.v], h.inc⟩ ⟨k.n, by rw [← val_zero, k.v], k.inc⟩
theorem IsV.nn {d : Cv} {v : Nat → Int} (h : IsV d v) (h0 : 0 ≤ v 0) (m : ∀ x, v x ≤ v (x + 1)) : d.Nn := nn_of (by rw [← val_zero, h.v]; exact h0) fun x => by
  rw [h.inc]
  have := m x
  omega
theorem NF.isV {c : Cv} {a b : List Int} (hp : 1 ≤ c.p.length) (h : NF c.t c.p a b) : IsV ⟨c.i, a, b⟩ c.val := ⟨h.norm hp, fun x => (NF.is hp h).val x⟩
theorem norm_zero : Norm [] [0] := ⟨Nat.le_refl _, fun d h => h.pos, fun z => absurd rfl z⟩


theorem strip_ex (t q : List Int) : ∃ s, Strip t q s := by
  obtain ⟨s, h1, h2⟩ := exists_least (fun s => s = t.length ∨ ¬ mt t q s) t.length (.inl rfl)
  have le := h2 t.length (.inl rfl)
  refine ⟨s, le, fun j hj => ?_, fun hs => h1.resolve_left (by omega)⟩
  by_cases h : mt t q j
  · exact h
  · exact absurd (h2 j (.inr h)) (by omega)
theorem NF.ex {t p : List Int} (hp : 1 ≤ p.length) : ∃ a b, NF t p a b := by
  obtain ⟨m, hm⟩ := least_ex hp
  obtain ⟨s, hs⟩ := strip_ex t (p.take m)
  exact ⟨_, _, m, s, hm, hs, rfl, rfl⟩


theorem sIx_neg {n d k : Nat} (h1 : 1 ≤ k) (h2 : k ≤ n) : HT.sIx n d (some (-(k : Int))) = n - k := by
  show (if (-(k : Int)) < 0 then ((-(k : Int)) + (n : Int)).toNat else min (-(k : Int)).toNat n) = _
  rw [if_pos (by omega)]
  omega
theorem cut_toN {α : Type} (xs : List α) {k : Nat} (h1 : 1 ≤ k) (h2 : k ≤ xs.length) : cut xs none (some (-(k : Int))) = xs.take (xs.length - k) := by
  unfold cut
  rw [sIx_neg h1 h2, HT.sIx_none, List.drop_zero, Nat.sub_zero]
theorem cut_fromN {α : Type} (xs : List α) {k : Nat} (h1 : 1 ≤ k) (h2 : k ≤ xs.length) : cut xs (some (-(k : Int))) none = xs.drop (xs.length - k) := by
  unfold cut
  rw [sIx_neg h1 h2, HT.sIx_none, List.take_of_length_le (by rw [List.length_drop]; omega)]
/-- differences, one after another -/
def diffs : List Int → List Int
  | x :: y :: r => (y - x) :: diffs (y :: r)
  | _ => []
theorem diffs_len : ∀ (vs : List Int), (diffs vs).length = vs.length - 1
  | [] => rfl
  | [_] => rfl
  | x :: y :: r => by
    rw [diffs, List.length_cons, diffs_len (y :: r)]
    simp
theorem diffs_at : ∀ (vs : List Int) (k : Nat), k + 1 < vs.length → (diffs vs).getD k 0 = vs.getD (k + 1) 0 - vs.getD k 0
  | [], _, h => by simp at h
  | [_], k, h => by simp at h
  | x :: y :: r, 0, _ => by simp [diffs]
  | x :: y :: r, k + 1, h => by
    have := diffs_at (y :: r) k (by simpa using h)
    simp only [diffs, List.getD_cons_succ] at this ⊢
    exact this
def sub2 : PyData → PyData
  | .tuple [.int a, .int b] => .int (b - a)
  | d => d
theorem zip_diffs : ∀ (vs : List Int), (zipD (vs.map .int) ((vs.drop 1).map .int)).map sub2 = (diffs vs).map .int
  | [] => rfl
  | [_] => rfl
  | x :: y :: r => by
    have := zip_diffs (y :: r)
    simp only [List.drop_succ_cons, List.drop_zero, List.map_cons, zipD, diffs, sub2] at this ⊢
    rw [this]
theorem zip_mem : ∀ {as bs : List Int} {x : PyData}, x ∈ zipD (as.map .int) (bs.map .int) → ∃ a b, x = .tuple [.int a, .int b]
  | [], _, _, h => by simp [zipD] at h
  | _ :: _, [], _, h => by simp [zipD] at h
  | a :: as, b :: bs, x, h => by
    simp only [List.map_cons, zipD, List.mem_cons] at h
    rcases h with h | h
    · exact ⟨a, b, h⟩
    · exact zip_mem h
/-- a sequence that is told so far, its last s repeated -/
theorem seq_tab (f : Nat → Int) {l : List Int} {e s : Nat} (le : l.length = e) (hl : ∀ k, k < e → l.getD k 0 = f k) (hs : 1 ≤ s) (h : s ≤ e) (per : ∀ k, e - s ≤ k → f (k + s) = f k) : ∀ k, seqAt (l.take (e - s)) (l.drop (e - s)) k = f k := by
  have l1 : (l.take (e - s)).length = e - s := by rw [List.length_take]; omega
  have l2 : (l.drop (e - s)).length = s := by rw [List.length_drop]; omega
  intro k
  induction k using Nat.strongRecOn with
  | ind k ih =>
    by_cases h1 : k < e - s
    · rw [seq_lo (by omega), getD_take _ _ _ h1, hl k (by omega)]
    · by_cases h2 : k < e
      · rw [seq_hi (by omega), l1, cyc_lt _ (by omega), getD_drop, show e - s + (k - (e - s)) = k by omega, hl k h2]
      · have := ih (k - s) (by omega)
        rw [seq_hi (by omega), l1] at this ⊢
        have e1 := cyc_len (l.drop (e - s)) (k - s - (e - s))
        rw [l2] at e1
        rw [show k - (e - s) = k - s - (e - s) + s by omega, e1, this]
        have := per (k - s) (by omega)
        rw [show k - s + s = k by omega] at this
        rw [this]
theorem inc_per (c : Cv) (r k : Nat) (h : c.t.length ≤ k) : c.inc (k + c.p.length * r) = c.inc k := by
  unfold Cv.inc
  rw [seq_hi (by omega), seq_hi h, show k + c.p.length * r - c.t.length = k - c.t.length + c.p.length * r by omega, cyc_add]
def SqI (d : PyData) (xs : List Int) : Prop := d = tI xs ∨ d = .list (xs.map .int)
section
variable {K : PySem.W.Frag} {ρ : Rho} {te ta tb : TE} {d : PyData}
theorem nd_listX {xs : List Int} (h : Pd K ta ρ d) (hd : SqI d xs) : Nld K (tCB (rListOf K) (tCons ta tNil)) ρ (xs.map .int) := by
  rcases hd with rfl | rfl
  · exact nd_listT h
  · exact nd_listR (rl_of h)
end


def lcms (cs : List Cv) : Nat := cs.foldl (fun n c => n.lcm c.p.length) 1
theorem ye_maxR {K : PySem.W.Frag} {ρ : Rho} {ta : TE} {P : PyData → Prop} {PL : List PyData → Prop} (ha : Rl K ta ρ PL) (h : ∀ xs, PL xs → ∃ ns : List Int, xs = ns.map .int ∧ 0 < ns.length ∧ ∀ m, m ∈ ns → (∀ y, y ∈ ns → y ≤ m) → P (.int m)) : Pe K (tCB (rMaxX K) (tCons ta tNil)) ρ P := fun T H0 G H σ gh tp D Q q =>
  ha.bind gh tp D fun xs p vs G1 H1 p1 s1 gh1 tp1 D1 rd a => by
    obtain ⟨ns, rfl, hl, hP⟩ := h xs p1
    have := a.ints
    subst this
    exact .inr ⟨p, ns, rfl, rd.sq gh1, hl, fun m h1 h2 => q _ _ G1 H1 (hP m h1 h2) s1 (.int _)⟩
theorem zip_map {α : Type} (f g : α → PyData) : ∀ l : List α, zipD (l.map f) (l.map g) = l.map fun x => .tuple [f x, g x]
  | [] => rfl
  | x :: l => by rw [List.map_cons, List.map_cons, List.map_cons, ← zip_map f g l]; rfl
def subR : PyData → PyData
  | .tuple [.int a, .int b] => .int (a - b)
  | d => d


/-- plants: outputs, stages -/
structure Ou where
  b : Int
  c : Cv
  w : Int
def ouD (o : Ou) : PyData := .tuple [.int o.b, cvD o.c, .int o.w]
structure Sg where
  fs : List Fe
  os : List Ou
  pr : Cv
  sp : Cv
  n : Int
  wk : Cv
def sgR (g : Sg) : List PyData := [.tuple (g.os.map ouD), cvD g.pr, cvD g.sp, .int g.n, cvD g.wk]
def sgD (g : Sg) : PyData := .tuple (.tuple (g.fs.map feD) :: sgR g)
def plD (ps : List Sg) : PyData := .tuple (ps.map sgD)
structure Ou.Ok (o : Ou) : Prop where
  c : o.c.Ok 0 4
  p : 0 < o.c.p.sum
  w0 : 0 ≤ o.w
  w1 : o.w ≤ 5
/-- the rest of a stage -/
structure Sg.Rst (g : Sg) : Prop where
  pr : ∃ v : Int, g.pr = ⟨0, [], [v]⟩ ∧ 0 ≤ v ∧ v ≤ 20
  sp : ∃ v : Int, g.sp = ⟨0, [], [v]⟩ ∧ 0 ≤ v ∧ v ≤ 5
  n1 : 1 ≤ g.n
  n3 : g.n ≤ 3
  wk : g.wk.Ok 0 1
  ws : 0 < g.wk.p.sum
structure Sg.Ok (g : Sg) : Prop where
  f1 : 1 ≤ g.fs.length
  f3 : g.fs.length ≤ 3
  o1 : 1 ≤ g.os.length
  o3 : g.os.length ≤ 3
  f : ∀ f ∈ g.fs, f.Ok
  o : ∀ o ∈ g.os, o.Ok
  r : g.Rst
  u : ∀ f ∈ g.fs, f.u = true → f.c.Ok 0 1
structure PlOk (ps : List Sg) : Prop where
  l1 : 1 ≤ ps.length
  l4 : ps.length ≤ 4
  g : ∀ g ∈ ps, g.Ok
/-- all increments positive -/
structure Cv.St (c : Cv) : Prop where
  t : ∀ x ∈ c.t, 1 ≤ x
  p : ∀ x ∈ c.p, 1 ≤ x
theorem Cv.St.sum {c : Cv} (h : c.St) (p1 : 1 ≤ c.p.length) : 0 < c.p.sum := by
  have g : ∀ l : List Int, (∀ x ∈ l, 1 ≤ x) → (l.length : Int) ≤ l.sum := fun l => by
    induction l with
    | nil => intro _; simp
    | cons a r ih =>
      intro hl
      have := hl a List.mem_cons_self
      have := ih fun x hx => hl x (List.mem_cons_of_mem _ hx)
      rw [List.length_cons, List.sum_cons]
      omega
  have := g c.p h.p
  omega
section
variable {K : PySem.W.Frag} {ρ : Rho} {te ta tb tc td : TE}
theorem y_pl {ps : List Sg} {g : Sg} {s : Nat} (h : Pd K ta ρ (plD ps)) (hb : Pd K tb ρ (.int (s : Int))) (e : ps[s]? = some g) : Pd K (tOp (rIx K) ta tb) ρ (sgD g) := yd_ixT h hb (atI_nat (by rw [List.getElem?_map, e]; rfl))
theorem y_g0 {g : Sg} (h : Pd K ta ρ (sgD g)) (hb : Pd K tb ρ (.int 0)) : Pd K (tOp (rIx K) ta tb) ρ (.tuple (g.fs.map feD)) := yd_ixT h hb rfl
theorem y_g1 {g : Sg} (h : Pd K ta ρ (sgD g)) (hb : Pd K tb ρ (.int 1)) : Pd K (tOp (rIx K) ta tb) ρ (.tuple (g.os.map ouD)) := yd_ixT h hb rfl
theorem y_fe {fs : List Fe} {f : Fe} {k : Nat} (h : Pd K ta ρ (.tuple (fs.map feD))) (hb : Pd K tb ρ (.int (k : Int))) (e : fs[k]? = some f) : Pd K (tOp (rIx K) ta tb) ρ (feD f) := yd_ixT h hb (atI_nat (by rw [List.getElem?_map, e]; rfl))
end


def rtD (t p : List Int) : PyData := .tuple [tI t, tI p]
structure RtOk (many : Int) (t p : List Int) : Prop where
  tb : ∀ x ∈ t, 0 ≤ x ∧ x < many
  pb : ∀ x ∈ p, 0 ≤ x ∧ x < many
  tl : t.length ≤ 4
  pl : p.length ≤ 4
  p1 : 1 ≤ p.length
theorem at_seq_t {t : List Int} {k : Nat} (h : k < t.length) : atI t (k : Int) = some (t.getD k 0) := atI_nat (by rw [List.getD_eq_getElem?_getD, List.getElem?_eq_getElem h]; rfl)
section
variable {K : PySem.W.Frag} {ρ : Rho} {te ta tb tc td : TE}
theorem y_r0 {t p : List Int} (h : Pd K ta ρ (rtD t p)) (hb : Pd K tb ρ (.int 0)) : Pd K (tOp (rIx K) ta tb) ρ (tI t) := yd_ixT h hb rfl
theorem y_r1 {t p : List Int} (h : Pd K ta ρ (rtD t p)) (hb : Pd K tb ρ (.int 1)) : Pd K (tOp (rIx K) ta tb) ρ (tI p) := yd_ixT h hb rfl
theorem canLay_tI (a : List Int) : PyData.canLayAll0 (a.map .int) = true := canLay_ints a
theorem shaped_rt (a b : List Int) : SeqAt.shaped (rtD a b) = true := by
  show ((PyData.canLayAll0 (a.map .int) && (PyData.canLayAll0 (b.map .int) && true)) && decide (max (PyData.depthAll (a.map .int) + 1) (max (PyData.depthAll (b.map .int) + 1) 0) + 1 ≤ 64)) = true
  rw [canLay_ints, canLay_ints, depth_ints, depth_ints]
  rfl
theorem y_eqRt {a b c d : List Int} (h : Pd K ta ρ (rtD a b)) (h' : Pd K tb ρ (rtD c d)) : Pd K (tOp (rEqX K) ta tb) ρ (.bool (decide (a = c ∧ b = d))) := (yd_eqD h h' (shaped_rt a b) (shaped_rt c d)).to (by
  show PyData.bool (PyData.eqvAll (a.map .int) (c.map .int) && (PyData.eqvAll (b.map .int) (d.map .int) && true)) = _
  rw [eqvAll_ints, eqvAll_ints, Bool.and_true, ← Bool.decide_and])
end


def mkS (us : List Int) (n : Int) : List Int := us.map fun u => if u = n then 1 else 0
theorem mkS_len (us : List Int) (n : Int) : (mkS us n).length = us.length := List.length_map ..
/-- the normal form -/
noncomputable def nfc (t p : List Int) : List Int × List Int := open Classical in if h : ∃ q : List Int × List Int, NF t p q.1 q.2 then Classical.choose h else ([], [])
theorem nfc_of {t p a b : List Int} (h : NF t p a b) : nfc t p = (a, b) := by
  have e : ∃ q : List Int × List Int, NF t p q.1 q.2 := ⟨(a, b), h⟩
  unfold nfc
  rw [dif_pos e]
  obtain ⟨e1, e2⟩ := (Classical.choose_spec e).uniq h
  exact Prod.ext e1 e2
noncomputable def shD (t p : List Int) (n : Int) : PyData := cvD ⟨0, (nfc (mkS t n) (mkS p n)).1, (nfc (mkS t n) (mkS p n)).2⟩


/-- data without lists, so deep -/
inductive Plain : Nat → PyData → Prop
  | non {n : Nat} : Plain n .none
  | bool {n : Nat} (b : Bool) : Plain n (.bool b)
  | int {n : Nat} (i : Int) : Plain n (.int i)
  | str {n : Nat} (x : Str) : Plain n (.str x)
  | tup {n : Nat} {xs : List PyData} : xs.length < 2 ^ 23 → (∀ x ∈ xs, Plain n x) → Plain (n + 1) (.tuple xs)
theorem Plain.ints (ns : List Int) (n : Nat) (h : ns.length < 2 ^ 23 := by omega) : Plain (n + 1) (.tuple (ns.map .int)) := .tup (by rw [List.length_map]; exact h) fun x hx => by
  obtain ⟨i, _, rfl⟩ := List.mem_map.mp hx
  exact .int i


structure CvB (c : Cv) : Prop where
  p1 : 1 ≤ c.p.length
  p4 : c.p.length ≤ 4
  t12 : c.t.length ≤ 12
def bM (c : Cv) (k : Nat) : Nat := max c.t.length (k + 1)
def bT (c : Cv) (k : Nat) (a : Int) : List Int := (incs c (bM c k)).set k (c.inc k + a)
def bP (c : Cv) (k : Nat) : List Int := (List.range c.p.length).map fun j => c.inc (bM c k + j)
noncomputable def bump (c : Cv) (k : Nat) (a : Int) : Cv := ⟨c.i, (nfc (bT c k a) (bP c k)).1, (nfc (bT c k a) (bP c k)).2⟩
theorem bP_len (c : Cv) (k : Nat) : (bP c k).length = c.p.length := by unfold bP; rw [List.length_map, List.length_range]
theorem bT_len (c : Cv) (k : Nat) (a : Int) : (bT c k a).length = bM c k := by unfold bT; rw [List.length_set, incs_len]
theorem bump_of {c : Cv} {k : Nat} {a : Int} {x y : List Int} (h : NF (bT c k a) (bP c k) x y) : cvD ⟨c.i, x, y⟩ = cvD (bump c k a) := by
  unfold bump
  rw [nfc_of h]
theorem bump_b {c : Cv} (h : CvB c) {k : Nat} (hk : k < 12) (a : Int) : CvB (bump c k a) := by
  have p1 := h.p1
  have p4 := h.p4
  have t12 := h.t12
  obtain ⟨x, y, hn⟩ := NF.ex (t := bT c k a) (p := bP c k) (by rw [bP_len]; exact p1)
  have l := hn.len (by rw [bP_len]; exact p1)
  rw [bP_len, bT_len] at l
  unfold bump
  rw [nfc_of hn]
  refine ⟨l.2.1, ?_, ?_⟩
  · show y.length ≤ 4
    omega
  · show x.length ≤ 12
    unfold bM at l
    omega
structure Sg.B (g : Sg) : Prop where
  f3 : g.fs.length ≤ 3
  o3 : g.os.length ≤ 3
  f : ∀ f ∈ g.fs, CvB f.c
  o : ∀ o ∈ g.os, CvB o.c
  pr : CvB g.pr
  sp : CvB g.sp
  wk : CvB g.wk
structure PlB (ps : List Sg) : Prop where
  l1 : 1 ≤ ps.length
  l4 : ps.length ≤ 4
  g : ∀ g ∈ ps, g.B
/-- what is asked -/
inductive Dd where
  | out (s p k : Nat) (a : Int)
  | inp (s p k : Nat) (a : Int)
  | slow (s k : Nat) (a : Int)
  | cost (s k : Nat) (a : Int)
def Dd.s : Dd → Nat
  | .out s _ _ _ => s
  | .inp s _ _ _ => s
  | .slow s _ _ => s
  | .cost s _ _ => s
def Dd.k : Dd → Nat
  | .out _ _ k _ => k
  | .inp _ _ k _ => k
  | .slow _ k _ => k
  | .cost _ k _ => k
def ddD : Dd → PyData
  | .out s p k a => .tuple [.str "yield", .int (s : Int), .int (p : Int), .int ((k + 1 : Nat) : Int), .int a]
  | .inp s p k a => .tuple [.str "extra", .int (s : Int), .int (p : Int), .int ((k + 1 : Nat) : Int), .int a]
  | .slow s k a => .tuple [.str "slow", .int (s : Int), .int ((k + 1 : Nat) : Int), .int a]
  | .cost s k a => .tuple [.str "cost", .int (s : Int), .int ((k + 1 : Nat) : Int), .int a]
noncomputable def chgO (os : List Ou) (p k : Nat) (a : Int) : Option (List Ou) := match os[p]? with
  | none => none
  | some o => if a ≤ o.c.inc k then some (os.set p { o with c := bump o.c k (-a) }) else none
noncomputable def chgF (fs : List Fe) (p k : Nat) (a : Int) : Option (List Fe) := match fs[p]? with
  | none => none
  | some f => if f.u = false ∨ (f.c.inc k = 0 ∧ a = 1) then some (fs.set p { f with c := bump f.c k a }) else none
noncomputable def chgS (g : Sg) : Dd → Option Sg
  | .out _ p k a => (chgO g.os p k a).map fun os => { g with os := os }
  | .inp _ p k a => (chgF g.fs p k a).map fun fs => { g with fs := fs }
  | .slow _ k a => some { g with sp := bump g.sp k a }
  | .cost _ k a => some { g with pr := bump g.pr k a }
noncomputable def chg (ps : List Sg) (rs : List Int) (d : Dd) : Option (List Sg) := match ps[d.s]? with
  | none => none
  | some g => if ((d.k + 1 : Nat) : Int) ≤ rs.getD d.s 0 then none else (chgS g d).map fun g' => ps.set d.s g'
def optP : Option (List Sg) → PyData
  | none => .none
  | some ps => plD ps
def rsD (rs : List Int) : List PyData := rs.map .int
theorem chgO_b {os : List Ou} {p k : Nat} {a : Int} (h : ∀ o ∈ os, CvB o.c) (hk : k < 12) {r : List Ou} (e : chgO os p k a = some r) : r.length = os.length ∧ ∀ o ∈ r, CvB o.c := by
  unfold chgO at e
  cases ho : os[p]? with
  | none => rw [ho] at e; exact nomatch e
  | some o =>
    rw [ho] at e
    dsimp only at e
    split at e
    · cases e
      refine ⟨List.length_set .., fun x hx => ?_⟩
      rcases List.mem_or_eq_of_mem_set hx with hx | rfl
      · exact h x hx
      · exact bump_b (h o (List.mem_of_getElem? ho)) hk _
    · exact nomatch e
theorem chgF_b {os : List Fe} {p k : Nat} {a : Int} (h : ∀ o ∈ os, CvB o.c) (hk : k < 12) {r : List Fe} (e : chgF os p k a = some r) : r.length = os.length ∧ ∀ o ∈ r, CvB o.c := by
  unfold chgF at e
  cases ho : os[p]? with
  | none => rw [ho] at e; exact nomatch e
  | some o =>
    rw [ho] at e
    dsimp only at e
    split at e
    · cases e
      refine ⟨List.length_set .., fun x hx => ?_⟩
      rcases List.mem_or_eq_of_mem_set hx with hx | rfl
      · exact h x hx
      · exact bump_b (h o (List.mem_of_getElem? ho)) hk _
    · exact nomatch e
theorem chgS_b {g : Sg} (h : g.B) {d : Dd} (hk : d.k < 12) {r : Sg} (e : chgS g d = some r) : r.B := by
  cases d with
  | out s p k a =>
    obtain ⟨os, e1, rfl⟩ := Option.map_eq_some_iff.mp e
    have q := chgO_b h.o hk e1
    exact ⟨h.f3, by show os.length ≤ 3; rw [q.1]; exact h.o3, h.f, q.2, h.pr, h.sp, h.wk⟩
  | inp s p k a =>
    obtain ⟨fs, e1, rfl⟩ := Option.map_eq_some_iff.mp e
    have q := chgF_b h.f hk e1
    exact ⟨by show fs.length ≤ 3; rw [q.1]; exact h.f3, h.o3, q.2, h.o, h.pr, h.sp, h.wk⟩
  | slow s k a => cases e; exact ⟨h.f3, h.o3, h.f, h.o, h.pr, bump_b h.sp hk _, h.wk⟩
  | cost s k a => cases e; exact ⟨h.f3, h.o3, h.f, h.o, bump_b h.pr hk _, h.sp, h.wk⟩
theorem chg_b {ps : List Sg} (h : PlB ps) {rs : List Int} {d : Dd} (hk : d.k < 12) {r : List Sg} (e : chg ps rs d = some r) : PlB r := by
  unfold chg at e
  cases hg : ps[d.s]? with
  | none => rw [hg] at e; exact nomatch e
  | some g =>
    rw [hg] at e
    dsimp only at e
    split at e
    · exact nomatch e
    · obtain ⟨g', e1, rfl⟩ := Option.map_eq_some_iff.mp e
      refine ⟨by rw [List.length_set]; exact h.l1, by rw [List.length_set]; exact h.l4, fun x hx => ?_⟩
      rcases List.mem_or_eq_of_mem_set hx with hx | rfl
      · exact h.g x hx
      · exact chgS_b (h.g g (List.mem_of_getElem? hg)) hk e1
theorem rot_eq {c : Cv} (p1 : 1 ≤ c.p.length) (k : Nat) : c.p.drop ((bM c k - c.t.length) % c.p.length) ++ c.p.take ((bM c k - c.t.length) % c.p.length) = bP c k := by
  have lt := Nat.mod_lt (bM c k - c.t.length) (show 0 < c.p.length by omega)
  have dm := Nat.div_add_mod (bM c k - c.t.length) c.p.length
  obtain ⟨r, hr⟩ : ∃ r, r = (bM c k - c.t.length) % c.p.length := ⟨_, rfl⟩
  rw [← hr] at lt dm ⊢
  have mt : c.t.length ≤ bM c k := by unfold bM; omega
  have ln : (c.p.drop r ++ c.p.take r).length = c.p.length := by rw [List.length_append, List.length_drop, List.length_take]; omega
  refine extD (by rw [ln, bP_len]) fun j hj => ?_
  rw [ln] at hj
  unfold bP
  rw [getD_range _ _ _ hj]
  unfold Cv.inc seqAt
  rw [if_neg (by omega), getD_app, List.length_drop]
  have e1 : (bM c k + j - c.t.length) % c.p.length = (r + j) % c.p.length := by
    rw [show bM c k + j - c.t.length = c.p.length * ((bM c k - c.t.length) / c.p.length) + (r + j) by omega, Nat.mul_add_mod]
  rw [e1]
  by_cases h : j < c.p.length - r
  · rw [if_pos h, getD_drop, Nat.mod_eq_of_lt (by omega)]
  · rw [if_neg h, getD_take _ _ _ (by omega)]
    congr 1
    rw [Nat.mod_eq_sub_mod (by omega), Nat.mod_eq_of_lt (by omega)]
    omega
theorem cvb_plain {c : Cv} (h : CvB c) (n : Nat) : Plain (n + 2) (cvD c) := .tup (by show 3 < _; decide) fun x hx => by
  have p4 := h.p4
  have t12 := h.t12
  rcases List.mem_cons.mp hx with rfl | hx
  · exact .int _
  rcases List.mem_cons.mp hx with rfl | hx
  · exact Plain.ints _ _ (by omega)
  · rw [List.mem_singleton.mp hx]
    exact Plain.ints _ _ (by omega)
theorem ou_plain {o : Ou} (h : CvB o.c) : Plain 3 (ouD o) := .tup (by show 3 < _; decide) fun x hx => by
  rcases List.mem_cons.mp hx with rfl | hx
  · exact .int _
  rcases List.mem_cons.mp hx with rfl | hx
  · exact cvb_plain h 0
  · rw [List.mem_singleton.mp hx]
    exact .int _
theorem fe_plain {o : Fe} (h : CvB o.c) : Plain 3 (feD o) := .tup (by show 4 < _; decide) fun x hx => by
  rcases List.mem_cons.mp hx with rfl | hx
  · exact .int _
  rcases List.mem_cons.mp hx with rfl | hx
  · exact cvb_plain h 0
  rcases List.mem_cons.mp hx with rfl | hx
  · exact .int _
  · rw [List.mem_singleton.mp hx]
    exact .bool _
theorem sg_plain {g : Sg} (h : g.B) : Plain 5 (sgD g) := .tup (by show 6 < _; decide) fun x hx => by
  have f3 := h.f3
  have o3 := h.o3
  rcases List.mem_cons.mp hx with rfl | hx
  · refine .tup (by rw [List.length_map]; omega) fun x hx => ?_
    obtain ⟨f, hf, rfl⟩ := List.mem_map.mp hx
    exact fe_plain (h.f f hf)
  rcases List.mem_cons.mp hx with rfl | hx
  · refine .tup (by rw [List.length_map]; omega) fun x hx => ?_
    obtain ⟨f, hf, rfl⟩ := List.mem_map.mp hx
    exact ou_plain (h.o f hf)
  rcases List.mem_cons.mp hx with rfl | hx
  · exact cvb_plain h.pr 2
  rcases List.mem_cons.mp hx with rfl | hx
  · exact cvb_plain h.sp 2
  rcases List.mem_cons.mp hx with rfl | hx
  · exact .int _
  · rw [List.mem_singleton.mp hx]
    exact cvb_plain h.wk 2
theorem opt_plain {ps : List Sg} (h : PlB ps) {rs : List Int} {d : Dd} (hk : d.k < 12) : Plain 6 (optP (chg ps rs d)) := by
  cases e : chg ps rs d with
  | none => exact .non
  | some r =>
    have q := chg_b h hk e
    have l4 := q.l4
    refine .tup (by rw [List.length_map]; omega) fun x hx => ?_
    obtain ⟨g, hg, rfl⟩ := List.mem_map.mp hx
    exact sg_plain (q.g g hg)
theorem set_cut {α : Type} (xs : List α) (n : Nat) (x : α) (h : n < xs.length) : xs.take n ++ [x] ++ xs.drop (n + 1) = xs.set n x := by
  rw [List.set_eq_take_append_cons_drop, if_pos h, List.append_assoc]
  rfl
theorem getD_eq {xs : List Int} {n : Nat} (h : n < xs.length) : (xs.map PyData.int)[n]? = some (.int (xs.getD n 0)) := by
  rw [List.getElem?_map, List.getD_eq_getElem?_getD, List.getElem?_eq_getElem h]
  rfl


abbrev s__law_tape : Stmt := topS 19
theorem sc__law_tape : FnScope ["script", "total", "cell"] ["script"] (defScope s__law_tape) := ⟨rfl, rfl, rfl, by decide +kernel, rfl, by decide +kernel, by decide +kernel⟩
theorem ok__law_tape {Pg : Program} {w : World} {K : PySem.W.Frag} {mg : Str → Option Value} {base : Heap} (T : Tx w K mg) {f : Addr} {fd : FuncData} (F : Fun K "_law_tape" "_law_tape" s__law_tape f fd) : FnOk Pg w K mg base CX0 1 f fd ["script"] (spTape K) := by
  refine F.ok sc__law_tape (fun vs H Q E h => ?_) (fun cdv A outer s H vs Q E hr h => ?_)
  · obtain ⟨a, ns, rfl, _⟩ := h
    rfl
  · obtain ⟨a, ns, rfl, hS, q⟩ := h
    refine ⟨_, (pss_cons (ps_set (i := 1) sc__law_tape.nd rfl (Or.inl rfl) pe_int)
    (pss_cons (ps_for PassesOwn.never rfl (pi_seq (pv 0)) (pg_name (i := 2) sc__law_tape.nd rfl (Or.inl rfl))
    (pss_one (ps_set (i := 1) sc__law_tape.nd rfl (Or.inl rfl) (pe_op op_mod (pe_callTy call_int1 (by rfl) T.b_int (by decide +kernel) (pa_cons (pe_op opx_add (pe_op opx_mul (pv 1) pe_int) (pe_callB call_abs (by rfl) T.b_abs (by decide +kernel) (pa_cons (pe_callTy call_int1 (by rfl) T.b_int (by decide +kernel) (pa_cons (pv 2) pa_nil)) pa_nil))) pa_nil)) pe_int))))
    (pss_one (ps_ret (pe_lst (pa_cons (pe_callTy call_list_of (by rfl) T.b_list (by decide +kernel) (pa_cons (pv 0) pa_nil)) (pa_cons pe_int (pa_cons pe_int (pa_cons (pv 1) pa_nil))))))))), ?_⟩
    refine ⟨.ref a, rfl, a, rfl, .inl ⟨⟨_, hS⟩, for_list (xs := ns.map V.int) (fun i σ H' => ∃ m v, σ = [some (.ref a), some (.int m), v] ∧ H' = H ∧ 0 ≤ m ∧ m < 2147483647) ⟨7, none, rfl, rfl, by decide, by decide⟩ (fun i σ H' _ ⟨_, _, _, e, _⟩ => e ▸ hS) ?_ ?_⟩⟩
    · rintro i y σ H' hi ⟨m, v, rfl, rfl, m0, m1⟩
      obtain ⟨z, rfl⟩ : ∃ z, y = V.int z := by
        rw [List.getElem?_map] at hi
        cases e : ns[i]? with
        | none => rw [e] at hi; cases hi
        | some u => rw [e] at hi; exact ⟨u, (Option.some.inj hi).symm⟩
      refine ⟨.int m, rfl, .inl ⟨m, 31, rfl, rfl, .inr ⟨by decide, by decide⟩, .int z, rfl, .inl ⟨z, rfl, z, rfl, .inl ⟨_, _, rfl, rfl, .inl ⟨_, rfl, _, _, rfl, rfl, (by decide : (0 : Int) < 2147483647), ?_⟩⟩⟩⟩⟩
      exact ⟨_, _, rfl, rfl, Int.emod_nonneg _ (by decide), Int.emod_lt_of_pos _ (by decide)⟩
    · rintro σ H' ⟨m, v, rfl, rfl, m0, m1⟩
      refine ⟨.ref a, rfl, a, ns.map V.int, rfl, .inl hS, fun b hb => ⟨.int m, rfl, by show 4 ≤ (16777216 : Nat); decide, fun p hp => ?_⟩⟩
      have hpb : p ≠ b := fun z => by
        subst z
        rw [upd_same] at hp
        cases hp
      have hp0 : H' p = none := by
        rw [upd_ne hpb] at hp
        exact hp
      refine q p b _ m hp0 hb hpb (fun c o e => ?_) upd_same ?_ m0 m1
      · rw [upd_ne (ne_of_none e hp0), upd_ne (ne_of_none e hb)]
        exact e
      · rw [upd_ne hpb.symm, upd_same]

def R__law_draw : Pr := fun ss P => ∃ many : Int, ss = [.tp, .d (.int many)] ∧ many < 2 ^ 199 ∧ ∀ d, (∃ r : Int, d = .int r ∧ 0 ≤ r ∧ r < max many 1) → P d
theorem draw_max {many c : Int} (h : many < 2 ^ 199) (hc : 0 < c) (hc2 : c ≤ 2) : CDivW 0 (if c > many then c else many) := by
  refine cdiv_of ?_ ?_ <;> split <;> omega
theorem draw_mod {n many : Int} : 0 ≤ n % (if (1 : Int) > many then 1 else many) ∧ n % (if (1 : Int) > many then 1 else many) < max many 1 := by
  have h : (0 : Int) < (if (1 : Int) > many then 1 else many) := by split <;> omega
  have h1 := Int.emod_nonneg n (show (if (1 : Int) > many then 1 else many) ≠ 0 by omega)
  have h2 := Int.emod_lt_of_pos n h
  refine ⟨h1, ?_⟩
  have : (if (1 : Int) > many then (1 : Int) else many) = max many 1 := by split <;> omega
  omega
section
variable {K : PySem.W.Frag} {ρ : Rho}
theorem ye_draw {i : Nat} {te : TE} {E : XK} {many : Int} (e : ρ[i]? = some .tp) (h : Pd K te ρ (.int many)) (hm : many < 2 ^ 199 := by decide) : Pe K (tCall (spR K 2 R__law_draw) [] E (tCons (tVar i) (tCons te tNil))) ρ (fun d => ∃ r : Int, d = .int r ∧ 0 ≤ r ∧ r < max many 1) :=
  ye_cl (ya_td e (ya_d h ya_n)) rfl ⟨many, rfl, hm, fun _ p => p⟩
theorem ye_drawP {i : Nat} {te : TE} {E : XK} {C : Int → Prop} (e : ρ[i]? = some .tp) (h : Pe K te ρ (fun d => ∃ m : Int, d = .int m ∧ C m)) (hm : ∀ m, C m → m < 2 ^ 199) : Pe K (tCall (spR K 2 R__law_draw) [] E (tCons (tVar i) (tCons te tNil))) ρ (fun d => ∃ m r : Int, d = .int r ∧ C m ∧ 0 ≤ r ∧ r < max m 1) :=
  ye_call (PA := fun ss => ∃ m : Int, ss = [.tp, .d (.int m)] ∧ C m) (ya_t (PA := fun ss => ∃ m : Int, ss = [.d (.int m)] ∧ C m) e (ya_c h ya_n fun d ss ⟨m, e1, c⟩ e2 => ⟨m, by rw [e1, e2], c⟩) fun ss ⟨m, e1, c⟩ => ⟨m, by rw [e1], c⟩) fun ss ⟨m, e1, c⟩ => by
    subst e1
    refine ⟨rfl, ?_⟩
    exact ⟨m, rfl, hm m c, fun d ⟨r, e2, h1, h2⟩ => ⟨m, r, e2, c, h1, h2⟩⟩
/-- a draw, of a drawn many -/
theorem y_drw {i : Nat} {te : TE} {E : XK} {C D : Int → Prop} (e : ρ[i]? = some .tp) (h : Pe K te ρ (isI C)) (hm : ∀ m, C m → m < 2 ^ 199) (hd : ∀ m r, C m → 0 ≤ r → r < max m 1 → D r) : Pe K (tCall (spR K 2 R__law_draw) [] E (tCons (tVar i) (tCons te tNil))) ρ (isI D) :=
  (ye_drawP e h hm).imp fun d ⟨m, r, e, c, h1, h2⟩ => ⟨r, e, hd m r c h1 h2⟩
theorem y_drd {i : Nat} {te : TE} {E : XK} {D : Int → Prop} {many : Int} (e : ρ[i]? = some .tp) (h : Pd K te ρ (.int many)) (hd : ∀ r, 0 ≤ r → r < max many 1 → D r) (hm : many < 2 ^ 199 := by decide) : Pe K (tCall (spR K 2 R__law_draw) [] E (tCons (tVar i) (tCons te tNil))) ρ (isI D) :=
  (ye_draw e h hm).imp fun d ⟨r, e, h1, h2⟩ => ⟨r, e, hd r h1 h2⟩
/-- a draw compared with a number -/
theorem ye_imp0 {te : TE} {n : Int} {C : Int → Prop} (h : Pe K te ρ (fun d => ∃ r : Int, d = .int r ∧ C r)) : Pe K (tOp (rEqX K) te (tC (.int n))) ρ (fun d => ∃ b, d = .bool b) := fun T H0 G H σ gh tp D Q q =>
  h.bind gh tp D fun x v G1 H1 p1 s1 gh1 tp1 D1 x1 => by
    obtain ⟨r, rfl, _⟩ := p1
    cases x1
    exact .inl ⟨rfl, q _ _ G1 H1 ⟨_, rfl⟩ s1 (.bl _)⟩
/-- .., and what it says -/
theorem ye_eqn {te : TE} {n : Int} {C : Int → Prop} (h : Pe K te ρ (fun d => ∃ r : Int, d = .int r ∧ C r)) : Pe K (tOp (rEqX K) te (tC (.int n))) ρ (fun d => ∃ r : Int, d = .bool (decide (r = n)) ∧ C r) := fun T H0 G H σ gh tp D Q q =>
  h.bind gh tp D fun x v G1 H1 p1 s1 gh1 tp1 D1 x1 => by
    obtain ⟨r, rfl, c⟩ := p1
    cases x1
    refine .inl ⟨rfl, ?_⟩
    rw [show decide (V.int r = V.int n) = decide (r = n) by simp]
    exact q _ _ G1 H1 ⟨r, rfl, c⟩ s1 (.bl _)
end

abbrev s__law_draw : Stmt := topS 20
theorem sc__law_draw : FnScope ["tape", "many", "place", "number"] ["tape", "many"] (defScope s__law_draw) := ⟨rfl, rfl, rfl, by decide +kernel, rfl, by decide +kernel, by decide +kernel⟩
theorem ok__law_draw {Pg : Program} {w : World} {K : PySem.W.Frag} {mg : Str → Option Value} {base : Heap} (T : Tx w K mg) {f : Addr} {fd : FuncData} (F : Fun K "_law_draw" "_law_draw" s__law_draw f fd) : FnOk Pg w K mg base CX0 1 f fd ["tape", "many"] (spR K 2 R__law_draw) := by
  refine F.ok sc__law_draw (fun vs H Q E h => ?_) (fun cdv A outer s H vs Q E hr h => ?_)
  · obtain ⟨T', G, ss, P, gh, tp, a, hl, _⟩ := h
    rw [← Paired.length a, hl]
    rfl
  · obtain ⟨T', G, ss, P, gh, tp, ar, hl, ⟨many, rfl, hm, hP⟩, q⟩ := h
    obtain ⟨vt, vm, rfl, ⟨a, rfl, ta⟩, am⟩ : ∃ vt vm, vs = [vt, vm] ∧ ArgOk T' K G .tp vt ∧ ArgOk T' K G (.d (.int many)) vm := by
      cases ar with
      | cons r1 r2 =>
        cases r2 with
        | cons r2 r3 =>
          cases r3
          exact ⟨_, _, rfl, r1, r2⟩
    obtain rfl : vm = .int many := by
      cases am
      rfl
    obtain ⟨b, ns, place, rest, mixed, ea, eb, ga, p0, r0, m0, m1⟩ := tp a ta
    have s0 : Step T' G H G H := Step.refl gh tp
    have hbH : ∀ {x y z : Int}, (upd H a (.lst [.ref b, .int x, .int y, .int z])) b = some (.lst (ns.map V.int)) := by
      intro x y z
      rw [upd_ne (ne_of_none eb ga)]
      exact gh _ _ eb
    have an : H a ≠ none := by rw [ea]; intro z; cases z
    have st : ∀ {x y z : Int}, 0 ≤ x → 0 ≤ y → 0 ≤ z → z < 2147483647 → Step T' G H G (upd H a (.lst [.ref b, .int x, .int y, .int z])) := fun h1 h2 h3 h4 => tape_step s0 eb ga an ta h1 h2 h3 h4
    refine ⟨_, (pss_cons (ps_if (pt_cmpR (opx_eq hr) (pe_ix ix_seq (pv 0) pe_int (fun _ _ => rfl)) pe_int (nomark _)) (pss_cons (ps_set (i := 2) sc__law_draw.nd rfl (Or.inl rfl) (pe_ix ix_seq (pv 0) pe_int (fun _ _ => rfl)))
    (pss_cons (ps_set (i := 3) sc__law_draw.nd rfl (Or.inl rfl) pe_int)
    (pss_cons (ps_if (pt_cmpR op_lt (pv 2) (pe_callB call_len_seq (by rfl) T.b_len (by decide +kernel) (pa_cons (pe_ix ix_seq (pv 0) pe_int (fun _ _ => rfl)) pa_nil)) (nomark _)) (pss_one (ps_set (i := 3) sc__law_draw.nd rfl (Or.inl rfl) (pe_callB call_abs (by rfl) T.b_abs (by decide +kernel) (pa_cons (pe_callTy call_int1 (by rfl) T.b_int (by decide +kernel) (pa_cons (pe_ix ix_seq (pe_ix ix_seq (pv 0) pe_int (fun _ _ => rfl)) (pv 2) (fun _ _ => rfl)) pa_nil)) pa_nil)))) (pss_cons (ps_asg (pe_op op_mod (pe_callTy call_int1 (by rfl) T.b_int (by decide +kernel) (pa_cons (pe_op opx_add (pe_op opx_add (pe_op opx_mul (pe_ix ix_seq (pv 0) pe_int (fun _ _ => rfl)) pe_int) (pv 2)) pe_int) pa_nil)) pe_int) (pg_sub (pv 0) pe_int set_list))
    (pss_one (ps_set (i := 3) sc__law_draw.nd rfl (Or.inl rfl) (pe_ix ix_seq (pv 0) pe_int (fun _ _ => rfl))))))
    (pss_cons (ps_asg (pe_op opx_add (pv 2) pe_int) (pg_sub (pv 0) pe_int set_list))
    (pss_cons (ps_if (pt_cmpR op_lt (pv 3) (pe_op op_pow pe_int pe_int) (nomark _)) (pss_cons (ps_set (i := 3) sc__law_draw.nd rfl (Or.inl rfl) (pe_op op_mod (pe_callTy call_int1 (by rfl) T.b_int (by decide +kernel) (pa_cons (pe_op opx_add (pe_op opx_add (pe_op opx_mul (pv 3) pe_int) (pe_op opx_mul (pv 2) pe_int)) pe_int) pa_nil)) pe_int))
    (pss_cons (ps_set (i := 3) sc__law_draw.nd rfl (Or.inl rfl) (pe_op op_mod (pe_callTy call_int1 (by rfl) T.b_int (by decide +kernel) (pa_cons (pe_op opx_mul (pv 3) pe_int) pa_nil)) pe_int))
    (pss_one (ps_ret (pe_op op_mod (pe_callTy call_int1 (by rfl) T.b_int (by decide +kernel) (pa_cons (pv 3) pa_nil)) (pe_callB (callx_max rfl) (by rfl) T.b_max (by decide +kernel) (pa_cons (pv 1) (pa_cons pe_int pa_nil)))))))) pss_nil)
    (pss_one (ps_asg (pv 3) (pg_sub (pv 0) pe_int set_list)))))))) pss_nil)
    (pss_cons (ps_set (i := 3) sc__law_draw.nd rfl (Or.inl rfl) (pe_ix ix_seq (pv 0) pe_int (fun _ _ => rfl)))
    (pss_cons (ps_asg (pe_op op_fdivW (pv 3) (pe_callB (callx_max rfl) (by rfl) T.b_max (by decide +kernel) (pa_cons (pv 1) (pa_cons pe_int pa_nil)))) (pg_sub (pv 0) pe_int set_list))
    (pss_one (ps_ret (pe_op op_mod (pe_callTy call_int1 (by rfl) T.b_int (by decide +kernel) (pa_cons (pv 3) pa_nil)) (pe_callB (callx_max rfl) (by rfl) T.b_max (by decide +kernel) (pa_cons (pv 1) (pa_cons pe_int pa_nil))))))))), ?_⟩
    refine ⟨.ref a, rfl, .inl ⟨a, _, 2, .int rest, rfl, rfl, .inl (.inl ea), rfl, .inl ⟨rfl, _, rfl, ite2 (fun e => ?_) (fun e => ?_)⟩⟩⟩
    · -- nothing left of a number
      refine ⟨.ref a, rfl, .inl ⟨a, _, 1, .int place, rfl, rfl, .inl (.inl ea), rfl, ?_⟩⟩
      refine ⟨.int place, rfl, .ref a, rfl, .inl ⟨a, _, 0, .ref b, rfl, rfl, .inl (.inl ea), rfl, b, ns.map V.int, rfl, .inl (.inl (.inl (gh _ _ eb))), place, _, rfl, rfl, _, rfl, ?_⟩⟩
      rw [List.length_map]
      refine ite2 (fun hlt => ?_) (fun hge => ?_)
      · have hlt : place < (ns.length : Int) := of_decide_eq_true hlt
        obtain ⟨j, rfl⟩ : ∃ j : Nat, place = (j : Int) := ⟨place.toNat, by omega⟩
        have hj : j < ns.length := by omega
        have gj : (ns.map V.int)[j]? = some (.int ns[j]) := by
          rw [List.getElem?_map, List.getElem?_eq_getElem hj]
          rfl
        refine ⟨.ref a, rfl, .inl ⟨a, _, 0, .ref b, rfl, rfl, .inl (.inl ea), rfl, .int (j : Int), rfl, .inl ⟨b, _, (j : Int), .int ns[j], rfl, rfl, .inl (.inl (gh _ _ eb)), atI_nat gj, .inl ⟨_, rfl, _, rfl, ?_⟩⟩⟩⟩
        generalize hx : (if ns[j] < 0 then -ns[j] else ns[j]) = x
        have x0 : 0 ≤ x := by rw [← hx]; split <;> omega
        -- tape[1] = place + 1
        refine ⟨.int (j : Int), rfl, .inl ⟨_, _, rfl, rfl, .ref a, rfl, a, _, 1, 1, rfl, rfl, ea, rfl, ?_⟩⟩
        -- number < 10 ** 18
        refine ⟨.int x, rfl, _, _, rfl, rfl, ⟨by decide, by decide, by decide⟩, _, _, rfl, rfl, _, rfl, ite2 (fun hsm => ?_) (fun hbig => ?_)⟩
        · have hsm : x < 10 ^ 18 := of_decide_eq_true hsm
          refine ⟨.int x, rfl, .inl ⟨_, _, rfl, rfl, .inr ⟨by decide, by decide⟩, .int (j : Int), rfl, .inl ⟨_, _, rfl, rfl, .inr ⟨by decide, by decide⟩, .inl ⟨_, _, rfl, rfl, .inl ⟨_, _, rfl, rfl, .inl ⟨_, rfl, _, _, rfl, rfl, (by decide : (0 : Int) < 2147483647), ?_⟩⟩⟩⟩⟩⟩
          refine ⟨_, rfl, .inl ⟨_, _, rfl, rfl, .inr ⟨by decide, by decide⟩, .inl ⟨_, rfl, _, _, rfl, rfl, (by decide : (0 : Int) < 2147483629), ?_⟩⟩⟩
          refine ⟨_, rfl, .inl ⟨_, rfl, .int many, rfl, .inl ⟨_, _, rfl, _, _, rfl, rfl, (by split <;> omega), ?_⟩⟩⟩
          exact q _ _ G _ (hP _ ⟨_, rfl, draw_mod⟩) (st (by omega) r0 m0 m1) (.int _)
        · refine ⟨.int x, rfl, .ref a, rfl, a, _, 2, 2, rfl, rfl, upd_same, rfl, ?_⟩
          rw [upd_upd]
          refine ⟨.ref a, rfl, .inl ⟨a, _, 2, _, rfl, rfl, .inl (.inl upd_same), rfl, ?_⟩⟩
          refine ⟨_, rfl, .int many, rfl, .inl ⟨_, _, rfl, _, _, rfl, rfl, draw_max hm (by decide) (by decide), .ref a, rfl, a, _, 2, 2, rfl, rfl, upd_same, rfl, ?_⟩⟩
          rw [upd_upd]
          refine ⟨_, rfl, .inl ⟨_, rfl, .int many, rfl, .inl ⟨_, _, rfl, _, _, rfl, rfl, (by split <;> omega), ?_⟩⟩⟩
          exact q _ _ G _ (hP _ ⟨_, rfl, draw_mod⟩) (st (by omega) (Int.ediv_nonneg x0 (by split <;> omega)) m0 m1) (.int _)
      · -- the mixed one
        refine ⟨.ref a, rfl, .inl ⟨a, _, 3, .int mixed, rfl, rfl, .inl (.inl ea), rfl, .inl ⟨_, _, rfl, rfl, .inr ⟨by decide, by decide⟩, .int place, rfl, .inl ⟨_, _, rfl, rfl, .inl ⟨_, _, rfl, rfl, .inl ⟨_, rfl, _, _, rfl, rfl, (by decide : (0 : Int) < 2147483647), .ref a, rfl, a, _, 3, 3, rfl, rfl, ea, rfl, ?_⟩⟩⟩⟩⟩⟩
        refine ⟨.ref a, rfl, .inl ⟨a, _, 3, _, rfl, rfl, .inl (.inl upd_same), rfl, ?_⟩⟩
        have x0 : 0 ≤ (mixed * 48271 + place + 1) % 2147483647 := Int.emod_nonneg _ (by decide)
        have x1 : (mixed * 48271 + place + 1) % 2147483647 < 2147483647 := Int.emod_lt_of_pos _ (by decide)
        refine ⟨.int place, rfl, .inl ⟨_, _, rfl, rfl, .ref a, rfl, a, _, 1, 1, rfl, rfl, upd_same, rfl, ?_⟩⟩
        rw [upd_upd]
        refine ⟨_, rfl, _, _, rfl, rfl, ⟨by decide, by decide, by decide⟩, _, _, rfl, rfl, _, rfl, ite2 (fun hsm => ?_) (fun hbig => ?_)⟩
        · refine ⟨_, rfl, .inl ⟨_, _, rfl, rfl, .inr ⟨by decide, by decide⟩, .int place, rfl, .inl ⟨_, _, rfl, rfl, .inr ⟨by decide, by decide⟩, .inl ⟨_, _, rfl, rfl, .inl ⟨_, _, rfl, rfl, .inl ⟨_, rfl, _, _, rfl, rfl, (by decide : (0 : Int) < 2147483647), ?_⟩⟩⟩⟩⟩⟩
          refine ⟨_, rfl, .inl ⟨_, _, rfl, rfl, .inr ⟨by decide, by decide⟩, .inl ⟨_, rfl, _, _, rfl, rfl, (by decide : (0 : Int) < 2147483629), ?_⟩⟩⟩
          refine ⟨_, rfl, .inl ⟨_, rfl, .int many, rfl, .inl ⟨_, _, rfl, _, _, rfl, rfl, (by split <;> omega), ?_⟩⟩⟩
          exact q _ _ G _ (hP _ ⟨_, rfl, draw_mod⟩) (st (by omega) r0 x0 x1) (.int _)
        · exact absurd (decide_eq_true (show (mixed * 48271 + place + 1) % 2147483647 < 10 ^ 18 by omega)) hbig
    · -- what is left of a number
      refine ⟨.ref a, rfl, .inl ⟨a, _, 2, _, rfl, rfl, .inl (.inl ea), rfl, ?_⟩⟩
      refine ⟨_, rfl, .int many, rfl, .inl ⟨_, _, rfl, _, _, rfl, rfl, draw_max hm (by decide) (by decide), .ref a, rfl, a, _, 2, 2, rfl, rfl, ea, rfl, ?_⟩⟩
      refine ⟨_, rfl, .inl ⟨_, rfl, .int many, rfl, .inl ⟨_, _, rfl, _, _, rfl, rfl, (by split <;> omega), ?_⟩⟩⟩
      exact q _ _ G _ (hP _ ⟨_, rfl, draw_mod⟩) (st p0 (Int.ediv_nonneg r0 (by split <;> omega)) m0 m1) (.int _)

def R__law_ramp : Pr := fun ss P => ∃ top : Int, ss = [.tp, .d (.int top)] ∧ 0 ≤ top ∧ top ≤ 20 ∧ ∀ c : Cv, CvB c → P (cvD c)

abbrev s__law_ramp : Stmt := topS 35
theorem sc__law_ramp : FnScope ["tape", "top", "lead", "size", "k"] ["tape", "top"] (defScope s__law_ramp) := ⟨rfl, rfl, rfl, by decide +kernel, rfl, by decide +kernel, by decide +kernel⟩
theorem ok__law_ramp {Pg : Program} {w : World} {K : PySem.W.Frag} {mg : Str → Option Value} {base : Heap} (T : Tx w K mg) (C__law_draw : Cal Pg w K mg base 1 "_law_draw" ["tape", "many"] (spR K 2 R__law_draw)) {f : Addr} {fd : FuncData} (F : Fun K "_law_ramp" "_law_ramp" s__law_ramp f fd) : FnOk Pg w K mg base CX0 2 f fd ["tape", "top"] (spR K 2 R__law_ramp) := by
  refine fn_ok (n := 2) F sc__law_ramp rfl (by decide) (fun cdv A outer s H E hr => ⟨_, (pss_cons (ps_set (i := 2) sc__law_ramp.nd rfl (Or.inl rfl) (pe_callTy call_tuple_of (by rfl) T.b_tuple (by decide +kernel) (pa_cons (pe_lc (own := [("k", 4)]) (g := (gName 4)) (tt := tYes) rfl sc__law_ramp.nd (pi_range1 rfl T.b_range (pa_cons (pe_ix ix_seq (pe_lst (pa_cons pe_int (pa_cons pe_int (pa_cons pe_int (pa_cons pe_int (pa_cons pe_int (pa_cons pe_int pa_nil))))))) (pe_cal C__law_draw hr (pa_cons (pv 0) (pa_cons pe_int pa_nil))) (fun _ _ => rfl)) pa_nil)) (blkOk_by (own := [("k", 4)]) (N := ["tape", "top", "lead", "size", "k"]) (sc := defScope s__law_ramp) (by decide +kernel)) (fun _ _ _ _ _ => (pg_name (i := 4) sc__law_ramp.nd rfl (Or.inl rfl))) (fun _ _ _ _ _ => pts_nil) (fun _ _ _ _ _ => (pe_cal C__law_draw hr (pa_cons (pv 0) (pa_cons (pe_op (opx_addK (K := K) rfl) (pv 1) pe_int) pa_nil))))) pa_nil)))
    (pss_cons (ps_set (i := 3) sc__law_ramp.nd rfl (Or.inl rfl) (pe_op opx_add pe_int (pe_cal C__law_draw hr (pa_cons (pv 0) (pa_cons (pe_ix ix_seq (pe_lst (pa_cons pe_int (pa_cons pe_int (pa_cons pe_int pa_nil)))) (pe_cal C__law_draw hr (pa_cons (pv 0) (pa_cons pe_int pa_nil))) (fun _ _ => rfl)) pa_nil)))))
    (pss_one (ps_ret (pe_tup (pa_cons pe_int (pa_cons (pv 2) (pa_cons (pe_callTy call_tuple_of (by rfl) T.b_tuple (by decide +kernel) (pa_cons (pe_lc (own := [("k", 4)]) (g := (gName 4)) (tt := tYes) rfl sc__law_ramp.nd (pi_range1 rfl T.b_range (pa_cons (pv 3) pa_nil)) (blkOk_by (own := [("k", 4)]) (N := ["tape", "top", "lead", "size", "k"]) (sc := defScope s__law_ramp) (by decide +kernel)) (fun _ _ _ _ _ => (pg_name (i := 4) sc__law_ramp.nd rfl (Or.inl rfl))) (fun _ _ _ _ _ => pts_nil) (fun _ _ _ _ _ => (pe_cal C__law_draw hr (pa_cons (pv 0) (pa_cons (pe_op (opx_addK (K := K) rfl) (pv 1) pe_int) pa_nil))))) pa_nil)) pa_nil)))))))), ?_⟩)
  intro ss P hl hR
  obtain ⟨top, rfl, t0, t1, hP⟩ := hR
  refine wq_set (P := fun d => ∃ t : List Int, d = tI t ∧ t.length ≤ 4) (ye_tupR (nl_lcI (sl := [4]) (C := fun r => 0 ≤ r ∧ r ≤ top) (it_rD (C := fun r => 0 ≤ r ∧ r ≤ 4) (ye_menu (Q := isI fun r => 0 ≤ r ∧ r ≤ 4) (n := 6) (ya_1 (isI_of ye_i (by decide)) (ya_1 (isI_of ye_i (by decide)) (ya_1 (isI_of ye_i (by decide)) (ya_1 (isI_of ye_i (by decide)) (ya_1 (isI_of ye_i (by decide)) (ya_1 (isI_of ye_i (by decide)) ya_0))))))
    ((ye_draw rfl ye_i).imp fun d ⟨r, e, h1, h2⟩ => ⟨r, e, h1, by omega⟩)) fun r h => by omega) (fun i h => h) ?_ ?_).rl ?_) ?_
  · rintro xs ⟨n, hn, rfl⟩
    rw [rg_len]
    show _ < (16777216 : Nat)
    omega
  · rintro xs x _ _
    exact ⟨_, yg_n, y_drd rfl (yd_add (ye_v rfl) ye_i) (fun r h1 h2 => by omega) (by omega)⟩
  · rintro ys ⟨xs, ns, ⟨n, hn, rfl⟩, rfl, e1, e2⟩
    rw [rg_len] at e1
    exact ⟨ns, rfl, by omega⟩
  rintro d ⟨t, rfl, tl⟩
  refine wq_set (P := isI fun r => 1 ≤ r ∧ r ≤ 4) (ye_add (Pa := fun x => x = .int 1) (Pb := isI fun r => 0 ≤ r ∧ r ≤ 3) ye_i (y_drw (C := fun m => 0 < m ∧ m ≤ 4) rfl (ye_menu (Q := isI fun m => 0 < m ∧ m ≤ 4) (n := 3) (ya_1 (isI_of ye_i (by decide)) (ya_1 (isI_of ye_i (by decide)) (ya_1 (isI_of ye_i (by decide)) ya_0))) (y_drd rfl ye_i fun r h1 h2 => ⟨h1, by omega⟩)) (fun m h => by omega) fun m r h h1 h2 => by omega) ?_) ?_
  · rintro x y rfl ⟨r, rfl, r0, r1⟩
    exact ⟨1, r, rfl, rfl, _, rfl, by omega, by omega⟩
  rintro _ ⟨size, rfl, s1, s4⟩
  refine ws_ret (ye_t3 (A := fun d => d = .int 0) (B := fun d => d = tI t) (C := fun d => ∃ p : List Int, d = tI p ∧ 1 ≤ p.length ∧ p.length ≤ 4) ye_i (ye_v rfl) (ye_tupR (nl_lcI (sl := [4]) (C := fun r => 0 ≤ r ∧ r ≤ top) (it_rD (C := fun r => 1 ≤ r ∧ r ≤ 4) (isI_of (ye_v rfl) ⟨s1, s4⟩) fun r h => by omega) (fun i h => h) ?_ ?_).rl ?_) ?_) fun d h => h
  · rintro xs ⟨n, hn, rfl⟩
    rw [rg_len]
    show _ < (16777216 : Nat)
    omega
  · rintro xs x _ _
    exact ⟨_, yg_n, y_drd rfl (yd_add (ye_v rfl) ye_i) (fun r h1 h2 => by omega) (by omega)⟩
  · rintro ys ⟨xs, ns, ⟨n, hn, rfl⟩, rfl, e1, e2⟩
    rw [rg_len] at e1
    exact ⟨ns, rfl, by omega, by omega⟩
  · rintro a b c rfl rfl ⟨p, rfl, p1, p4⟩
    exact hP ⟨0, t, p⟩ ⟨p1, p4, by show t.length ≤ 12; omega⟩


def R__law_ramped : Pr := fun ss P => ∃ ps : List Sg, ss = [.tp, .d (plD ps)] ∧ PlOk ps ∧ ∀ qs : List Sg, PlB qs → P (plD qs)
theorem sgb_ramp {g : Sg} (h : g.Ok) {a b : Cv} (ha : CvB a) (hb : CvB b) : ({ g with pr := a, sp := b } : Sg).B := by
  have q : ∀ {c : Cv}, c.Ok 0 4 → CvB c := fun k => ⟨k.p1, k.pl, by have := k.tl; omega⟩
  exact ⟨h.f3, h.o3, fun f hf => q (h.f f hf).c, fun o ho => q (h.o o ho).c, ha, hb, ⟨h.r.wk.p1, h.r.wk.pl, by have := h.r.wk.tl; show g.wk.t.length ≤ 12; omega⟩⟩

abbrev s__law_ramped : Stmt := topS 36
theorem sc__law_ramped : FnScope ["tape", "plant", "stages", "stage", "price"] ["tape", "plant"] (defScope s__law_ramped) := ⟨rfl, rfl, rfl, by decide +kernel, rfl, by decide +kernel, by decide +kernel⟩
theorem ok__law_ramped {Pg : Program} {w : World} {K : PySem.W.Frag} {mg : Str → Option Value} {base : Heap} (T : Tx w K mg) (C__law_ramp : Cal Pg w K mg base 2 "_law_ramp" ["tape", "top"] (spR K 2 R__law_ramp)) {f : Addr} {fd : FuncData} (F : Fun K "_law_ramped" "_law_ramped" s__law_ramped f fd) : FnOk Pg w K mg base CX0 3 f fd ["tape", "plant"] (spR K 2 R__law_ramped) := by
  refine fn_ok (n := 2) F sc__law_ramped rfl (by decide) (fun cdv A outer s H E hr => ⟨_, (pss_cons (ps_set (i := 2) sc__law_ramped.nd rfl (Or.inl rfl) (pe_lst pa_nil))
    (pss_cons (ps_for PassesOwn.never rfl (pi_seq (pv 1)) (pg_name (i := 3) sc__law_ramped.nd rfl (Or.inl rfl))
    (pss_cons (ps_set (i := 4) sc__law_ramped.nd rfl (Or.inl rfl) (pe_cal C__law_ramp hr (pa_cons (pv 0) (pa_cons pe_int pa_nil))))
    (pss_one (ps_expr (pe_bm PySem.F.plainAttrs_list PySem.F.slot_list_append PySem.F.type_list_append mt_append (pv 2) (pa_cons (pe_op opx_add (pe_op opx_add (pe_slice slx (pv 3) po_none (po_some pe_int)) (pe_tup (pa_cons (pv 4) (pa_cons (pe_cal C__law_ramp hr (pa_cons (pv 0) (pa_cons pe_int pa_nil))) pa_nil)))) (pe_slice slx (pv 3) (po_some pe_int) po_none)) pa_nil))))))
    (pss_one (ps_ret (pe_callTy call_tuple_of (by rfl) T.b_tuple (by decide +kernel) (pa_cons (pv 2) pa_nil)))))), ?_⟩)
  intro ss P hl hR
  obtain ⟨ps, rfl, hb, hP⟩ := hR
  have l1 := hb.l1
  have l4 := hb.l4
  refine wq_setmd nd_l0 ?_
  let B1 : List Sg → Rho := fun qs => [.tp, .d (plD ps), .ml (qs.map sgD), .no, .no]
  have rmp : ∀ {ρ : Rho} {i : Int}, ρ[0]? = some .tp → 0 ≤ i → i ≤ 20 → Pe K (tCall (spR K 2 R__law_ramp) [] E0 (tCons (tVar 0) (tCons (tC (.int i)) tNil))) ρ (fun d => ∃ c : Cv, d = cvD c ∧ CvB c) := fun e h1 h2 => ye_cl (ya_td e (ya_d ye_i ya_n)) rfl ⟨_, rfl, h1, h2, fun c h => ⟨c, rfl, h⟩⟩
  refine ws_seq (fun r => ∃ qs : List Sg, qs.length = ps.length ∧ (∀ g ∈ qs, g.B) ∧ Le r (B1 qs)) (ws_ford (xs := ps.map sgD) (it_t (ye_v rfl)) (fun i r => ∃ qs : List Sg, qs.length = i ∧ (∀ g ∈ qs, g.B) ∧ Le r (B1 qs)) ⟨[], rfl, fun _ h => (by cases h), (by repeat' first | exact Le.nil | refine Le.cons ?_ ?_ | exact rfl | exact trivial)⟩ ?_ ?_) ?_
  · rintro i x r hi ⟨qs, ql, qb, le⟩
    have hi2 := (List.getElem?_eq_some_iff.mp hi).1
    rw [List.length_map] at hi2
    rw [List.getElem?_map] at hi
    obtain ⟨g, hg, rfl⟩ := Option.map_eq_some_iff.mp hi
    have gk := hb.g g (List.mem_of_getElem? hg)
    refine ⟨_, _, yg_n, Ws.le ?_ (le.seta (j := 3) (x := .d (sgD g)))⟩
    refine wq_set (rmp rfl (by decide) (by decide)) ?_
    rintro _ ⟨a, rfl, ha⟩
    refine ws_app (i := 2) (xs := qs.map sgD) (P := fun d => ∃ b : Cv, d = sgD { g with pr := a, sp := b } ∧ CvB b) rfl (ye_catT (Pb := fun d => d = .tuple [.int g.n, cvD g.wk]) (ye_catT (Pa := fun d => d = .tuple [.tuple (g.fs.map feD), .tuple (g.os.map ouD)]) (P := fun d => ∃ b : Cv, d = .tuple [.tuple (g.fs.map feD), .tuple (g.os.map ouD), cvD a, cvD b] ∧ CvB b) ((yd_slT (xs := .tuple (g.fs.map feD) :: sgR g) (ye_v rfl) yo_n (yo_i ye_i)).to rfl) (ye_t2 (A := fun d => d = cvD a) (P := fun d => ∃ b : Cv, d = .tuple [cvD a, cvD b] ∧ CvB b) (ye_v rfl) (rmp rfl (by decide) (by decide)) ?_) ?_) ((yd_slT (xs := .tuple (g.fs.map feD) :: sgR g) (ye_v rfl) (yo_i ye_i) yo_n).to rfl) ?_) (by rw [List.length_map, ql]; show _ < (16777216 : Nat); omega) ?_
    · rintro x y rfl ⟨b, rfl, hb⟩
      exact ⟨b, rfl, hb⟩
    · rintro x y rfl ⟨b, rfl, hb⟩
      exact ⟨_, _, rfl, rfl, by show 2 + 2 ≤ (16777216 : Nat); decide, b, rfl, hb⟩
    · rintro x y ⟨b, rfl, hb⟩ rfl
      exact ⟨_, _, rfl, rfl, by show 4 + 2 ≤ (16777216 : Nat); decide, b, rfl, hb⟩
    · rintro _ ⟨b, rfl, hb'⟩
      refine ⟨qs ++ [{ g with pr := a, sp := b }], by rw [List.length_append, ql]; rfl, fun x hx => ?_, ?_⟩
      · rcases List.mem_append.mp hx with hx | hx
        · exact qb x hx
        · rw [List.mem_singleton.mp hx]; exact sgb_ramp gk ha hb'
      · show Le _ [.tp, .d (plD ps), .ml ((qs ++ [({ g with pr := a, sp := b } : Sg)]).map sgD), .no, .no]
        rw [List.map_append]
        exact (by repeat' first | exact Le.nil | refine Le.cons ?_ ?_ | exact rfl | exact trivial)
  · rintro r ⟨qs, ql, qb, le⟩
    rw [List.length_map] at ql
    exact ⟨qs, ql, qb, le⟩
  rintro r ⟨qs, ql, qb, le⟩
  exact Ws.le (ws_retd (yd_tupR (rl_v rfl)) (hP qs ⟨by omega, by omega, qb⟩)) le


def R__law_tool : Pr := fun ss P => ss = [.tp] ∧ ∀ c : Cv, c.Ok 0 1 → 0 < c.p.sum → P (cvD c)
theorem sum_set_pos' {l : List Int} (h : ∀ x ∈ l, 0 ≤ x) {n : Nat} (hn : n < l.length) {v : Int} (hv : 0 < v) : 0 < (l.set n v).sum := by
  induction l generalizing n with
  | nil => simp at hn
  | cons a r ih =>
    have ha := h a List.mem_cons_self
    have hr : 0 ≤ r.sum := sum_nn fun x hx => h x (List.mem_cons_of_mem _ hx)
    cases n with
    | zero =>
      rw [List.set_cons_zero, List.sum_cons]
      omega
    | succ n =>
      rw [List.set_cons_succ, List.sum_cons]
      have := ih (n := n) (fun x hx => h x (List.mem_cons_of_mem _ hx)) (by simpa using hn)
      omega
theorem ixN_in' {n : Nat} {j : Int} (h0 : 0 ≤ j) (h1 : j < n) : ∃ m, ixN n j = some m := by
  unfold ixN
  rw [if_pos h0, if_pos h1]
  exact ⟨_, rfl⟩

abbrev s__law_tool : Stmt := topS 24
theorem sc__law_tool : FnScope ["tape", "lead", "turn", "k"] ["tape"] (defScope s__law_tool) := ⟨rfl, rfl, rfl, by decide +kernel, rfl, by decide +kernel, by decide +kernel⟩
theorem ok__law_tool {Pg : Program} {w : World} {K : PySem.W.Frag} {mg : Str → Option Value} {base : Heap} (T : Tx w K mg) (C__law_draw : Cal Pg w K mg base 1 "_law_draw" ["tape", "many"] (spR K 2 R__law_draw)) {f : Addr} {fd : FuncData} (F : Fun K "_law_tool" "_law_tool" s__law_tool f fd) : FnOk Pg w K mg base CX0 2 f fd ["tape"] (spR K 1 R__law_tool) := by
  refine fn_ok (n := 1) F sc__law_tool rfl (by decide) (fun cdv A outer s H E hr => ⟨_, (pss_cons (ps_set (i := 1) sc__law_tool.nd rfl (Or.inl rfl) (pe_callTy call_tuple_of (by rfl) T.b_tuple (by decide +kernel) (pa_cons (pe_lc (own := [("k", 3)]) (g := (gName 3)) (tt := tYes) rfl sc__law_tool.nd (pi_range1 rfl T.b_range (pa_cons (pe_ix ix_seq (pe_lst (pa_cons pe_int (pa_cons pe_int (pa_cons pe_int (pa_cons pe_int (pa_cons pe_int (pa_cons pe_int (pa_cons pe_int (pa_cons pe_int pa_nil))))))))) (pe_cal C__law_draw hr (pa_cons (pv 0) (pa_cons pe_int pa_nil))) (fun _ _ => rfl)) pa_nil)) (blkOk_by (own := [("k", 3)]) (N := ["tape", "lead", "turn", "k"]) (sc := defScope s__law_tool) (by decide +kernel)) (fun _ _ _ _ _ => (pg_name (i := 3) sc__law_tool.nd rfl (Or.inl rfl))) (fun _ _ _ _ _ => pts_nil) (fun _ _ _ _ _ => (pe_cal C__law_draw hr (pa_cons (pv 0) (pa_cons pe_int pa_nil))))) pa_nil)))
    (pss_cons (ps_setLc (i := 2) (own := [("k", 3)]) (g := (gName 3)) (tt := tYes) rfl sc__law_tool.nd rfl rfl (sw_true rfl rfl rfl (by decide +kernel)) (pi_range1 rfl T.b_range (pa_cons (pe_op opx_add pe_int (pe_cal C__law_draw hr (pa_cons (pv 0) (pa_cons pe_int pa_nil)))) pa_nil)) (blkOk_by (own := [("k", 3)]) (N := ["tape", "lead", "turn", "k"]) (sc := defScope s__law_tool) (by decide +kernel)) (fun _ _ _ _ _ => (pg_name (i := 3) sc__law_tool.nd rfl (Or.inl rfl))) (fun _ _ _ _ _ => pts_nil) (fun _ _ _ _ _ => (pe_cal C__law_draw hr (pa_cons (pv 0) (pa_cons pe_int pa_nil)))))
    (pss_cons (ps_if (pt_cmpR (opx_eq hr) (pe_callB (callx_sum rfl) (by rfl) T.b_sum (by decide +kernel) (pa_cons (pv 2) pa_nil)) pe_int (nomark _)) (pss_one (ps_asg pe_int (pg_sub (pv 2) (pe_cal C__law_draw hr (pa_cons (pv 0) (pa_cons (pe_callB call_len_seq (by rfl) T.b_len (by decide +kernel) (pa_cons (pv 2) pa_nil)) pa_nil))) set_list))) pss_nil)
    (pss_one (ps_ret (pe_tup (pa_cons pe_int (pa_cons (pv 1) (pa_cons (pe_callTy call_tuple_of (by rfl) T.b_tuple (by decide +kernel) (pa_cons (pv 2) pa_nil)) pa_nil))))))))), ?_⟩)
  intro ss P hl hR
  obtain ⟨rfl, hP⟩ := hR
  refine wq_set (P := fun d => ∃ t : List Int, d = tI t ∧ t.length ≤ 4 ∧ ∀ x ∈ t, 0 ≤ x ∧ x ≤ 1) (ye_tupR (nl_lcI (sl := [3]) (C := fun r => 0 ≤ r ∧ r ≤ 1) (it_rD (C := fun r => 0 ≤ r ∧ r ≤ 4) (ye_menu (n := 8) (ya_1 (isI_of ye_i (by decide)) (ya_1 (isI_of ye_i (by decide)) (ya_1 (isI_of ye_i (by decide)) (ya_1 (isI_of ye_i (by decide)) (ya_1 (isI_of ye_i (by decide)) (ya_1 (isI_of ye_i (by decide)) (ya_1 (isI_of ye_i (by decide)) (ya_1 (isI_of ye_i (by decide)) ya_0)))))))) ((ye_draw rfl ye_i).imp fun d ⟨r, e, h1, h2⟩ => ⟨r, e, h1, by omega⟩)) fun r h => by omega) (fun i h => h) ?_ ?_).rl ?_) ?_
  · rintro xs ⟨n, hn, rfl⟩
    rw [rg_len]
    show _ < (16777216 : Nat)
    omega
  · rintro xs x _ _
    exact ⟨_, yg_n, y_drd rfl ye_i fun r h1 h2 => by omega⟩
  · rintro ys ⟨xs, ns, ⟨n, hn, rfl⟩, rfl, e1, e2⟩
    rw [rg_len] at e1
    exact ⟨ns, rfl, by omega, e2⟩
  rintro d ⟨t, rfl, tl, tb⟩
  refine wq_setm (PL := fun d => ∃ p : List Int, d = p.map .int ∧ 1 ≤ p.length ∧ p.length ≤ 4 ∧ ∀ x ∈ p, 0 ≤ x ∧ x ≤ 1) ((nl_lcI (sl := [3]) (C := fun r => 0 ≤ r ∧ r ≤ 1) (it_rD (C := fun r => 1 ≤ r ∧ r ≤ 4) (ye_add ye_i (ye_draw rfl ye_i) ?_) fun r h => by omega) (fun i h => h) ?_ ?_).imp ?_) ?_
  · rintro x y rfl ⟨r, rfl, r0, r1⟩
    exact ⟨1, r, rfl, rfl, _, rfl, by omega, by omega⟩
  · rintro xs ⟨n, hn, rfl⟩
    rw [rg_len]
    show _ < (16777216 : Nat)
    omega
  · rintro xs x _ _
    exact ⟨_, yg_n, y_drd rfl ye_i fun r h1 h2 => by omega⟩
  · rintro ys ⟨xs, ns, ⟨n, hn, rfl⟩, rfl, e1, e2⟩
    rw [rg_len] at e1
    exact ⟨ns, rfl, by omega, by omega, e2⟩
  rintro _ ⟨p, rfl, p1, p4, pb⟩
  let B : List Int → Rho := fun p => [.tp, .d (tI t), .ml (p.map .int), .no]
  refine ws_seq (fun r => ∃ p : List Int, 1 ≤ p.length ∧ p.length ≤ 4 ∧ (∀ x ∈ p, 0 ≤ x ∧ x ≤ 1) ∧ 0 < p.sum ∧ Le r (B p)) (ws_ifd (b := decide (p.sum = 0)) (yt_d ((yd_eqS (x := .int p.sum) (y := .int 0) (yd_sumR (rl_v rfl)) ye_i rfl).to rfl)) (fun e => ?_) (fun e => ?_)) ?_
  · refine ws_setiP (C := fun r => 0 ≤ r ∧ r < (p.length : Int)) (P := fun d => d = .int 1) rfl ye_i ?_ ?_ ?_
    · refine (ye_draw rfl (yd_lenR (rl_v rfl)) (by rw [List.length_map]; omega)).imp ?_
      rintro d ⟨r, rfl, r0, r1⟩
      rw [List.length_map] at r1
      exact ⟨r, rfl, r0, by omega⟩
    · rintro j ⟨j0, j1⟩
      exact ixN_in' j0 (by rw [List.length_map]; exact j1)
    · rintro d n rfl hn
      rw [List.length_map] at hn
      refine ⟨p.set n 1, by rw [List.length_set]; exact p1, by rw [List.length_set]; exact p4, fun x hx => ?_, sum_set_pos' (fun x hx => (pb x hx).1) hn (by decide), ?_⟩
      · rcases List.mem_or_eq_of_mem_set hx with q | q
        · exact pb x q
        · omega
      · show Le _ [.tp, .d (tI t), .ml ((p.set n 1).map .int), .no]
        rw [List.map_set]
        exact Le.refl _
  · refine ws_next ⟨p, p1, p4, pb, ?_, Le.refl _⟩
    have e := of_decide_eq_false e
    have := sum_nn (l := p) fun x hx => (pb x hx).1
    omega
  rintro r ⟨p, p1, p4, pb, hs, le⟩
  refine Ws.le (ws_retd (yd_t3 (ye_i (i := 0)) (ye_v rfl) (yd_tupR (rl_v rfl))) (hP ⟨0, t, p⟩ ⟨Int.le_refl _, Int.le_refl _, tb, pb, tl, p4, p1⟩ hs)) le


def R__law_flow : Pr := fun ss P => ss = [.tp] ∧ ∀ c : Cv, c.Ok 0 4 → 0 < c.p.sum → P (cvD c)
theorem flow_p {p : List Int} (h : ∀ x ∈ p, 0 ≤ x ∧ x ≤ 4) (l1 : 1 ≤ p.length) (l4 : p.length ≤ 4) : (⟨0, [], p⟩ : Cv).Ok 0 4 := ⟨Int.le_refl _, Int.le_refl _, fun x hx => (by cases hx), h, Nat.zero_le _, l4, l1⟩
theorem flow_1 {v : Int} (h : 1 ≤ v) (k : v ≤ 4) : (⟨0, [], [v]⟩ : Cv).Ok 0 4 ∧ 0 < (⟨0, [], [v]⟩ : Cv).p.sum := by
  refine ⟨flow_p (fun x hx => ?_) (by show 1 ≤ 1; decide) (by show 1 ≤ 4; decide), ?_⟩
  · rw [List.mem_singleton.mp hx]
    omega
  · show 0 < [v].sum
    simp
    omega
theorem flow_2 {a b : Int} (h : 0 ≤ a ∧ a ≤ 4) (k : 0 ≤ b ∧ b ≤ 4) (s : 0 < a + b) : (⟨0, [], [a, b]⟩ : Cv).Ok 0 4 ∧ 0 < (⟨0, [], [a, b]⟩ : Cv).p.sum := by
  refine ⟨flow_p (fun x hx => ?_) (by show 1 ≤ 2; decide) (by show 2 ≤ 4; decide), ?_⟩
  · simp at hx
    omega
  · show 0 < [a, b].sum
    simp
    omega
theorem sum_set_posB {l : List Int} (h : ∀ x ∈ l, 0 ≤ x) {n : Nat} (hn : n < l.length) {v : Int} (hv : 0 < v) : 0 < (l.set n v).sum := by
  induction l generalizing n with
  | nil => simp at hn
  | cons a r ih =>
    have ha := h a List.mem_cons_self
    have hr : 0 ≤ r.sum := sum_nn fun x hx => h x (List.mem_cons_of_mem _ hx)
    cases n with
    | zero =>
      rw [List.set_cons_zero, List.sum_cons]
      omega
    | succ n =>
      rw [List.set_cons_succ, List.sum_cons]
      have := ih (n := n) (fun x hx => h x (List.mem_cons_of_mem _ hx)) (by simpa using hn)
      omega
theorem ixN_inB {n : Nat} {j : Int} (h0 : 0 ≤ j) (h1 : j < n) : ∃ m, ixN n j = some m := by
  unfold ixN
  rw [if_pos h0, if_pos h1]
  exact ⟨_, rfl⟩
/-- a pair of numbers from 0 to 4, not both 0 -/
def isPair : PyData → Prop := fun d => ∃ a b : Int, d = tI [a, b] ∧ (0 ≤ a ∧ a ≤ 4) ∧ (0 ≤ b ∧ b ≤ 4) ∧ 0 < a + b
theorem y_pair {K : PySem.W.Frag} {ρ : Rho} {a b : Int} (h : (0 ≤ a ∧ a ≤ 4) ∧ (0 ≤ b ∧ b ≤ 4) ∧ 0 < a + b) : Pe K (tTup (tCons (tC (.int a)) (tCons (tC (.int b)) tNil))) ρ isPair := (yd_t2 ye_i ye_i).imp fun d e => ⟨a, b, e, h⟩

abbrev s__law_flow : Stmt := topS 23
theorem sc__law_flow : FnScope ["tape", "manner", "lead", "turn", "k"] ["tape"] (defScope s__law_flow) := ⟨rfl, rfl, rfl, by decide +kernel, rfl, by decide +kernel, by decide +kernel⟩
theorem ok__law_flow {Pg : Program} {w : World} {K : PySem.W.Frag} {mg : Str → Option Value} {base : Heap} (T : Tx w K mg) (C__law_draw : Cal Pg w K mg base 1 "_law_draw" ["tape", "many"] (spR K 2 R__law_draw)) {f : Addr} {fd : FuncData} (F : Fun K "_law_flow" "_law_flow" s__law_flow f fd) : FnOk Pg w K mg base CX0 2 f fd ["tape"] (spR K 1 R__law_flow) := by
  refine fn_ok (n := 1) F sc__law_flow rfl (by decide) (fun cdv A outer s H E hr => ⟨_, (pss_cons (ps_set (i := 1) sc__law_flow.nd rfl (Or.inl rfl) (pe_cal C__law_draw hr (pa_cons (pv 0) (pa_cons pe_int pa_nil))))
    (pss_cons (ps_if (pt_cmpR op_lt (pv 1) pe_int (nomark _)) (pss_one (ps_ret (pe_tup (pa_cons pe_int (pa_cons (pe_tup pa_nil) (pa_cons (pe_tup (pa_cons pe_int pa_nil)) pa_nil)))))) pss_nil)
    (pss_cons (ps_if (pt_cmpR (opx_eq hr) (pv 1) pe_int (nomark _)) (pss_one (ps_ret (pe_tup (pa_cons pe_int (pa_cons (pe_tup pa_nil) (pa_cons (pe_tup (pa_cons (pe_op opx_add pe_int (pe_cal C__law_draw hr (pa_cons (pv 0) (pa_cons pe_int pa_nil)))) pa_nil)) pa_nil)))))) pss_nil)
    (pss_cons (ps_if (pt_cmpR (opx_eq hr) (pv 1) pe_int (nomark _)) (pss_one (ps_ret (pe_tup (pa_cons pe_int (pa_cons (pe_tup pa_nil) (pa_cons (pe_ix ix_seq (pe_lst (pa_cons (pe_tup (pa_cons pe_int (pa_cons pe_int pa_nil))) (pa_cons (pe_tup (pa_cons pe_int (pa_cons pe_int pa_nil))) (pa_cons (pe_tup (pa_cons pe_int (pa_cons pe_int pa_nil))) (pa_cons (pe_tup (pa_cons pe_int (pa_cons pe_int pa_nil))) (pa_cons (pe_tup (pa_cons pe_int (pa_cons pe_int pa_nil))) (pa_cons (pe_tup (pa_cons pe_int (pa_cons pe_int pa_nil))) pa_nil))))))) (pe_cal C__law_draw hr (pa_cons (pv 0) (pa_cons pe_int pa_nil))) (fun _ _ => rfl)) pa_nil)))))) pss_nil)
    (pss_cons (ps_set (i := 2) sc__law_flow.nd rfl (Or.inl rfl) (pe_callTy call_tuple_of (by rfl) T.b_tuple (by decide +kernel) (pa_cons (pe_lc (own := [("k", 4)]) (g := (gName 4)) (tt := tYes) rfl sc__law_flow.nd (pi_range1 rfl T.b_range (pa_cons (pe_cal C__law_draw hr (pa_cons (pv 0) (pa_cons pe_int pa_nil))) pa_nil)) (blkOk_by (own := [("k", 4)]) (N := ["tape", "manner", "lead", "turn", "k"]) (sc := defScope s__law_flow) (by decide +kernel)) (fun _ _ _ _ _ => (pg_name (i := 4) sc__law_flow.nd rfl (Or.inl rfl))) (fun _ _ _ _ _ => pts_nil) (fun _ _ _ _ _ => (pe_ix (ix_seqK (K := K) rfl) (pe_lst (pa_cons pe_int (pa_cons pe_int (pa_cons pe_int (pa_cons pe_int (pa_cons pe_int (pa_cons pe_int pa_nil))))))) (pe_cal C__law_draw hr (pa_cons (pv 0) (pa_cons pe_int pa_nil))) (fun _ _ => rfl)))) pa_nil)))
    (pss_cons (ps_setLc (i := 3) (own := [("k", 4)]) (g := (gName 4)) (tt := tYes) rfl sc__law_flow.nd rfl rfl (sw_true rfl rfl rfl (by decide +kernel)) (pi_range1 rfl T.b_range (pa_cons (pe_op opx_add pe_int (pe_cal C__law_draw hr (pa_cons (pv 0) (pa_cons (pe_ix ix_seq (pe_lst (pa_cons pe_int (pa_cons pe_int (pa_cons pe_int pa_nil)))) (pe_op op_sub (pv 1) pe_int) (fun _ _ => rfl)) pa_nil)))) pa_nil)) (blkOk_by (own := [("k", 4)]) (N := ["tape", "manner", "lead", "turn", "k"]) (sc := defScope s__law_flow) (by decide +kernel)) (fun _ _ _ _ _ => (pg_name (i := 4) sc__law_flow.nd rfl (Or.inl rfl))) (fun _ _ _ _ _ => pts_nil) (fun _ _ _ _ _ => (pe_ix (ix_seqK (K := K) rfl) (pe_lst (pa_cons pe_int (pa_cons pe_int (pa_cons pe_int (pa_cons pe_int (pa_cons pe_int (pa_cons pe_int pa_nil))))))) (pe_cal C__law_draw hr (pa_cons (pv 0) (pa_cons pe_int pa_nil))) (fun _ _ => rfl))))
    (pss_cons (ps_if (pt_cmpR (opx_eq hr) (pe_callB (callx_sum rfl) (by rfl) T.b_sum (by decide +kernel) (pa_cons (pv 3) pa_nil)) pe_int (nomark _)) (pss_one (ps_asg (pe_op opx_add pe_int (pe_cal C__law_draw hr (pa_cons (pv 0) (pa_cons pe_int pa_nil)))) (pg_sub (pv 3) (pe_cal C__law_draw hr (pa_cons (pv 0) (pa_cons (pe_callB call_len_seq (by rfl) T.b_len (by decide +kernel) (pa_cons (pv 3) pa_nil)) pa_nil))) set_list))) pss_nil)
    (pss_one (ps_ret (pe_tup (pa_cons pe_int (pa_cons (pv 2) (pa_cons (pe_callTy call_tuple_of (by rfl) T.b_tuple (by decide +kernel) (pa_cons (pv 3) pa_nil)) pa_nil))))))))))))), ?_⟩)
  intro ss P hl hR
  obtain ⟨rfl, hP⟩ := hR
  refine wq_set (ye_draw rfl ye_i) ?_
  rintro d ⟨m, rfl, m0, m1⟩
  refine wq_when (yt_d (yd_cp (f := fun i j => decide (i < j)) (ye_v rfl) ye_i)) (fun _ => ?_) (fun e1 => ?_)
  · have h := flow_1 (v := 1) (by decide) (by decide)
    exact ws_retd (d := cvD ⟨0, [], [1]⟩) ((yd_t3 ye_i yd_t0 (yd_t1 ye_i)).to rfl) (hP _ h.1 h.2)
  have e1 := of_decide_eq_false e1.symm
  refine wq_when (yt_d (yd_eqS (x := .int m) (y := .int 3) (ye_v rfl) ye_i rfl)) (fun _ => ?_) (fun e2 => ?_)
  · refine ws_ret (P := fun d => ∃ v : Int, 1 ≤ v ∧ v ≤ 4 ∧ d = cvD ⟨0, [], [v]⟩) (ye_t3 (A := fun d => d = .int 0) (B := fun d => d = .tuple []) (C := fun d => ∃ v : Int, 1 ≤ v ∧ v ≤ 4 ∧ d = .tuple [.int v]) ye_i yd_t0 (ye_tup (PA := fun ss => ∃ v : Int, 1 ≤ v ∧ v ≤ 4 ∧ ss = [.d (.int v)]) (ya_c (ye_add (P := isI fun v => 1 ≤ v ∧ v ≤ 4) ye_i (ye_draw rfl ye_i) ?_) ya_n ?_) ?_) ?_) ?_
    · rintro x y rfl ⟨r, rfl, r0, r1⟩
      exact ⟨1, r, rfl, rfl, _, rfl, by omega, by omega⟩
    · rintro d ss ⟨v, rfl, v0, v1⟩ rfl
      exact ⟨v, v0, v1, rfl⟩
    · rintro ss ⟨v, v0, v1, rfl⟩
      exact ⟨[.int v], rfl, Nat.le_of_ble_eq_true rfl, v, v0, v1, rfl⟩
    · rintro a b c rfl rfl ⟨v, v0, v1, rfl⟩
      exact ⟨v, v0, v1, rfl⟩
    · rintro d ⟨v, v0, v1, rfl⟩
      have h := flow_1 v0 v1
      exact hP _ h.1 h.2
  have e2 : ¬ m = 3 := of_decide_eq_false e2.symm
  refine wq_when (yt_d (yd_eqS (x := .int m) (y := .int 4) (ye_v rfl) ye_i rfl)) (fun _ => ?_) (fun e3 => ?_)
  · refine ws_ret (P := fun d => ∃ a b : Int, d = cvD ⟨0, [], [a, b]⟩ ∧ (0 ≤ a ∧ a ≤ 4) ∧ (0 ≤ b ∧ b ≤ 4) ∧ 0 < a + b) (ye_t3 (A := fun d => d = .int 0) (B := fun d => d = .tuple []) (C := isPair) ye_i yd_t0 (ye_menu (n := 6) (ya_1 (y_pair (by decide)) (ya_1 (y_pair (by decide)) (ya_1 (y_pair (by decide)) (ya_1 (y_pair (by decide)) (ya_1 (y_pair (by decide)) (ya_1 (y_pair (by decide)) ya_0)))))) ((ye_draw rfl ye_i).imp fun d ⟨r, e, h1, h2⟩ => ⟨r, e, h1, by omega⟩)) ?_) ?_
    · rintro a b c rfl rfl ⟨x, y, rfl, h⟩
      exact ⟨x, y, rfl, h⟩
    · rintro d ⟨x, y, rfl, h1, h2, h3⟩
      have h := flow_2 h1 h2 h3
      exact hP _ h.1 h.2
  have e3 : ¬ m = 4 := of_decide_eq_false e3.symm
  refine wq_set (P := fun d => ∃ t : List Int, d = tI t ∧ t.length ≤ 4 ∧ ∀ x ∈ t, 0 ≤ x ∧ x ≤ 4) (ye_tupR (nl_lcI (sl := [4]) (C := fun r => 0 ≤ r ∧ r ≤ 4) (it_rD (C := fun r => 0 ≤ r ∧ r ≤ 4) (y_drd rfl ye_i fun r h1 h2 => by omega) fun r h => by omega) (fun i h => h) ?_ ?_).rl ?_) ?_
  · rintro xs ⟨n, hn, rfl⟩
    rw [rg_len]
    show _ < (16777216 : Nat)
    omega
  · rintro xs x _ _
    exact ⟨_, yg_n, ye_menu (n := 6) (ya_1 (isI_of ye_i (by decide)) (ya_1 (isI_of ye_i (by decide)) (ya_1 (isI_of ye_i (by decide)) (ya_1 (isI_of ye_i (by decide)) (ya_1 (isI_of ye_i (by decide)) (ya_1 (isI_of ye_i (by decide)) ya_0)))))) ((ye_draw rfl ye_i).imp fun d ⟨r, e, h1, h2⟩ => ⟨r, e, h1, by omega⟩)⟩
  · rintro ys ⟨xs, ns, ⟨n, hn, rfl⟩, rfl, e1, e2⟩
    rw [rg_len] at e1
    exact ⟨ns, rfl, by omega, e2⟩
  rintro d ⟨t, rfl, tl, tb⟩
  refine wq_setm (PL := fun d => ∃ p : List Int, d = p.map .int ∧ 1 ≤ p.length ∧ p.length ≤ 4 ∧ ∀ x ∈ p, 0 ≤ x ∧ x ≤ 4) ((nl_lcI (sl := [4]) (C := fun r => 0 ≤ r ∧ r ≤ 4) (it_rD (C := fun r => 1 ≤ r ∧ r ≤ 4) (ye_add (Pb := isI fun r => 0 ≤ r ∧ r ≤ 3) ye_i ((ye_drawP rfl (C := fun r => 1 ≤ r ∧ r ≤ 4) (ye_menu (n := 3) (ya_1 (isI_of ye_i (by decide)) (ya_1 (isI_of ye_i (by decide)) (ya_1 (isI_of ye_i (by decide)) ya_0))) ((yd_sub (ye_v rfl) ye_i).imp fun d e => ⟨_, e, by omega, by omega⟩)) (fun n h => by omega)).imp fun d ⟨a, r, e, h1, h2, h3⟩ => ⟨r, e, h2, by omega⟩) ?_) fun r h => by omega) (fun i h => h) ?_ ?_).imp ?_) ?_
  · rintro x y rfl ⟨r, rfl, r0, r1⟩
    exact ⟨1, r, rfl, rfl, _, rfl, by omega, by omega⟩
  · rintro xs ⟨n, hn, rfl⟩
    rw [rg_len]
    show _ < (16777216 : Nat)
    omega
  · rintro xs x _ _
    exact ⟨_, yg_n, ye_menu (n := 6) (ya_1 (isI_of ye_i (by decide)) (ya_1 (isI_of ye_i (by decide)) (ya_1 (isI_of ye_i (by decide)) (ya_1 (isI_of ye_i (by decide)) (ya_1 (isI_of ye_i (by decide)) (ya_1 (isI_of ye_i (by decide)) ya_0)))))) ((ye_draw rfl ye_i).imp fun d ⟨r, e, h1, h2⟩ => ⟨r, e, h1, by omega⟩)⟩
  · rintro ys ⟨xs, ns, ⟨n, hn, rfl⟩, rfl, e1, e2⟩
    rw [rg_len] at e1
    exact ⟨ns, rfl, by omega, by omega, e2⟩
  rintro _ ⟨p, rfl, p1, p4, pb⟩
  let B : List Int → Rho := fun p => [.tp, .d (.int m), .d (tI t), .ml (p.map .int), .no]
  refine ws_seq (fun r => ∃ p : List Int, 1 ≤ p.length ∧ p.length ≤ 4 ∧ (∀ x ∈ p, 0 ≤ x ∧ x ≤ 4) ∧ 0 < p.sum ∧ Le r (B p)) (ws_ifd (b := decide (p.sum = 0)) (yt_d ((yd_eqS (x := .int p.sum) (y := .int 0) (yd_sumR (rl_v rfl)) ye_i rfl).to rfl)) (fun e => ?_) (fun e => ?_)) ?_
  · refine ws_setiP (C := fun r => 0 ≤ r ∧ r < (p.length : Int)) (P := isI fun r => 1 ≤ r ∧ r ≤ 4) rfl (ye_add ye_i (ye_draw rfl ye_i) ?_) ?_ ?_ ?_
    · rintro x y rfl ⟨r, rfl, r0, r1⟩
      exact ⟨1, r, rfl, rfl, _, rfl, by omega, by omega⟩
    · refine (ye_draw rfl (yd_lenR (rl_v rfl)) (by rw [List.length_map]; omega)).imp ?_
      rintro d ⟨r, rfl, r0, r1⟩
      rw [List.length_map] at r1
      exact ⟨r, rfl, r0, by omega⟩
    · rintro j ⟨j0, j1⟩
      exact ixN_inB j0 (by rw [List.length_map]; exact j1)
    · rintro d n ⟨v, rfl, v0, v1⟩ hn
      rw [List.length_map] at hn
      refine ⟨p.set n v, by rw [List.length_set]; exact p1, by rw [List.length_set]; exact p4, fun x hx => ?_, sum_set_posB (fun x hx => (pb x hx).1) hn (by omega), ?_⟩
      · rcases List.mem_or_eq_of_mem_set hx with q | q
        · exact pb x q
        · omega
      · show Le _ [.tp, .d (.int m), .d (tI t), .ml ((p.set n v).map .int), .no]
        rw [List.map_set]
        exact Le.refl _
  · refine ws_next ⟨p, p1, p4, pb, ?_, Le.refl _⟩
    have e := of_decide_eq_false e
    have := sum_nn (l := p) fun x hx => (pb x hx).1
    omega
  rintro r ⟨p, p1, p4, pb, hs, le⟩
  refine Ws.le (ws_retd (yd_t3 (ye_i (i := 0)) (ye_v rfl) (yd_tupR (rl_v rfl))) (hP ⟨0, t, p⟩ ⟨Int.le_refl _, Int.le_refl _, tb, pb, tl, p4, p1⟩ hs)) le


def R__law_steady : Pr := fun ss P => ss = [.tp] ∧ ∀ c : Cv, c.Ok 0 4 → 0 < c.p.sum → c.St → P (cvD c)
theorem steady_of {t p : List Int} (h : ∀ x ∈ p, 1 ≤ x ∧ x ≤ 4) (ht : ∀ x ∈ t, 1 ≤ x ∧ x ≤ 4) (t4 : t.length ≤ 4) (l1 : 1 ≤ p.length) (l4 : p.length ≤ 4) : (⟨0, t, p⟩ : Cv).Ok 0 4 ∧ 0 < (⟨0, t, p⟩ : Cv).p.sum ∧ (⟨0, t, p⟩ : Cv).St := by
  have s : (⟨0, t, p⟩ : Cv).St := ⟨fun x hx => (ht x hx).1, fun x hx => (h x hx).1⟩
  exact ⟨⟨Int.le_refl _, Int.le_refl _, fun x hx => (by have := ht x hx; omega), fun x hx => (by have := h x hx; omega), t4, l4, l1⟩, s.sum l1, s⟩
theorem one14 {v : Int} (h : 1 ≤ v ∧ v ≤ 4) : ∀ x ∈ [v], 1 ≤ x ∧ x ≤ 4 := fun x hx => by
  rw [List.mem_singleton.mp hx]
  exact h
section
variable {K : PySem.W.Frag} {ρ : Rho} {te ta tb tc td : TE}
theorem y_one14 {i : Nat} {E : XK} (e : ρ[i]? = some .tp) : Pe K (tOp (rPlus K) (tC (.int 1)) (tCall (spR K 2 R__law_draw) [] E (tCons (tVar i) (tCons (tC (.int 4)) tNil)))) ρ (isI fun r => 1 ≤ r ∧ r ≤ 4) := by
  refine ye_add ye_i (ye_draw e ye_i) ?_
  rintro x y rfl ⟨r, rfl, r0, r1⟩
  exact ⟨1, r, rfl, rfl, _, rfl, by omega, by omega⟩
theorem y_tup1I {C : Int → Prop} (h : Pe K te ρ (isI C)) : Pe K (tTup (tCons te tNil)) ρ (fun d => ∃ v : Int, C v ∧ d = .tuple [.int v]) := by
  refine ye_tup (PA := fun ss => ∃ v : Int, C v ∧ ss = [.d (.int v)]) (ya_c h ya_n ?_) ?_
  · rintro d ss ⟨v, rfl, h⟩ rfl
    exact ⟨v, h, rfl⟩
  · rintro ss ⟨v, h, rfl⟩
    exact ⟨[.int v], rfl, Nat.le_of_ble_eq_true rfl, v, h, rfl⟩
end

abbrev s__law_steady : Stmt := topS 25
theorem sc__law_steady : FnScope ["tape", "manner", "lead", "k"] ["tape"] (defScope s__law_steady) := ⟨rfl, rfl, rfl, by decide +kernel, rfl, by decide +kernel, by decide +kernel⟩
theorem ok__law_steady {Pg : Program} {w : World} {K : PySem.W.Frag} {mg : Str → Option Value} {base : Heap} (T : Tx w K mg) (C__law_draw : Cal Pg w K mg base 1 "_law_draw" ["tape", "many"] (spR K 2 R__law_draw)) {f : Addr} {fd : FuncData} (F : Fun K "_law_steady" "_law_steady" s__law_steady f fd) : FnOk Pg w K mg base CX0 2 f fd ["tape"] (spR K 1 R__law_steady) := by
  refine fn_ok (n := 1) F sc__law_steady rfl (by decide) (fun cdv A outer s H E hr => ⟨_, (pss_cons (ps_set (i := 1) sc__law_steady.nd rfl (Or.inl rfl) (pe_cal C__law_draw hr (pa_cons (pv 0) (pa_cons pe_int pa_nil))))
    (pss_cons (ps_if (pt_cmpR op_lt (pv 1) pe_int (nomark _)) (pss_one (ps_ret (pe_tup (pa_cons pe_int (pa_cons (pe_tup pa_nil) (pa_cons (pe_tup (pa_cons pe_int pa_nil)) pa_nil)))))) pss_nil)
    (pss_cons (ps_if (pt_cmpR (opx_eq hr) (pv 1) pe_int (nomark _)) (pss_one (ps_ret (pe_tup (pa_cons pe_int (pa_cons (pe_tup pa_nil) (pa_cons (pe_tup (pa_cons (pe_op opx_add pe_int (pe_cal C__law_draw hr (pa_cons (pv 0) (pa_cons pe_int pa_nil)))) pa_nil)) pa_nil)))))) pss_nil)
    (pss_cons (ps_if (pt_cmpR (opx_eq hr) (pv 1) pe_int (nomark _)) (pss_one (ps_ret (pe_tup (pa_cons pe_int (pa_cons (pe_tup (pa_cons (pe_op opx_add pe_int (pe_cal C__law_draw hr (pa_cons (pv 0) (pa_cons pe_int pa_nil)))) pa_nil)) (pa_cons (pe_tup (pa_cons pe_int pa_nil)) pa_nil)))))) pss_nil)
    (pss_cons (ps_set (i := 2) sc__law_steady.nd rfl (Or.inl rfl) (pe_callTy call_tuple_of (by rfl) T.b_tuple (by decide +kernel) (pa_cons (pe_lc (own := [("k", 3)]) (g := (gName 3)) (tt := tYes) rfl sc__law_steady.nd (pi_range1 rfl T.b_range (pa_cons (pe_cal C__law_draw hr (pa_cons (pv 0) (pa_cons (pe_ix ix_seq (pe_lst (pa_cons pe_int (pa_cons pe_int (pa_cons pe_int pa_nil)))) (pe_op op_sub (pv 1) pe_int) (fun _ _ => rfl)) pa_nil))) pa_nil)) (blkOk_by (own := [("k", 3)]) (N := ["tape", "manner", "lead", "k"]) (sc := defScope s__law_steady) (by decide +kernel)) (fun _ _ _ _ _ => (pg_name (i := 3) sc__law_steady.nd rfl (Or.inl rfl))) (fun _ _ _ _ _ => pts_nil) (fun _ _ _ _ _ => (pe_op (opx_addK (K := K) rfl) pe_int (pe_cal C__law_draw hr (pa_cons (pv 0) (pa_cons pe_int pa_nil)))))) pa_nil)))
    (pss_one (ps_ret (pe_tup (pa_cons pe_int (pa_cons (pv 2) (pa_cons (pe_callTy call_tuple_of (by rfl) T.b_tuple (by decide +kernel) (pa_cons (pe_lc (own := [("k", 3)]) (g := (gName 3)) (tt := tYes) rfl sc__law_steady.nd (pi_range1 rfl T.b_range (pa_cons (pe_op opx_add pe_int (pe_cal C__law_draw hr (pa_cons (pv 0) (pa_cons (pe_ix ix_seq (pe_lst (pa_cons pe_int (pa_cons pe_int (pa_cons pe_int pa_nil)))) (pe_op op_sub (pv 1) pe_int) (fun _ _ => rfl)) pa_nil)))) pa_nil)) (blkOk_by (own := [("k", 3)]) (N := ["tape", "manner", "lead", "k"]) (sc := defScope s__law_steady) (by decide +kernel)) (fun _ _ _ _ _ => (pg_name (i := 3) sc__law_steady.nd rfl (Or.inl rfl))) (fun _ _ _ _ _ => pts_nil) (fun _ _ _ _ _ => (pe_op (opx_addK (K := K) rfl) pe_int (pe_cal C__law_draw hr (pa_cons (pv 0) (pa_cons pe_int pa_nil)))))) pa_nil)) pa_nil))))))))))), ?_⟩)
  intro ss P hl hR
  obtain ⟨rfl, hP⟩ := hR
  refine wq_set (ye_draw rfl ye_i) ?_
  rintro d ⟨m, rfl, m0, m1⟩
  refine wq_when (yt_d (yd_cp (f := fun i j => decide (i < j)) (ye_v rfl) ye_i)) (fun _ => ?_) (fun e1 => ?_)
  · have h := steady_of (t := []) (one14 (v := 1) (by decide)) (fun x hx => (by cases hx)) (by decide) (by decide) (by decide)
    exact ws_retd (d := cvD ⟨0, [], [1]⟩) ((yd_t3 ye_i yd_t0 (yd_t1 ye_i)).to rfl) (hP _ h.1 h.2.1 h.2.2)
  have e1 := of_decide_eq_false e1.symm
  refine wq_when (yt_d (yd_eqS (x := .int m) (y := .int 3) (ye_v rfl) ye_i rfl)) (fun _ => ?_) (fun e2 => ?_)
  · refine ws_ret (P := fun d => ∃ v : Int, (1 ≤ v ∧ v ≤ 4) ∧ d = cvD ⟨0, [], [v]⟩) (ye_t3 (A := fun d => d = .int 0) (B := fun d => d = .tuple []) ye_i yd_t0 (y_tup1I (y_one14 rfl)) ?_) ?_
    · rintro a b c rfl rfl ⟨v, h, rfl⟩
      exact ⟨v, h, rfl⟩
    · rintro d ⟨v, h, rfl⟩
      have h := steady_of (t := []) (one14 h) (fun x hx => (by cases hx)) (by decide) (show 1 ≤ 1 by decide) (show 1 ≤ 4 by decide)
      exact hP _ h.1 h.2.1 h.2.2
  have e2 : ¬ m = 3 := of_decide_eq_false e2.symm
  refine wq_when (yt_d (yd_eqS (x := .int m) (y := .int 4) (ye_v rfl) ye_i rfl)) (fun _ => ?_) (fun e3 => ?_)
  · refine ws_ret (P := fun d => ∃ v : Int, (1 ≤ v ∧ v ≤ 4) ∧ d = cvD ⟨0, [v], [1]⟩) (ye_t3 (A := fun d => d = .int 0) (C := fun d => d = .tuple [.int 1]) ye_i (y_tup1I (y_one14 rfl)) (yd_t1 ye_i) ?_) ?_
    · rintro a b c rfl ⟨v, h, rfl⟩ rfl
      exact ⟨v, h, rfl⟩
    · rintro d ⟨v, h, rfl⟩
      have h := steady_of (one14 (v := 1) (by decide)) (one14 h) (show 1 ≤ 4 by decide) (by decide) (by decide)
      exact hP _ h.1 h.2.1 h.2.2
  have e3 : ¬ m = 4 := of_decide_eq_false e3.symm
  refine wq_set (P := fun d => ∃ t : List Int, d = tI t ∧ t.length ≤ 4 ∧ ∀ x ∈ t, 1 ≤ x ∧ x ≤ 4) (ye_tupR (nl_lcI (sl := [3]) (C := fun r => 1 ≤ r ∧ r ≤ 4) (it_rD (C := fun r => 0 ≤ r ∧ r ≤ 4) ((ye_drawP rfl (C := fun r => 1 ≤ r ∧ r ≤ 5) (ye_menu (n := 3) (ya_1 (isI_of ye_i (by decide)) (ya_1 (isI_of ye_i (by decide)) (ya_1 (isI_of ye_i (by decide)) ya_0))) ((yd_sub (ye_v rfl) ye_i).imp fun d e => ⟨_, e, by omega, by omega⟩)) (fun n h => by omega)).imp fun d ⟨a, r, e, h1, h2, h3⟩ => ⟨r, e, h2, by omega⟩) fun r h => by omega) (fun i h => h) ?_ ?_).rl ?_) ?_
  · rintro xs ⟨n, hn, rfl⟩
    rw [rg_len]
    show _ < (16777216 : Nat)
    omega
  · rintro xs x _ _
    exact ⟨_, yg_n, y_one14 rfl⟩
  · rintro ys ⟨xs, ns, ⟨n, hn, rfl⟩, rfl, e1, e2⟩
    rw [rg_len] at e1
    exact ⟨ns, rfl, by omega, e2⟩
  rintro d ⟨t, rfl, tl, tb⟩
  refine ws_ret (P := fun d => ∃ p : List Int, d = cvD ⟨0, t, p⟩ ∧ 1 ≤ p.length ∧ p.length ≤ 4 ∧ ∀ x ∈ p, 1 ≤ x ∧ x ≤ 4) (ye_t3 (A := fun d => d = .int 0) (B := fun d => d = tI t) (C := fun d => ∃ p : List Int, d = tI p ∧ 1 ≤ p.length ∧ p.length ≤ 4 ∧ ∀ x ∈ p, 1 ≤ x ∧ x ≤ 4) ye_i (ye_v rfl) (ye_tupR (nl_lcI (sl := [3]) (C := fun r => 1 ≤ r ∧ r ≤ 4) (it_rD (C := fun r => 1 ≤ r ∧ r ≤ 4) (ye_add (Pb := isI fun r => 0 ≤ r ∧ r ≤ 3) ye_i ((ye_drawP rfl (C := fun r => 1 ≤ r ∧ r ≤ 4) (ye_menu (n := 3) (ya_1 (isI_of ye_i (by decide)) (ya_1 (isI_of ye_i (by decide)) (ya_1 (isI_of ye_i (by decide)) ya_0))) ((yd_sub (ye_v rfl) ye_i).imp fun d e => ⟨_, e, by omega, by omega⟩)) (fun n h => by omega)).imp fun d ⟨a, r, e, h1, h2, h3⟩ => ⟨r, e, h2, by omega⟩) ?_) fun r h => by omega) (fun i h => h) ?_ ?_).rl ?_) ?_) ?_
  · rintro x y rfl ⟨r, rfl, r0, r1⟩
    exact ⟨1, r, rfl, rfl, _, rfl, by omega, by omega⟩
  · rintro xs ⟨n, hn, rfl⟩
    rw [rg_len]
    show _ < (16777216 : Nat)
    omega
  · rintro xs x _ _
    exact ⟨_, yg_n, y_one14 rfl⟩
  · rintro ys ⟨xs, ns, ⟨n, hn, rfl⟩, rfl, e1, e2⟩
    rw [rg_len] at e1
    exact ⟨ns, rfl, by omega, by omega, e2⟩
  · rintro a b c rfl rfl ⟨p, rfl, h⟩
    exact ⟨p, rfl, h⟩
  · rintro d ⟨p, rfl, l1, l4, h⟩
    have h := steady_of h tb tl l1 l4
    exact hP _ h.1 h.2.1 h.2.2


def R__law_curve : Pr := fun ss P => ∃ m : Int, ss = [.tp, .d (.int m)] ∧ ∀ c : Cv, c.Ok 0 4 → 0 < c.p.sum → (m = 2 → c.St) → P (cvD c)
def isFlow : PyData → Prop := fun d => ∃ c : Cv, d = cvD c ∧ c.Ok 0 4 ∧ 0 < c.p.sum
theorem isFlow_of {t p : List Int} (h : ∀ x ∈ p, 0 ≤ x ∧ x ≤ 4) (ht : ∀ x ∈ t, 0 ≤ x ∧ x ≤ 4) (t4 : t.length ≤ 4) (l1 : 1 ≤ p.length) (l4 : p.length ≤ 4) (s : 0 < p.sum) : isFlow (cvD ⟨0, t, p⟩) := ⟨_, rfl, ⟨Int.le_refl _, Int.le_refl _, ht, h, t4, l4, l1⟩, s⟩
theorem y_fl {K : PySem.W.Frag} {ρ : Rho} {te : TE} {t p : List Int} (h : Pd K te ρ (.tuple [.int 0, tI t, tI p])) (hh : (∀ x ∈ p, 0 ≤ x ∧ x ≤ 4) ∧ (∀ x ∈ t, 0 ≤ x ∧ x ≤ 4) ∧ t.length ≤ 4 ∧ 1 ≤ p.length ∧ p.length ≤ 4 ∧ 0 < p.sum) : Pe K te ρ isFlow := h.imp fun d e => e ▸ isFlow_of hh.1 hh.2.1 hh.2.2.1 hh.2.2.2.1 hh.2.2.2.2.1 hh.2.2.2.2.2

abbrev s__law_curve : Stmt := topS 26
theorem sc__law_curve : FnScope ["tape", "manner", "kind", "small"] ["tape", "manner"] (defScope s__law_curve) := ⟨rfl, rfl, rfl, by decide +kernel, rfl, by decide +kernel, by decide +kernel⟩
theorem ok__law_curve {Pg : Program} {w : World} {K : PySem.W.Frag} {mg : Str → Option Value} {base : Heap} (T : Tx w K mg) (C__law_flow : Cal Pg w K mg base 2 "_law_flow" ["tape"] (spR K 1 R__law_flow)) (C__law_steady : Cal Pg w K mg base 2 "_law_steady" ["tape"] (spR K 1 R__law_steady)) (C__law_draw : Cal Pg w K mg base 1 "_law_draw" ["tape", "many"] (spR K 2 R__law_draw)) {f : Addr} {fd : FuncData} (F : Fun K "_law_curve" "_law_curve" s__law_curve f fd) : FnOk Pg w K mg base CX0 3 f fd ["tape", "manner"] (spR K 2 R__law_curve) := by
  refine fn_ok (n := 2) F sc__law_curve rfl (by decide) (fun cdv A outer s H E hr => ⟨_, (pss_cons (ps_if (pt_cmpR (opx_eq hr) (pv 1) pe_int (nomark _)) (pss_one (ps_ret (pe_cal C__law_flow hr (pa_cons (pv 0) pa_nil)))) pss_nil)
    (pss_cons (ps_if (pt_cmpR (opx_eq hr) (pv 1) pe_int (nomark _)) (pss_one (ps_ret (pe_cal C__law_steady hr (pa_cons (pv 0) pa_nil)))) pss_nil)
    (pss_cons (ps_set (i := 2) sc__law_curve.nd rfl (Or.inl rfl) (pe_cal C__law_draw hr (pa_cons (pv 0) (pa_cons pe_int pa_nil))))
    (pss_cons (ps_if (pt_cmpR (opx_eq hr) (pv 2) pe_int (nomark _)) (pss_one (ps_ret (pe_cal C__law_flow hr (pa_cons (pv 0) pa_nil)))) pss_nil)
    (pss_cons (ps_set (i := 3) sc__law_curve.nd rfl (Or.inl rfl) (pe_lst (pa_cons (pe_tup (pa_cons pe_int (pa_cons (pe_tup pa_nil) (pa_cons (pe_tup (pa_cons pe_int pa_nil)) pa_nil)))) (pa_cons (pe_tup (pa_cons pe_int (pa_cons (pe_tup pa_nil) (pa_cons (pe_tup (pa_cons pe_int pa_nil)) pa_nil)))) (pa_cons (pe_tup (pa_cons pe_int (pa_cons (pe_tup pa_nil) (pa_cons (pe_tup (pa_cons pe_int (pa_cons pe_int pa_nil))) pa_nil)))) (pa_cons (pe_tup (pa_cons pe_int (pa_cons (pe_tup (pa_cons pe_int pa_nil)) (pa_cons (pe_tup (pa_cons pe_int pa_nil)) pa_nil)))) (pa_cons (pe_tup (pa_cons pe_int (pa_cons (pe_tup (pa_cons pe_int pa_nil)) (pa_cons (pe_tup (pa_cons pe_int pa_nil)) pa_nil)))) (pa_cons (pe_tup (pa_cons pe_int (pa_cons (pe_tup pa_nil) (pa_cons (pe_tup (pa_cons pe_int (pa_cons pe_int pa_nil))) pa_nil)))) pa_nil))))))))
    (pss_one (ps_ret (pe_ix ix_seq (pv 3) (pe_callB (callx_max rfl) (by rfl) T.b_max (by decide +kernel) (pa_cons (pe_op op_sub (pv 2) pe_int) (pa_cons pe_int pa_nil))) (fun _ _ => rfl))))))))), ?_⟩)
  intro ss P hl hR
  obtain ⟨m, rfl, hP⟩ := hR
  refine wq_when (yt_d (yd_eqS (x := .int m) (y := .int 1) (ye_v rfl) ye_i rfl)) (fun e => ?_) (fun _ => ?_)
  · have e : m = 1 := of_decide_eq_true e.symm
    exact ws_ret (ye_cl (P := P) (ya_td rfl ya_n) rfl ⟨rfl, fun c h1 h2 => hP c h1 h2 fun z => by omega⟩) fun d h => h
  refine wq_when (yt_d (yd_eqS (x := .int m) (y := .int 2) (ye_v rfl) ye_i rfl)) (fun _ => ?_) (fun e => ?_)
  · exact ws_ret (ye_cl (P := P) (ya_td rfl ya_n) rfl ⟨rfl, fun c h1 h2 h3 => hP c h1 h2 fun _ => h3⟩) fun d h => h
  have e : ¬ m = 2 := of_decide_eq_false e.symm
  refine wq_set (ye_draw rfl ye_i) ?_
  rintro d ⟨k, rfl, k0, k1⟩
  refine wq_when (yt_d (yd_eqS (x := .int k) (y := .int 0) (ye_v rfl) ye_i rfl)) (fun _ => ?_) (fun _ => ?_)
  · exact ws_ret (ye_cl (P := P) (ya_td rfl ya_n) rfl ⟨rfl, fun c h1 h2 => hP c h1 h2 fun z => absurd z e⟩) fun d h => h
  refine wq_setm (nl_all (n := 6) (Q := isFlow) (ya_1 (y_fl (t := []) (p := [1]) (yd_t3 ye_i yd_t0 (yd_t1 ye_i)) (by decide)) (ya_1 (y_fl (t := []) (p := [2]) (yd_t3 ye_i yd_t0 (yd_t1 ye_i)) (by decide)) (ya_1 (y_fl (t := []) (p := [1, 0]) (yd_t3 ye_i yd_t0 (yd_t2 ye_i ye_i)) (by decide)) (ya_1 (y_fl (t := [0]) (p := [1]) (yd_t3 ye_i (yd_t1 ye_i) (yd_t1 ye_i)) (by decide)) (ya_1 (y_fl (t := [2]) (p := [1]) (yd_t3 ye_i (yd_t1 ye_i) (yd_t1 ye_i)) (by decide)) (ya_1 (y_fl (t := []) (p := [0, 2]) (yd_t3 ye_i yd_t0 (yd_t2 ye_i ye_i)) (by decide)) ya_0))))))) ?_
  rintro xs ⟨hl, hx⟩
  refine ws_ret (P := isFlow) (ye_ixR (PL := fun ys => ys = xs) (rl_v rfl) (yd_max2 (yd_sub (ye_v rfl) ye_i) ye_i) ?_) ?_
  · rintro ys y rfl rfl
    obtain ⟨j, hj, ej⟩ : ∃ j : Nat, j < 6 ∧ max (k - 4) 0 = (j : Int) := ⟨(max (k - 4) 0).toNat, by omega, by omega⟩
    have hj2 : j < ys.length := by omega
    exact ⟨_, _, rfl, by rw [ej]; exact atI_nat (List.getElem?_eq_getElem hj2), hx _ (List.getElem_mem hj2)⟩
  · rintro d ⟨c, rfl, h1, h2⟩
    exact hP c h1 h2 fun z => absurd z e


def R__law_feed : Pr := fun ss P => ∃ b m : Int, ss = [.tp, .d (.int b), .d (.int m)] ∧ ∀ f : Fe, f.Ok → f.b = b → (f.u = true → f.c.Ok 0 1) → (m = 2 → f.u = false → f.c.St) → P (feD f)

abbrev s__law_feed : Stmt := topS 27
theorem sc__law_feed : FnScope ["tape", "buffer", "manner", "stock"] ["tape", "buffer", "manner"] (defScope s__law_feed) := ⟨rfl, rfl, rfl, by decide +kernel, rfl, by decide +kernel, by decide +kernel⟩
theorem ok__law_feed {Pg : Program} {w : World} {K : PySem.W.Frag} {mg : Str → Option Value} {base : Heap} (T : Tx w K mg) (C__law_draw : Cal Pg w K mg base 1 "_law_draw" ["tape", "many"] (spR K 2 R__law_draw)) (C__law_tool : Cal Pg w K mg base 2 "_law_tool" ["tape"] (spR K 1 R__law_tool)) (C__law_curve : Cal Pg w K mg base 3 "_law_curve" ["tape", "manner"] (spR K 2 R__law_curve)) {f : Addr} {fd : FuncData} (F : Fun K "_law_feed" "_law_feed" s__law_feed f fd) : FnOk Pg w K mg base CX0 4 f fd ["tape", "buffer", "manner"] (spR K 3 R__law_feed) := by
  refine fn_ok (n := 3) F sc__law_feed rfl (by decide) (fun cdv A outer s H E hr => ⟨_, (pss_cons (ps_set (i := 3) sc__law_feed.nd rfl (Or.inl rfl) (pe_ix ix_seq (pe_lst (pa_cons pe_int (pa_cons pe_int (pa_cons pe_int (pa_cons pe_int (pa_cons pe_int (pa_cons pe_int (pa_cons pe_int pa_nil)))))))) (pe_cal C__law_draw hr (pa_cons (pv 0) (pa_cons pe_int pa_nil))) (fun _ _ => rfl)))
    (pss_cons (ps_if (pt_cmpR (opx_eq hr) (pe_cal C__law_draw hr (pa_cons (pv 0) (pa_cons pe_int pa_nil))) pe_int (nomark _)) (pss_one (ps_ret (pe_tup (pa_cons (pv 1) (pa_cons (pe_cal C__law_tool hr (pa_cons (pv 0) pa_nil)) (pa_cons (pv 3) (pa_cons pe_bl pa_nil))))))) pss_nil)
    (pss_one (ps_ret (pe_tup (pa_cons (pv 1) (pa_cons (pe_cal C__law_curve hr (pa_cons (pv 0) (pa_cons (pv 2) pa_nil))) (pa_cons (pv 3) (pa_cons pe_bl pa_nil))))))))), ?_⟩)
  intro ss P hl hR
  obtain ⟨b, m, rfl, hP⟩ := hR
  refine wq_set (P := isI fun r => 0 ≤ r ∧ r ≤ 4) (ye_menu (Q := isI fun r => 0 ≤ r ∧ r ≤ 4) (n := 7) (ya_1 (isI_of ye_i (by decide)) (ya_1 (isI_of ye_i (by decide)) (ya_1 (isI_of ye_i (by decide)) (ya_1 (isI_of ye_i (by decide)) (ya_1 (isI_of ye_i (by decide)) (ya_1 (isI_of ye_i (by decide)) (ya_1 (isI_of ye_i (by decide)) ya_0)))))))
    ((ye_draw rfl ye_i).imp fun d ⟨r, e, h1, h2⟩ => ⟨r, e, h1, by omega⟩)) ?_
  rintro d ⟨s, rfl, s0, s1⟩
  refine wq_when (yt_v (ye_imp0 (ye_draw rfl ye_i)) fun x ⟨b, e⟩ => ⟨b, e, trivial⟩) (fun _ => ?_) (fun _ => ?_)
  · refine ws_ret (P := fun d => ∃ f : Fe, f.Ok ∧ f.b = b ∧ d = feD f ∧ f.u = true ∧ f.c.Ok 0 1) (ye_t4 (A := fun d => d = .int b) (B := fun d => ∃ c : Cv, d = cvD c ∧ c.Ok 0 1 ∧ 0 < c.p.sum) (C := fun d => d = .int s) (D := fun d => d = .bool true) (ye_v rfl) (ye_cl (ya_td rfl ya_n) rfl ⟨rfl, fun c h h2 => ⟨c, rfl, h, h2⟩⟩) (ye_v rfl) ye_b ?_) ?_
    · rintro _ _ _ _ rfl ⟨c, rfl, hc, hs⟩ rfl rfl
      exact ⟨⟨b, c, s, true⟩, ⟨hc.wide (by decide) (by decide), hs, s0, s1⟩, rfl, rfl, rfl, hc⟩
    · rintro d ⟨f, hf, e, rfl, u, h1⟩
      exact hP f hf e (fun _ => h1) fun _ z => by rw [u] at z; cases z
  · refine ws_ret (P := fun d => ∃ f : Fe, f.Ok ∧ f.b = b ∧ d = feD f ∧ f.u = false ∧ (m = 2 → f.c.St)) (ye_t4 (A := fun d => d = .int b) (B := fun d => ∃ c : Cv, d = cvD c ∧ c.Ok 0 4 ∧ 0 < c.p.sum ∧ (m = 2 → c.St)) (C := fun d => d = .int s) (D := fun d => d = .bool false) (ye_v rfl) (ye_cl (ya_td rfl (ya_d (ye_v rfl) ya_n)) rfl ⟨m, rfl, fun c h h2 h3 => ⟨c, rfl, h, h2, h3⟩⟩) (ye_v rfl) ye_b ?_) ?_
    · rintro _ _ _ _ rfl ⟨c, rfl, hc, hs, h3⟩ rfl rfl
      exact ⟨⟨b, c, s, false⟩, ⟨hc, hs, s0, s1⟩, rfl, rfl, rfl, h3⟩
    · rintro d ⟨f, hf, e, rfl, u, h3⟩
      exact hP f hf e (fun z => by rw [u] at z; cases z) fun z _ => h3 z


def R__law_stage : Pr := fun ss P => ∃ (fs : List Fe) (os : List Ou), ss = [.tp, .d (.list (fs.map feD)), .d (.list (os.map ouD))] ∧ fs.length ≤ 3 ∧ os.length ≤ 3 ∧
  ∀ g : Sg, g.fs = fs → g.os = os → g.Rst → P (sgD g)
def isWeek : PyData → Prop := fun d => ∃ c : Cv, d = cvD c ∧ c.Ok 0 1 ∧ 0 < c.p.sum
theorem isWeek_of {t p : List Int} (h : (∀ x ∈ p, 0 ≤ x ∧ x ≤ 1) ∧ (∀ x ∈ t, 0 ≤ x ∧ x ≤ 1) ∧ t.length ≤ 4 ∧ 1 ≤ p.length ∧ p.length ≤ 4 ∧ 0 < p.sum) : isWeek (cvD ⟨0, t, p⟩) := ⟨_, rfl, ⟨Int.le_refl _, Int.le_refl _, h.2.1, h.1, h.2.2.1, h.2.2.2.2.1, h.2.2.2.1⟩, h.2.2.2.2.2⟩
theorem y_week {K : PySem.W.Frag} {ρ : Rho} {te : TE} {t p : List Int} (h : Pd K te ρ (.tuple [.int 0, tI t, tI p])) (hh : (∀ x ∈ p, 0 ≤ x ∧ x ≤ 1) ∧ (∀ x ∈ t, 0 ≤ x ∧ x ≤ 1) ∧ t.length ≤ 4 ∧ 1 ≤ p.length ∧ p.length ≤ 4 ∧ 0 < p.sum) : Pe K te ρ isWeek := h.imp fun d e => e ▸ isWeek_of hh

abbrev s__law_stage : Stmt := topS 28
theorem sc__law_stage : FnScope ["tape", "feeds", "outputs", "price", "span", "week"] ["tape", "feeds", "outputs"] (defScope s__law_stage) := ⟨rfl, rfl, rfl, by decide +kernel, rfl, by decide +kernel, by decide +kernel⟩
theorem ok__law_stage {Pg : Program} {w : World} {K : PySem.W.Frag} {mg : Str → Option Value} {base : Heap} (T : Tx w K mg) (C__law_draw : Cal Pg w K mg base 1 "_law_draw" ["tape", "many"] (spR K 2 R__law_draw)) {f : Addr} {fd : FuncData} (F : Fun K "_law_stage" "_law_stage" s__law_stage f fd) : FnOk Pg w K mg base CX0 2 f fd ["tape", "feeds", "outputs"] (spR K 3 R__law_stage) := by
  refine fn_ok (n := 3) F sc__law_stage rfl (by decide) (fun cdv A outer s H E hr => ⟨_, (pss_cons (ps_set (i := 3) sc__law_stage.nd rfl (Or.inl rfl) (pe_tup (pa_cons pe_int (pa_cons (pe_tup pa_nil) (pa_cons (pe_tup (pa_cons (pe_cal C__law_draw hr (pa_cons (pv 0) (pa_cons pe_int pa_nil))) pa_nil)) pa_nil)))))
    (pss_cons (ps_set (i := 4) sc__law_stage.nd rfl (Or.inl rfl) (pe_tup (pa_cons pe_int (pa_cons (pe_tup pa_nil) (pa_cons (pe_tup (pa_cons (pe_cal C__law_draw hr (pa_cons (pv 0) (pa_cons pe_int pa_nil))) pa_nil)) pa_nil)))))
    (pss_cons (ps_set (i := 5) sc__law_stage.nd rfl (Or.inl rfl) (pe_ix ix_seq (pe_lst (pa_cons (pe_tup (pa_cons pe_int (pa_cons (pe_tup pa_nil) (pa_cons (pe_tup (pa_cons pe_int pa_nil)) pa_nil)))) (pa_cons (pe_tup (pa_cons pe_int (pa_cons (pe_tup pa_nil) (pa_cons (pe_tup (pa_cons pe_int (pa_cons pe_int pa_nil))) pa_nil)))) (pa_cons (pe_tup (pa_cons pe_int (pa_cons (pe_tup (pa_cons pe_int pa_nil)) (pa_cons (pe_tup (pa_cons pe_int (pa_cons pe_int (pa_cons pe_int pa_nil)))) pa_nil)))) pa_nil)))) (pe_cal C__law_draw hr (pa_cons (pv 0) (pa_cons pe_int pa_nil))) (fun _ _ => rfl)))
    (pss_one (ps_ret (pe_tup (pa_cons (pe_callTy call_tuple_of (by rfl) T.b_tuple (by decide +kernel) (pa_cons (pv 1) pa_nil)) (pa_cons (pe_callTy call_tuple_of (by rfl) T.b_tuple (by decide +kernel) (pa_cons (pv 2) pa_nil)) (pa_cons (pv 3) (pa_cons (pv 4) (pa_cons (pe_op opx_add pe_int (pe_cal C__law_draw hr (pa_cons (pv 0) (pa_cons pe_int pa_nil)))) (pa_cons (pv 5) pa_nil)))))))))))), ?_⟩)
  intro ss P hl hR
  obtain ⟨fs, os, rfl, f3, o3, hP⟩ := hR
  let pc : PyData → Prop := fun d => ∃ v : Int, (0 ≤ v ∧ v ≤ 20) ∧ d = cvD ⟨0, [], [v]⟩
  refine wq_set (P := pc) (ye_t3 (A := fun d => d = .int 0) (B := fun d => d = .tuple []) (C := fun d => ∃ v : Int, (0 ≤ v ∧ v ≤ 20) ∧ d = .tuple [.int v]) ye_i yd_t0 (ye_tup (PA := fun ss => ∃ v : Int, (0 ≤ v ∧ v ≤ 20) ∧ ss = [.d (.int v)]) (ya_c (ye_draw rfl ye_i) ya_n ?_) ?_) ?_) ?_
  · rintro d ss ⟨v, rfl, v0, v1⟩ rfl
    exact ⟨v, by omega, rfl⟩
  · rintro ss ⟨v, h, rfl⟩
    exact ⟨[.int v], rfl, Nat.le_of_ble_eq_true rfl, v, h, rfl⟩
  · rintro a b c rfl rfl ⟨v, h, rfl⟩
    exact ⟨v, h, rfl⟩
  rintro _ ⟨p, p0, rfl⟩
  let sc : PyData → Prop := fun d => ∃ v : Int, (0 ≤ v ∧ v ≤ 5) ∧ d = cvD ⟨0, [], [v]⟩
  refine wq_set (P := sc) (ye_t3 (A := fun d => d = .int 0) (B := fun d => d = .tuple []) (C := fun d => ∃ v : Int, (0 ≤ v ∧ v ≤ 5) ∧ d = .tuple [.int v]) ye_i yd_t0 (ye_tup (PA := fun ss => ∃ v : Int, (0 ≤ v ∧ v ≤ 5) ∧ ss = [.d (.int v)]) (ya_c (ye_draw rfl ye_i) ya_n ?_) ?_) ?_) ?_
  · rintro d ss ⟨v, rfl, v0, v1⟩ rfl
    exact ⟨v, by omega, rfl⟩
  · rintro ss ⟨v, h, rfl⟩
    exact ⟨[.int v], rfl, Nat.le_of_ble_eq_true rfl, v, h, rfl⟩
  · rintro a b c rfl rfl ⟨v, h, rfl⟩
    exact ⟨v, h, rfl⟩
  rintro _ ⟨s, s0, rfl⟩
  refine wq_set (P := isWeek) (ye_menu (n := 3) (Q := isWeek) (ya_1 (y_week (t := []) (p := [1]) (yd_t3 ye_i yd_t0 (yd_t1 ye_i)) (by decide)) (ya_1 (y_week (t := []) (p := [1, 0]) (yd_t3 ye_i yd_t0 (yd_t2 ye_i ye_i)) (by decide)) (ya_1 (y_week (t := [0]) (p := [1, 1, 0]) (yd_t3 ye_i (yd_t1 ye_i) (yd_t3 ye_i ye_i ye_i)) (by decide)) ya_0))) ((ye_draw rfl ye_i).imp fun d ⟨r, e, h1, h2⟩ => ⟨r, e, h1, by omega⟩)) ?_
  rintro _ ⟨w, rfl, wk, ws⟩
  refine ws_ret (P := fun d => ∃ n : Int, (1 ≤ n ∧ n ≤ 3) ∧ d = sgD ⟨fs, os, ⟨0, [], [p]⟩, ⟨0, [], [s]⟩, n, w⟩) (ye_tup (PA := fun ss => ∃ n : Int, (1 ≤ n ∧ n ≤ 3) ∧ ss = [.d (.tuple (fs.map feD)), .d (.tuple (os.map ouD)), .d (cvD ⟨0, [], [p]⟩), .d (cvD ⟨0, [], [s]⟩), .d (.int n), .d (cvD w)]) (ya_c (P := fun d => d = .tuple (fs.map feD)) (PA := fun ss => ∃ n : Int, (1 ≤ n ∧ n ≤ 3) ∧ ss = [.d (.tuple (os.map ouD)), .d (cvD ⟨0, [], [p]⟩), .d (cvD ⟨0, [], [s]⟩), .d (.int n), .d (cvD w)]) (yd_tupR (rl_of (ye_v rfl))) (ya_c (P := fun d => d = .tuple (os.map ouD)) (PA := fun ss => ∃ n : Int, (1 ≤ n ∧ n ≤ 3) ∧ ss = [.d (cvD ⟨0, [], [p]⟩), .d (cvD ⟨0, [], [s]⟩), .d (.int n), .d (cvD w)]) (yd_tupR (rl_of (ye_v rfl))) (ya_c (PA := fun ss => ∃ n : Int, (1 ≤ n ∧ n ≤ 3) ∧ ss = [.d (cvD ⟨0, [], [s]⟩), .d (.int n), .d (cvD w)]) (ye_v rfl) (ya_c (PA := fun ss => ∃ n : Int, (1 ≤ n ∧ n ≤ 3) ∧ ss = [.d (.int n), .d (cvD w)]) (ye_v rfl) (ya_c (P := isI fun n => 1 ≤ n ∧ n ≤ 3) (ye_add ye_i (ye_draw rfl ye_i) ?_) (ya_d (ye_v rfl) ya_n) ?_) ?_) ?_) ?_) ?_) ?_) ?_
  · rintro x y rfl ⟨r, rfl, r0, r1⟩
    exact ⟨1, r, rfl, rfl, _, rfl, by omega, by omega⟩
  · rintro d ss ⟨n, rfl, h⟩ rfl
    exact ⟨n, h, rfl⟩
  · rintro d ss rfl ⟨n, h, rfl⟩
    exact ⟨n, h, rfl⟩
  · rintro d ss rfl ⟨n, h, rfl⟩
    exact ⟨n, h, rfl⟩
  · rintro d ss rfl ⟨n, h, rfl⟩
    exact ⟨n, h, rfl⟩
  · rintro d ss rfl ⟨n, h, rfl⟩
    exact ⟨n, h, rfl⟩
  · rintro ss ⟨n, h, rfl⟩
    exact ⟨[_, _, _, _, _, _], rfl, Nat.le_of_ble_eq_true rfl, n, h, rfl⟩
  · rintro d ⟨n, h, rfl⟩
    exact hP _ rfl rfl ⟨⟨p, rfl, p0⟩, ⟨s, rfl, s0⟩, h.1, h.2, wk, ws⟩


def R__law_plant : Pr := fun ss P => ∃ a b c d m : Int, ss = [.tp, .d (.tuple [.int a, .int b, .int c, .int d]), .d (.int m)] ∧ (1 ≤ a ∧ a ≤ b ∧ b ≤ 4 ∧ 1 ≤ c ∧ c ≤ 3 ∧ 1 ≤ d ∧ d ≤ 3) ∧ ∀ ps : List Sg, PlOk ps → P (plD ps)
theorem erase_int (ls : List Int) (n : Nat) : (ls.map PyData.int).eraseIdx n = (ls.eraseIdx n).map .int := by
  induction ls generalizing n with
  | nil => rfl
  | cons a r ih =>
    cases n with
    | zero => rfl
    | succ n =>
      show PyData.int a :: ((r.map PyData.int).eraseIdx n) = PyData.int a :: ((r.eraseIdx n).map .int)
      rw [ih]
def FeOk (m : Int) (f : Fe) : Prop := f.Ok ∧ (f.u = true → f.c.Ok 0 1) ∧ (m = 2 → f.u = false → f.c.St)
theorem sgok_of {m : Int} {g : Sg} {fs : List Fe} {os : List Ou} (h1 : g.fs = fs) (h2 : g.os = os) (h3 : g.Rst) (f1 : 1 ≤ fs.length) (f3 : fs.length ≤ 3) (o1 : 1 ≤ os.length) (o3 : os.length ≤ 3) (fok : ∀ f ∈ fs, FeOk m f) (ook : ∀ o ∈ os, o.Ok) : g.Ok := by
  subst h1 h2
  exact ⟨f1, f3, o1, o3, fun f hf => (fok f hf).1, ook, h3, fun f hf => (fok f hf).2.1⟩

abbrev s__law_plant : Stmt := topS 29
theorem sc__law_plant : FnScope ["tape", "size", "manner", "first", "step", "names", "loose", "stages", "long", "s", "later", "feeds", "k", "outputs", "row"] ["tape", "size", "manner"] (defScope s__law_plant) := ⟨rfl, rfl, rfl, by decide +kernel, rfl, by decide +kernel, by decide +kernel⟩
theorem ok__law_plant {Pg : Program} {w : World} {K : PySem.W.Frag} {mg : Str → Option Value} {base : Heap} (T : Tx w K mg) (C__law_draw : Cal Pg w K mg base 1 "_law_draw" ["tape", "many"] (spR K 2 R__law_draw)) (C__law_feed : Cal Pg w K mg base 4 "_law_feed" ["tape", "buffer", "manner"] (spR K 3 R__law_feed)) (C__law_curve : Cal Pg w K mg base 3 "_law_curve" ["tape", "manner"] (spR K 2 R__law_curve)) (C__law_stage : Cal Pg w K mg base 2 "_law_stage" ["tape", "feeds", "outputs"] (spR K 3 R__law_stage)) {f : Addr} {fd : FuncData} (F : Fun K "_law_plant" "_law_plant" s__law_plant f fd) : FnOk Pg w K mg base CX0 5 f fd ["tape", "size", "manner"] (spR K 3 R__law_plant) := by
  refine fn_ok (n := 3) F sc__law_plant rfl (by decide) (fun cdv A outer s H E hr => ⟨_, (pss_cons (ps_set (i := 3) sc__law_plant.nd rfl (Or.inr rfl) (pe_cal C__law_draw hr (pa_cons (pv 0) (pa_cons pe_int pa_nil))))
    (pss_cons (ps_set (i := 4) sc__law_plant.nd rfl (Or.inr rfl) (pe_ix ix_seq (pe_lst (pa_cons pe_int (pa_cons pe_int (pa_cons pe_int (pa_cons pe_int (pa_cons pe_int (pa_cons pe_int (pa_cons pe_int (pa_cons pe_int pa_nil))))))))) (pe_cal C__law_draw hr (pa_cons (pv 0) (pa_cons pe_int pa_nil))) (fun _ _ => rfl)))
    (pss_cons (ps_setLc (i := 5) (own := [("k", 12)]) (g := (gName 12)) (tt := tYes) rfl sc__law_plant.nd rfl rfl (sw_true rfl rfl rfl (by decide +kernel)) (pi_range1 rfl T.b_range (pa_cons pe_int pa_nil)) (blkOk_by (own := [("k", 12)]) (N := ["tape", "size", "manner", "first", "step", "names", "loose", "stages", "long", "s", "later", "feeds", "k", "outputs", "row"]) (sc := defScope s__law_plant) (by decide +kernel)) (fun _ _ _ _ _ => (pg_name (i := 12) sc__law_plant.nd rfl (Or.inl rfl))) (fun _ _ _ _ _ => pts_nil) (fun _ _ _ _ _ => (pe_op op_mod (pe_callTy call_int1 (by rfl) T.b_int (by decide +kernel) (pa_cons (pe_op (opx_addK (K := K) rfl) (pv 3) (pe_op (opx_mulK (K := K) rfl) (pv 12) (pv 4))) pa_nil)) pe_int)))
    (pss_cons (ps_set (i := 6) sc__law_plant.nd rfl (Or.inl rfl) (pe_lst pa_nil))
    (pss_cons (ps_set (i := 7) sc__law_plant.nd rfl (Or.inl rfl) (pe_lst pa_nil))
    (pss_cons (ps_set (i := 8) sc__law_plant.nd rfl (Or.inl rfl) (pe_op opx_add (pe_ix ix_seq (pv 1) pe_int (fun _ _ => rfl)) (pe_cal C__law_draw hr (pa_cons (pv 0) (pa_cons (pe_op opx_add (pe_op op_sub (pe_ix ix_seq (pv 1) pe_int (fun _ _ => rfl)) (pe_ix ix_seq (pv 1) pe_int (fun _ _ => rfl))) pe_int) pa_nil)))))
    (pss_cons (ps_for PassesOwn.never rfl (pi_range1 rfl T.b_range (pa_cons (pv 8) pa_nil)) (pg_name (i := 9) sc__law_plant.nd rfl (Or.inl rfl))
    (pss_cons (ps_set (i := 10) sc__law_plant.nd rfl (Or.inl rfl) (pe_op opx_mul pe_int (pe_op op_sub (pe_op op_sub (pv 8) pe_int) (pv 9))))
    (pss_cons (ps_set (i := 11) sc__law_plant.nd rfl (Or.inl rfl) (pe_lst pa_nil))
    (pss_cons (ps_for PassesOwn.never rfl (pi_range1 rfl T.b_range (pa_cons (pe_op opx_add pe_int (pe_cal C__law_draw hr (pa_cons (pv 0) (pa_cons (pe_ix ix_seq (pv 1) pe_int (fun _ _ => rfl)) pa_nil)))) pa_nil)) (pg_name (i := 12) sc__law_plant.nd rfl (Or.inl rfl))
    (pss_one (ps_if (PW.pt (pw_and (pt_cmpR op_gt (pe_callB call_len_seq (by rfl) T.b_len (by decide +kernel) (pa_cons (pv 6) pa_nil)) pe_int (nomark _)) (pw_and1 (pt_cmpR op_gt (pe_cal C__law_draw hr (pa_cons (pv 0) (pa_cons pe_int pa_nil))) pe_int (nomark _))))) (pss_one (ps_expr (pe_bm PySem.F.plainAttrs_list PySem.F.slot_list_append PySem.F.type_list_append mt_append (pv 11) (pa_cons (pe_cal C__law_feed hr (pa_cons (pv 0) (pa_cons (pe_bm PySem.F.plainAttrs_list PySem.F.slot_list_pop PySem.F.type_list_pop mt_popAt (pv 6) (pa_cons (pe_cal C__law_draw hr (pa_cons (pv 0) (pa_cons (pe_callB call_len_seq (by rfl) T.b_len (by decide +kernel) (pa_cons (pv 6) pa_nil)) pa_nil))) pa_nil)) (pa_cons (pv 2) pa_nil)))) pa_nil)))) (pss_one (ps_if (PW.pt (pw_or (pt_cmpR (opx_eq hr) (pv 12) pe_int (nomark _)) (pw_or1 (pt_cmpR op_gt (pe_callB call_len_seq (by rfl) T.b_len (by decide +kernel) (pa_cons (pv 5) pa_nil)) (pe_op opx_add (pv 10) pe_int) (nomark _))))) (pss_one (ps_expr (pe_bm PySem.F.plainAttrs_list PySem.F.slot_list_append PySem.F.type_list_append mt_append (pv 11) (pa_cons (pe_cal C__law_feed hr (pa_cons (pv 0) (pa_cons (pe_bm0 PySem.F.plainAttrs_list PySem.F.slot_list_pop PySem.F.type_list_pop mt_pop (pv 5)) (pa_cons (pv 2) pa_nil)))) pa_nil)))) pss_nil)))))
    (pss_cons (ps_set (i := 13) sc__law_plant.nd rfl (Or.inl rfl) (pe_lst pa_nil))
    (pss_cons (ps_for PassesOwn.never rfl (pi_range1 rfl T.b_range (pa_cons (pe_op opx_add pe_int (pe_cal C__law_draw hr (pa_cons (pv 0) (pa_cons (pe_ix ix_seq (pv 1) pe_int (fun _ _ => rfl)) pa_nil)))) pa_nil)) (pg_name (i := 12) sc__law_plant.nd rfl (Or.inl rfl))
    (pss_one (ps_if (PW.pt (pw_or (pt_cmpR (opx_eq hr) (pv 12) pe_int (nomark _)) (pw_or1 (pt_cmpR op_gt (pe_callB call_len_seq (by rfl) T.b_len (by decide +kernel) (pa_cons (pv 5) pa_nil)) (pv 10) (nomark _))))) (pss_one (ps_expr (pe_bm PySem.F.plainAttrs_list PySem.F.slot_list_append PySem.F.type_list_append mt_append (pv 13) (pa_cons (pe_tup (pa_cons (pe_bm0 PySem.F.plainAttrs_list PySem.F.slot_list_pop PySem.F.type_list_pop mt_pop (pv 5)) (pa_cons (pe_cal C__law_curve hr (pa_cons (pv 0) (pa_cons (pv 2) pa_nil))) (pa_cons (pe_cal C__law_draw hr (pa_cons (pv 0) (pa_cons pe_int pa_nil))) pa_nil)))) pa_nil)))) pss_nil)))
    (pss_cons (ps_expr (pe_bm PySem.F.plainAttrs_list PySem.F.slot_list_append PySem.F.type_list_append mt_append (pv 7) (pa_cons (pe_cal C__law_stage hr (pa_cons (pv 0) (pa_cons (pv 11) (pa_cons (pv 13) pa_nil)))) pa_nil)))
    (pss_one (ps_set (i := 6) sc__law_plant.nd rfl (Or.inl rfl) (pe_op opx_add (pv 6) (pe_lc (own := [("row", 14)]) (g := (gName 14)) (tt := tYes) rfl sc__law_plant.nd (pi_seq (pv 13)) (blkOk_by (own := [("row", 14)]) (N := ["tape", "size", "manner", "first", "step", "names", "loose", "stages", "long", "s", "later", "feeds", "k", "outputs", "row"]) (sc := defScope s__law_plant) (by decide +kernel)) (fun _ _ _ _ _ => (pg_name (i := 14) sc__law_plant.nd rfl (Or.inl rfl))) (fun _ _ _ _ _ => pts_nil) (fun _ _ _ _ _ => (pe_ix (ix_seqK (K := K) rfl) (pv 14) pe_int (fun _ _ => rfl))))))))))))))
    (pss_one (ps_ret (pe_callTy call_tuple_of (by rfl) T.b_tuple (by decide +kernel) (pa_cons (pv 7) pa_nil))))))))))), ?_⟩)
  intro ss P hl hR
  obtain ⟨a, b, c, dd, m, rfl, hb, hP⟩ := hR
  refine wq_set (y_drd (D := fun r => 0 ≤ r ∧ r ≤ 19) rfl ye_i fun r h1 h2 => by omega) ?_
  rintro _ ⟨first, rfl, f0, f1⟩
  refine wq_set (P := isI fun r => 1 ≤ r ∧ r ≤ 19) (ye_menu (n := 8) (ya_1 (isI_of ye_i (by decide)) (ya_1 (isI_of ye_i (by decide)) (ya_1 (isI_of ye_i (by decide)) (ya_1 (isI_of ye_i (by decide)) (ya_1 (isI_of ye_i (by decide)) (ya_1 (isI_of ye_i (by decide)) (ya_1 (isI_of ye_i (by decide)) (ya_1 (isI_of ye_i (by decide)) ya_0)))))))) ((ye_draw rfl ye_i).imp fun d ⟨r, e, h1, h2⟩ => ⟨r, e, h1, by omega⟩)) ?_
  rintro _ ⟨step, rfl, s0, s1⟩
  refine wq_setm (PL := fun d => ∃ p : List Int, d = p.map .int ∧ p.length = 20) ((nl_lcI (sl := [12]) (PL := fun xs => xs = rgD 0 20) (C := fun r => True) (it_r1 ye_i (by decide) (by decide)) (fun i h => h) ?_ ?_).imp ?_) ?_
  · rintro xs rfl
    rw [rg_len]
    decide
  · rintro xs x rfl hx
    obtain ⟨j, hj, rfl⟩ := List.mem_iff_getElem.mp hx
    have hj2 := hj
    rw [rg_len] at hj2
    have e := rg_at 0 20 j hj
    rw [List.getElem?_eq_getElem hj] at e
    have e := Option.some.inj e
    rw [e]
    exact ⟨_, yg_n, (yd_md (yd_toI (yd_add (ye_v rfl) (yd_mul (ye_v rfl) (ye_v rfl) (.inl (.inr ⟨by omega, by omega⟩))))) ye_i (by decide)).imp fun d e => ⟨_, e, trivial⟩⟩
  · rintro ys ⟨xs, ns, rfl, rfl, e1, _⟩
    rw [rg_len] at e1
    exact ⟨ns, rfl, e1⟩
  rintro _ ⟨nm0, rfl, nm20⟩
  refine wq_setmd nd_l0 ?_
  refine wq_setmd nd_l0 ?_
  refine wq_set (P := isI fun r => 1 ≤ r ∧ r ≤ 4) (ye_add (Pa := fun x => x = .int a) (Pb := isI fun r => 0 ≤ r ∧ r ≤ b - a) (yd_ixT (ye_v rfl) ye_i rfl) (y_drd rfl (yd_add (yd_sub (yd_ixT (ye_v rfl) ye_i rfl) (yd_ixT (ye_v rfl) ye_i rfl)) ye_i) (fun r h1 h2 => by omega) (by omega)) ?_) ?_
  · rintro x y rfl ⟨r, rfl, r0, r1⟩
    exact ⟨a, r, rfl, rfl, _, rfl, by omega, by omega⟩
  rintro _ ⟨L, rfl, L1, L4⟩
  let B : List Int → List Int → List Sg → Rho := fun nm ls gs => [.tp, .d (.tuple [.int a, .int b, .int c, .int dd]), .d (.int m), .no, .no, .ml (nm.map .int), .ml (ls.map .int), .ml (gs.map sgD), .d (.int L), .no, .no, .no, .no, .no, .no]
  refine ws_seq (fun r => ∃ nm ls gs, PlOk gs ∧ Le r (B nm ls gs)) (ws_ford (xs := rgD 0 L) (it_r1 (ye_v rfl) (by omega) (by omega)) (fun i r => ∃ nm ls gs, gs.length = i ∧ (∀ g ∈ gs, g.Ok) ∧ 2 * (L - i) ≤ (nm.length : Int) ∧ nm.length ≤ 20 ∧ ls.length ≤ 3 * i ∧ Le r (B nm ls gs)) ⟨nm0, [], [], rfl, fun _ h => (by cases h), by omega, by omega, by decide, (by repeat' first | exact Le.nil | refine Le.cons ?_ ?_ | exact rfl | exact trivial)⟩ ?_ ?_) ?_
  · rintro i z r hi ⟨nm, ls, gs, gl, gok, nl, n20, ll, le⟩
    have hi2 : i < (rgD 0 L).length := (List.getElem?_eq_some_iff.mp hi).1
    rw [rg_at _ _ _ hi2] at hi
    rw [rg_len] at hi2
    cases hi
    rw [Int.zero_add]
    have hi2 : (i : Int) < L := by omega
    refine ⟨[9], r.set 9 (.d (.int (i : Int))), yg_n, Ws.le ?_ (le.seta (j := 9) (x := .d (.int (i : Int))))⟩
    obtain ⟨la, hla⟩ : ∃ la : Int, la = 2 * (L - 1 - i) := ⟨_, rfl⟩
    refine wq_setd (d := .int la) ((yd_mul ye_i (yd_sub (yd_sub (ye_v rfl) ye_i) (ye_v rfl)) (.inl (.inr ⟨by omega, by omega⟩))).to (by rw [hla])) ?_
    refine wq_setmd nd_l0 ?_
    let F : List Int → List Int → List Fe → Rho := fun nm ls fs => [.tp, .d (.tuple [.int a, .int b, .int c, .int dd]), .d (.int m), .no, .no, .ml (nm.map .int), .ml (ls.map .int), .ml (gs.map sgD), .d (.int L), .d (.int (i : Int)), .d (.int la), .ml (fs.map feD), .no, .no, .no]
    let W : List PyData → Nat → Rho → Prop := fun xs j r => ∃ nm ls fs, fs.length ≤ j ∧ (0 < j → 1 ≤ fs.length) ∧ (∀ f ∈ fs, FeOk m f) ∧ la + 1 ≤ (nm.length : Int) ∧ (j = 0 → la + 2 ≤ (nm.length : Int)) ∧ nm.length ≤ 20 ∧ ls.length ≤ 3 * i ∧ Le r (F nm ls fs)
    refine ws_seq (fun r => ∃ nm ls fs, fs.length ≤ 3 ∧ 1 ≤ fs.length ∧ (∀ f ∈ fs, FeOk m f) ∧ la + 1 ≤ (nm.length : Int) ∧ nm.length ≤ 20 ∧ ls.length ≤ 3 * i ∧ Le r (F nm ls fs)) (ws_for (it_rD (C := fun r => 1 ≤ r ∧ r ≤ 3) (ye_add (Pb := isI fun r => 0 ≤ r ∧ r ≤ 2) ye_i (y_drd rfl (yd_ixT (ye_v rfl) ye_i rfl) (fun r h1 h2 => by omega) (by omega)) ?_) fun r h => by omega) W ?_ ?_ ?_) ?_
    · rintro x y rfl ⟨r, rfl, r0, r1⟩
      exact ⟨1, r, rfl, rfl, _, rfl, by omega, by omega⟩
    · rintro xs _
      exact ⟨nm, ls, [], by decide, fun z => by omega, fun _ h => (by cases h), by omega, fun _ => by omega, n20, ll, (by repeat' first | exact Le.nil | refine Le.cons ?_ ?_ | exact rfl | exact trivial)⟩
    · rintro xs j z r ⟨n, hn, rfl⟩ hj ⟨nm, ls, fs, fl, f1, fok, n1, n2, n20, ll, le⟩
      have hj2 : j < (rgD 0 (n : Int)).length := (List.getElem?_eq_some_iff.mp hj).1
      rw [rg_at _ _ _ hj2] at hj
      rw [rg_len] at hj2
      cases hj
      rw [Int.zero_add]
      refine ⟨[12], r.set 12 (.d (.int (j : Int))), yg_n, Ws.le ?_ (le.seta (j := 12) (x := .d (.int (j : Int))))⟩
      have done : ∀ (nm' ls' : List Int) (f : Fe), FeOk m f → la + 1 ≤ (nm'.length : Int) → nm'.length ≤ 20 → ls'.length ≤ 3 * i → W (rgD 0 (n : Int)) (j + 1) ([.tp, .d (.tuple [.int a, .int b, .int c, .int dd]), .d (.int m), .no, .no, .ml (nm'.map .int), .ml (ls'.map .int), .ml (gs.map sgD), .d (.int L), .d (.int (i : Int)), .d (.int la), .ml (fs.map feD ++ [feD f]), .d (.int (j : Int)), .no, .no]) := fun nm' ls' f hf h1 h2 h3 => by
        refine ⟨nm', ls', fs ++ [f], by rw [List.length_append]; show _ + 1 ≤ _; omega, fun _ => by rw [List.length_append]; show 1 ≤ _ + 1; omega, fun x hx => ?_, h1, fun z => by omega, h2, h3, ?_⟩
        · rcases List.mem_append.mp hx with q | q
          · exact fok x q
          · rw [List.mem_singleton.mp q]; exact hf
        · show Le _ [.tp, .d (.tuple [.int a, .int b, .int c, .int dd]), .d (.int m), .no, .no, .ml (nm'.map .int), .ml (ls'.map .int), .ml (gs.map sgD), .d (.int L), .d (.int (i : Int)), .d (.int la), .ml ((fs ++ [f]).map feD), .no, .no, .no]
          rw [List.map_append]
          exact (by repeat' first | exact Le.nil | refine Le.cons ?_ ?_ | exact rfl | exact trivial)
      have fsz : (fs.map feD).length < sizeLine := by rw [List.length_map]; show _ < (16777216 : Nat); omega
      refine ws_if (yt_and (Pb := fun b => b = decide (0 < ls.length)) (Pc := fun _ => True) (Pd' := fun b => b = true → 0 < ls.length) ?_ (fun _ => ?_) (fun _ z => nomatch z) (fun c e _ _ => of_decide_eq_true e.symm)) (fun e => ?_) (fun _ => ?_)
      · first
        | exact yt_d ((yd_cp (f := fun i j => decide (j < i)) (yd_lenR (rl_v rfl)) ye_i).to (by rw [List.length_map]; congr 1; simp))
        | exact yt_B ((yd_cp (f := fun i j => decide (j < i)) (yd_lenR (rl_v rfl)) ye_i).to (by rw [List.length_map]; congr 1; simp))
      · first
        | exact yt_v (ye_cp (f := fun i j => decide (j < i)) (P := fun d => ∃ b, d = .bool b) (ye_draw rfl ye_i) ye_i (by rintro x y ⟨r, rfl, _⟩ rfl; exact ⟨_, _, rfl, rfl, _, rfl⟩)) fun x ⟨b, e⟩ => ⟨b, e, trivial⟩
        | exact yt_vB (ye_cp (f := fun i j => decide (j < i)) (P := fun d => ∃ b, d = .bool b) (ye_draw rfl ye_i) ye_i (by rintro x y ⟨r, rfl, _⟩ rfl; exact ⟨_, _, rfl, rfl, _, rfl⟩)) fun x ⟨b, e⟩ => ⟨b, e, trivial⟩
      · have e := e rfl
        refine ws_appM (ys := fs.map feD) rfl (pm_call (pms_t rfl (pms_c (Q := fun d r => ∃ (k : Nat) (v : Int), k < ls.length ∧ d = .int v ∧ r = [.tp, .d (.tuple [.int a, .int b, .int c, .int dd]), .d (.int m), .no, .no, .ml (nm.map .int), .ml ((ls.eraseIdx k).map .int), .ml (gs.map sgD), .d (.int L), .d (.int (i : Int)), .d (.int la), .ml (fs.map feD), .d (.int (j : Int)), .no, .no]) (pm_popAt (j := 6) (C := fun r => 0 ≤ r ∧ r < (ls.length : Int)) rfl (y_drd rfl (yd_lenR (rl_v rfl)) (fun r h1 h2 => by rw [List.length_map] at h2; omega) (by rw [List.length_map]; omega)) (fun z hz => by rw [List.length_map]; exact hz) (by rw [List.length_map]; omega) ?_) ?_)))
        · intro k hk
          rw [List.length_map] at hk
          refine ⟨k, ls[k], hk, by rw [List.getElem_map], ?_⟩
          rw [erase_int]
          rfl
        · rintro _ _ ⟨k, v, hk, rfl, rfl⟩
          refine pms_c (pm_d (Q := fun d r => d = .int m ∧ r = _) (ye_v rfl) ⟨rfl, rfl⟩) ?_
          rintro _ _ ⟨rfl, rfl⟩
          refine pms_n ⟨rfl, v, m, rfl, fun f h1 h2 h3 h4 => ⟨fs.map feD, rfl, fsz, ?_⟩⟩
          exact done nm (ls.eraseIdx k) f ⟨h1, h3, h4⟩ n1 n20 (by rw [List.length_eraseIdx_of_lt hk]; omega)
      · refine ws_ifd (b := decide ((j : Int) = 0) || decide (la + 1 < (nm.length : Int))) (yt_ord ?_ fun _ => ?_) (fun e => ?_) (fun e => ?_)
        · first
          | exact yt_d (yd_eqS (x := .int (j : Int)) (y := .int 0) (ye_v rfl) ye_i rfl)
          | exact yt_B (yd_eqS (x := .int (j : Int)) (y := .int 0) (ye_v rfl) ye_i rfl)
        · first
          | exact yt_d ((yd_cp (f := fun i j => decide (j < i)) (yd_lenR (rl_v rfl)) (yd_add (ye_v rfl) ye_i)).to (by rw [List.length_map]))
          | exact yt_B ((yd_cp (f := fun i j => decide (j < i)) (yd_lenR (rl_v rfl)) (yd_add (ye_v rfl) ye_i)).to (by rw [List.length_map]))
        · have e : j = 0 ∨ la + 1 < (nm.length : Int) := by simpa using e
          have nn : 0 < nm.length := by omega
          refine ws_appM (ys := fs.map feD) rfl (pm_call (pms_t rfl (pms_c (Q := fun d r => ∃ (v : Int), d = .int v ∧ r = [.tp, .d (.tuple [.int a, .int b, .int c, .int dd]), .d (.int m), .no, .no, .ml (nm.dropLast.map .int), .ml (ls.map .int), .ml (gs.map sgD), .d (.int L), .d (.int (i : Int)), .d (.int la), .ml (fs.map feD), .d (.int (j : Int)), .no, .no]) (pm_pop (j := 5) (xs := nm.map .int) rfl (fun z => by rw [List.map_eq_nil_iff] at z; rw [z] at nn; exact absurd nn (by decide)) ?_) ?_)))
          · intro x hx
            rw [List.getElem?_map] at hx
            obtain ⟨v, _, rfl⟩ := Option.map_eq_some_iff.mp hx
            exact ⟨v, rfl, by rw [← List.map_dropLast]; rfl⟩
          · rintro _ _ ⟨v, rfl, rfl⟩
            refine pms_c (pm_d (Q := fun d r => d = .int m ∧ r = _) (ye_v rfl) ⟨rfl, rfl⟩) ?_
            rintro _ _ ⟨rfl, rfl⟩
            refine pms_n ⟨rfl, v, m, rfl, fun f h1 h2 h3 h4 => ⟨fs.map feD, rfl, fsz, ?_⟩⟩
            refine done nm.dropLast ls f ⟨h1, h3, h4⟩ ?_ (by rw [List.length_dropLast]; omega) ll
            rw [List.length_dropLast]
            rcases e with e | e
            · have := n2 e
              omega
            · omega
        · have e : ¬ (j : Int) = 0 := fun z => by rw [decide_eq_true z] at e; exact nomatch e
          exact ws_next ⟨nm, ls, fs, by omega, fun _ => f1 (by omega), fok, n1, fun z => by omega, n20, ll, (by repeat' first | exact Le.nil | refine Le.cons ?_ ?_ | exact rfl | exact trivial)⟩
    · rintro xs r ⟨n, hn, rfl⟩ ⟨nm, ls, fs, fl, f1, fok, n1, n2, n20, ll, le⟩
      rw [rg_len] at fl f1
      exact ⟨nm, ls, fs, by omega, f1 (by omega), fok, n1, n20, ll, le⟩
    rintro r ⟨nm, ls, fs, f3, f1, fok, n1, n20, ll, le⟩
    refine Ws.le ?_ le
    refine wq_setmd nd_l0 ?_
    let V : List Int → List Ou → Rho := fun nm os => [.tp, .d (.tuple [.int a, .int b, .int c, .int dd]), .d (.int m), .no, .no, .ml (nm.map .int), .ml (ls.map .int), .ml (gs.map sgD), .d (.int L), .d (.int (i : Int)), .d (.int la), .ml (fs.map feD), .no, .ml (os.map ouD), .no]
    let Z : List PyData → Nat → Rho → Prop := fun xs j r => ∃ nm os, os.length ≤ j ∧ (0 < j → 1 ≤ os.length) ∧ (∀ o ∈ os, o.Ok) ∧ la ≤ (nm.length : Int) ∧ (j = 0 → la + 1 ≤ (nm.length : Int)) ∧ nm.length ≤ 20 ∧ Le r (V nm os)
    refine ws_seq (fun r => ∃ nm os, os.length ≤ 3 ∧ 1 ≤ os.length ∧ (∀ o ∈ os, o.Ok) ∧ la ≤ (nm.length : Int) ∧ nm.length ≤ 20 ∧ Le r (V nm os)) (ws_for (it_rD (C := fun r => 1 ≤ r ∧ r ≤ 3) (ye_add (Pb := isI fun r => 0 ≤ r ∧ r ≤ 2) ye_i (y_drd rfl (yd_ixT (ye_v rfl) ye_i rfl) (fun r h1 h2 => by omega) (by omega)) ?_) fun r h => by omega) Z ?_ ?_ ?_) ?_
    · rintro x y rfl ⟨r, rfl, r0, r1⟩
      exact ⟨1, r, rfl, rfl, _, rfl, by omega, by omega⟩
    · rintro xs _
      exact ⟨nm, [], by decide, fun z => by omega, fun _ h => (by cases h), by omega, fun _ => by omega, n20, (by repeat' first | exact Le.nil | refine Le.cons ?_ ?_ | exact rfl | exact trivial)⟩
    · rintro xs j z r ⟨n, hn, rfl⟩ hj ⟨nm, os, ol, o1, ook, n1, n2, n20, le⟩
      have hj2 : j < (rgD 0 (n : Int)).length := (List.getElem?_eq_some_iff.mp hj).1
      rw [rg_at _ _ _ hj2] at hj
      rw [rg_len] at hj2
      cases hj
      rw [Int.zero_add]
      refine ⟨[12], r.set 12 (.d (.int (j : Int))), yg_n, Ws.le ?_ (le.seta (j := 12) (x := .d (.int (j : Int))))⟩
      refine ws_ifd (b := decide ((j : Int) = 0) || decide (la < (nm.length : Int))) (yt_ord ?_ fun _ => ?_) (fun e => ?_) (fun e => ?_)
      · first
        | exact yt_d (yd_eqS (x := .int (j : Int)) (y := .int 0) (ye_v rfl) ye_i rfl)
        | exact yt_B (yd_eqS (x := .int (j : Int)) (y := .int 0) (ye_v rfl) ye_i rfl)
      · first
        | exact yt_d ((yd_cp (f := fun i j => decide (j < i)) (yd_lenR (rl_v rfl)) (ye_v rfl)).to (by rw [List.length_map]))
        | exact yt_B ((yd_cp (f := fun i j => decide (j < i)) (yd_lenR (rl_v rfl)) (ye_v rfl)).to (by rw [List.length_map]))
      · have e : j = 0 ∨ la < (nm.length : Int) := by simpa using e
        have nn : 0 < nm.length := by omega
        have nl2 : la ≤ ((nm.length - 1 : Nat) : Int) := by
          rcases e with e | e
          · have := n2 e
            omega
          · omega
        refine ws_appM (ys := os.map ouD) rfl (pm_tup (pms_c (Q := fun d r => ∃ (v : Int), d = .int v ∧ r = [.tp, .d (.tuple [.int a, .int b, .int c, .int dd]), .d (.int m), .no, .no, .ml (nm.dropLast.map .int), .ml (ls.map .int), .ml (gs.map sgD), .d (.int L), .d (.int (i : Int)), .d (.int la), .ml (fs.map feD), .d (.int (j : Int)), .ml (os.map ouD), .no]) (pm_pop (j := 5) (xs := nm.map .int) rfl (fun z => by rw [List.map_eq_nil_iff] at z; rw [z] at nn; exact absurd nn (by decide)) ?_) ?_))
        · intro x hx
          rw [List.getElem?_map] at hx
          obtain ⟨v, _, rfl⟩ := Option.map_eq_some_iff.mp hx
          exact ⟨v, rfl, by rw [← List.map_dropLast]; rfl⟩
        · rintro _ _ ⟨v, rfl, rfl⟩
          refine pms_c (pm_e (P := fun d => ∃ c : Cv, d = cvD c ∧ c.Ok 0 4 ∧ 0 < c.p.sum) (Q := fun d r => (∃ c : Cv, d = cvD c ∧ c.Ok 0 4 ∧ 0 < c.p.sum) ∧ r = _) (ye_cl (ya_td rfl (ya_d (ye_v rfl) ya_n)) rfl ⟨m, rfl, fun c h1 h2 _ => ⟨c, rfl, h1, h2⟩⟩) fun d h => ⟨h, rfl⟩) ?_
          rintro _ _ ⟨⟨cc, rfl, c1, c2⟩, rfl⟩
          refine pms_c (pm_e (Q := fun d r => (∃ w : Int, d = .int w ∧ 0 ≤ w ∧ w ≤ 5) ∧ r = _) (ye_draw rfl ye_i) fun d ⟨w, e, w0, w1⟩ => ⟨⟨w, e, w0, by omega⟩, rfl⟩) ?_
          rintro _ _ ⟨⟨w, rfl, w0, w1⟩, rfl⟩
          refine pms_n ⟨[.int v, cvD cc, .int w], rfl, Nat.le_of_ble_eq_true rfl, os.map ouD, rfl, by rw [List.length_map]; show _ < (16777216 : Nat); omega, ?_⟩
          refine ⟨nm.dropLast, os ++ [⟨v, cc, w⟩], by rw [List.length_append]; show _ + 1 ≤ _; omega, fun _ => by rw [List.length_append]; show 1 ≤ _ + 1; omega, fun x hx => ?_, by rw [List.length_dropLast]; exact nl2, fun z => by omega, by rw [List.length_dropLast]; omega, ?_⟩
          · rcases List.mem_append.mp hx with q | q
            · exact ook x q
            · rw [List.mem_singleton.mp q]; exact ⟨c1, c2, w0, w1⟩
          · show Le _ [.tp, .d (.tuple [.int a, .int b, .int c, .int dd]), .d (.int m), .no, .no, .ml (nm.dropLast.map .int), .ml (ls.map .int), .ml (gs.map sgD), .d (.int L), .d (.int (i : Int)), .d (.int la), .ml (fs.map feD), .no, .ml ((os ++ [(⟨v, cc, w⟩ : Ou)]).map ouD), .no]
            rw [List.map_append]
            exact (by repeat' first | exact Le.nil | refine Le.cons ?_ ?_ | exact rfl | exact trivial)
      · have e : ¬ (j : Int) = 0 := fun z => by rw [decide_eq_true z] at e; exact nomatch e
        exact ws_next ⟨nm, os, by omega, fun _ => o1 (by omega), ook, n1, fun z => by omega, n20, (by repeat' first | exact Le.nil | refine Le.cons ?_ ?_ | exact rfl | exact trivial)⟩
    · rintro xs r ⟨n, hn, rfl⟩ ⟨nm, os, ol, o1, ook, n1, n2, n20, le⟩
      rw [rg_len] at ol o1
      exact ⟨nm, os, by omega, o1 (by omega), ook, n1, n20, le⟩
    rintro r ⟨nm, os, o3, o1, ook, n1, n20, le⟩
    refine Ws.le ?_ le
    refine Ws.freeze (i := 11) (xs := fs.map feD) rfl ?_
    refine Ws.freeze (i := 13) (xs := os.map ouD) rfl ?_
    refine wq_app (i := 7) (xs := gs.map sgD) (P := fun d => ∃ g : Sg, d = sgD g ∧ g.Ok) rfl (ye_cl (P := fun d => ∃ g : Sg, d = sgD g ∧ g.Ok) (ya_td rfl (ya_d (ye_v rfl) (ya_d (ye_v rfl) ya_n))) rfl ⟨fs, os, rfl, f3, o3, fun g h1 h2 h3 => ⟨g, rfl, sgok_of h1 h2 h3 f1 f3 o1 o3 fok ook⟩⟩) (by rw [List.length_map]; show _ < (16777216 : Nat); omega) ?_
    rintro _ ⟨g, rfl, gk⟩
    refine ws_setm (i := 6) (PL := fun d => ∃ p : List Int, d = p.map .int ∧ p.length = ls.length + os.length) (nl_cat (PL := fun x => x = ls.map .int) (PM := fun d => ∃ p : List Int, d = p.map .int ∧ p.length = os.length) (rl_v rfl) ((nl_lcI (sl := [14]) (PL := fun xs => xs = os.map ouD) (C := fun _ => True) (it_l (ye_v rfl)) (fun i h => h) ?_ ?_).imp ?_).rl ?_) ?_
    · rintro xs rfl
      rw [List.length_map]
      show _ < (16777216 : Nat)
      omega
    · rintro xs x rfl hx
      obtain ⟨o, _, rfl⟩ := List.mem_map.mp hx
      exact ⟨_, yg_n, (yd_ixT (ye_v rfl) ye_i rfl).imp fun d e => ⟨o.b, e, trivial⟩⟩
    · rintro ys ⟨xs, ns, rfl, rfl, e1, _⟩
      rw [List.length_map] at e1
      exact ⟨ns, rfl, e1⟩
    · rintro xs ys rfl ⟨p, rfl, hp⟩
      refine ⟨by rw [List.length_map, List.length_map]; show _ ≤ (16777216 : Nat); omega, ls ++ p, by rw [List.map_append], by rw [List.length_append, hp]⟩
    · rintro _ ⟨p, rfl, hp⟩
      refine ⟨nm, p, gs ++ [g], by rw [List.length_append, gl]; rfl, fun x hx => ?_, by omega, n20, by omega, ?_⟩
      · rcases List.mem_append.mp hx with q | q
        · exact gok x q
        · rw [List.mem_singleton.mp q]; exact gk
      · show Le _ [.tp, .d (.tuple [.int a, .int b, .int c, .int dd]), .d (.int m), .no, .no, .ml (nm.map .int), .ml (p.map .int), .ml ((gs ++ [g]).map sgD), .d (.int L), .no, .no, .no, .no, .no, .no]
        rw [List.map_append]
        exact (by repeat' first | exact Le.nil | refine Le.cons ?_ ?_ | exact rfl | exact trivial)
  · rintro r ⟨nm, ls, gs, gl, gok, nl, n20, ll, le⟩
    rw [rg_len] at gl
    exact ⟨nm, ls, gs, ⟨by omega, by omega, gok⟩, le⟩
  rintro r ⟨nm, ls, gs, ok, le⟩
  refine Ws.le (ws_retd (yd_tupR (rl_v rfl)) (hP gs ok)) le


def R__law_deed : Pr := fun ss P => ∃ ps : List Sg, ss = [.tp, .d (plD ps)] ∧ PlB ps ∧ ∀ d : Dd, d.k < 12 → P (ddD d)
def isKd : PyData → Prop := fun d => ∃ x : Str, d = .str x ∧ (x = "yield" ∨ x = "extra" ∨ x = "slow" ∨ x = "cost")

abbrev s__law_deed : Stmt := topS 34
theorem sc__law_deed : FnScope ["tape", "plant", "kind", "s", "place", "cycle", "amount"] ["tape", "plant"] (defScope s__law_deed) := ⟨rfl, rfl, rfl, by decide +kernel, rfl, by decide +kernel, by decide +kernel⟩
theorem ok__law_deed {Pg : Program} {w : World} {K : PySem.W.Frag} {mg : Str → Option Value} {base : Heap} (T : Tx w K mg) (C__law_draw : Cal Pg w K mg base 1 "_law_draw" ["tape", "many"] (spR K 2 R__law_draw)) {f : Addr} {fd : FuncData} (F : Fun K "_law_deed" "_law_deed" s__law_deed f fd) : FnOk Pg w K mg base CX0 2 f fd ["tape", "plant"] (spR K 2 R__law_deed) := by
  refine fn_ok (n := 2) F sc__law_deed rfl (by decide) (fun cdv A outer s H E hr => ⟨_, (pss_cons (ps_set (i := 2) sc__law_deed.nd rfl (Or.inl rfl) (pe_ix ix_seq (pe_lst (pa_cons pe_str (pa_cons pe_str (pa_cons pe_str (pa_cons pe_str (pa_cons pe_str (pa_cons pe_str pa_nil))))))) (pe_cal C__law_draw hr (pa_cons (pv 0) (pa_cons pe_int pa_nil))) (fun _ _ => rfl)))
    (pss_cons (ps_set (i := 3) sc__law_deed.nd rfl (Or.inl rfl) (pe_cal C__law_draw hr (pa_cons (pv 0) (pa_cons (pe_callB call_len_seq (by rfl) T.b_len (by decide +kernel) (pa_cons (pv 1) pa_nil)) pa_nil))))
    (pss_cons (ps_set (i := 4) sc__law_deed.nd rfl (Or.inl rfl) (pe_callB (callx_max rfl) (by rfl) T.b_max (by decide +kernel) (pa_cons pe_int (pa_cons (pe_op op_sub (pe_cal C__law_draw hr (pa_cons (pv 0) (pa_cons pe_int pa_nil))) pe_int) pa_nil))))
    (pss_cons (ps_if (PW.pt (pw_and (pt_cmpR (opx_eq hr) (pv 2) pe_str (nomark _)) (pw_and1 (pt_cmpR op_lt (pv 4) pe_int (nomark _))))) (pss_one (ps_set (i := 4) sc__law_deed.nd rfl (Or.inl rfl) (pe_cal C__law_draw hr (pa_cons (pv 0) (pa_cons (pe_callB call_len_seq (by rfl) T.b_len (by decide +kernel) (pa_cons (pe_ix ix_seq (pe_ix ix_seq (pv 1) (pv 3) (fun _ _ => rfl)) pe_int (fun _ _ => rfl)) pa_nil)) pa_nil))))) pss_nil)
    (pss_cons (ps_if (PW.pt (pw_and (pt_cmpR (opx_eq hr) (pv 2) pe_str (nomark _)) (pw_and1 (pt_cmpR op_lt (pv 4) pe_int (nomark _))))) (pss_one (ps_set (i := 4) sc__law_deed.nd rfl (Or.inl rfl) (pe_cal C__law_draw hr (pa_cons (pv 0) (pa_cons (pe_callB call_len_seq (by rfl) T.b_len (by decide +kernel) (pa_cons (pe_ix ix_seq (pe_ix ix_seq (pv 1) (pv 3) (fun _ _ => rfl)) pe_int (fun _ _ => rfl)) pa_nil)) pa_nil))))) pss_nil)
    (pss_cons (ps_if (pt_cmpR (opx_eq hr) (pe_cal C__law_draw hr (pa_cons (pv 0) (pa_cons pe_int pa_nil))) pe_int (nomark _)) (pss_one (ps_set (i := 3) sc__law_deed.nd rfl (Or.inl rfl) (pe_cal C__law_draw hr (pa_cons (pv 0) (pa_cons pe_int pa_nil))))) pss_nil)
    (pss_cons (ps_set (i := 5) sc__law_deed.nd rfl (Or.inl rfl) (pe_op opx_add pe_int (pe_cal C__law_draw hr (pa_cons (pv 0) (pa_cons (pe_ix ix_seq (pe_lst (pa_cons pe_int (pa_cons pe_int (pa_cons pe_int pa_nil)))) (pe_cal C__law_draw hr (pa_cons (pv 0) (pa_cons pe_int pa_nil))) (fun _ _ => rfl)) pa_nil)))))
    (pss_cons (ps_set (i := 6) sc__law_deed.nd rfl (Or.inl rfl) (pe_ix ix_seq (pe_lst (pa_cons pe_int (pa_cons pe_int (pa_cons pe_int (pa_cons pe_int (pa_cons pe_int (pa_cons pe_int pa_nil))))))) (pe_cal C__law_draw hr (pa_cons (pv 0) (pa_cons pe_int pa_nil))) (fun _ _ => rfl)))
    (pss_cons (ps_if (PW.pt (pw_or (pt_cmpR (opx_eq hr) (pv 2) pe_str (nomark _)) (pw_or1 (pt_cmpR (opx_eq hr) (pv 2) pe_str (nomark _))))) (pss_one (ps_ret (pe_tup (pa_cons (pv 2) (pa_cons (pv 3) (pa_cons (pv 5) (pa_cons (pv 6) pa_nil))))))) pss_nil)
    (pss_one (ps_ret (pe_tup (pa_cons (pv 2) (pa_cons (pv 3) (pa_cons (pv 4) (pa_cons (pv 5) (pa_cons (pv 6) pa_nil))))))))))))))))), ?_⟩)
  intro ss P hl hR
  obtain ⟨ps, rfl, hb, hP⟩ := hR
  have l1 := hb.l1
  have l4 := hb.l4
  have m1 : ∀ {ρ : Rho} {x : Str}, (x = "yield" ∨ x = "extra" ∨ x = "slow" ∨ x = "cost") → Pe K (tC (.str x)) ρ isKd := fun h => (ye_s).imp fun d e => ⟨_, e, h⟩
  refine wq_set (P := isKd) (ye_menu (Q := isKd) (n := 6) (ya_1 (m1 (.inl rfl)) (ya_1 (m1 (.inl rfl)) (ya_1 (m1 (.inr (.inl rfl))) (ya_1 (m1 (.inr (.inl rfl))) (ya_1 (m1 (.inr (.inr (.inl rfl)))) (ya_1 (m1 (.inr (.inr (.inr rfl)))) ya_0)))))) (y_drd rfl ye_i fun r h1 h2 => ⟨h1, by omega⟩)) ?_
  rintro _ ⟨x, rfl, hx⟩
  refine wq_set (P := isI fun r => 0 ≤ r ∧ r < (ps.length : Int)) (y_drd rfl ((yd_lenT (xs := ps.map sgD) (ye_v rfl)).to (by rw [List.length_map])) (fun r h1 h2 => by omega) (by omega)) ?_
  rintro _ ⟨s, rfl, s0, s1⟩
  obtain ⟨s, rfl⟩ : ∃ j : Nat, s = (j : Int) := ⟨s.toNat, by omega⟩
  obtain ⟨g, hg⟩ : ∃ g, ps[s]? = some g := ⟨_, List.getElem?_eq_getElem (by omega)⟩
  have gb := hb.g g (List.mem_of_getElem? hg)
  have f3 := gb.f3
  have o3 := gb.o3
  refine wq_set (P := isI fun r => 0 ≤ r) (ye_max2 (Pa := fun x => x = .int 0) (Pb := isI fun _ => True) ye_i (ye_sub (Pa := isI fun r => 0 ≤ r) (Pb := fun x => x = .int 3) (y_drd rfl ye_i fun r h1 h2 => h1) ye_i ?_) ?_) ?_
  · rintro a b ⟨r, rfl, _⟩ rfl
    exact ⟨r, 3, rfl, rfl, _, rfl, trivial⟩
  · rintro a b rfl ⟨r, rfl, _⟩
    exact ⟨0, r, rfl, rfl, _, rfl, by omega⟩
  rintro _ ⟨p, rfl, p0⟩
  obtain ⟨p, rfl⟩ : ∃ j : Nat, p = (j : Int) := ⟨p.toNat, by omega⟩
  let B1 : Nat → Nat → Rho := fun s p => [.tp, .d (plD ps), .d (.str x), .d (.int (s : Int)), .d (.int (p : Int)), .no, .no]
  refine ws_seq (fun r => ∃ p : Nat, Le r (B1 s p)) (ws_if (Pb := fun _ => True) (yt_and (Pb := fun _ => True) (Pc := fun _ => True) (Pd' := fun _ => True) ?_ (fun _ => ?_) (fun _ => trivial) fun _ _ _ => trivial) (fun _ => ?_) (fun _ => ws_next ⟨p, (by repeat' first | exact Le.nil | refine Le.cons ?_ ?_ | exact rfl | exact trivial)⟩)) ?_
  · first
    | exact (yt_d (yd_eqS (x := .str x) (y := .str "yield") (ye_v rfl) ye_s rfl)).imp fun _ _ => trivial
    | exact (yt_B (yd_eqS (x := .str x) (y := .str "yield") (ye_v rfl) ye_s rfl)).imp fun _ _ => trivial
  · first
    | exact (yt_d (yd_cp (f := fun i j => decide (i < j)) (ye_v rfl) ye_i)).imp fun _ _ => trivial
    | exact (yt_B (yd_cp (f := fun i j => decide (i < j)) (ye_v rfl) ye_i)).imp fun _ _ => trivial
  · refine ws_set (P := isI fun r => 0 ≤ r) (y_drd rfl ((yd_lenT (xs := g.os.map ouD) (y_g1 (y_pl (ye_v rfl) (ye_v rfl) hg) ye_i)).to (by rw [List.length_map])) (fun r h1 h2 => h1) (by omega)) ?_
    rintro _ ⟨q, rfl, q0⟩
    obtain ⟨q, rfl⟩ : ∃ j : Nat, q = (j : Int) := ⟨q.toNat, by omega⟩
    exact ⟨q, (by repeat' first | exact Le.nil | refine Le.cons ?_ ?_ | exact rfl | exact trivial)⟩
  clear p0
  clear p
  rintro r ⟨p, le⟩
  refine Ws.le ?_ le
  refine ws_seq (fun r => ∃ p : Nat, Le r (B1 s p)) (ws_if (Pb := fun _ => True) (yt_and (Pb := fun _ => True) (Pc := fun _ => True) (Pd' := fun _ => True) ?_ (fun _ => ?_) (fun _ => trivial) fun _ _ _ => trivial) (fun _ => ?_) (fun _ => ws_next ⟨p, (by repeat' first | exact Le.nil | refine Le.cons ?_ ?_ | exact rfl | exact trivial)⟩)) ?_
  · first
    | exact (yt_d (yd_eqS (x := .str x) (y := .str "extra") (ye_v rfl) ye_s rfl)).imp fun _ _ => trivial
    | exact (yt_B (yd_eqS (x := .str x) (y := .str "extra") (ye_v rfl) ye_s rfl)).imp fun _ _ => trivial
  · first
    | exact (yt_d (yd_cp (f := fun i j => decide (i < j)) (ye_v rfl) ye_i)).imp fun _ _ => trivial
    | exact (yt_B (yd_cp (f := fun i j => decide (i < j)) (ye_v rfl) ye_i)).imp fun _ _ => trivial
  · refine ws_set (P := isI fun r => 0 ≤ r) (y_drd rfl ((yd_lenT (xs := g.fs.map feD) (y_g0 (y_pl (ye_v rfl) (ye_v rfl) hg) ye_i)).to (by rw [List.length_map])) (fun r h1 h2 => h1) (by omega)) ?_
    rintro _ ⟨q, rfl, q0⟩
    obtain ⟨q, rfl⟩ : ∃ j : Nat, q = (j : Int) := ⟨q.toNat, by omega⟩
    exact ⟨q, (by repeat' first | exact Le.nil | refine Le.cons ?_ ?_ | exact rfl | exact trivial)⟩
  clear le
  clear p
  rintro r ⟨p, le⟩
  refine Ws.le ?_ le
  refine ws_seq (fun r => ∃ s : Nat, Le r (B1 s p)) (ws_if (Pb := fun _ => True) ((yt_v (Pb := fun _ => True) (ye_imp0 (ye_draw rfl ye_i)) fun x ⟨b, e⟩ => ⟨b, e, trivial⟩).imp fun _ _ => trivial) (fun _ => ?_) (fun _ => ws_next ⟨s, (by repeat' first | exact Le.nil | refine Le.cons ?_ ?_ | exact rfl | exact trivial)⟩)) ?_
  · refine ws_set (P := isI fun r => 0 ≤ r) (y_drd rfl ye_i (fun r h1 h2 => h1)) ?_
    rintro _ ⟨q, rfl, q0⟩
    obtain ⟨q, rfl⟩ : ∃ j : Nat, q = (j : Int) := ⟨q.toNat, by omega⟩
    exact ⟨q, (by repeat' first | exact Le.nil | refine Le.cons ?_ ?_ | exact rfl | exact trivial)⟩
  clear hg s0 s1 gb le
  clear s
  rintro r ⟨s, le⟩
  refine Ws.le ?_ le
  refine wq_set (P := isI fun r => 1 ≤ r ∧ r ≤ 12) (ye_add (Pa := fun x => x = .int 1) (Pb := isI fun r => 0 ≤ r ∧ r ≤ 11) ye_i (y_drw (C := fun m => 0 < m ∧ m ≤ 12) rfl (ye_menu (Q := isI fun m => 0 < m ∧ m ≤ 12) (n := 3) (ya_1 (isI_of ye_i (by decide)) (ya_1 (isI_of ye_i (by decide)) (ya_1 (isI_of ye_i (by decide)) ya_0))) (y_drd rfl ye_i fun r h1 h2 => ⟨h1, by omega⟩)) (fun m h => by omega) fun m r h h1 h2 => by omega) ?_) ?_
  · rintro a b rfl ⟨r, rfl, r0, r1⟩
    exact ⟨1, r, rfl, rfl, _, rfl, by omega, by omega⟩
  rintro _ ⟨c, rfl, c1, c2⟩
  obtain ⟨k, rfl⟩ : ∃ j : Nat, c = ((j + 1 : Nat) : Int) := ⟨c.toNat - 1, by omega⟩
  have hk : k < 12 := by omega
  refine wq_set (P := isI fun _ => True) (ye_menu (Q := isI fun _ => True) (n := 6) (ya_1 (isI_of ye_i trivial) (ya_1 (isI_of ye_i trivial) (ya_1 (isI_of ye_i trivial) (ya_1 (isI_of ye_i trivial) (ya_1 (isI_of ye_i trivial) (ya_1 (isI_of ye_i trivial) ya_0)))))) (y_drd rfl ye_i fun r h1 h2 => ⟨h1, by omega⟩)) ?_
  rintro _ ⟨a, rfl, _⟩
  rcases hx with rfl | rfl | rfl | rfl
  · refine wq_skip ((yt_ord (a := false) (b := false) (by first | exact yt_d ((yd_eqS (ye_v rfl) ye_s rfl).to rfl) | exact yt_B ((yd_eqS (ye_v rfl) ye_s rfl).to rfl)) fun _ => (by first | exact yt_d ((yd_eqS (ye_v rfl) ye_s rfl).to rfl) | exact yt_B ((yd_eqS (ye_v rfl) ye_s rfl).to rfl))).to rfl) ?_
    exact ws_retd (yd_tup (ds := [.str "yield", .int (s : Int), .int (p : Int), .int ((k + 1 : Nat) : Int), .int a]) (ya_d (ye_v rfl) (ya_d (ye_v rfl) (ya_d (ye_v rfl) (ya_d (ye_v rfl) (ya_d (ye_v rfl) ya_n)))))) (hP (.out s p k a) hk)
  · refine wq_skip ((yt_ord (a := false) (b := false) (by first | exact yt_d ((yd_eqS (ye_v rfl) ye_s rfl).to rfl) | exact yt_B ((yd_eqS (ye_v rfl) ye_s rfl).to rfl)) fun _ => (by first | exact yt_d ((yd_eqS (ye_v rfl) ye_s rfl).to rfl) | exact yt_B ((yd_eqS (ye_v rfl) ye_s rfl).to rfl))).to rfl) ?_
    exact ws_retd (yd_tup (ds := [.str "extra", .int (s : Int), .int (p : Int), .int ((k + 1 : Nat) : Int), .int a]) (ya_d (ye_v rfl) (ya_d (ye_v rfl) (ya_d (ye_v rfl) (ya_d (ye_v rfl) (ya_d (ye_v rfl) ya_n)))))) (hP (.inp s p k a) hk)
  · refine wq_when (Pb := fun b => b = true) ((yt_ord (a := true) (b := true) (by first | exact yt_d ((yd_eqS (ye_v rfl) ye_s rfl).to rfl) | exact yt_B ((yd_eqS (ye_v rfl) ye_s rfl).to rfl)) fun z => nomatch z).to rfl) (fun _ => ?_) (fun z => nomatch z)
    exact ws_retd (yd_t4 (ye_v rfl) (ye_v rfl) (ye_v rfl) (ye_v rfl)) (hP (.slow s k a) hk)
  · refine wq_when (Pb := fun b => b = true) ((yt_ord (a := false) (b := true) (by first | exact yt_d ((yd_eqS (ye_v rfl) ye_s rfl).to rfl) | exact yt_B ((yd_eqS (ye_v rfl) ye_s rfl).to rfl)) fun _ => (by first | exact yt_d ((yd_eqS (ye_v rfl) ye_s rfl).to rfl) | exact yt_B ((yd_eqS (ye_v rfl) ye_s rfl).to rfl))).to rfl) (fun _ => ?_) (fun z => nomatch z)
    exact ws_retd (yd_t4 (ye_v rfl) (ye_v rfl) (ye_v rfl) (ye_v rfl)) (hP (.cost s k a) hk)


def R__law_step : Pr := fun ss P => ∃ (c : Cv) (n : Nat), ss = [.d (cvD c), .d (.int (n : Int))] ∧ 1 ≤ c.p.length ∧ P (.int (c.inc n))

abbrev s__law_step : Stmt := topS 30
theorem sc__law_step : FnScope ["curve", "k"] ["curve", "k"] (defScope s__law_step) := ⟨rfl, rfl, rfl, by decide +kernel, rfl, by decide +kernel, by decide +kernel⟩
theorem ok__law_step {Pg : Program} {w : World} {K : PySem.W.Frag} {mg : Str → Option Value} {base : Heap} (T : Tx w K mg) {f : Addr} {fd : FuncData} (F : Fun K "_law_step" "_law_step" s__law_step f fd) : FnOk Pg w K mg base CX0 1 f fd ["curve", "k"] (spR K 2 R__law_step) := by
  refine fn_ok (n := 2) F sc__law_step rfl (by decide) (fun cdv A outer s H E hr => ⟨_, (pss_cons (ps_if (pt_cmpR op_lt (pv 1) (pe_callB call_len_seq (by rfl) T.b_len (by decide +kernel) (pa_cons (pe_ix ix_seq (pv 0) pe_int (fun _ _ => rfl)) pa_nil)) (nomark _)) (pss_one (ps_ret (pe_ix ix_seq (pe_ix ix_seq (pv 0) pe_int (fun _ _ => rfl)) (pv 1) (fun _ _ => rfl)))) pss_nil)
    (pss_one (ps_ret (pe_ix ix_seq (pe_ix ix_seq (pv 0) pe_int (fun _ _ => rfl)) (pe_op op_mod (pe_callTy call_int1 (by rfl) T.b_int (by decide +kernel) (pa_cons (pe_op op_sub (pv 1) (pe_callB call_len_seq (by rfl) T.b_len (by decide +kernel) (pa_cons (pe_ix ix_seq (pv 0) pe_int (fun _ _ => rfl)) pa_nil))) pa_nil)) (pe_callB call_len_seq (by rfl) T.b_len (by decide +kernel) (pa_cons (pe_ix ix_seq (pv 0) pe_int (fun _ _ => rfl)) pa_nil))) (fun _ _ => rfl))))), ?_⟩)
  intro ss P hl hR
  obtain ⟨c, n, rfl, l1, hP⟩ := hR
  refine wq_when (yt_d (yd_cp (f := fun i j => decide (i < j)) (ye_v rfl) (y_len (y_c1 (ye_v rfl) ye_i)))) (fun e => ?_) (fun e => ?_)
  · have e : (n : Int) < (c.t.length : Int) := of_decide_eq_true e.symm
    have hn : n < c.t.length := by omega
    refine ws_retd (y_ix (y_c1 (ye_v rfl) ye_i) (ye_v rfl) (z := c.inc n) (atI_nat ?_)) hP
    rw [inc_t hn, List.getD_eq_getElem?_getD, List.getElem?_eq_getElem hn]
    rfl
  · have e : ¬ (n : Int) < (c.t.length : Int) := of_decide_eq_false e.symm
    have hn : c.t.length ≤ n := by omega
    have hm : (n - c.t.length) % c.p.length < c.p.length := Nat.mod_lt _ (by omega)
    refine ws_retd (y_ix (y_c2 (ye_v rfl) ye_i) ((yd_md (yd_toI (yd_sub (ye_v rfl) (y_len (y_c1 (ye_v rfl) ye_i)))) (y_len (y_c2 (ye_v rfl) ye_i)) (by omega)).to (e := .int (((n - c.t.length) % c.p.length : Nat) : Int)) (by rw [Int.natCast_emod]; congr 2; omega)) (z := c.inc n) (atI_nat ?_)) hP
    unfold Cv.inc
    rw [seq_hi hn]
    unfold cyc
    rw [List.getD_eq_getElem?_getD, List.getElem?_eq_getElem hm]
    rfl


def ddL : Dd → List PyData
  | .out s p k a => [.str "yield", .int (s : Int), .int (p : Int), .int ((k + 1 : Nat) : Int), .int a]
  | .inp s p k a => [.str "extra", .int (s : Int), .int (p : Int), .int ((k + 1 : Nat) : Int), .int a]
  | .slow s k a => [.str "slow", .int (s : Int), .int ((k + 1 : Nat) : Int), .int a]
  | .cost s k a => [.str "cost", .int (s : Int), .int ((k + 1 : Nat) : Int), .int a]
theorem ddL_eq (d : Dd) : ddD d = .tuple (ddL d) := by cases d <;> rfl
def Dd.am : Dd → Int
  | .out _ _ _ a => a
  | .inp _ _ _ a => a
  | .slow _ _ a => a
  | .cost _ _ a => a
section
variable {K : PySem.W.Frag} {ρ : Rho} {te tb : TE}
theorem y_ds {d : Dd} (h : Pd K te ρ (ddD d)) : Pd K (tOp (rIx K) te (tC (.int 1))) ρ (.int (d.s : Int)) := yd_ixT (h.to (ddL_eq d)) ye_i (by cases d <;> rfl)
theorem y_dc {d : Dd} (h : Pd K te ρ (ddD d)) : Pd K (tOp (rIx K) te (tOp rMinus (tCB (PD.rLen K) (tCons te tNil)) (tC (.int 2)))) ρ (.int ((d.k + 1 : Nat) : Int)) := yd_ixT (h.to (ddL_eq d)) (yd_sub (yd_lenT (h.to (ddL_eq d))) ye_i) (by cases d <;> rfl)
theorem y_da {d : Dd} (h : Pd K te ρ (ddD d)) : Pd K (tOp (rIx K) te (tOp rMinus (tCB (PD.rLen K) (tCons te tNil)) (tC (.int 1)))) ρ (.int d.am) := yd_ixT (h.to (ddL_eq d)) (yd_sub (yd_lenT (h.to (ddL_eq d))) ye_i) (by cases d <;> rfl)
end
def R__law_applies : Pr := fun ss P => ∃ (ps : List Sg) (rs : List Int) (d : Dd), ss = [.d (plD ps), .d (.list (rs.map .int)), .d (ddD d)] ∧ PlB ps ∧ rs.length = ps.length ∧ d.k < 12 ∧ P (.bool (chg ps rs d).isSome)

abbrev s__law_applies : Stmt := topS 32
theorem sc__law_applies : FnScope ["plant", "runs", "deed", "s", "cycle", "amount", "row"] ["plant", "runs", "deed"] (defScope s__law_applies) := ⟨rfl, rfl, rfl, by decide +kernel, rfl, by decide +kernel, by decide +kernel⟩
theorem ok__law_applies {Pg : Program} {w : World} {K : PySem.W.Frag} {mg : Str → Option Value} {base : Heap} (T : Tx w K mg) (C__law_step : Cal Pg w K mg base 1 "_law_step" ["curve", "k"] (spR K 2 R__law_step)) {f : Addr} {fd : FuncData} (F : Fun K "_law_applies" "_law_applies" s__law_applies f fd) : FnOk Pg w K mg base CX0 2 f fd ["plant", "runs", "deed"] (spR K 3 R__law_applies) := by
  refine fn_ok (n := 3) F sc__law_applies rfl (by decide) (fun cdv A outer s H E hr => ⟨_, (pss_cons (ps_set (i := 3) sc__law_applies.nd rfl (Or.inl rfl) (pe_ix ix_seq (pv 2) pe_int (fun _ _ => rfl)))
    (pss_cons (ps_set (i := 4) sc__law_applies.nd rfl (Or.inl rfl) (pe_ix ix_seq (pv 2) (pe_op op_sub (pe_callB call_len_seq (by rfl) T.b_len (by decide +kernel) (pa_cons (pv 2) pa_nil)) pe_int) (fun _ _ => rfl)))
    (pss_cons (ps_set (i := 5) sc__law_applies.nd rfl (Or.inl rfl) (pe_ix ix_seq (pv 2) (pe_op op_sub (pe_callB call_len_seq (by rfl) T.b_len (by decide +kernel) (pa_cons (pv 2) pa_nil)) pe_int) (fun _ _ => rfl)))
    (pss_cons (ps_if (PW.pt (pw_or (pt_cmpR op_ge (pv 3) (pe_callB call_len_seq (by rfl) T.b_len (by decide +kernel) (pa_cons (pv 0) pa_nil)) (nomark _)) (pw_or1 (pt_cmpR op_ge (pe_ix ix_seq (pv 1) (pv 3) (fun _ _ => rfl)) (pv 4) (nomark _))))) (pss_one (ps_ret pe_bl)) pss_nil)
    (pss_cons (ps_if (pt_cmpR (opx_eq hr) (pe_ix ix_seq (pv 2) pe_int (fun _ _ => rfl)) pe_str (nomark _)) (pss_one (ps_ret (pe_and (pe_cmpR op_lt (pe_ix ix_seq (pv 2) pe_int (fun _ _ => rfl)) (pe_callB call_len_seq (by rfl) T.b_len (by decide +kernel) (pa_cons (pe_ix ix_seq (pe_ix ix_seq (pv 0) (pv 3) (fun _ _ => rfl)) pe_int (fun _ _ => rfl)) pa_nil)) (nomark _)) (pe_one (pe_cmpR op_ge (pe_cal C__law_step hr (pa_cons (pe_ix ix_seq (pe_ix ix_seq (pe_ix ix_seq (pe_ix ix_seq (pv 0) (pv 3) (fun _ _ => rfl)) pe_int (fun _ _ => rfl)) (pe_ix ix_seq (pv 2) pe_int (fun _ _ => rfl)) (fun _ _ => rfl)) pe_int (fun _ _ => rfl)) (pa_cons (pe_op op_sub (pv 4) pe_int) pa_nil))) (pv 5) (nomark _)))))) pss_nil)
    (pss_cons (ps_if (pt_cmpR (opx_eq hr) (pe_ix ix_seq (pv 2) pe_int (fun _ _ => rfl)) pe_str (nomark _)) (pss_cons (ps_if (pt_cmpR op_ge (pe_ix ix_seq (pv 2) pe_int (fun _ _ => rfl)) (pe_callB call_len_seq (by rfl) T.b_len (by decide +kernel) (pa_cons (pe_ix ix_seq (pe_ix ix_seq (pv 0) (pv 3) (fun _ _ => rfl)) pe_int (fun _ _ => rfl)) pa_nil)) (nomark _)) (pss_one (ps_ret pe_bl)) pss_nil)
    (pss_cons (ps_set (i := 6) sc__law_applies.nd rfl (Or.inl rfl) (pe_ix ix_seq (pe_ix ix_seq (pe_ix ix_seq (pv 0) (pv 3) (fun _ _ => rfl)) pe_int (fun _ _ => rfl)) (pe_ix ix_seq (pv 2) pe_int (fun _ _ => rfl)) (fun _ _ => rfl)))
    (pss_one (ps_ret (pe_or (pe_not (pe_ix ix_seq (pv 6) pe_int (fun _ _ => rfl))) (pe_one (pe_and (pe_cmpR (opx_eq hr) (pe_cal C__law_step hr (pa_cons (pe_ix ix_seq (pv 6) pe_int (fun _ _ => rfl)) (pa_cons (pe_op op_sub (pv 4) pe_int) pa_nil))) pe_int (nomark _)) (pe_one (pe_cmpR (opx_eq hr) (pv 5) pe_int (nomark _)))))))))) pss_nil)
    (pss_one (ps_ret pe_bl)))))))), ?_⟩)
  intro ss P hl hR
  obtain ⟨ps, rs, d, rfl, hb, hr, hk, hP⟩ := hR
  have l4 := hb.l4
  refine wq_setd (y_ds (ye_v rfl)) ?_
  refine wq_setd (y_dc (ye_v rfl)) ?_
  refine wq_setd (y_da (ye_v rfl)) ?_
  obtain ⟨b1, hb1⟩ : ∃ b1 : Bool, b1 = decide (((ps.length : Nat) : Int) ≤ (d.s : Int)) := ⟨_, rfl⟩
  let B0 : Rho := [.d (plD ps), .d (.list (rs.map .int)), .d (ddD d), .d (.int (d.s : Int)), .d (.int ((d.k + 1 : Nat) : Int)), .d (.int d.am), .no]
  refine wq_when (Pb := fun b => b = (b1 || decide (((d.k + 1 : Nat) : Int) ≤ rs.getD d.s 0))) (yt_ord ?_ fun h => ?_) (fun e => ?_) (fun e => ?_)
  · have q := (yd_cp (K := K) (ρ := B0) (f := fun i j => decide (j ≤ i)) (ye_v (i := 3) rfl) ((yd_lenT (xs := ps.map sgD) (ye_v (i := 0) rfl)).to (by rw [List.length_map]))).to (e := .bool b1) (by rw [hb1])
    first
    | exact yt_d q
    | exact yt_B q
  · have hs : d.s < rs.length := by rw [hb1] at h; have h := of_decide_eq_false h; omega
    have q := yd_cp (K := K) (ρ := B0) (f := fun i j => decide (j ≤ i)) (yd_ixR (xs := rs.map .int) (rl_of (ye_v (i := 1) rfl)) (ye_v (i := 3) rfl) (atI_nat (getD_eq hs))) (ye_v (i := 4) rfl)
    first
    | exact yt_d q
    | exact yt_B q
  · refine ws_retd (d := .bool false) ye_b ?_
    have : chg ps rs d = none := by
      unfold chg
      cases hg : ps[d.s]? with
      | none => rfl
      | some g =>
        have hs := (List.getElem?_eq_some_iff.mp hg).1
        have e1 : b1 = false := by rw [hb1]; exact decide_eq_false (by omega)
        rw [e1, Bool.false_or] at e
        exact if_pos (of_decide_eq_true e.symm)
    rw [this] at hP
    exact hP
  have e := Bool.or_eq_false_iff.mp e.symm
  have hs : d.s < ps.length := by rw [hb1] at e; have e := of_decide_eq_false e.1; omega
  have e2 := of_decide_eq_false e.2
  obtain ⟨g, hg⟩ : ∃ g, ps[d.s]? = some g := ⟨_, List.getElem?_eq_getElem hs⟩
  have gb := hb.g g (List.mem_of_getElem? hg)
  have hc : (chg ps rs d).isSome = (chgS g d).isSome := by
    unfold chg
    rw [hg]
    show (if _ then none else _ : Option (List Sg)).isSome = _
    rw [if_neg e2, Option.isSome_map]
  rw [hc] at hP
  clear hc e e2
  have ps' : ∀ {ρ : Rho}, ρ[0]? = some (.d (plD ps)) → ρ[3]? = some (.d (.int (d.s : Int))) → Pd K (tOp (rIx K) (tVar 0) (tVar 3)) ρ (sgD g) := fun e1 e2 => y_pl (ye_v e1) (ye_v e2) hg
  cases d with
  | out s p k a =>
    refine wq_when (Pb := fun b => b = true) (by first | exact yt_d ((yd_eqS (yd_ixT (ye_v rfl) ye_i rfl) ye_s rfl).to rfl) | exact yt_B ((yd_eqS (yd_ixT (ye_v rfl) ye_i rfl) ye_s rfl).to rfl)) (fun _ => ?_) (fun z => nomatch z)
    have hP : P (.bool (chgO g.os p k a).isSome) := by
      have q : (chgS g (.out s p k a)).isSome = (chgO g.os p k a).isSome := Option.isSome_map
      rw [← q]
      exact hP
    obtain ⟨q, hq⟩ : ∃ q : Bool, q = decide ((p : Int) < (g.os.length : Int)) := ⟨_, rfl⟩
    cases ho : g.os[p]? with
    | none =>
      have hp := List.getElem?_eq_none_iff.mp ho
      have e : chgO g.os p k a = none := by unfold chgO; rw [ho]
      rw [e] at hP
      exact ws_retd ((yd_andV (a := false) (b := false) ((yd_cp (f := fun i j => decide (i < j)) (yd_ixT (ye_v rfl) ye_i rfl) (yd_lenT (xs := g.os.map ouD) (y_g1 (ps' rfl rfl) ye_i))).to (by rw [List.length_map]; congr 1; exact decide_eq_false (by omega))) fun z => nomatch z).to rfl) hP
    | some o =>
      have hp := (List.getElem?_eq_some_iff.mp ho).1
      have cb := gb.o o (List.mem_of_getElem? ho)
      have e : (chgO g.os p k a).isSome = decide (a ≤ o.c.inc k) := by
        unfold chgO
        rw [ho]
        show (if _ then some _ else none : Option (List Ou)).isSome = _
        by_cases z : a ≤ o.c.inc k
        · rw [if_pos z, decide_eq_true z]; rfl
        · rw [if_neg z, decide_eq_false z]; rfl
      rw [e] at hP
      exact ws_retd ((yd_andV (a := true) ((yd_cp (f := fun i j => decide (i < j)) (yd_ixT (ye_v rfl) ye_i rfl) (yd_lenT (xs := g.os.map ouD) (y_g1 (ps' rfl rfl) ye_i))).to (by rw [List.length_map]; congr 1; exact decide_eq_true (by omega))) fun _ => yd_cp (f := fun i j => decide (j ≤ i)) (ye_cl (P := fun d => d = .int (o.c.inc k)) (ya_d (yd_ixT (xs := [.int o.b, cvD o.c, .int o.w]) (yd_ixT (xs := g.os.map ouD) (y_g1 (ps' rfl rfl) ye_i) (yd_ixT (ye_v rfl) ye_i rfl) (atI_nat (by rw [List.getElem?_map, ho]; rfl))) ye_i rfl) (ya_d ((yd_sub (ye_v rfl) ye_i).to (e := .int (k : Int)) (by show PyData.int (((k + 1 : Nat) : Int) - 1) = _; congr 1; omega)) ya_n)) rfl ⟨o.c, k, rfl, cb.p1, rfl⟩) (ye_v rfl)).to (Bool.true_and _ ▸ rfl)) hP
  | inp s p k a =>
    refine wq_skip (by first | exact yt_d ((yd_eqS (yd_ixT (ye_v rfl) ye_i rfl) ye_s rfl).to rfl) | exact yt_B ((yd_eqS (yd_ixT (ye_v rfl) ye_i rfl) ye_s rfl).to rfl)) ?_
    have hP : P (.bool (chgF g.fs p k a).isSome) := by
      have q : (chgS g (.inp s p k a)).isSome = (chgF g.fs p k a).isSome := Option.isSome_map
      rw [← q]
      exact hP
    refine wq_when (Pb := fun b => b = true) (by first | exact yt_d ((yd_eqS (yd_ixT (ye_v rfl) ye_i rfl) ye_s rfl).to rfl) | exact yt_B ((yd_eqS (yd_ixT (ye_v rfl) ye_i rfl) ye_s rfl).to rfl)) (fun _ => ?_) (fun z => nomatch z)
    refine wq_when (yt_d (yd_cp (f := fun i j => decide (j ≤ i)) (yd_ixT (ye_v rfl) ye_i rfl) ((yd_lenT (xs := g.fs.map feD) (y_g0 (ps' rfl rfl) ye_i)).to (by rw [List.length_map])))) (fun e => ?_) (fun e => ?_)
    · have e := of_decide_eq_true e.symm
      have z : chgF g.fs p k a = none := by unfold chgF; rw [List.getElem?_eq_none (by omega)]
      rw [z] at hP
      exact ws_retd ye_b hP
    have e := of_decide_eq_false e.symm
    have hp : p < g.fs.length := by omega
    obtain ⟨o, ho⟩ : ∃ o, g.fs[p]? = some o := ⟨_, List.getElem?_eq_getElem hp⟩
    have cb := gb.f o (List.mem_of_getElem? ho)
    refine wq_setd (y_fe (y_g0 (ps' rfl rfl) ye_i) (yd_ixT (ye_v rfl) ye_i rfl) ho) ?_
    have z : (chgF g.fs p k a).isSome = (!o.u || (decide (o.c.inc k = 0) && decide (a = 1))) := by
      unfold chgF
      rw [ho]
      show (if _ then some _ else none : Option (List Fe)).isSome = _
      by_cases h1 : o.u = false ∨ (o.c.inc k = 0 ∧ a = 1)
      · rw [if_pos h1]
        rcases h1 with h1 | ⟨h1, h2⟩
        · rw [h1]; rfl
        · rw [h1, h2]; simp
      · rw [if_neg h1]
        have h2 := not_or.mp h1
        have h3 : o.u = true := by simpa using h2.1
        rw [h3]
        by_cases h4 : o.c.inc k = 0
        · have h5 : ¬ a = 1 := fun w => h2.2 ⟨h4, w⟩
          rw [decide_eq_false h5, Bool.and_false]; rfl
        · rw [decide_eq_false h4, Bool.false_and]; rfl
    rw [z] at hP
    exact ws_retd (yd_orV (yd_notV (y_f3 (ye_v rfl) ye_i)) fun _ => yd_andV (yd_eqS (x := .int (o.c.inc k)) (y := .int 0) (ye_cl (P := fun d => d = .int (o.c.inc k)) (ya_d (y_f1 (ye_v rfl) ye_i) (ya_d ((yd_sub (ye_v rfl) ye_i).to (e := .int (k : Int)) (by show PyData.int (((k + 1 : Nat) : Int) - 1) = _; congr 1; omega)) ya_n)) rfl ⟨o.c, k, rfl, cb.p1, rfl⟩) ye_i rfl) fun _ => yd_eqS (x := .int a) (y := .int 1) (ye_v rfl) ye_i rfl) hP
  | slow s k a =>
    refine wq_skip (by first | exact yt_d ((yd_eqS (yd_ixT (ye_v rfl) ye_i rfl) ye_s rfl).to rfl) | exact yt_B ((yd_eqS (yd_ixT (ye_v rfl) ye_i rfl) ye_s rfl).to rfl)) ?_
    refine wq_skip (by first | exact yt_d ((yd_eqS (yd_ixT (ye_v rfl) ye_i rfl) ye_s rfl).to rfl) | exact yt_B ((yd_eqS (yd_ixT (ye_v rfl) ye_i rfl) ye_s rfl).to rfl)) ?_
    exact ws_retd ye_b hP
  | cost s k a =>
    refine wq_skip (by first | exact yt_d ((yd_eqS (yd_ixT (ye_v rfl) ye_i rfl) ye_s rfl).to rfl) | exact yt_B ((yd_eqS (yd_ixT (ye_v rfl) ye_i rfl) ye_s rfl).to rfl)) ?_
    refine wq_skip (by first | exact yt_d ((yd_eqS (yd_ixT (ye_v rfl) ye_i rfl) ye_s rfl).to rfl) | exact yt_B ((yd_eqS (yd_ixT (ye_v rfl) ye_i rfl) ye_s rfl).to rfl)) ?_
    exact ws_retd ye_b hP


theorem per_drop {p : List Int} {d : Nat} (hp : 1 ≤ p.length) (hd : 1 ≤ d) (hl : d ≤ p.length) : (p.length % d = 0 ∧ p.drop d = p.take (p.length - d)) ↔ Per p d := by
  constructor
  · rintro ⟨h1, h2⟩
    have dv := Nat.dvd_of_mod_eq_zero h1
    have at1 : ∀ x, x + d < p.length → p.getD (x + d) 0 = p.getD x 0 := fun x hx => by
      have := congrArg (fun l => l.getD x 0) h2
      simp only [List.getD_eq_getElem?_getD, List.getElem?_drop] at this
      rw [List.getElem?_take, if_pos (by omega)] at this
      rw [List.getD_eq_getElem?_getD, List.getD_eq_getElem?_getD, Nat.add_comm x d]
      exact this
    have chain : ∀ i x, x + i * d < p.length → p.getD (x + i * d) 0 = p.getD x 0 := fun i => by
      induction i with
      | zero => intro x _; rw [Nat.zero_mul, Nat.add_zero]
      | succ i ih =>
        intro x hx
        rw [Nat.add_mul, Nat.one_mul, ← Nat.add_assoc] at hx ⊢
        rw [at1 _ hx, ih x (by omega)]
    refine ⟨hd, dv, fun k => ?_⟩
    obtain ⟨q, hq⟩ := dv
    have hr := Nat.mod_lt k (show 0 < p.length by omega)
    have dm := Nat.div_add_mod k p.length
    obtain ⟨r, er⟩ : ∃ r, r = k % p.length := ⟨_, rfl⟩
    rw [← er] at hr dm
    have e1 : cyc p k = p.getD r 0 := by unfold cyc; rw [← er]
    have e2 : (k + d) % p.length = (r + d) % p.length := by rw [← dm, Nat.add_assoc, Nat.mul_add_mod]
    unfold cyc at e1 ⊢
    rw [e1, e2]
    by_cases h : r + d < p.length
    · rw [Nat.mod_eq_of_lt h, at1 r h]
    · have e3 : (r + d) % p.length = r + d - p.length := by
        rw [Nat.mod_eq_sub_mod (by omega), Nat.mod_eq_of_lt (by omega)]
      rw [e3]
      obtain ⟨q', rfl⟩ : ∃ q', q = q' + 1 := ⟨q - 1, by
        cases q with
        | zero => rw [Nat.mul_zero] at hq; omega
        | succ q => rfl⟩
      rw [Nat.mul_add, Nat.mul_one] at hq
      have := chain q' (r + d - p.length) (by rw [Nat.mul_comm]; omega)
      rw [← this]
      congr 1
      rw [Nat.mul_comm]
      omega
  · rintro ⟨_, h2, h3⟩
    refine ⟨Nat.mod_eq_zero_of_dvd h2, ?_⟩
    refine List.ext_getElem? fun i => ?_
    rw [List.getElem?_drop, List.getElem?_take]
    by_cases h : i < p.length - d
    · rw [if_pos h]
      have a := h3 i
      rw [cyc_lt p (by omega), cyc_lt p (by omega), List.getD_eq_getElem?_getD, List.getD_eq_getElem?_getD] at a
      rw [Nat.add_comm d i]
      rw [List.getElem?_eq_getElem (by omega), List.getElem?_eq_getElem (by omega)] at a ⊢
      exact congrArg some a
    · rw [if_neg h, List.getElem?_eq_none (by omega)]
def R__law_normal : Pr := fun ss P => ∃ (f : Int) (t p : List Int) (d1 d2 : PyData), ss = [.d (.int f), .d d1, .d d2] ∧ SqI d1 t ∧ SqI d2 p ∧ 1 ≤ p.length ∧ p.length ≤ 1000 ∧ t.length ≤ 1000000 ∧ ∀ a b, NF t p a b → P (cvD ⟨f, a, b⟩)
theorem y_slL3 {K : PySem.W.Frag} {ρ : Rho} {te : TE} {xs : List Int} {tl th : TO} {lo hi : Option Int} (h : Pd K te ρ (.list (xs.map .int))) (hl : Pod K tl ρ lo) (hh : Pod K th ρ hi) : Pd K (tSl (rSlX K) te tl th) ρ (.list ((cut xs lo hi).map .int)) := (nd_slR (rl_of h) hl hh).pd.to (by rw [cut_map])

abbrev s__law_normal : Stmt := topS 22
theorem sc__law_normal : FnScope ["first", "lead", "turn", "size", "back", "k", "cut"] ["first", "lead", "turn"] (defScope s__law_normal) := ⟨rfl, rfl, rfl, by decide +kernel, rfl, by decide +kernel, by decide +kernel⟩
theorem ok__law_normal {Pg : Program} {w : World} {K : PySem.W.Frag} {mg : Str → Option Value} {base : Heap} (T : Tx w K mg) {f : Addr} {fd : FuncData} (F : Fun K "_law_normal" "_law_normal" s__law_normal f fd) : FnOk Pg w K mg base CX0 1 f fd ["first", "lead", "turn"] (spR K 3 R__law_normal) := by
  refine fn_ok (n := 3) F sc__law_normal rfl (by decide) (fun cdv A outer s H E hr => ⟨_, (pss_cons (ps_set (i := 1) sc__law_normal.nd rfl (Or.inl rfl) (pe_callTy call_list_of (by rfl) T.b_list (by decide +kernel) (pa_cons (pv 1) pa_nil)))
    (pss_cons (ps_set (i := 2) sc__law_normal.nd rfl (Or.inl rfl) (pe_callTy call_list_of (by rfl) T.b_list (by decide +kernel) (pa_cons (pv 2) pa_nil)))
    (pss_cons (ps_for PassesOwn.never rfl (pi_range2 rfl T.b_range (pa_cons pe_int (pa_cons (pe_callB call_len_seq (by rfl) T.b_len (by decide +kernel) (pa_cons (pv 2) pa_nil)) pa_nil))) (pg_name (i := 3) sc__law_normal.nd rfl (Or.inl rfl))
    (pss_one (ps_if (PW.pt (pw_and (pt_cmpR (opx_eq hr) (pe_op op_mod (pe_callTy call_int1 (by rfl) T.b_int (by decide +kernel) (pa_cons (pe_callB call_len_seq (by rfl) T.b_len (by decide +kernel) (pa_cons (pv 2) pa_nil)) pa_nil)) (pv 3)) pe_int (nomark _)) (pw_and1 (pt_cmpR (opx_eq hr) (pe_slice slx (pv 2) (po_some (pv 3)) po_none) (pe_slice slx (pv 2) po_none (po_some (pe_op op_sub (pe_callB call_len_seq (by rfl) T.b_len (by decide +kernel) (pa_cons (pv 2) pa_nil)) (pv 3)))) (nomark _))))) (pss_cons (ps_set (i := 2) sc__law_normal.nd rfl (Or.inl rfl) (pe_slice slx (pv 2) po_none (po_some (pv 3))))
    (pss_one ps_break)) pss_nil)))
    (pss_cons (ps_set (i := 4) sc__law_normal.nd rfl (Or.inl rfl) pe_int)
    (pss_cons (ps_for PassesOwn.never rfl (pi_range1 rfl T.b_range (pa_cons (pe_callB call_len_seq (by rfl) T.b_len (by decide +kernel) (pa_cons (pv 1) pa_nil)) pa_nil)) (pg_name (i := 5) sc__law_normal.nd rfl (Or.inl rfl))
    (pss_cons (ps_if (pt_cmpR (opx_ne hr) (pe_ix ix_seq (pv 1) (pe_op op_sub (pe_op op_sub (pe_callB call_len_seq (by rfl) T.b_len (by decide +kernel) (pa_cons (pv 1) pa_nil)) pe_int) (pv 5)) (fun _ _ => rfl)) (pe_ix ix_seq (pv 2) (pe_op op_mod (pe_callTy call_int1 (by rfl) T.b_int (by decide +kernel) (pa_cons (pe_op op_sub (pe_op op_sub (pe_callB call_len_seq (by rfl) T.b_len (by decide +kernel) (pa_cons (pv 2) pa_nil)) pe_int) (pv 5)) pa_nil)) (pe_callB call_len_seq (by rfl) T.b_len (by decide +kernel) (pa_cons (pv 2) pa_nil))) (fun _ _ => rfl)) (nomark _)) (pss_one ps_break) pss_nil)
    (pss_one (ps_set (i := 4) sc__law_normal.nd rfl (Or.inl rfl) (pe_op opx_add (pv 5) pe_int)))))
    (pss_cons (ps_set (i := 6) sc__law_normal.nd rfl (Or.inl rfl) (pe_op op_sub (pe_callB call_len_seq (by rfl) T.b_len (by decide +kernel) (pa_cons (pv 2) pa_nil)) (pe_op op_mod (pe_callTy call_int1 (by rfl) T.b_int (by decide +kernel) (pa_cons (pv 4) pa_nil)) (pe_callB call_len_seq (by rfl) T.b_len (by decide +kernel) (pa_cons (pv 2) pa_nil)))))
    (pss_one (ps_ret (pe_tup (pa_cons (pv 0) (pa_cons (pe_callTy call_tuple_of (by rfl) T.b_tuple (by decide +kernel) (pa_cons (pe_slice slx (pv 1) po_none (po_some (pe_op op_sub (pe_callB call_len_seq (by rfl) T.b_len (by decide +kernel) (pa_cons (pv 1) pa_nil)) (pv 4)))) pa_nil)) (pa_cons (pe_callTy call_tuple_of (by rfl) T.b_tuple (by decide +kernel) (pa_cons (pe_op opx_add (pe_slice slx (pv 2) (po_some (pv 6)) po_none) (pe_slice slx (pv 2) po_none (po_some (pv 6)))) pa_nil)) pa_nil)))))))))))), ?_⟩)
  intro ss P hl hR
  obtain ⟨f, t, p, d1, d2, rfl, hd1, hd2, p1, p2, tl, hP⟩ := hR
  refine wq_setd (d := .list (t.map .int)) (nd_listX (ye_v rfl) hd1).pd ?_
  refine wq_setd (d := .list (p.map .int)) (nd_listX (ye_v rfl) hd2).pd ?_
  let B : List Int → Rho := fun p => [.d (.int f), .d (.list (t.map .int)), .d (.list (p.map .int)), .no, .no, .no, .no]
  have ln : ∀ {ρ : Rho} {i : Nat} {xs : List Int}, ρ[i]? = some (.d (.list (xs.map .int))) → Pd K (tCB (PD.rLen K) (tCons (tVar i) tNil)) ρ (.int (xs.length : Int)) := fun e => (yd_lenL (ye_v e)).to (by rw [List.length_map])
  refine ws_seq (fun r => ∃ m, LeastPer p m ∧ Le r (B (p.take m))) (ws_ford (xs := rgD 1 (p.length : Int)) (it_r2 ye_i (ln rfl) (by omega)) (fun i r => (∀ d, d < i + 1 → ¬ Per p d) ∧ Le r (B p)) ⟨fun d hd h => by have := h.pos; omega, (by repeat' first | exact Le.nil | refine Le.cons ?_ ?_ | exact rfl | exact trivial)⟩ ?_ ?_) ?_
  · rintro i x r hi ⟨hno, le⟩
    have hi2 := (List.getElem?_eq_some_iff.mp hi).1
    rw [rg_at _ _ _ hi2] at hi
    rw [rg_len] at hi2
    cases hi
    rw [show (1 : Int) + (i : Int) = ((i + 1 : Nat) : Int) by omega]
    have il : i + 1 < p.length := by omega
    have iff := per_drop p1 (show 1 ≤ i + 1 by omega) (Nat.le_of_lt il)
    refine ⟨[3], r.set 3 (.d (.int ((i + 1 : Nat) : Int))), yg_n, Ws.le ?_ (le.seta (j := 3) (x := .d (.int ((i + 1 : Nat) : Int))))⟩
    refine ws_ifd (b := decide (p.length % (i + 1) = 0) && decide (p.drop (i + 1) = p.take (p.length - (i + 1)))) (yt_andd ?_ fun _ => ?_) (fun e => ?_) (fun e => ?_)
    · have q : Pd K (tOp (rEqX K) (tOp rMd (tCB rInt1 (tCons (tCB (PD.rLen K) (tCons (tVar 2) tNil)) tNil)) (tVar 3)) (tC (.int 0))) [.d (.int f), .d (.list (t.map .int)), .d (.list (p.map .int)), .d (.int ((i + 1 : Nat) : Int)), .no, .no, .no] (.bool (decide (p.length % (i + 1) = 0))) := (yd_eqS (x := .int ((p.length % (i + 1) : Nat) : Int)) (y := .int 0) ((yd_md (yd_toI (ln rfl)) (ye_v rfl) (by omega)).to (by rw [Int.natCast_emod])) ye_i rfl).to (by show PyData.bool (decide _) = _; congr 1; exact decide_eq_decide.mpr (by omega))
      first
      | exact yt_d q
      | exact yt_B q
    · have q := y_eqL (K := K) (ρ := [.d (.int f), .d (.list (t.map .int)), .d (.list (p.map .int)), .d (.int ((i + 1 : Nat) : Int)), .no, .no, .no]) ((y_slL3 (xs := p) (ye_v (i := 2) rfl) (yo_i (ye_v (i := 3) rfl)) yo_n).to (by rw [cut_from])) ((y_slL3 (xs := p) (ye_v (i := 2) rfl) yo_n (yo_i ((yd_sub (ln (i := 2) rfl) (ye_v (i := 3) rfl)).to (e := .int ((p.length - (i + 1) : Nat) : Int)) (by congr 1; omega)))).to (by rw [cut_to]))
      first
      | exact yt_d q
      | exact yt_B q
    · have e : p.length % (i + 1) = 0 ∧ p.drop (i + 1) = p.take (p.length - (i + 1)) := by simpa using e
      have pr := iff.mp e
      have lp : LeastPer p (i + 1) := ⟨pr, fun d hd => Nat.le_of_not_lt fun q => hno d q hd⟩
      refine wq_setd (d := .list ((p.take (i + 1)).map .int)) ((y_slL3 (ye_v rfl) yo_n (yo_i (ye_v rfl))).to (by rw [cut_to])) ?_
      exact ws_brk ⟨i + 1, lp, (by repeat' first | exact Le.nil | refine Le.cons ?_ ?_ | exact rfl | exact trivial)⟩
    · have e : ¬ (p.length % (i + 1) = 0 ∧ p.drop (i + 1) = p.take (p.length - (i + 1))) := fun z => by rw [decide_eq_true z.1, decide_eq_true z.2] at e; exact nomatch e
      refine ws_next ⟨fun d hd hp => ?_, (by repeat' first | exact Le.nil | refine Le.cons ?_ ?_ | exact rfl | exact trivial)⟩
      rcases Nat.lt_or_ge d (i + 1) with q | q
      · exact hno d q hp
      · have : d = i + 1 := by omega
        subst this
        exact e (iff.mpr hp)
  · rintro r ⟨hno, le⟩
    rw [rg_len] at hno
    refine ⟨p.length, ⟨Per.self p1, fun d hd => Nat.le_of_not_lt fun q => hno d (by omega) hd⟩, ?_⟩
    rw [List.take_of_length_le (Nat.le_refl _)]
    exact le
  rintro r ⟨m, hm, le⟩
  refine Ws.le ?_ le
  have hmp := hm.per.le p1
  have m1 := hm.per.pos
  have ql : (p.take m).length = m := by rw [List.length_take]; omega
  have hP := fun s (hS : Strip t (p.take m) s) => hP _ _ ⟨m, s, hm, hS, rfl, rfl⟩
  generalize hq : p.take m = q at *
  refine wq_setd ye_i ?_
  let C : Nat → Rho := fun s => [.d (.int f), .d (.list (t.map .int)), .d (.list (q.map .int)), .no, .d (.int (s : Int)), .no, .no]
  refine ws_seq (fun r => ∃ s, Strip t q s ∧ Le r (C s)) (ws_ford (xs := rgD 0 (t.length : Int)) (it_r1 (ln rfl) (by omega) (by omega)) (fun k r => k ≤ t.length ∧ (∀ j, j < k → mt t q j) ∧ Le r (C k)) ⟨Nat.zero_le _, fun j h => absurd h (Nat.not_lt_zero _), (by repeat' first | exact Le.nil | refine Le.cons ?_ ?_ | exact rfl | exact trivial)⟩ ?_ ?_) ?_
  · rintro k x r hk ⟨_, hall, le⟩
    have hk2 := (List.getElem?_eq_some_iff.mp hk).1
    rw [rg_at _ _ _ hk2] at hk
    rw [rg_len] at hk2
    cases hk
    rw [Int.zero_add]
    have hk2 : k < t.length := by omega
    have hsm := Nat.mod_lt k (show 0 < m by omega)
    refine ⟨[5], r.set 5 (.d (.int (k : Int))), yg_n, Ws.le ?_ (le.seta (j := 5) (x := .d (.int (k : Int))))⟩
    have ix : ∀ (xs : List Int) (j : Nat), j < xs.length → atI (xs.map PyData.int) (j : Int) = some (.int (xs.getD j 0)) := fun xs j h => atI_nat (by rw [List.getElem?_map, List.getElem?_eq_getElem h, List.getD_eq_getElem?_getD, List.getElem?_eq_getElem h]; rfl)
    have mm : ((m : Int) - 1 - (k : Int)) % (m : Int) = ((m - 1 - k % m : Nat) : Int) := by
      have e : (m : Int) - 1 - (k : Int) = ((m - 1 - k % m : Nat) : Int) + (m : Int) * (-((k / m : Nat) : Int)) := by
        have := Nat.div_add_mod k m
        have : (k : Int) = (m : Int) * ((k / m : Nat) : Int) + ((k % m : Nat) : Int) := by rw [← Int.natCast_mul, ← Int.natCast_add, this]
        rw [Int.mul_neg]
        omega
      rw [e, Int.add_mul_emod_self_left]
      exact Int.emod_eq_of_lt (by omega) (by omega)
    refine wq_when (Pb := fun b => b = !decide (mt t q k)) (yt_d ((yd_neS (x := .int (t.getD (t.length - 1 - k) 0)) (y := .int (q.getD (m - 1 - k % m) 0)) (yd_ixL (ye_v rfl) ((yd_sub (yd_sub (ln rfl) ye_i) (ye_v rfl)).to (e := .int ((t.length - 1 - k : Nat) : Int)) (by congr 1; omega)) (ix t _ (by omega))) (yd_ixL (ye_v rfl) ((yd_md (yd_toI (yd_sub (yd_sub (ln rfl) ye_i) (ye_v rfl))) (ln rfl) (by omega)).to (e := .int ((m - 1 - k % m : Nat) : Int)) (by rw [ql, mm])) (ix q _ (by omega))) rfl).to (by
      show PyData.bool (!decide (t.getD (t.length - 1 - k) 0 = q.getD (m - 1 - k % m) 0)) = _
      congr 2
      exact decide_eq_decide.mpr (by unfold mt; rw [ql])))) (fun e => ?_) (fun e => ?_)
    · have e : ¬ mt t q k := by simpa using e
      exact ws_brk ⟨k, ⟨Nat.le_of_lt hk2, hall, fun _ => e⟩, (by repeat' first | exact Le.nil | refine Le.cons ?_ ?_ | exact rfl | exact trivial)⟩
    · have e : mt t q k := by simpa using e
      refine ws_set (P := fun d => d = .int ((k + 1 : Nat) : Int)) ((yd_add (ye_v rfl) ye_i).to (by congr 1)) ?_
      rintro _ rfl
      refine ⟨hk2, fun j hj => ?_, (by repeat' first | exact Le.nil | refine Le.cons ?_ ?_ | exact rfl | exact trivial)⟩
      rcases Nat.lt_or_ge j k with z | z
      · exact hall j z
      · have : j = k := by omega
        subst this
        exact e
  · rintro r ⟨_, hall, le⟩
    rw [rg_len, show ((t.length : Int) - 0).toNat = t.length by omega] at hall le
    exact ⟨t.length, ⟨Nat.le_refl _, hall, fun z => absurd z (Nat.lt_irrefl _)⟩, le⟩
  rintro r ⟨s, hS, le⟩
  refine Ws.le ?_ le
  have hsm := Nat.mod_lt s (show 0 < m by omega)
  have sl := hS.le
  refine wq_setd (d := .int ((m - s % m : Nat) : Int)) ((yd_sub (ln rfl) (yd_md (yd_toI (ye_v rfl)) (ln rfl) (by omega))).to (by rw [ql, ← Int.natCast_emod]; congr 1; omega)) ?_
  refine ws_retd ((yd_t3 (ye_v rfl) ((yd_tupR (rl_of ((y_slL3 (ye_v rfl) yo_n (yo_i ((yd_sub (ln rfl) (ye_v rfl)).to (e := .int ((t.length - s : Nat) : Int)) (by congr 1; omega)))).to (by rw [cut_to])))).to (e := tI (t.take (t.length - s))) rfl) ((yd_tupR (nd_cat (rl_of ((y_slL3 (ye_v rfl) (yo_i (ye_v rfl)) yo_n).to (by rw [cut_from]))) (rl_of ((y_slL3 (ye_v rfl) yo_n (yo_i (ye_v rfl))).to (by rw [cut_to]))) ?_).rl).to (e := tI (rotR q s)) ?_)).to rfl) (hP s hS)
  · rw [List.length_map, List.length_map, List.length_drop, List.length_take]
    show _ ≤ (16777216 : Nat)
    omega
  · unfold tI rotR
    rw [ql, List.map_append]


def R__law_bumped : Pr := fun ss P => ∃ (c : Cv) (k : Nat) (a : Int), ss = [.d (cvD c), .d (.int (k : Int)), .d (.int a)] ∧ CvB c ∧ k < 12 ∧ P (cvD (bump c k a))
def incF (c : Cv) : PyData → PyData
  | .int j => .int (c.inc j.toNat)
  | d => d
theorem incF_rg (c : Cv) (n : Nat) : (rgD 0 (n : Int)).map (incF c) = (incs c n).map .int := by
  refine List.ext_getElem? fun k => ?_
  by_cases h : k < n
  · rw [List.getElem?_map, List.getElem?_eq_getElem (by rw [rg_len]; omega), getD_eq (by rw [incs_len]; exact h)]
    have e := rg_at 0 (n : Int) k (by rw [rg_len]; omega)
    rw [List.getElem?_eq_getElem (by rw [rg_len]; omega)] at e
    rw [e]
    unfold incs
    rw [getD_range _ _ _ h]
    show some (PyData.int (c.inc ((0 + (k : Int)).toNat))) = _
    rw [Int.zero_add, Int.toNat_natCast]
  · rw [List.getElem?_eq_none (by rw [List.length_map, rg_len]; omega), List.getElem?_eq_none (by rw [List.length_map, incs_len]; omega)]
theorem bump_cut (c : Cv) (k : Nat) (a : Int) : ((incs c (bM c k + c.p.length)).set k (c.inc k + a)).take (bM c k) = bT c k a ∧ ((incs c (bM c k + c.p.length)).set k (c.inc k + a)).drop (bM c k) = bP c k := by
  have hk : k < bM c k := by unfold bM; omega
  constructor
  · unfold bT
    rw [List.take_set]
    congr 1
    unfold incs
    rw [← List.map_take, List.take_range, Nat.min_eq_left (by omega)]
  · rw [List.drop_set_of_lt hk]
    refine extD (by rw [List.length_drop, incs_len, bP_len]; omega) fun j hj => ?_
    rw [List.length_drop, incs_len] at hj
    unfold incs bP
    rw [getD_drop, getD_range _ _ _ (by omega), getD_range _ _ _ (by omega)]

abbrev s__law_bumped : Stmt := topS 31
theorem sc__law_bumped : FnScope ["curve", "k", "more", "size", "steps", "j"] ["curve", "k", "more"] (defScope s__law_bumped) := ⟨rfl, rfl, rfl, by decide +kernel, rfl, by decide +kernel, by decide +kernel⟩
theorem ok__law_bumped {Pg : Program} {w : World} {K : PySem.W.Frag} {mg : Str → Option Value} {base : Heap} (T : Tx w K mg) (C__law_step : Cal Pg w K mg base 1 "_law_step" ["curve", "k"] (spR K 2 R__law_step)) (C__law_normal : Cal Pg w K mg base 1 "_law_normal" ["first", "lead", "turn"] (spR K 3 R__law_normal)) {f : Addr} {fd : FuncData} (F : Fun K "_law_bumped" "_law_bumped" s__law_bumped f fd) : FnOk Pg w K mg base CX0 2 f fd ["curve", "k", "more"] (spR K 3 R__law_bumped) := by
  refine fn_ok (n := 3) F sc__law_bumped rfl (by decide) (fun cdv A outer s H E hr => ⟨_, (pss_cons (ps_set (i := 3) sc__law_bumped.nd rfl (Or.inl rfl) (pe_callB (callx_max rfl) (by rfl) T.b_max (by decide +kernel) (pa_cons (pe_callB call_len_seq (by rfl) T.b_len (by decide +kernel) (pa_cons (pe_ix ix_seq (pv 0) pe_int (fun _ _ => rfl)) pa_nil)) (pa_cons (pe_op opx_add (pv 1) pe_int) pa_nil))))
    (pss_cons (ps_setLc (i := 4) (own := [("j", 5)]) (g := (gName 5)) (tt := tYes) rfl sc__law_bumped.nd rfl rfl (sw_true rfl rfl rfl (by decide +kernel)) (pi_range1 rfl T.b_range (pa_cons (pe_op opx_add (pv 3) (pe_callB call_len_seq (by rfl) T.b_len (by decide +kernel) (pa_cons (pe_ix ix_seq (pv 0) pe_int (fun _ _ => rfl)) pa_nil))) pa_nil)) (blkOk_by (own := [("j", 5)]) (N := ["curve", "k", "more", "size", "steps", "j"]) (sc := defScope s__law_bumped) (by decide +kernel)) (fun _ _ _ _ _ => (pg_name (i := 5) sc__law_bumped.nd rfl (Or.inl rfl))) (fun _ _ _ _ _ => pts_nil) (fun _ _ _ _ _ => (pe_cal C__law_step hr (pa_cons (pv 0) (pa_cons (pv 5) pa_nil)))))
    (pss_cons (ps_asg (pe_op opx_add (pe_ix ix_seq (pv 4) (pv 1) (fun _ _ => rfl)) (pv 2)) (pg_sub (pv 4) (pv 1) set_list))
    (pss_one (ps_ret (pe_cal C__law_normal hr (pa_cons (pe_ix ix_seq (pv 0) pe_int (fun _ _ => rfl)) (pa_cons (pe_slice slx (pv 4) po_none (po_some (pv 3))) (pa_cons (pe_slice slx (pv 4) (po_some (pv 3)) po_none) pa_nil))))))))), ?_⟩)
  intro ss P hl hR
  obtain ⟨c, k, a, rfl, hb, hk, hP⟩ := hR
  have p1 := hb.p1
  have p4 := hb.p4
  have t12 := hb.t12
  have hm : bM c k = max c.t.length (k + 1) := rfl
  refine wq_setd (d := .int (bM c k : Int)) ((yd_max2 (y_len (y_c1 (ye_v rfl) ye_i)) (yd_add (ye_v rfl) ye_i)).to (by rw [hm]; congr 1; omega)) ?_
  refine wq_setmd (nd_lcf (xs := rgD 0 ((bM c k + c.p.length : Nat) : Int)) (sl := [5]) (incF c) (it_r1 ((yd_add (ye_v rfl) (y_len (y_c2 (ye_v rfl) ye_i))).to rfl) (by omega) (by omega)) (fun i h => h) (by rw [rg_len]; show _ < (16777216 : Nat); omega) ?_) ?_
  · intro x hx
    obtain ⟨j, hj, rfl⟩ := List.mem_iff_getElem.mp hx
    have hj2 := hj
    rw [rg_len] at hj2
    have e := rg_at 0 ((bM c k + c.p.length : Nat) : Int) j hj
    rw [List.getElem?_eq_getElem hj] at e
    have e := Option.some.inj e
    rw [e, Int.zero_add]
    exact ⟨_, yg_n, ye_cl (ya_d (ye_v rfl) (ya_d (ye_v rfl) ya_n)) rfl ⟨c, j, rfl, p1, by show PyData.int _ = incF c (.int (j : Int)); show PyData.int _ = PyData.int _; rw [Int.toNat_natCast]⟩⟩
  rw [incF_rg]
  let B1 : Rho := [.d (cvD c), .d (.int (k : Int)), .d (.int a), .d (.int (bM c k : Int)), .ml (((incs c (bM c k + c.p.length)).set k (c.inc k + a)).map .int), .no]
  refine ws_seq (fun r => r = B1) (ws_seti (P := fun d => d = .int (c.inc k + a)) (n := k) rfl (yd_add (yd_ixR (rl_v rfl) (ye_v rfl) (atI_nat (v := PyData.int (c.inc k)) ?_)) (ye_v rfl)) (ye_v rfl) ?_ ?_) ?_
  · rw [getD_eq (by rw [incs_len]; omega)]
    unfold incs
    rw [getD_range _ _ _ (by omega)]
  · unfold ixN
    rw [List.length_map, incs_len, if_pos (by omega), if_pos (by omega)]
    simp
  · rintro _ rfl
    show _ = B1
    unfold B1
    rw [List.map_set]
    rfl
  rintro _ rfl
  have q := bump_cut c k a
  refine ws_ret (ye_cl (P := fun d => d = cvD (bump c k a)) (ya_d (y_c0 (ye_v rfl) ye_i) (ya_d (nd_slR (rl_v rfl) yo_n (yo_i (ye_v rfl))).pd (ya_d (nd_slR (rl_v rfl) (yo_i (ye_v rfl)) yo_n).pd ya_n))) rfl ⟨c.i, bT c k a, bP c k, _, _, rfl, .inr ?_, .inr ?_, by rw [bP_len]; exact p1, by rw [bP_len]; omega, by rw [bT_len]; omega, fun x y h => bump_of h⟩) fun d e => e ▸ hP
  · rw [cut_map, cut_to, q.1]
  · rw [cut_map, cut_from, q.2]


def R__law_changed : Pr := fun ss P => ∃ (ps : List Sg) (rs : List Int) (d : Dd), ss = [.d (plD ps), .d (.list (rs.map .int)), .d (ddD d)] ∧ PlB ps ∧ rs.length = ps.length ∧ d.k < 12 ∧ P (optP (chg ps rs d))
theorem ixN_nat {n k : Nat} (h : k < n) : ixN n (k : Int) = some k := by
  unfold ixN
  rw [if_pos (by omega), if_pos (by omega)]
  simp

abbrev s__law_changed : Stmt := topS 33
theorem sc__law_changed : FnScope ["plant", "runs", "deed", "s", "k", "amount", "stage", "rows", "row"] ["plant", "runs", "deed"] (defScope s__law_changed) := ⟨rfl, rfl, rfl, by decide +kernel, rfl, by decide +kernel, by decide +kernel⟩
theorem ok__law_changed {Pg : Program} {w : World} {K : PySem.W.Frag} {mg : Str → Option Value} {base : Heap} (T : Tx w K mg) (C__law_applies : Cal Pg w K mg base 2 "_law_applies" ["plant", "runs", "deed"] (spR K 3 R__law_applies)) (C__law_bumped : Cal Pg w K mg base 2 "_law_bumped" ["curve", "k", "more"] (spR K 3 R__law_bumped)) {f : Addr} {fd : FuncData} (F : Fun K "_law_changed" "_law_changed" s__law_changed f fd) : FnOk Pg w K mg base CX0 3 f fd ["plant", "runs", "deed"] (spR K 3 R__law_changed) := by
  refine fn_ok (n := 3) F sc__law_changed rfl (by decide) (fun cdv A outer s H E hr => ⟨_, (pss_cons (ps_if (pt_not (pt_val (pe_cal C__law_applies hr (pa_cons (pv 0) (pa_cons (pv 1) (pa_cons (pv 2) pa_nil)))))) (pss_one (ps_ret pe_non)) pss_nil)
    (pss_cons (ps_set (i := 3) sc__law_changed.nd rfl (Or.inl rfl) (pe_ix ix_seq (pv 2) pe_int (fun _ _ => rfl)))
    (pss_cons (ps_set (i := 4) sc__law_changed.nd rfl (Or.inl rfl) (pe_op op_sub (pe_ix ix_seq (pv 2) (pe_op op_sub (pe_callB call_len_seq (by rfl) T.b_len (by decide +kernel) (pa_cons (pv 2) pa_nil)) pe_int) (fun _ _ => rfl)) pe_int))
    (pss_cons (ps_set (i := 5) sc__law_changed.nd rfl (Or.inl rfl) (pe_ix ix_seq (pv 2) (pe_op op_sub (pe_callB call_len_seq (by rfl) T.b_len (by decide +kernel) (pa_cons (pv 2) pa_nil)) pe_int) (fun _ _ => rfl)))
    (pss_cons (ps_set (i := 6) sc__law_changed.nd rfl (Or.inl rfl) (pe_ix ix_seq (pv 0) (pv 3) (fun _ _ => rfl)))
    (pss_cons (ps_if (pt_cmpR (opx_eq hr) (pe_ix ix_seq (pv 2) pe_int (fun _ _ => rfl)) pe_str (nomark _)) (pss_cons (ps_set (i := 7) sc__law_changed.nd rfl (Or.inl rfl) (pe_callTy call_list_of (by rfl) T.b_list (by decide +kernel) (pa_cons (pe_ix ix_seq (pv 6) pe_int (fun _ _ => rfl)) pa_nil)))
    (pss_cons (ps_set (i := 8) sc__law_changed.nd rfl (Or.inl rfl) (pe_ix ix_seq (pv 7) (pe_ix ix_seq (pv 2) pe_int (fun _ _ => rfl)) (fun _ _ => rfl)))
    (pss_cons (ps_asg (pe_tup (pa_cons (pe_ix ix_seq (pv 8) pe_int (fun _ _ => rfl)) (pa_cons (pe_cal C__law_bumped hr (pa_cons (pe_ix ix_seq (pv 8) pe_int (fun _ _ => rfl)) (pa_cons (pv 4) (pa_cons (pe_un un_neg (pv 5)) pa_nil)))) (pa_cons (pe_ix ix_seq (pv 8) pe_int (fun _ _ => rfl)) pa_nil)))) (pg_sub (pv 7) (pe_ix ix_seq (pv 2) pe_int (fun _ _ => rfl)) set_list))
    (pss_one (ps_set (i := 6) sc__law_changed.nd rfl (Or.inl rfl) (pe_op opx_add (pe_tup (pa_cons (pe_ix ix_seq (pv 6) pe_int (fun _ _ => rfl)) (pa_cons (pe_callTy call_tuple_of (by rfl) T.b_tuple (by decide +kernel) (pa_cons (pv 7) pa_nil)) pa_nil))) (pe_slice slx (pv 6) (po_some pe_int) po_none))))))) (pss_one (ps_if (pt_cmpR (opx_eq hr) (pe_ix ix_seq (pv 2) pe_int (fun _ _ => rfl)) pe_str (nomark _)) (pss_cons (ps_set (i := 7) sc__law_changed.nd rfl (Or.inl rfl) (pe_callTy call_list_of (by rfl) T.b_list (by decide +kernel) (pa_cons (pe_ix ix_seq (pv 6) pe_int (fun _ _ => rfl)) pa_nil)))
    (pss_cons (ps_set (i := 8) sc__law_changed.nd rfl (Or.inl rfl) (pe_ix ix_seq (pv 7) (pe_ix ix_seq (pv 2) pe_int (fun _ _ => rfl)) (fun _ _ => rfl)))
    (pss_cons (ps_asg (pe_tup (pa_cons (pe_ix ix_seq (pv 8) pe_int (fun _ _ => rfl)) (pa_cons (pe_cal C__law_bumped hr (pa_cons (pe_ix ix_seq (pv 8) pe_int (fun _ _ => rfl)) (pa_cons (pv 4) (pa_cons (pv 5) pa_nil)))) (pa_cons (pe_ix ix_seq (pv 8) pe_int (fun _ _ => rfl)) (pa_cons (pe_ix ix_seq (pv 8) pe_int (fun _ _ => rfl)) pa_nil))))) (pg_sub (pv 7) (pe_ix ix_seq (pv 2) pe_int (fun _ _ => rfl)) set_list))
    (pss_one (ps_set (i := 6) sc__law_changed.nd rfl (Or.inl rfl) (pe_op opx_add (pe_tup (pa_cons (pe_callTy call_tuple_of (by rfl) T.b_tuple (by decide +kernel) (pa_cons (pv 7) pa_nil)) pa_nil)) (pe_slice slx (pv 6) (po_some pe_int) po_none))))))) (pss_one (ps_if (pt_cmpR (opx_eq hr) (pe_ix ix_seq (pv 2) pe_int (fun _ _ => rfl)) pe_str (nomark _)) (pss_one (ps_set (i := 6) sc__law_changed.nd rfl (Or.inl rfl) (pe_op opx_add (pe_op opx_add (pe_slice slx (pv 6) po_none (po_some pe_int)) (pe_tup (pa_cons (pe_cal C__law_bumped hr (pa_cons (pe_ix ix_seq (pv 6) pe_int (fun _ _ => rfl)) (pa_cons (pv 4) (pa_cons (pv 5) pa_nil)))) pa_nil))) (pe_slice slx (pv 6) (po_some pe_int) po_none)))) (pss_one (ps_set (i := 6) sc__law_changed.nd rfl (Or.inl rfl) (pe_op opx_add (pe_op opx_add (pe_slice slx (pv 6) po_none (po_some pe_int)) (pe_tup (pa_cons (pe_cal C__law_bumped hr (pa_cons (pe_ix ix_seq (pv 6) pe_int (fun _ _ => rfl)) (pa_cons (pv 4) (pa_cons (pv 5) pa_nil)))) pa_nil))) (pe_slice slx (pv 6) (po_some pe_int) po_none)))))))))
    (pss_one (ps_ret (pe_op opx_add (pe_op opx_add (pe_slice slx (pv 0) po_none (po_some (pv 3))) (pe_tup (pa_cons (pv 6) pa_nil))) (pe_slice slx (pv 0) (po_some (pe_op opx_add (pv 3) pe_int)) po_none)))))))))), ?_⟩)
  intro ss P hl hR
  obtain ⟨ps, rs, d, rfl, hb, hr, hk, hP⟩ := hR
  have l4 := hb.l4
  refine wq_when (Pb := fun b => b = !(chg ps rs d).isSome) (yt_notd (yt_B (ye_cl (P := fun x => x = .bool (chg ps rs d).isSome) (ya_d (ye_v rfl) (ya_d (ye_v rfl) (ya_d (ye_v rfl) ya_n))) rfl ⟨ps, rs, d, rfl, hb, hr, hk, rfl⟩))) (fun e => ?_) (fun e => ?_)
  · cases hc : chg ps rs d with
    | none => rw [hc] at hP; exact ws_retd ye_n hP
    | some r => rw [hc] at e; exact nomatch e
  cases hc : chg ps rs d with
  | none => rw [hc] at e; exact nomatch e
  | some r =>
  clear e
  rw [hc] at hP
  unfold chg at hc
  cases hg : ps[d.s]? with
  | none => rw [hg] at hc; exact nomatch hc
  | some g =>
  rw [hg] at hc
  dsimp only at hc
  split at hc
  · exact nomatch hc
  obtain ⟨g', e1, rfl⟩ := Option.map_eq_some_iff.mp hc
  clear hc
  have hs := (List.getElem?_eq_some_iff.mp hg).1
  have gb := hb.g g (List.mem_of_getElem? hg)
  refine wq_setd (y_ds (ye_v rfl)) ?_
  refine wq_setd ((yd_sub (y_dc (ye_v rfl)) ye_i).to (e := .int (d.k : Int)) (by congr 1; omega)) ?_
  refine wq_setd (y_da (ye_v rfl)) ?_
  refine wq_setd (y_pl (ye_v rfl) (ye_v rfl) hg) ?_
  let B1 : Rho := [.d (plD ps), .d (.list (rs.map .int)), .d (ddD d), .d (.int (d.s : Int)), .d (.int (d.k : Int)), .d (.int d.am), .d (sgD g'), .no, .no]
  refine ws_seq (fun r => Le r B1) ?_ ?_
  · have g3 := gb.f3
    have o3 := gb.o3
    have sz : ∀ {a b : Nat}, a ≤ 10 → b ≤ 10 → a + b ≤ sizeLine := fun h1 h2 => by show _ ≤ (16777216 : Nat); omega
    cases d with
    | out s p k a =>
      refine ws_ifd (b := true) (by first | exact yt_d ((yd_eqS (yd_ixT (ye_v rfl) ye_i rfl) ye_s rfl).to rfl) | exact yt_B ((yd_eqS (yd_ixT (ye_v rfl) ye_i rfl) ye_s rfl).to rfl)) (fun _ => ?_) (fun z => nomatch z)
      obtain ⟨os, e2, rfl⟩ := Option.map_eq_some_iff.mp e1
      unfold chgO at e2
      cases ho : g.os[p]? with
      | none => rw [ho] at e2; exact nomatch e2
      | some o =>
      rw [ho] at e2
      dsimp only at e2
      split at e2
      · cases e2
        have hp := (List.getElem?_eq_some_iff.mp ho).1
        have cb := gb.o o (List.mem_of_getElem? ho)
        refine wq_setmd (nd_listT (xs := g.os.map ouD) (y_g1 (ye_v rfl) ye_i)) ?_
        refine wq_setd (yd_ixR (rl_v rfl) (yd_ixT (ye_v rfl) ye_i rfl) (atI_nat (v := ouD o) (by rw [List.getElem?_map, ho]; rfl))) ?_
        let o' : Ou := { o with c := bump o.c k (-a) }
        let B2 : Rho := [.d (plD ps), .d (.list (rs.map .int)), .d (ddD (.out s p k a)), .d (.int (s : Int)), .d (.int (k : Int)), .d (.int a), .d (sgD g), .ml ((g.os.set p o').map ouD), .d (ouD o)]
        refine ws_seq (fun r => r = B2) (ws_seti (P := fun d => d = ouD o') (n := p) rfl (yd_t3 (yd_ixT (xs := [.int o.b, cvD o.c, .int o.w]) (ye_v rfl) ye_i rfl) (ye_cl (P := fun d => d = cvD (bump o.c k (-a))) (ya_d (yd_ixT (xs := [.int o.b, cvD o.c, .int o.w]) (ye_v rfl) ye_i rfl) (ya_d (ye_v rfl) (ya_d (yd_ng (ye_v rfl)) ya_n))) rfl ⟨o.c, k, -a, rfl, cb, hk, rfl⟩) (yd_ixT (xs := [.int o.b, cvD o.c, .int o.w]) (ye_v rfl) ye_i rfl)) (yd_ixT (ye_v rfl) ye_i rfl) (ixN_nat (by rw [List.length_map]; exact hp)) ?_) ?_
        · rintro _ rfl
          show _ = B2
          unfold B2
          rw [List.map_set]
          rfl
        rintro _ rfl
        exact ws_setd ((yd_catT (yd_t2 (y_g0 (g := g) (ye_v rfl) ye_i) (yd_tupR (xs := (g.os.set p o').map ouD) (rl_v rfl))) ((yd_slT (xs := .tuple (g.fs.map feD) :: sgR g) (ye_v rfl) (yo_i ye_i) yo_n).to (d := .tuple [cvD g.pr, cvD g.sp, .int g.n, cvD g.wk]) rfl) (sz (by show 2 ≤ 10; decide) (by show 4 ≤ 10; decide))).to (e := sgD { g with os := g.os.set p o' }) rfl) (by repeat' first | exact Le.nil | refine Le.cons ?_ ?_ | exact rfl | exact trivial)
      · exact nomatch e2
    | inp s p k a =>
      refine ws_ifd (b := false) (by first | exact yt_d ((yd_eqS (yd_ixT (ye_v rfl) ye_i rfl) ye_s rfl).to rfl) | exact yt_B ((yd_eqS (yd_ixT (ye_v rfl) ye_i rfl) ye_s rfl).to rfl)) (fun z => nomatch z) (fun _ => ?_)
      refine ws_ifd (b := true) (by first | exact yt_d ((yd_eqS (yd_ixT (ye_v rfl) ye_i rfl) ye_s rfl).to rfl) | exact yt_B ((yd_eqS (yd_ixT (ye_v rfl) ye_i rfl) ye_s rfl).to rfl)) (fun _ => ?_) (fun z => nomatch z)
      obtain ⟨os, e2, rfl⟩ := Option.map_eq_some_iff.mp e1
      unfold chgF at e2
      cases ho : g.fs[p]? with
      | none => rw [ho] at e2; exact nomatch e2
      | some o =>
      rw [ho] at e2
      dsimp only at e2
      split at e2
      · cases e2
        have hp := (List.getElem?_eq_some_iff.mp ho).1
        have cb := gb.f o (List.mem_of_getElem? ho)
        refine wq_setmd (nd_listT (xs := g.fs.map feD) (y_g0 (ye_v rfl) ye_i)) ?_
        refine wq_setd (yd_ixR (rl_v rfl) (yd_ixT (ye_v rfl) ye_i rfl) (atI_nat (v := feD o) (by rw [List.getElem?_map, ho]; rfl))) ?_
        let o' : Fe := { o with c := bump o.c k a }
        let B2 : Rho := [.d (plD ps), .d (.list (rs.map .int)), .d (ddD (.inp s p k a)), .d (.int (s : Int)), .d (.int (k : Int)), .d (.int a), .d (sgD g), .ml ((g.fs.set p o').map feD), .d (feD o)]
        refine ws_seq (fun r => r = B2) (ws_seti (P := fun d => d = feD o') (n := p) rfl (yd_t4 (y_f0 (f := o) (ye_v rfl) ye_i) (ye_cl (P := fun d => d = cvD (bump o.c k a)) (ya_d (y_f1 (f := o) (ye_v rfl) ye_i) (ya_d (ye_v rfl) (ya_d (ye_v rfl) ya_n))) rfl ⟨o.c, k, a, rfl, cb, hk, rfl⟩) (y_f2 (f := o) (ye_v rfl) ye_i) (y_f3 (f := o) (ye_v rfl) ye_i)) (yd_ixT (ye_v rfl) ye_i rfl) (ixN_nat (by rw [List.length_map]; exact hp)) ?_) ?_
        · rintro _ rfl
          show _ = B2
          unfold B2
          rw [List.map_set]
          rfl
        rintro _ rfl
        exact ws_setd ((yd_catT (yd_t1 (yd_tupR (xs := (g.fs.set p o').map feD) (rl_v rfl))) ((yd_slT (xs := .tuple (g.fs.map feD) :: sgR g) (ye_v rfl) (yo_i ye_i) yo_n).to (d := .tuple (sgR g)) rfl) (sz (by show 1 ≤ 10; decide) (by show 5 ≤ 10; decide))).to (e := sgD { g with fs := g.fs.set p o' }) rfl) (by repeat' first | exact Le.nil | refine Le.cons ?_ ?_ | exact rfl | exact trivial)
      · exact nomatch e2
    | slow s k a =>
      refine ws_ifd (b := false) (by first | exact yt_d ((yd_eqS (yd_ixT (ye_v rfl) ye_i rfl) ye_s rfl).to rfl) | exact yt_B ((yd_eqS (yd_ixT (ye_v rfl) ye_i rfl) ye_s rfl).to rfl)) (fun z => nomatch z) (fun _ => ?_)
      refine ws_ifd (b := false) (by first | exact yt_d ((yd_eqS (yd_ixT (ye_v rfl) ye_i rfl) ye_s rfl).to rfl) | exact yt_B ((yd_eqS (yd_ixT (ye_v rfl) ye_i rfl) ye_s rfl).to rfl)) (fun z => nomatch z) (fun _ => ?_)
      refine ws_ifd (b := true) (by first | exact yt_d ((yd_eqS (yd_ixT (ye_v rfl) ye_i rfl) ye_s rfl).to rfl) | exact yt_B ((yd_eqS (yd_ixT (ye_v rfl) ye_i rfl) ye_s rfl).to rfl)) (fun _ => ?_) (fun z => nomatch z)
      cases e1
      exact ws_setd ((yd_catT (yd_catT ((yd_slT (xs := .tuple (g.fs.map feD) :: sgR g) (ye_v rfl) yo_n (yo_i ye_i)).to (d := .tuple [.tuple (g.fs.map feD), .tuple (g.os.map ouD), cvD g.pr]) rfl) (yd_t1 (ye_cl (P := fun d => d = cvD (bump g.sp k a)) (ya_d (yd_ixT (xs := .tuple (g.fs.map feD) :: sgR g) (ye_v rfl) ye_i rfl) (ya_d (ye_v rfl) (ya_d (ye_v rfl) ya_n))) rfl ⟨g.sp, k, a, rfl, gb.sp, hk, rfl⟩)) (sz (by show 3 ≤ 10; decide) (by show 1 ≤ 10; decide))) ((yd_slT (xs := .tuple (g.fs.map feD) :: sgR g) (ye_v rfl) (yo_i ye_i) yo_n).to (d := .tuple [.int g.n, cvD g.wk]) rfl) (sz (by show 4 ≤ 10; decide) (by show 2 ≤ 10; decide))).to (e := sgD { g with sp := bump g.sp k a }) rfl) (by repeat' first | exact Le.nil | refine Le.cons ?_ ?_ | exact rfl | exact trivial)
    | cost s k a =>
      refine ws_ifd (b := false) (by first | exact yt_d ((yd_eqS (yd_ixT (ye_v rfl) ye_i rfl) ye_s rfl).to rfl) | exact yt_B ((yd_eqS (yd_ixT (ye_v rfl) ye_i rfl) ye_s rfl).to rfl)) (fun z => nomatch z) (fun _ => ?_)
      refine ws_ifd (b := false) (by first | exact yt_d ((yd_eqS (yd_ixT (ye_v rfl) ye_i rfl) ye_s rfl).to rfl) | exact yt_B ((yd_eqS (yd_ixT (ye_v rfl) ye_i rfl) ye_s rfl).to rfl)) (fun z => nomatch z) (fun _ => ?_)
      refine ws_ifd (b := false) (by first | exact yt_d ((yd_eqS (yd_ixT (ye_v rfl) ye_i rfl) ye_s rfl).to rfl) | exact yt_B ((yd_eqS (yd_ixT (ye_v rfl) ye_i rfl) ye_s rfl).to rfl)) (fun z => nomatch z) (fun _ => ?_)
      cases e1
      exact ws_setd ((yd_catT (yd_catT ((yd_slT (xs := .tuple (g.fs.map feD) :: sgR g) (ye_v rfl) yo_n (yo_i ye_i)).to (d := .tuple [.tuple (g.fs.map feD), .tuple (g.os.map ouD)]) rfl) (yd_t1 (ye_cl (P := fun d => d = cvD (bump g.pr k a)) (ya_d (yd_ixT (xs := .tuple (g.fs.map feD) :: sgR g) (ye_v rfl) ye_i rfl) (ya_d (ye_v rfl) (ya_d (ye_v rfl) ya_n))) rfl ⟨g.pr, k, a, rfl, gb.pr, hk, rfl⟩)) (sz (by show 2 ≤ 10; decide) (by show 1 ≤ 10; decide))) ((yd_slT (xs := .tuple (g.fs.map feD) :: sgR g) (ye_v rfl) (yo_i ye_i) yo_n).to (d := .tuple [cvD g.sp, .int g.n, cvD g.wk]) rfl) (sz (by show 3 ≤ 10; decide) (by show 3 ≤ 10; decide))).to (e := sgD { g with pr := bump g.pr k a }) rfl) (by repeat' first | exact Le.nil | refine Le.cons ?_ ?_ | exact rfl | exact trivial)
  rintro r le
  refine Ws.le ?_ le
  refine ws_retd ((yd_catT (yd_catT ((yd_slT (xs := ps.map sgD) (ye_v rfl) yo_n (yo_i (ye_v rfl))).to (by rw [cut_to])) (yd_t1 (ye_v rfl)) ?_) ((yd_slT (xs := ps.map sgD) (ye_v rfl) (yo_i ((yd_add (ye_v rfl) ye_i).to (e := .int ((d.s + 1 : Nat) : Int)) rfl)) yo_n).to (by rw [cut_from])) ?_).to (e := plD (ps.set d.s g')) (by rw [set_cut _ _ _ (by rw [List.length_map]; exact hs)]; show _ = PyData.tuple ((ps.set d.s g').map sgD); rw [List.map_set])) hP
  · rw [List.length_take, List.length_map]
    show _ + 1 ≤ (16777216 : Nat)
    omega
  · rw [List.length_append, List.length_take, List.length_drop, List.length_map]
    show _ + 1 + _ ≤ (16777216 : Nat)
    omega


def R__law_same : Nat → Pr
  | 0 => fun _ _ => False
  | n + 1 => fun ss P => ∃ x : PyData, ss = [.d x, .d x] ∧ Plain n x ∧ P = fun d => d = .bool true

abbrev s__law_same : Stmt := topS 21
theorem sc__law_same : FnScope ["told", "due", "k"] ["told", "due"] (defScope s__law_same) := ⟨rfl, rfl, rfl, by decide +kernel, rfl, by decide +kernel, by decide +kernel⟩
theorem ok__law_same {Pg : Program} {w : World} {K : PySem.W.Frag} {mg : Str → Option Value} {base : Heap} (T : Tx w K mg) {f : Addr} {fd : FuncData} (F : Fun K "_law_same" "_law_same" s__law_same f fd) (gs : mg "_law_same" = some (.ref f)) (kp : PySem.W.keepIn K (.ref f) = true) (b : Binds K fd ["told", "due"] []) :
    ∀ n : Nat, FnOk Pg w K mg base CX0 n f fd ["told", "due"] (spR K 2 (R__law_same n))
  | 0 => ⟨fun vs H Q E ⟨_, _, _, _, _, _, _, _, h, _⟩ => h.elim, fun A outer s H args us vs Q E _ _ _ _ ⟨_, _, _, _, _, _, _, _, h, _⟩ => h.elim⟩
  | n + 1 => by
    have C__law_same : Cal Pg w K mg base n "_law_same" ["told", "due"] (spR K 2 (R__law_same n)) := ⟨f, fd, ok__law_same T F gs kp b n, gs, kp, b⟩
    refine fn_ok (n := 2) F sc__law_same rfl (by decide) (fun cdv A outer s H E hr => ⟨_, (pss_cons (ps_if (pt_cmpR op_isN (pv 1) pe_non (nomark _)) (pss_one (ps_ret (pe_cmpR op_isN (pv 0) pe_non (nomark _)))) pss_nil)
    (pss_cons (ps_if (pt_val (pe_callB call_isi (by rfl) T.b_isinstance (by decide +kernel) (pa_cons (pv 1) (pa_cons (pe_bltn (v := .ty "bool") (by rfl) T.b_bool (by decide +kernel) rfl) pa_nil)))) (pss_one (ps_ret (pe_and (pe_callB call_isi (by rfl) T.b_isinstance (by decide +kernel) (pa_cons (pv 0) (pa_cons (pe_bltn (v := .ty "bool") (by rfl) T.b_bool (by decide +kernel) rfl) pa_nil))) (pe_one (pe_cmpR (opx_eq hr) (pv 0) (pv 1) (nomark _)))))) pss_nil)
    (pss_cons (ps_if (pt_val (pe_callB call_isi (by rfl) T.b_isinstance (by decide +kernel) (pa_cons (pv 1) (pa_cons (pe_bltn (v := .ty "int") (by rfl) T.b_int (by decide +kernel) rfl) pa_nil)))) (pss_one (ps_ret (pe_and (pe_callB call_isi (by rfl) T.b_isinstance (by decide +kernel) (pa_cons (pv 0) (pa_cons (pe_bltn (v := .ty "int") (by rfl) T.b_int (by decide +kernel) rfl) pa_nil))) (pe_and (pe_not (pe_callB call_isi (by rfl) T.b_isinstance (by decide +kernel) (pa_cons (pv 0) (pa_cons (pe_bltn (v := .ty "bool") (by rfl) T.b_bool (by decide +kernel) rfl) pa_nil)))) (pe_one (pe_cmpR (opx_eq hr) (pv 0) (pv 1) (nomark _))))))) pss_nil)
    (pss_cons (ps_if (pt_val (pe_callB call_isi (by rfl) T.b_isinstance (by decide +kernel) (pa_cons (pv 1) (pa_cons (pe_bltn (v := .ty "str") (by rfl) T.b_str (by decide +kernel) rfl) pa_nil)))) (pss_one (ps_ret (pe_and (pe_callB call_isi (by rfl) T.b_isinstance (by decide +kernel) (pa_cons (pv 0) (pa_cons (pe_bltn (v := .ty "str") (by rfl) T.b_str (by decide +kernel) rfl) pa_nil))) (pe_one (pe_cmpR (opx_eq hr) (pv 0) (pv 1) (nomark _)))))) pss_nil)
    (pss_cons (ps_if (PW.pt (pw_or (pt_not (pt_val (pe_callB call_isi (by rfl) T.b_isinstance (by decide +kernel) (pa_cons (pv 0) (pa_cons (pe_bltn (v := .ty "tuple") (by rfl) T.b_tuple (by decide +kernel) rfl) pa_nil))))) (pw_or1 (pt_cmpR (opx_ne hr) (pe_callB call_len_seq (by rfl) T.b_len (by decide +kernel) (pa_cons (pv 0) pa_nil)) (pe_callB call_len_seq (by rfl) T.b_len (by decide +kernel) (pa_cons (pv 1) pa_nil)) (nomark _))))) (pss_one (ps_ret pe_bl)) pss_nil)
    (pss_cons (ps_for PassesOwn.never rfl (pi_range1 rfl T.b_range (pa_cons (pe_callB call_len_seq (by rfl) T.b_len (by decide +kernel) (pa_cons (pv 1) pa_nil)) pa_nil)) (pg_name (i := 2) sc__law_same.nd rfl (Or.inl rfl))
    (pss_one (ps_if (pt_not (pt_val (pe_cal C__law_same hr (pa_cons (pe_ix ix_seq (pv 0) (pv 2) (fun _ _ => rfl)) (pa_cons (pe_ix ix_seq (pv 1) (pv 2) (fun _ _ => rfl)) pa_nil)) (hk := Nat.le_refl _)))) (pss_one (ps_ret pe_bl)) pss_nil)))
    (pss_one (ps_ret pe_bl)))))))), ?_⟩)
    rintro ss P hl ⟨x, rfl, hx, rfl⟩
    refine wq_when (yt_v (yd_isN (ye_v rfl)) fun y e => ⟨isNone x, e, (rfl : isNone x = isNone x)⟩) (fun e => ?_) (fun e => ?_)
    · cases hx with
      | non => exact ws_retd (yd_isN (ye_v rfl)) rfl
      | bool b => exact nomatch e
      | int i => exact nomatch e
      | str i => exact nomatch e
      | tup _ _ => exact nomatch e
    cases hx with
    | non => exact nomatch e
    | bool b =>
      refine wq_when (yt_B (yd_isi (k := "bool") (n := "bool") (b := true) (ye_v rfl) rfl (by decide +kernel))) (fun _ => ?_) (fun e => nomatch e)
      exact ws_retd ((yd_andV (a := true) (b := true) (yd_isi (k := "bool") (ye_v rfl) rfl (by decide +kernel)) fun _ => (yd_eqS (ye_v rfl) (ye_v rfl) rfl).to (by show PyData.bool (decide (b = b)) = _; rw [decide_eq_true rfl]))) rfl
    | int i =>
      refine wq_skip (yt_B (yd_isi (k := "int") (n := "bool") (b := false) (ye_v rfl) rfl (by decide +kernel))) ?_
      refine wq_when (yt_B (yd_isi (k := "int") (n := "int") (b := true) (ye_v rfl) rfl (by decide +kernel))) (fun _ => ?_) (fun e => nomatch e)
      exact ws_retd ((yd_andV (a := true) (b := true) (yd_isi (k := "int") (ye_v rfl) rfl (by decide +kernel)) fun _ => yd_andV (a := true) (b := true) (yd_notV (a := false) (yd_isi (k := "int") (ye_v rfl) rfl (by decide +kernel))) fun _ => (yd_eqS (ye_v rfl) (ye_v rfl) rfl).to (by show PyData.bool (decide (i = i)) = _; rw [decide_eq_true rfl]))) rfl
    | str i =>
      refine wq_skip (yt_B (yd_isi (k := "str") (n := "bool") (b := false) (ye_v rfl) rfl (by decide +kernel))) ?_
      refine wq_skip (yt_B (yd_isi (k := "str") (n := "int") (b := false) (ye_v rfl) rfl (by decide +kernel))) ?_
      refine wq_when (yt_B (yd_isi (k := "str") (n := "str") (b := true) (ye_v rfl) rfl (by decide +kernel))) (fun _ => ?_) (fun e => nomatch e)
      exact ws_retd ((yd_andV (a := true) (b := true) (yd_isi (k := "str") (ye_v rfl) rfl (by decide +kernel)) fun _ => (yd_eqS (ye_v rfl) (ye_v rfl) rfl).to (by show PyData.bool (decide (i = i)) = _; rw [decide_eq_true rfl]))) rfl
    | @tup m xs hlen hxs =>
      refine wq_skip (yt_B (yd_isi (k := "tuple") (n := "bool") (b := false) (ye_v rfl) rfl (by decide +kernel))) ?_
      refine wq_skip (yt_B (yd_isi (k := "tuple") (n := "int") (b := false) (ye_v rfl) rfl (by decide +kernel))) ?_
      refine wq_skip (yt_B (yd_isi (k := "tuple") (n := "str") (b := false) (ye_v rfl) rfl (by decide +kernel))) ?_
      refine wq_skip (yt_ord (a := false) (b := false) (yt_notd (b := true) (yt_B (yd_isi (k := "tuple") (n := "tuple") (ye_v rfl) rfl (by decide +kernel)))) fun _ => yt_d ((yd_neS (yd_lenT (ye_v rfl)) (yd_lenT (ye_v rfl)) rfl).to (by show PyData.bool (!decide _) = _; rw [decide_eq_true rfl]; rfl))) ?_
      refine ws_seq (fun r => Le r [.d (.tuple xs), .d (.tuple xs), .no]) (ws_ford (it_r1 (yd_lenT (ye_v rfl)) (by omega) (by omega)) (fun _ r => Le r [.d (.tuple xs), .d (.tuple xs), .no]) (Le.refl _) ?_ (fun _ h => h)) (fun r le => Ws.le (ws_retd ye_b rfl) le)
      intro i y r hi le
      have hi2 : i < (rgD 0 (xs.length : Int)).length := (List.getElem?_eq_some_iff.mp hi).1
      rw [rg_at _ _ _ hi2] at hi
      rw [rg_len] at hi2
      cases hi
      have hi3 : i < xs.length := by omega
      have gi : atI xs (0 + (i : Int)) = some xs[i] := by
        rw [Int.zero_add]
        exact atI_nat (List.getElem?_eq_getElem hi3)
      refine ⟨[2], r.set 2 (.d (.int (0 + (i : Int)))), yg_n, Ws.le ?_ (le.seta (j := 2))⟩
      exact ws_ifd (b := false) (yt_notd (b := true) (yt_B (ye_cl (P := fun d => d = .bool true) (ya_d (yd_ixT (ye_v rfl) (ye_v rfl) gi) (ya_d (yd_ixT (ye_v rfl) (ye_v rfl) gi) ya_n)) rfl ⟨xs[i], rfl, hxs _ (List.getElem_mem hi3), rfl⟩))) (fun e => nomatch e) fun _ => ws_next ((Le.refl _).setn rfl)

def R_member : Pr := fun ss P => ∃ (t p : List Int) (k : Nat), ss = [.d (tI t), .d (tI p), .d (.int (k : Int))] ∧ 1 ≤ p.length ∧ P (.int (seqAt t p k))

abbrev s_member : Stmt := topS 1
theorem sc_member : FnScope ["transient", "period", "at"] ["transient", "period", "at"] (defScope s_member) := ⟨rfl, rfl, rfl, by decide +kernel, rfl, by decide +kernel, by decide +kernel⟩
theorem ok_member {Pg : Program} {w : World} {K : PySem.W.Frag} {mg : Str → Option Value} {base : Heap} (T : Tx w K mg) {f : Addr} {fd : FuncData} (F : Fun K "member" "member" s_member f fd) : FnOk Pg w K mg base CX0 1 f fd ["transient", "period", "at"] (spR K 3 R_member) := by
  refine fn_ok (n := 3) F sc_member rfl (by decide) (fun cdv A outer s H E hr => ⟨_, (pss_cons (ps_if (pt_cmpR op_lt (pv 2) (pe_callB call_len_seq (by rfl) T.b_len (by decide +kernel) (pa_cons (pv 0) pa_nil)) (nomark _)) (pss_one (ps_ret (pe_ix ix_seq (pv 0) (pv 2) (fun _ _ => rfl)))) pss_nil)
    (pss_one (ps_ret (pe_ix ix_seq (pv 1) (pe_op op_mod (pe_op op_sub (pv 2) (pe_callB call_len_seq (by rfl) T.b_len (by decide +kernel) (pa_cons (pv 0) pa_nil))) (pe_callB call_len_seq (by rfl) T.b_len (by decide +kernel) (pa_cons (pv 1) pa_nil))) (fun _ _ => rfl))))), ?_⟩)
  intro ss P hl hR
  obtain ⟨t, p, k, rfl, p1, hP⟩ := hR
  refine wq_when (yt_d (yd_cp (f := fun i j => decide (i < j)) (ye_v rfl) (y_len (ye_v rfl)))) (fun e => ?_) (fun e => ?_)
  · have e : (k : Int) < (t.length : Int) := of_decide_eq_true e.symm
    refine ws_retd (y_ix (ye_v rfl) (ye_v rfl) (at_seq_t (by omega))) ?_
    rw [← seq_lo (p := p) (by omega)]
    exact hP
  · have e : ¬ (k : Int) < (t.length : Int) := of_decide_eq_false e.symm
    have hp : (0 : Int) < (p.length : Int) := by omega
    refine ws_retd (y_ix (z := cyc p (k - t.length)) (ye_v rfl) (yd_md (yd_sub (ye_v rfl) (y_len (ye_v rfl))) (y_len (ye_v rfl)) hp) ?_) ?_
    · rw [show (k : Int) - (t.length : Int) = ((k - t.length : Nat) : Int) by omega, ← Int.natCast_emod]
      exact at_seq_t (Nat.mod_lt _ (by omega))
    · rw [← seq_hi (by omega)]
      exact hP


def R_increment : Pr := fun ss P => ∃ (c : Cv) (k : Nat), ss = [.d (cvD c), .d (.int (k : Int))] ∧ 1 ≤ c.p.length ∧ P (.int (c.inc k))

abbrev s_increment : Stmt := topS 2
theorem sc_increment : FnScope ["curve", "k", "_", "transient", "period"] ["curve", "k"] (defScope s_increment) := ⟨rfl, rfl, rfl, by decide +kernel, rfl, by decide +kernel, by decide +kernel⟩
theorem ok_increment {Pg : Program} {w : World} {K : PySem.W.Frag} {mg : Str → Option Value} {base : Heap} (T : Tx w K mg) (C_member : Cal Pg w K mg base 1 "member" ["transient", "period", "at"] (spR K 3 R_member)) {f : Addr} {fd : FuncData} (F : Fun K "increment" "increment" s_increment f fd) : FnOk Pg w K mg base CX0 2 f fd ["curve", "k"] (spR K 2 R_increment) := by
  refine fn_ok (n := 2) F sc_increment rfl (by decide) (fun cdv A outer s H E hr => ⟨_, (pss_cons (ps_asg (pv 0) (pg_tup rfl (pgs_cons (pg_name (i := 2) sc_increment.nd rfl (Or.inl rfl)) (pgs_cons (pg_name (i := 3) sc_increment.nd rfl (Or.inl rfl)) (pgs_cons (pg_name (i := 4) sc_increment.nd rfl (Or.inl rfl)) pgs_nil)))))
    (pss_one (ps_ret (pe_cal C_member hr (pa_cons (pv 3) (pa_cons (pv 4) (pa_cons (pv 1) pa_nil))))))), ?_⟩)
  intro ss P hl hR
  obtain ⟨c, k, rfl, p1, hP⟩ := hR
  refine wq_asg (ye_v rfl) (yg_t (ygs_1 yg_n (ygs_1 yg_n (ygs_1 yg_n ygs_0)))) ?_
  exact ws_ret (ye_cl (P := fun d => d = .int (c.inc k)) (ya_d (ye_v rfl) (ya_d (ye_v rfl) (ya_d (ye_v rfl) ya_n))) rfl ⟨c.t, c.p, k, rfl, p1, rfl⟩) fun d e => e ▸ hP


def R_replaced : Pr := fun ss P => ∃ (xs : List PyData) (n : Nat) (x : PyData), ss = [.d (.tuple xs), .d (.int (n : Int)), .d x] ∧ n < xs.length ∧ xs.length ≤ 1000 ∧ P (.tuple (xs.set n x))

abbrev s_replaced : Stmt := topS 16
theorem sc_replaced : FnScope ["members", "at", "other"] ["members", "at", "other"] (defScope s_replaced) := ⟨rfl, rfl, rfl, by decide +kernel, rfl, by decide +kernel, by decide +kernel⟩
theorem ok_replaced {Pg : Program} {w : World} {K : PySem.W.Frag} {mg : Str → Option Value} {base : Heap} (T : Tx w K mg) {f : Addr} {fd : FuncData} (F : Fun K "replaced" "replaced" s_replaced f fd) : FnOk Pg w K mg base CX0 1 f fd ["members", "at", "other"] (spR K 3 R_replaced) := by
  refine fn_ok (n := 3) F sc_replaced rfl (by decide) (fun cdv A outer s H E hr => ⟨_, (pss_one (ps_ret (pe_op opx_add (pe_op opx_add (pe_slice slx (pv 0) po_none (po_some (pv 1))) (pe_tup (pa_cons (pv 2) pa_nil))) (pe_slice slx (pv 0) (po_some (pe_op opx_add (pv 1) pe_int)) po_none)))), ?_⟩)
  intro ss P hl hR
  obtain ⟨xs, n, x, rfl, hn, hx, hP⟩ := hR
  refine ws_retd ((yd_catT (yd_catT ((yd_slT (ye_v rfl) yo_n (yo_i (ye_v rfl))).to (by rw [cut_to])) (yd_t1 (ye_v rfl)) ?_) ((yd_slT (ye_v rfl) (yo_i ((yd_add (ye_v rfl) ye_i).to (e := .int ((n + 1 : Nat) : Int)) rfl)) yo_n).to (by rw [cut_from])) ?_).to (by rw [set_cut xs n x hn])) hP
  · rw [List.length_take]
    show _ + 1 ≤ (16777216 : Nat)
    omega
  · rw [List.length_append, List.length_take, List.length_drop]
    show _ + 1 + _ ≤ (16777216 : Nat)
    omega


def RL_increments : PrL := fun ss P => ∃ (c : Cv) (m : Nat), ss = [.d (cvD c), .d (.int (m : Int))] ∧ 1 ≤ c.p.length ∧ c.p.length ≤ 2 ^ 20 ∧ c.t.length ≤ 2 ^ 20 ∧ m ≤ 2 ^ 22 ∧ P = fun x => x = (incs c m).map .int

abbrev s_increments : Stmt := topS 3
theorem sc_increments : FnScope ["curve", "many", "_", "transient", "period", "rounds"] ["curve", "many"] (defScope s_increments) := ⟨rfl, rfl, rfl, by decide +kernel, rfl, by decide +kernel, by decide +kernel⟩
theorem okf_increments {Pg : Program} {w : World} {K : PySem.W.Frag} {mg : Str → Option Value} {base : Heap} (T : Tx w K mg) {f : Addr} {fd : FuncData} (F : Fun K "increments" "increments" s_increments f fd) : FnOk Pg w K mg base CX0 1 f fd ["curve", "many"] (spL K 2 RL_increments) := by
  refine fn_okF (n := 2) F sc_increments rfl (by decide) (fun cdv A outer s H E hr => ⟨_, (pss_cons (ps_asg (pv 0) (pg_tup rfl (pgs_cons (pg_name (i := 2) sc_increments.nd rfl (Or.inl rfl)) (pgs_cons (pg_name (i := 3) sc_increments.nd rfl (Or.inl rfl)) (pgs_cons (pg_name (i := 4) sc_increments.nd rfl (Or.inl rfl)) pgs_nil)))))
    (pss_cons (ps_set (i := 5) sc_increments.nd rfl (Or.inl rfl) (pe_op opx_add (pe_op op_fdivW (pe_callB (callx_max rfl) (by rfl) T.b_max (by decide +kernel) (pa_cons pe_int (pa_cons (pe_op op_sub (pv 1) (pe_callB call_len_seq (by rfl) T.b_len (by decide +kernel) (pa_cons (pv 3) pa_nil))) pa_nil))) (pe_callB call_len_seq (by rfl) T.b_len (by decide +kernel) (pa_cons (pv 4) pa_nil))) pe_int))
    (pss_one (ps_ret (pe_slice slx (pe_op opx_add (pe_callTy call_list_of (by rfl) T.b_list (by decide +kernel) (pa_cons (pv 3) pa_nil)) (pe_op opx_mul (pe_callTy call_list_of (by rfl) T.b_list (by decide +kernel) (pa_cons (pv 4) pa_nil)) (pv 5))) po_none (po_some (pv 1))))))), ?_⟩)
  intro ss P hl hR
  obtain ⟨c, m, rfl, p1, p2, t2, m2, rfl⟩ := hR
  refine wf_asg (ye_v rfl) (yg_t (ygs_1 yg_n (ygs_1 yg_n (ygs_1 yg_n ygs_0)))) ?_
  have hp : (0 : Int) < (c.p.length : Int) := by omega
  have er : max (0 : Int) ((m : Int) - (c.t.length : Int)) = ((m - c.t.length : Nat) : Int) := by omega
  obtain ⟨q, hq⟩ : ∃ q : Nat, q = (m - c.t.length) / c.p.length := ⟨_, rfl⟩
  have dm := Nat.div_add_mod (m - c.t.length) c.p.length
  have lt := Nat.mod_lt (m - c.t.length) (show 0 < c.p.length by omega)
  rw [← hq, Nat.mul_comm] at dm
  have up : (q + 1) * c.p.length = q * c.p.length + c.p.length := Nat.succ_mul q c.p.length
  have qm : q ≤ q * c.p.length := Nat.le_mul_of_pos_right q (by omega)
  refine wf_setd ((yd_add (yd_fd (yd_max2 ye_i (yd_sub (ye_v rfl) (y_len (ye_v rfl)))) (y_len (ye_v rfl)) hp (by omega)) ye_i).to (e := .int ((q + 1 : Nat) : Int)) (by rw [er, ← Int.natCast_ediv, ← hq]; rfl)) ?_
  refine wf_ret ((nd_slR (nd_cat (nd_listT (xs := c.t.map .int) (ye_v rfl)).rl (nd_rep (nd_listT (xs := c.p.map .int) (ye_v rfl)).rl (ye_v rfl) (by omega) (by omega) ?_).rl ?_).rl yo_n (yo_i (ye_v rfl))).imp ?_)
  · rw [List.length_map, Int.toNat_natCast, Nat.mul_comm]
    show _ ≤ (16777216 : Nat)
    omega
  · rw [Int.toNat_natCast, rep_map, List.length_map, List.length_map, rep_len]
    show _ ≤ (16777216 : Nat)
    omega
  · rintro _ rfl
    rw [Int.toNat_natCast, rep_map, ← List.map_append, cut_map, cut_to, incs_eq c p1 m (q + 1) (by omega)]


def nI (fs : List Nat) : List PyData := fs.map fun f => .int ((f : Nat) : Int)
theorem nI_app (a : List Nat) (b : Nat) : nI (a ++ [b]) = nI a ++ [.int (b : Int)] := by unfold nI; rw [List.map_append]; rfl
def R_prime_factors : Pr := fun ss P => ∃ n : Nat, ss = [.d (.int (n : Int))] ∧ 1 ≤ n ∧ n ≤ 100000 ∧ ∀ fs, Facs n fs → fs.length ≤ n → P (.list (nI fs))
theorem prod_len : ∀ (fs : List Nat), (∀ f ∈ fs, Prm f) → fs.length + 1 ≤ prodL fs
  | [], _ => Nat.le_refl _
  | f :: fs, h => by
    have ih := prod_len fs fun g hg => h g (List.mem_cons_of_mem _ hg)
    have hf := (h f List.mem_cons_self).1
    show fs.length + 1 + 1 ≤ f * prodL fs
    have : 2 * prodL fs ≤ f * prodL fs := Nat.mul_le_mul_right _ hf
    omega

abbrev s_prime_factors : Stmt := topS 7
theorem sc_prime_factors : FnScope ["number", "found", "factor"] ["number"] (defScope s_prime_factors) := ⟨rfl, rfl, rfl, by decide +kernel, rfl, by decide +kernel, by decide +kernel⟩
theorem ok_prime_factors {Pg : Program} {w : World} {K : PySem.W.Frag} {mg : Str → Option Value} {base : Heap} (T : Tx w K mg) {f : Addr} {fd : FuncData} (F : Fun K "prime_factors" "prime_factors" s_prime_factors f fd) : FnOk Pg w K mg base CX0 1 f fd ["number"] (spR K 1 R_prime_factors) := by
  refine fn_ok (n := 1) F sc_prime_factors rfl (by decide) (fun cdv A outer s H E hr => ⟨_, (pss_cons (ps_set (i := 1) sc_prime_factors.nd rfl (Or.inl rfl) (pe_lst pa_nil))
    (pss_cons (ps_set (i := 2) sc_prime_factors.nd rfl (Or.inl rfl) pe_int)
    (pss_cons (ps_while PassesOwn.never (pt_cmpR op_le (pe_op opx_mul (pv 2) (pv 2)) (pv 0) (nomark _))
    (pss_one (ps_if (pt_cmpR (opx_eq hr) (pe_op op_mod (pv 0) (pv 2)) pe_int (nomark _)) (pss_cons (ps_expr (pe_bm PySem.F.plainAttrs_list PySem.F.slot_list_append PySem.F.type_list_append mt_append (pv 1) (pa_cons (pv 2) pa_nil)))
    (pss_one (ps_aug (i := 0) sc_prime_factors.nd rfl (Or.inl rfl) (pv 2) iop_fdivW))) (pss_one (ps_aug (i := 2) sc_prime_factors.nd rfl (Or.inl rfl) pe_int ip_add)))))
    (pss_one (ps_ret (pe_ifExp (pt_cmpR op_gt (pv 0) pe_int (nomark _)) (pe_op opx_add (pv 1) (pe_lst (pa_cons (pv 0) pa_nil))) (pv 1))))))), ?_⟩)
  intro ss P hl hR
  obtain ⟨n, rfl, n1, n2, hP⟩ := hR
  refine wq_setmd nd_l0 ?_
  refine wq_setd ye_i ?_
  refine ws_seq (fun r => ∃ fs m f, FacSt n (fs, m, f) ∧ m < f * f ∧ Le r [.d (.int (m : Int)), .ml (nI fs), .d (.int (f : Int))])
    (ws_while (α := List Nat × Nat × Nat) (fun a r => FacSt n a ∧ a.2.2 ≤ n + 2 ∧ Le r [.d (.int (a.2.1 : Int)), .ml (nI a.1), .d (.int (a.2.2 : Int))]) (fun a => a.2.1 + (a.2.1 + 1 - a.2.2)) ([], n, 2)
      ⟨⟨by show 1 * n = n; omega, fun f h => (by cases h), n1, Nat.le_refl _, fun d h1 h2 => by have h2 : d < 2 := h2; omega⟩, (by show 2 ≤ n + 2; omega), Le.refl _⟩ ?_) ?_
  · rintro ⟨fs, m, f⟩ r ⟨hS, hfn, le⟩
    have hfn : f ≤ n + 2 := hfn
    have le : Le r [.d (.int (m : Int)), .ml (nI fs), .d (.int (f : Int))] := le
    have hm : 1 ≤ m := hS.m
    have hf : 2 ≤ f := hS.f
    have hlen := prod_len fs hS.prm
    have hmn : m ≤ n := by
      have := hS.prod
      have h2 : 1 * m ≤ prodL fs * m := Nat.mul_le_mul_right m (by omega)
      have h3 : prodL fs * m = n := this
      omega
    have hpn : prodL fs ≤ n := by
      have h3 : prodL fs * m = n := hS.prod
      have := Nat.le_mul_of_pos_right (prodL fs) hm
      omega
    refine ⟨decide (f * f ≤ m), ?_, fun e => ?_, fun e => ?_⟩
    · refine Pt.le (yt_d ((yd_cp (f := fun i j => decide (i ≤ j)) (yd_mul (ye_v rfl) (ye_v rfl) ?_) (ye_v rfl)).to ?_)) le
      · exact .inr (wide_mul (a := 20) (b := 20) (by omega) (by omega) (by decide) (by decide) (by decide))
      · congr 1
        rw [← Int.natCast_mul]
        exact decide_eq_decide.mpr (by omega)
    · have e : f * f ≤ m := of_decide_eq_true e
      have hfm : f ≤ m := Nat.le_trans (Nat.le_mul_of_pos_right f (by omega)) e
      refine Ws.le ?_ le
      refine ws_ifd (b := decide (m % f = 0)) (yt_d ((yd_eqS (yd_md (ye_v rfl) (ye_v rfl) (by omega)) ye_i rfl).to ?_)) (fun e2 => ?_) (fun e2 => ?_)
      · show PyData.bool (decide _) = _
        congr 1
        rw [← Int.natCast_emod]
        exact decide_eq_decide.mpr (by omega)
      · have e2 : m % f = 0 := of_decide_eq_true e2
        refine wq_app (P := fun d => d = .int (f : Int)) rfl (ye_v rfl) ?_ ?_
        · unfold nI
          rw [List.length_map]
          show _ < (16777216 : Nat)
          omega
        rintro d rfl
        refine ws_aug (f := fun i j => i / j) (a := (m : Int)) (b := (f : Int)) rfl (ye_v rfl) ?_ fun H Q q => ⟨_, _, rfl, rfl, cdiv_of (by omega) (by omega), q⟩
        refine ⟨(fs ++ [f], m / f, f), ?_, hS.yes e2, hfn, ?_⟩
        · have : m / f < m := Nat.div_lt_self hm (by omega)
          show m / f + (m / f + 1 - f) < m + (m + 1 - f)
          omega
        · simp only [nI_app, Int.natCast_ediv]
          exact Le.refl _
      · have e2 : m % f ≠ 0 := of_decide_eq_false e2
        refine ws_aug (f := fun i j => i + j) (a := (f : Int)) (b := 1) rfl ye_i ?_ fun H Q q => ⟨_, _, rfl, rfl, q⟩
        refine ⟨(fs, m, f + 1), ?_, hS.next e2, (by show f + 1 ≤ n + 2; omega), ?_⟩
        · show m + (m + 1 - (f + 1)) < m + (m + 1 - f)
          omega
        · simp only [Int.natCast_add]
          exact Le.refl _
    · exact ⟨fs, m, f, hS, by have := of_decide_eq_false e; omega, le⟩
  · rintro r ⟨fs, m, f, hS, hlt, le⟩
    refine Ws.le ?_ le
    have hfin := hS.fin hlt
    have hlen := prod_len _ hfin.prm
    rw [hfin.prod] at hlen
    refine ws_freeze 1 rfl ?_
    refine ws_ret (ye_if (yt_d (b := decide (1 < m)) ((yd_cp (f := fun i j => decide (j < i)) (ye_v rfl) ye_i).to ?_)) (fun e => ?_) (fun e => ?_)) fun d p => p
    · congr 1
      exact decide_eq_decide.mpr (by omega)
    · have e : 1 < m := of_decide_eq_true e.symm
      rw [if_pos e] at hfin hlen
      rw [List.length_append, List.length_singleton] at hlen
      refine yd_of (nd_cat (rl_of (ye_v rfl)) (nd_l1 (ye_v rfl)).rl ?_).pd ?_
      · unfold nI
        rw [List.length_map]
        show fs.length + 1 ≤ (16777216 : Nat)
        omega
      · rw [← nI_app]
        exact hP _ hfin (by rw [List.length_append, List.length_singleton]; omega)
    · have e : ¬ 1 < m := of_decide_eq_false e.symm
      rw [if_neg e] at hfin hlen
      exact yd_of (ye_v rfl) (hP _ hfin (by omega))


theorem y_rep {K : PySem.W.Frag} {ρ : Rho} {ta tb : TE} {xs : List Int} {k : Nat} (ha : Pd K ta ρ (tI xs)) (hb : Pd K tb ρ (.int (k : Int))) (hne : xs ≠ []) (h2 : 2 ≤ k) (h3 : k ≤ 1000) (hl : xs.length ≤ 1000) : Pd K (tOp (rTimes K) ta tb) ρ (tI (List.replicate k xs).flatten) :=
  (yd_repT (xs := xs.map .int) ha hb (by simpa using hne) (by omega) (by omega) (by rw [List.length_map]; exact hl)).to (by rw [Int.toNat_natCast, rep_map]; rfl)
def R_shortest_period : Pr := fun ss P => ∃ p : List Int, ss = [.d (tI p)] ∧ 1 ≤ p.length ∧ p.length ≤ 1000 ∧ ∀ m, LeastPer p m → P (tI (p.take m))

abbrev s_shortest_period : Stmt := topS 6
theorem sc_shortest_period : FnScope ["period", "size", "factor"] ["period"] (defScope s_shortest_period) := ⟨rfl, rfl, rfl, by decide +kernel, rfl, by decide +kernel, by decide +kernel⟩
theorem ok_shortest_period {Pg : Program} {w : World} {K : PySem.W.Frag} {mg : Str → Option Value} {base : Heap} (T : Tx w K mg) (C_prime_factors : Cal Pg w K mg base 1 "prime_factors" ["number"] (spR K 1 R_prime_factors)) {f : Addr} {fd : FuncData} (F : Fun K "shortest_period" "shortest_period" s_shortest_period f fd) : FnOk Pg w K mg base CX0 2 f fd ["period"] (spR K 1 R_shortest_period) := by
  refine fn_ok (n := 1) F sc_shortest_period rfl (by decide) (fun cdv A outer s H E hr => ⟨_, (pss_cons (ps_set (i := 1) sc_shortest_period.nd rfl (Or.inl rfl) (pe_callB call_len_seq (by rfl) T.b_len (by decide +kernel) (pa_cons (pv 0) pa_nil)))
    (pss_cons (ps_for PassesOwn.never rfl (pi_seq (pe_cal C_prime_factors hr (pa_cons (pv 1) pa_nil))) (pg_name (i := 2) sc_shortest_period.nd rfl (Or.inl rfl))
    (pss_one (ps_if (pt_cmpR (opx_eq hr) (pe_op opx_mul (pe_slice slx (pv 0) po_none (po_some (pe_op op_fdivW (pv 1) (pv 2)))) (pv 2)) (pe_slice slx (pv 0) po_none (po_some (pv 1))) (nomark _)) (pss_one (ps_aug (i := 1) sc_shortest_period.nd rfl (Or.inl rfl) (pv 2) iop_fdivW)) pss_nil)))
    (pss_one (ps_ret (pe_slice slx (pv 0) po_none (po_some (pv 1))))))), ?_⟩)
  intro ss P hl hR
  obtain ⟨p, rfl, p1, p2, hP⟩ := hR
  obtain ⟨m, hm⟩ := least_ex p1
  refine wq_setd (y_len (ye_v rfl)) ?_
  refine ws_seq (fun r => Le r [.d (tI p), .d (.int (m : Int)), .no]) (ws_for (PL := fun xs => ∃ fs, Facs p.length fs ∧ xs = nI fs)
    (it_L (PA := fun d => ∃ fs, Facs p.length fs ∧ d = .list (nI fs)) (ye_cl (ya_d (ye_v rfl) ya_n) rfl ⟨p.length, rfl, p1, by omega, fun fs h _ => ⟨fs, h, rfl⟩⟩) fun x ⟨fs, h, e⟩ => ⟨nI fs, .inl e, fs, h, rfl⟩)
    (fun xs i r => ∃ fs size, Facs p.length fs ∧ xs = nI fs ∧ SpSt p m size (fs.drop i) ∧ Le r [.d (tI p), .d (.int (size : Int)), .no]) ?_ ?_ ?_) fun r le => Ws.le ?_ le
  · rintro xs ⟨fs, h, rfl⟩
    exact ⟨fs, p.length, h, rfl, by rw [List.drop_zero]; exact SpSt.start p1 hm h, Le.refl _⟩
  · rintro xs i x r _ hi ⟨fs, size, h, rfl, hS, le⟩
    obtain ⟨f, hf, rfl⟩ : ∃ f, fs[i]? = some f ∧ x = .int (f : Int) := by
      unfold nI at hi
      rw [List.getElem?_map] at hi
      cases e : fs[i]? with
      | none => rw [e] at hi; cases hi
      | some f => rw [e] at hi; exact ⟨f, rfl, (Option.some.inj hi).symm⟩
    have hpf : Prm f := h.prm f (List.mem_of_getElem? hf)
    have hdrop : fs.drop i = f :: fs.drop (i + 1) := by
      obtain ⟨hl, e⟩ := List.getElem?_eq_some_iff.mp hf
      rw [List.drop_eq_getElem_cons hl, e]
    rw [hdrop] at hS
    obtain ⟨d, rfl, hd1, hdiv⟩ := hS.exact hpf
    have hsz : d * f ≤ p.length := hS.per.le p1
    have f2 : 2 ≤ f := hpf.1
    have hfl : f ≤ d * f := Nat.le_mul_of_pos_left f hd1
    have hdl : d ≤ d * f := Nat.le_mul_of_pos_right d (by omega)
    refine ⟨[2], r.set 2 (.d (.int (f : Int))), yg_n, Ws.le ?_ (le.seta (j := 2))⟩
    have ediv : ((d * f : Nat) : Int) / (f : Int) = (d : Int) := by
      rw [← Int.natCast_ediv, hdiv]
    refine ws_ifd (b := decide ((List.replicate f (p.take d)).flatten = p.take (d * f))) (yt_d (y_eqT (y_rep (xs := p.take d) (k := f) ((y_sl (ye_v rfl) yo_n (yo_i ((yd_fd (ye_v rfl) (ye_v rfl) (by omega) (by omega)).to (congrArg PyData.int ediv)))).to (by rw [cut_to])) (ye_v rfl) ?_ f2 (by omega) ?_) ((y_sl (ye_v rfl) yo_n (yo_i (ye_v rfl))).to (by rw [cut_to])))) (fun e => ?_) (fun e => ?_)
    · intro z
      have := congrArg List.length z
      rw [List.length_take, List.length_nil] at this
      omega
    · rw [List.length_take]
      omega
    · have e := (per_rep p1 hS.per hd1).mp (of_decide_eq_true e)
      refine ws_aug (f := fun i j => i / j) (a := ((d * f : Nat) : Int)) (b := (f : Int)) rfl (ye_v rfl) ?_ fun H Q q => ⟨_, _, rfl, rfl, cdiv_of (by omega) (by omega), q⟩
      refine ⟨fs, d, h, rfl, hS.yes hm hpf e, ?_⟩
      simp only [ediv]
      exact .cons rfl (.cons rfl (.cons trivial .nil))
    · have e : ¬ Per p d := fun z => of_decide_eq_false e ((per_rep p1 hS.per hd1).mpr z)
      exact ws_next ⟨fs, d * f, h, rfl, hS.no hm hpf hd1 e, (Le.refl _).setn rfl⟩
  · rintro xs r _ ⟨fs, size, h, rfl, hS, le⟩
    rw [show (nI fs).length = fs.length by unfold nI; rw [List.length_map], List.drop_of_length_le (Nat.le_refl _)] at hS
    rw [hS.fin hm] at le
    exact le
  · exact ws_retd ((y_sl (ye_v rfl) yo_n (yo_i (ye_v rfl))).to (by rw [cut_to])) (hP m hm)


theorem at_neg (xs : List Int) (s : Nat) (h : s < xs.length) : atI xs (-1 - (s : Int)) = some (xs.getD (xs.length - 1 - s) 0) := by
  unfold atI ixN
  rw [if_neg (by omega), if_pos (by omega)]
  show xs[(-1 - (s : Int) + (xs.length : Int)).toNat]? = _
  rw [show (-1 - (s : Int) + (xs.length : Int)).toNat = xs.length - 1 - s by omega, List.getD_eq_getElem?_getD, List.getElem?_eq_getElem (by omega)]
  rfl
def R_normal_parts : Pr := fun ss P => ∃ t p : List Int, ss = [.d (tI t), .d (tI p)] ∧ 1 ≤ p.length ∧ p.length ≤ 1000 ∧ t.length < 2 ^ 24 ∧ ∀ t' p', NF t p t' p' → P (.tuple [tI t', tI p'])

abbrev s_normal_parts : Stmt := topS 5
theorem sc_normal_parts : FnScope ["transient", "period", "size", "same", "turn"] ["transient", "period"] (defScope s_normal_parts) := ⟨rfl, rfl, rfl, by decide +kernel, rfl, by decide +kernel, by decide +kernel⟩
theorem ok_normal_parts {Pg : Program} {w : World} {K : PySem.W.Frag} {mg : Str → Option Value} {base : Heap} (T : Tx w K mg) (C_shortest_period : Cal Pg w K mg base 2 "shortest_period" ["period"] (spR K 1 R_shortest_period)) {f : Addr} {fd : FuncData} (F : Fun K "normal_parts" "normal_parts" s_normal_parts f fd) : FnOk Pg w K mg base CX0 3 f fd ["transient", "period"] (spR K 2 R_normal_parts) := by
  refine fn_ok (n := 2) F sc_normal_parts rfl (by decide) (fun cdv A outer s H E hr => ⟨_, (pss_cons (ps_set (i := 1) sc_normal_parts.nd rfl (Or.inl rfl) (pe_cal C_shortest_period hr (pa_cons (pv 1) pa_nil)))
    (pss_cons (ps_set (i := 2) sc_normal_parts.nd rfl (Or.inl rfl) (pe_callB call_len_seq (by rfl) T.b_len (by decide +kernel) (pa_cons (pv 1) pa_nil)))
    (pss_cons (ps_set (i := 3) sc_normal_parts.nd rfl (Or.inl rfl) pe_int)
    (pss_cons (ps_while PassesOwn.never (PW.pt (pw_and (pt_cmpR op_lt (pv 3) (pe_callB call_len_seq (by rfl) T.b_len (by decide +kernel) (pa_cons (pv 0) pa_nil)) (nomark _)) (pw_and1 (pt_cmpR (opx_eq hr) (pe_ix ix_seq (pv 0) (pe_op op_sub (pe_un un_neg pe_int) (pv 3)) (fun _ _ => rfl)) (pe_ix ix_seq (pv 1) (pe_op op_sub (pe_un un_neg pe_int) (pe_op op_mod (pv 3) (pv 2))) (fun _ _ => rfl)) (nomark _)))))
    (pss_one (ps_aug (i := 3) sc_normal_parts.nd rfl (Or.inl rfl) pe_int ip_add)))
    (pss_cons (ps_set (i := 4) sc_normal_parts.nd rfl (Or.inl rfl) (pe_op op_sub (pv 2) (pe_op op_mod (pv 3) (pv 2))))
    (pss_one (ps_ret (pe_tup (pa_cons (pe_slice slx (pv 0) po_none (po_some (pe_op op_sub (pe_callB call_len_seq (by rfl) T.b_len (by decide +kernel) (pa_cons (pv 0) pa_nil)) (pv 3)))) (pa_cons (pe_op opx_add (pe_slice slx (pv 1) (po_some (pv 4)) po_none) (pe_slice slx (pv 1) po_none (po_some (pv 4)))) pa_nil)))))))))), ?_⟩)
  intro ss P hl hR
  obtain ⟨t, p, rfl, p1, p2, tl, hP⟩ := hR
  refine wq_set (P := fun d => ∃ m, LeastPer p m ∧ d = tI (p.take m)) (ye_cl (ya_d (ye_v rfl) ya_n) rfl ⟨p, rfl, p1, p2, fun m h => ⟨m, h, rfl⟩⟩) ?_
  rintro d ⟨m, hm, rfl⟩
  have hmp := hm.per.le p1
  have m1 := hm.per.pos
  have ql : (p.take m).length = m := by rw [List.length_take]; omega
  generalize hq : p.take m = q at *
  refine wq_setd (y_len (ye_v rfl)) ?_
  rw [ql]
  refine wq_setd ye_i ?_
  refine ws_seq (fun r => ∃ s, Strip t q s ∧ Le r [.d (tI t), .d (tI q), .d (.int (m : Int)), .d (.int (s : Int)), .no]) (ws_while (α := Nat) (fun s r => s ≤ t.length ∧ (∀ j, j < s → mt t q j) ∧ Le r [.d (tI t), .d (tI q), .d (.int (m : Int)), .d (.int (s : Int)), .no]) (fun s => t.length - s) 0
    ⟨Nat.zero_le _, fun j h => absurd h (Nat.not_lt_zero _), Le.refl _⟩ ?_) ?_
  · rintro s r ⟨hs, hall, le⟩
    have hsm := Nat.mod_lt s (show 0 < m by omega)
    refine ⟨decide (s < t.length) && decide (mt t q s), Pt.le (yt_andd (yt_d ((yd_cp (f := fun i j => decide (i < j)) (ye_v rfl) (y_len (ye_v rfl))).to (by congr 1; exact decide_eq_decide.mpr (by omega)))) fun e => ?_) le, fun e => Ws.le ?_ le, fun e => ?_⟩
    · have e : s < t.length := of_decide_eq_true e
      refine yt_d ((yd_eqS (y_ix (z := t.getD (t.length - 1 - s) 0) (ye_v rfl) (yd_sub (yd_ng ye_i) (ye_v rfl)) (at_neg t s e)) (y_ix (z := q.getD (m - 1 - s % m) 0) (ye_v rfl) (yd_sub (yd_ng ye_i) (yd_md (ye_v rfl) (ye_v rfl) (by omega))) ?_) rfl).to ?_)
      · rw [← Int.natCast_emod]
        have := at_neg q (s % m) (by omega)
        rw [ql] at this
        exact this
      · show PyData.bool (decide _) = _
        congr 1
        exact decide_eq_decide.mpr (by unfold mt; rw [ql])
    · obtain ⟨e1, e2⟩ := Bool.and_eq_true_iff.mp e
      have e1 := of_decide_eq_true e1
      have e2 := of_decide_eq_true e2
      refine ws_aug (f := fun i j => i + j) (a := (s : Int)) (b := 1) rfl ye_i ?_ fun H Q q => ⟨_, _, rfl, rfl, q⟩
      refine ⟨s + 1, ?_, e1, fun j hj => ?_, ?_⟩
      · show t.length - (s + 1) < t.length - s
        omega
      · by_cases h : j = s
        · subst h; exact e2
        · exact hall j (by omega)
      · simp only [Int.natCast_add]
        exact Le.refl _
    · refine ⟨s, ⟨hs, hall, fun h1 h2 => ?_⟩, le⟩
      rw [decide_eq_true h1, decide_eq_true h2] at e
      exact nomatch e
  · rintro r ⟨s, hS, le⟩
    refine Ws.le ?_ le
    have hsm := Nat.mod_lt s (show 0 < m by omega)
    refine wq_setd ((yd_sub (ye_v rfl) (yd_md (ye_v rfl) (ye_v rfl) (by omega))).to (e := .int ((m - s % m : Nat) : Int)) (by rw [← Int.natCast_emod]; congr 1; omega)) ?_
    refine ws_retd (yd_t2 ((y_sl (ye_v rfl) yo_n (yo_i ((yd_sub (y_len (ye_v rfl)) (ye_v rfl)).to (e := .int ((t.length - s : Nat) : Int)) (by congr 1; have := hS.le; omega)))).to (by rw [cut_to]))
      (y_cat ((y_sl (ye_v rfl) (yo_i (ye_v rfl)) yo_n).to (by rw [cut_from])) ((y_sl (ye_v rfl) yo_n (yo_i (ye_v rfl))).to (by rw [cut_to])) ?_)) ?_
    · rw [List.length_drop, List.length_take]
      show _ ≤ (16777216 : Nat)
      omega
    · refine hP _ _ ⟨m, s, hm, by rw [hq]; exact hS, rfl, ?_⟩
      rw [hq]
      unfold rotR
      rw [ql]


def R_normal : Pr := fun ss P => ∃ c : Cv, ss = [.d (cvD c)] ∧ 1 ≤ c.p.length ∧ c.p.length ≤ 1000 ∧ c.t.length < 2 ^ 24 ∧ ∀ t' p', NF c.t c.p t' p' → P (cvD ⟨c.i, t', p'⟩)

abbrev s_normal : Stmt := topS 4
theorem sc_normal : FnScope ["curve", "initial", "transient", "period"] ["curve"] (defScope s_normal) := ⟨rfl, rfl, rfl, by decide +kernel, rfl, by decide +kernel, by decide +kernel⟩
theorem ok_normal {Pg : Program} {w : World} {K : PySem.W.Frag} {mg : Str → Option Value} {base : Heap} (T : Tx w K mg) (C_normal_parts : Cal Pg w K mg base 3 "normal_parts" ["transient", "period"] (spR K 2 R_normal_parts)) {f : Addr} {fd : FuncData} (F : Fun K "normal" "normal" s_normal f fd) : FnOk Pg w K mg base CX0 4 f fd ["curve"] (spR K 1 R_normal) := by
  refine fn_ok (n := 1) F sc_normal rfl (by decide) (fun cdv A outer s H E hr => ⟨_, (pss_cons (ps_asg (pv 0) (pg_tup rfl (pgs_cons (pg_name (i := 1) sc_normal.nd rfl (Or.inl rfl)) (pgs_cons (pg_name (i := 2) sc_normal.nd rfl (Or.inl rfl)) (pgs_cons (pg_name (i := 3) sc_normal.nd rfl (Or.inl rfl)) pgs_nil)))))
    (pss_cons (ps_asg (pe_cal C_normal_parts hr (pa_cons (pv 2) (pa_cons (pv 3) pa_nil))) (pg_tup rfl (pgs_cons (pg_name (i := 2) sc_normal.nd rfl (Or.inl rfl)) (pgs_cons (pg_name (i := 3) sc_normal.nd rfl (Or.inl rfl)) pgs_nil))))
    (pss_one (ps_ret (pe_tup (pa_cons (pv 1) (pa_cons (pv 2) (pa_cons (pv 3) pa_nil)))))))), ?_⟩)
  intro ss P hl hR
  obtain ⟨c, rfl, p1, p2, tl, hP⟩ := hR
  refine wq_asg (ye_v rfl) (yg_t (ygs_1 yg_n (ygs_1 yg_n (ygs_1 yg_n ygs_0)))) ?_
  refine wq_asgP (P := fun d => ∃ t' p', NF c.t c.p t' p' ∧ d = .tuple [tI t', tI p']) (ye_cl (ya_d (ye_v rfl) (ya_d (ye_v rfl) ya_n)) rfl ⟨c.t, c.p, rfl, p1, p2, tl, fun t' p' h => ⟨t', p', h, rfl⟩⟩) ?_
  rintro d ⟨t', p', h, rfl⟩
  exact ⟨_, _, yg_t (ygs_1 yg_n (ygs_1 yg_n ygs_0)), ws_retd (yd_t3 (ye_v rfl) (ye_v rfl) (ye_v rfl)) (hP t' p' h)⟩


def R_with_more : Pr := fun ss P => ∃ (c : Cv) (k : Nat) (a : Int), ss = [.d (cvD c), .d (.int ((k + 1 : Nat) : Int)), .d (.int a)] ∧ CvB c ∧ k < 12 ∧ P (cvD (bump c k a))

abbrev s_with_more : Stmt := topS 17
theorem sc_with_more : FnScope ["curve", "cycle", "amount", "initial", "transient", "period", "many", "steps", "turn"] ["curve", "cycle", "amount"] (defScope s_with_more) := ⟨rfl, rfl, rfl, by decide +kernel, rfl, by decide +kernel, by decide +kernel⟩
theorem ok_with_more {Pg : Program} {w : World} {K : PySem.W.Frag} {mg : Str → Option Value} {base : Heap} (T : Tx w K mg) (CF_increments : Cal Pg w K mg base 1 "increments" ["curve", "many"] (spL K 2 RL_increments)) (C_normal : Cal Pg w K mg base 4 "normal" ["curve"] (spR K 1 R_normal)) {f : Addr} {fd : FuncData} (F : Fun K "with_more" "with_more" s_with_more f fd) : FnOk Pg w K mg base CX0 5 f fd ["curve", "cycle", "amount"] (spR K 3 R_with_more) := by
  refine fn_ok (n := 3) F sc_with_more rfl (by decide) (fun cdv A outer s H E hr => ⟨_, (pss_cons (ps_asg (pv 0) (pg_tup rfl (pgs_cons (pg_name (i := 3) sc_with_more.nd rfl (Or.inl rfl)) (pgs_cons (pg_name (i := 4) sc_with_more.nd rfl (Or.inl rfl)) (pgs_cons (pg_name (i := 5) sc_with_more.nd rfl (Or.inl rfl)) pgs_nil)))))
    (pss_cons (ps_set (i := 6) sc_with_more.nd rfl (Or.inl rfl) (pe_callB (callx_max rfl) (by rfl) T.b_max (by decide +kernel) (pa_cons (pe_callB call_len_seq (by rfl) T.b_len (by decide +kernel) (pa_cons (pv 4) pa_nil)) (pa_cons (pv 1) pa_nil))))
    (pss_cons (ps_set (i := 7) sc_with_more.nd rfl (Or.inl rfl) (pe_cal CF_increments hr (pa_cons (pv 0) (pa_cons (pv 6) pa_nil))))
    (pss_cons (ps_augS (pv 7) (pe_op op_sub (pv 1) pe_int) pget_list (pv 2) ip_add set_list)
    (pss_cons (ps_set (i := 8) sc_with_more.nd rfl (Or.inl rfl) (pe_op op_mod (pe_op op_sub (pv 6) (pe_callB call_len_seq (by rfl) T.b_len (by decide +kernel) (pa_cons (pv 4) pa_nil))) (pe_callB call_len_seq (by rfl) T.b_len (by decide +kernel) (pa_cons (pv 5) pa_nil))))
    (pss_one (ps_ret (pe_cal C_normal hr (pa_cons (pe_tup (pa_cons (pv 3) (pa_cons (pe_callTy call_tuple_of (by rfl) T.b_tuple (by decide +kernel) (pa_cons (pv 7) pa_nil)) (pa_cons (pe_op opx_add (pe_slice slx (pv 5) (po_some (pv 8)) po_none) (pe_slice slx (pv 5) po_none (po_some (pv 8)))) pa_nil)))) pa_nil))))))))), ?_⟩)
  intro ss P hl hR
  obtain ⟨c, k, a, rfl, hb, hk, hP⟩ := hR
  have p1 := hb.p1
  have p4 := hb.p4
  have t12 := hb.t12
  refine wq_asg (ye_v rfl) (yg_t (ygs_1 yg_n (ygs_1 yg_n (ygs_1 yg_n ygs_0)))) ?_
  have hm : bM c k = max c.t.length (k + 1) := rfl
  refine wq_setd (d := .int (bM c k : Int)) ((yd_max2 (y_len (ye_v rfl)) (ye_v rfl)).to (by rw [hm]; congr 1; omega)) ?_
  refine wq_setm (nl_call (P := fun x => x = (incs c (bM c k)).map .int) (ya_d (ye_v rfl) (ya_d (ye_v rfl) ya_n)) rfl ⟨c, bM c k, rfl, by omega, by omega, by omega, by omega, rfl⟩) ?_
  rintro _ rfl
  let B1 : Rho := [.d (cvD c), .d (.int ((k + 1 : Nat) : Int)), .d (.int a), .d (.int c.i), .d (tI c.t), .d (tI c.p), .d (.int (bM c k : Int)), .ml ((bT c k a).map .int), .no]
  refine ws_seq (fun r => r = B1) (ws_augI (n := k) (a := c.inc k) (b := a) rfl ((yd_sub (ye_v rfl) ye_i).to (by congr 1; omega)) ?_ (ye_v rfl) ?_) ?_
  · rw [getD_eq (by rw [incs_len]; omega)]
    unfold incs
    rw [getD_range _ _ _ (by omega)]
  · show _ = B1
    unfold B1 bT
    rw [List.map_set]
    rfl
  rintro _ rfl
  obtain ⟨r, hr⟩ : ∃ r, r = (bM c k - c.t.length) % c.p.length := ⟨_, rfl⟩
  refine wq_setd (d := .int (r : Int)) ((yd_md (yd_sub (ye_v rfl) (y_len (ye_v rfl))) (y_len (ye_v rfl)) (by omega)).to (by rw [hr, Int.natCast_emod]; congr 2; omega)) ?_
  have e1 := y_cat (K := K) (y_sl (ρ := B1.set 8 (.d (.int (r : Int)))) (xs := c.p) (ye_v (i := 5) rfl) (yo_i (ye_v (i := 8) rfl)) yo_n) (y_sl (xs := c.p) (ye_v (i := 5) rfl) yo_n (yo_i (ye_v (i := 8) rfl))) (by rw [cut_from, cut_to, List.length_drop, List.length_take]; show _ ≤ (16777216 : Nat); omega)
  rw [cut_from, cut_to, hr, rot_eq p1, ← hr] at e1
  exact ws_ret (ye_cl (P := fun d => d = cvD (bump c k a)) (ya_d (yd_t3 (ye_v rfl) (yd_tupR (rl_v rfl)) e1) ya_n) rfl ⟨⟨c.i, bT c k a, bP c k⟩, rfl, by show 1 ≤ (bP c k).length; rw [bP_len]; exact p1, by show (bP c k).length ≤ _; rw [bP_len]; omega, by show (bT c k a).length < _; rw [bT_len]; omega, fun x y h => bump_of h⟩) fun d e => e ▸ hP


def oOs : Option (List Ou) → PyData
  | none => .none
  | some os => .tuple (os.map ouD)
def oFs : Option (List Fe) → PyData
  | none => .none
  | some fs => .tuple (fs.map feD)
def R_disrupted_rows : Pr := fun ss P => (∃ (os : List Ou) (p k : Nat) (a : Int), ss = [.d (.tuple (os.map ouD)), .d (.int (p : Int)), .d (.str "yield"), .d (.int ((k + 1 : Nat) : Int)), .d (.int a)] ∧ os.length ≤ 3 ∧ (∀ o ∈ os, CvB o.c) ∧ k < 12 ∧ P (oOs (chgO os p k a))) ∨
  (∃ (fs : List Fe) (p k : Nat) (a : Int), ss = [.d (.tuple (fs.map feD)), .d (.int (p : Int)), .d (.str "extra"), .d (.int ((k + 1 : Nat) : Int)), .d (.int a)] ∧ fs.length ≤ 3 ∧ (∀ f ∈ fs, CvB f.c) ∧ k < 12 ∧ P (oFs (chgF fs p k a)))
theorem ou_set {os : List Ou} {p : Nat} (o : Ou) (c : Cv) : PyData.tuple ((os.map ouD).set p (.tuple ([PyData.int o.b, cvD o.c, .int o.w].set 1 (cvD c)))) = oOs (some (os.set p { o with c := c })) := by
  show _ = PyData.tuple ((os.set p { o with c := c }).map ouD)
  rw [List.map_set]
  rfl
theorem fe_set {os : List Fe} {p : Nat} (o : Fe) (c : Cv) : PyData.tuple ((os.map feD).set p (.tuple ([PyData.int o.b, cvD o.c, .int o.s, .bool o.u].set 1 (cvD c)))) = oFs (some (os.set p { o with c := c })) := by
  show _ = PyData.tuple ((os.set p { o with c := c }).map feD)
  rw [List.map_set]
  rfl

abbrev s_disrupted_rows : Stmt := topS 15
theorem sc_disrupted_rows : FnScope ["rows", "place", "word", "cycle", "amount", "flow", "there", "fits", "more", "tool"] ["rows", "place", "word", "cycle", "amount"] (defScope s_disrupted_rows) := ⟨rfl, rfl, rfl, by decide +kernel, rfl, by decide +kernel, by decide +kernel⟩
theorem ok_disrupted_rows {Pg : Program} {w : World} {K : PySem.W.Frag} {mg : Str → Option Value} {base : Heap} (T : Tx w K mg) (C_increment : Cal Pg w K mg base 2 "increment" ["curve", "k"] (spR K 2 R_increment)) (C_replaced : Cal Pg w K mg base 1 "replaced" ["members", "at", "other"] (spR K 3 R_replaced)) (C_with_more : Cal Pg w K mg base 5 "with_more" ["curve", "cycle", "amount"] (spR K 3 R_with_more)) {f : Addr} {fd : FuncData} (F : Fun K "disrupted_rows" "disrupted_rows" s_disrupted_rows f fd) : FnOk Pg w K mg base CX0 6 f fd ["rows", "place", "word", "cycle", "amount"] (spR K 5 R_disrupted_rows) := by
  refine fn_ok (n := 5) F sc_disrupted_rows rfl (by decide) (fun cdv A outer s H E hr => ⟨_, (pss_cons (ps_if (pt_cmpR op_ge (pv 1) (pe_callB call_len_seq (by rfl) T.b_len (by decide +kernel) (pa_cons (pv 0) pa_nil)) (nomark _)) (pss_one (ps_ret pe_non)) pss_nil)
    (pss_cons (ps_set (i := 5) sc_disrupted_rows.nd rfl (Or.inl rfl) (pe_ix ix_seq (pe_ix ix_seq (pv 0) (pv 1) (fun _ _ => rfl)) pe_int (fun _ _ => rfl)))
    (pss_cons (ps_set (i := 6) sc_disrupted_rows.nd rfl (Or.inl rfl) (pe_cal C_increment hr (pa_cons (pv 5) (pa_cons (pe_op op_sub (pv 3) pe_int) pa_nil))))
    (pss_cons (ps_if (pt_cmpR (opx_eq hr) (pv 2) pe_str (nomark _)) (pss_one (ps_par (i := 7) (j := 8) rfl sc_disrupted_rows.nd rfl rfl (by decide) rfl rfl (pa_cons (pe_cmpR op_ge (pv 6) (pv 4) (nomark _)) (pa_cons (pe_un un_neg (pv 4)) pa_nil)) (by rfl))) (pss_cons (ps_set (i := 9) sc_disrupted_rows.nd rfl (Or.inl rfl) (pe_ix ix_seq (pe_ix ix_seq (pv 0) (pv 1) (fun _ _ => rfl)) pe_int (fun _ _ => rfl)))
    (pss_one (ps_par (i := 7) (j := 8) rfl sc_disrupted_rows.nd rfl rfl (by decide) rfl rfl (pa_cons (pe_or (pe_not (pv 9)) (pe_one (pe_and (pe_cmpR (opx_eq hr) (pv 6) pe_int (nomark _)) (pe_one (pe_cmpR (opx_eq hr) (pv 4) pe_int (nomark _)))))) (pa_cons (pv 4) pa_nil)) (by rfl)))))
    (pss_cons (ps_if (pt_not (pt_val (pv 7))) (pss_one (ps_ret pe_non)) pss_nil)
    (pss_one (ps_ret (pe_cal C_replaced hr (pa_cons (pv 0) (pa_cons (pv 1) (pa_cons (pe_cal C_replaced hr (pa_cons (pe_ix ix_seq (pv 0) (pv 1) (fun _ _ => rfl)) (pa_cons pe_int (pa_cons (pe_cal C_with_more hr (pa_cons (pv 5) (pa_cons (pv 3) (pa_cons (pv 8) pa_nil)))) pa_nil)))) pa_nil))))))))))), ?_⟩)
  intro ss P hl hR
  rcases hR with ⟨os, p, k, a, rfl, l3, hb, hk, hP⟩ | ⟨os, p, k, a, rfl, l3, hb, hk, hP⟩
  · refine wq_when (yt_d (yd_cp (f := fun i j => decide (j ≤ i)) (ye_v rfl) ((yd_lenT (xs := os.map ouD) (ye_v rfl)).to (by rw [List.length_map])))) (fun e => ?_) (fun e => ?_)
    · have e := of_decide_eq_true e.symm
      refine ws_retd (d := oOs none) ye_n ?_
      have : chgO os p k a = none := by unfold chgO; rw [List.getElem?_eq_none (by omega)]
      rw [this] at hP
      exact hP
    have e := of_decide_eq_false e.symm
    have hp : p < os.length := by omega
    obtain ⟨o, ho⟩ : ∃ o, os[p]? = some o := ⟨_, List.getElem?_eq_getElem hp⟩
    have cb := hb o (List.mem_of_getElem? ho)
    have rw' : ∀ {ρ : Rho}, ρ[0]? = some (.d (.tuple (os.map ouD))) → ρ[1]? = some (.d (.int (p : Int))) → Pd K (tOp (rIx K) (tVar 0) (tVar 1)) ρ (ouD o) := fun e1 e2 => yd_ixT (ye_v e1) (ye_v e2) (atI_nat (by rw [List.getElem?_map, ho]; rfl))
    refine wq_setd (yd_ixT (xs := [.int o.b, cvD o.c, .int o.w]) (rw' rfl rfl) ye_i rfl) ?_
    refine wq_setd (ye_cl (P := fun d => d = .int (o.c.inc k)) (ya_d (ye_v rfl) (ya_d ((yd_sub (ye_v rfl) ye_i).to (e := .int (k : Int)) (by congr 1; omega)) ya_n)) rfl ⟨o.c, k, rfl, cb.p1, rfl⟩) ?_
    let B1 : Rho := [.d (.tuple (os.map ouD)), .d (.int (p : Int)), .d (.str "yield"), .d (.int ((k + 1 : Nat) : Int)), .d (.int a), .d (cvD o.c), .d (.int (o.c.inc k)), .d (.bool (decide (a ≤ o.c.inc k))), .d (.int (-a)), .no]
    refine ws_seq (fun r => r = B1) (ws_ifd (b := true) (yt_d ((yd_eqS (ye_v rfl) ye_s rfl).to rfl)) (fun _ => ws_par (ya_d (yd_cp (f := fun i j => decide (j ≤ i)) (ye_v rfl) (ye_v rfl)) (ya_d (yd_ng (ye_v rfl)) ya_n)) rfl) (fun e => nomatch e)) ?_
    rintro _ rfl
    refine wq_when (yt_notd (b := decide (a ≤ o.c.inc k)) (yt_d (ye_v rfl))) (fun e => ?_) (fun e => ?_)
    · have e : ¬ a ≤ o.c.inc k := fun h => by rw [decide_eq_true h] at e; exact nomatch e
      refine ws_retd (d := oOs none) ye_n ?_
      have : chgO os p k a = none := by unfold chgO; rw [ho]; exact if_neg e
      rw [this] at hP
      exact hP
    have e : a ≤ o.c.inc k := Decidable.byContradiction fun h => by rw [decide_eq_false h] at e; exact nomatch e
    have this : chgO os p k a = some (os.set p { o with c := bump o.c k (-a) }) := by unfold chgO; rw [ho]; exact if_pos e
    rw [this, ← ou_set] at hP
    exact ws_ret (ye_cl (ya_d (ye_v rfl) (ya_d (ye_v rfl) (ya_d (ye_cl (P := fun d => d = .tuple ([PyData.int o.b, cvD o.c, .int o.w].set 1 (cvD (bump o.c k (-a))))) (ya_d (rw' rfl rfl) (ya_d ye_i (ya_d (ye_cl (P := fun d => d = cvD (bump o.c k (-a))) (ya_d (ye_v rfl) (ya_d (ye_v rfl) (ya_d (ye_v rfl) ya_n))) rfl ⟨o.c, k, -a, rfl, cb, hk, rfl⟩) ya_n))) rfl ⟨_, 1, _, rfl, (by show 1 < 3; decide), (by show 3 ≤ 1000; decide), rfl⟩) ya_n))) rfl ⟨_, p, _, rfl, by rw [List.length_map]; exact hp, by rw [List.length_map]; omega, hP⟩) fun d h => h
  · refine wq_when (yt_d (yd_cp (f := fun i j => decide (j ≤ i)) (ye_v rfl) ((yd_lenT (xs := os.map feD) (ye_v rfl)).to (by rw [List.length_map])))) (fun e => ?_) (fun e => ?_)
    · have e := of_decide_eq_true e.symm
      refine ws_retd (d := oFs none) ye_n ?_
      have : chgF os p k a = none := by unfold chgF; rw [List.getElem?_eq_none (by omega)]
      rw [this] at hP
      exact hP
    have e := of_decide_eq_false e.symm
    have hp : p < os.length := by omega
    obtain ⟨o, ho⟩ : ∃ o, os[p]? = some o := ⟨_, List.getElem?_eq_getElem hp⟩
    have cb := hb o (List.mem_of_getElem? ho)
    have rw' : ∀ {ρ : Rho}, ρ[0]? = some (.d (.tuple (os.map feD))) → ρ[1]? = some (.d (.int (p : Int))) → Pd K (tOp (rIx K) (tVar 0) (tVar 1)) ρ (feD o) := fun e1 e2 => yd_ixT (ye_v e1) (ye_v e2) (atI_nat (by rw [List.getElem?_map, ho]; rfl))
    refine wq_setd (y_f1 (rw' rfl rfl) ye_i) ?_
    refine wq_setd (ye_cl (P := fun d => d = .int (o.c.inc k)) (ya_d (ye_v rfl) (ya_d ((yd_sub (ye_v rfl) ye_i).to (e := .int (k : Int)) (by congr 1; omega)) ya_n)) rfl ⟨o.c, k, rfl, cb.p1, rfl⟩) ?_
    obtain ⟨q, hq⟩ : ∃ q : Bool, q = (!o.u || (decide (o.c.inc k = 0) && decide (a = 1))) := ⟨_, rfl⟩
    let B1 : Rho := [.d (.tuple (os.map feD)), .d (.int (p : Int)), .d (.str "extra"), .d (.int ((k + 1 : Nat) : Int)), .d (.int a), .d (cvD o.c), .d (.int (o.c.inc k)), .d (.bool q), .d (.int a), .d (.bool o.u)]
    refine ws_seq (fun r => r = B1) (ws_ifd (b := false) (yt_d ((yd_eqS (ye_v rfl) ye_s rfl).to rfl)) (fun e => nomatch e) (fun _ => wq_setd (y_f3 (rw' rfl rfl) ye_i) (ws_par (ya_d ((yd_orV (yd_notV (ye_v rfl)) fun _ => yd_andV (yd_eqS (x := .int (o.c.inc k)) (y := .int 0) (ye_v rfl) ye_i rfl) fun _ => yd_eqS (x := .int a) (y := .int 1) (ye_v rfl) ye_i rfl).to (by rw [hq]; rfl)) (ya_d (ye_v rfl) ya_n)) rfl))) ?_
    rintro _ rfl
    have iff : q = true ↔ (o.u = false ∨ (o.c.inc k = 0 ∧ a = 1)) := by rw [hq]; simp
    refine wq_when (yt_notd (b := q) (yt_d (ye_v rfl))) (fun e => ?_) (fun e => ?_)
    · have e : q = false := by simpa using e.symm
      refine ws_retd (d := oFs none) ye_n ?_
      have : chgF os p k a = none := by unfold chgF; rw [ho]; exact if_neg fun h => by rw [iff.mpr h] at e; exact nomatch e
      rw [this] at hP
      exact hP
    have e : q = true := by simpa using e.symm
    have this : chgF os p k a = some (os.set p { o with c := bump o.c k a }) := by unfold chgF; rw [ho]; exact if_pos (iff.mp e)
    rw [this, ← fe_set] at hP
    exact ws_ret (ye_cl (ya_d (ye_v rfl) (ya_d (ye_v rfl) (ya_d (ye_cl (P := fun d => d = .tuple ([PyData.int o.b, cvD o.c, .int o.s, .bool o.u].set 1 (cvD (bump o.c k a)))) (ya_d (rw' rfl rfl) (ya_d ye_i (ya_d (ye_cl (P := fun d => d = cvD (bump o.c k a)) (ya_d (ye_v rfl) (ya_d (ye_v rfl) (ya_d (ye_v rfl) ya_n))) rfl ⟨o.c, k, a, rfl, cb, hk, rfl⟩) ya_n))) rfl ⟨_, 1, _, rfl, (by show 1 < 4; decide), (by show 4 ≤ 1000; decide), rfl⟩) ya_n))) rfl ⟨_, p, _, rfl, by rw [List.length_map]; exact hp, by rw [List.length_map]; omega, hP⟩) fun d h => h


def ddP : Dd → List PyData
  | .out _ p _ _ => [.int (p : Int)]
  | .inp _ p _ _ => [.int (p : Int)]
  | .slow _ _ _ => []
  | .cost _ _ _ => []
def ddW : Dd → Str
  | .out _ _ _ _ => "yield"
  | .inp _ _ _ _ => "extra"
  | .slow _ _ _ => "slow"
  | .cost _ _ _ => "cost"
def Dd.a : Dd → Int
  | .out _ _ _ a => a
  | .inp _ _ _ a => a
  | .slow _ _ a => a
  | .cost _ _ a => a
def ddQ : Dd → Nat
  | .out _ _ _ _ => 1
  | .inp _ _ _ _ => 0
  | .slow _ _ _ => 3
  | .cost _ _ _ => 2
theorem dd_eq (d : Dd) : ddD d = .tuple (.str (ddW d) :: .int (d.s : Int) :: (ddP d ++ [.int ((d.k + 1 : Nat) : Int), .int d.a])) := by cases d <;> rfl
theorem ddP_len (d : Dd) : (ddP d).length ≤ 1 := by cases d <;> simp [ddP]
def sgL (g : Sg) : List PyData := [.tuple (g.fs.map feD), .tuple (g.os.map ouD), cvD g.pr, cvD g.sp, .int g.n, cvD g.wk]
theorem sg_eq (g : Sg) : sgD g = .tuple (sgL g) := rfl
theorem wq_star5 {K : PySem.W.Frag} {ρ ρ' : Rho} {te : TE} {u : TS} {E : Ed} {x y c d : PyData} {pl : List PyData} {gs : TGs} {sl : List Nat} (h : Pd K te ρ (.tuple (x :: y :: (pl ++ [c, d])))) (hl : pl.length ≤ 1) (hg : Pgs K gs sl [x, y, .list pl, c, d] ρ ρ') (k : Ws K u ρ' E) : Ws K (tSeq (tAsg te (gStar K 5 2 gs)) u) ρ E := by
  have l : (x :: y :: (pl ++ [c, d])).length = pl.length + 4 := by simp
  refine wq_asgStar (sl := sl) h (by omega) (by omega) (by decide) ?_ k
  have e : (x :: y :: (pl ++ [c, d])).length + 1 - 5 = pl.length := by omega
  rw [e]
  show Pgs K gs sl ([x, y] ++ [.list ((pl ++ [c, d]).take pl.length)] ++ (pl ++ [c, d]).drop pl.length) ρ ρ'
  rw [List.take_left, List.drop_left]
  exact hg
def R_disrupted : Pr := fun ss P => ∃ (ps : List Sg) (rs : List Int) (d : Dd), ss = [.d (plD ps), .d (.tuple (rs.map .int)), .d (ddD d)] ∧ PlB ps ∧ rs.length = ps.length ∧ d.k < 12 ∧ P (optP (chg ps rs d))
theorem pl_set {ps : List Sg} {n : Nat} {g' : Sg} {x : PyData} (e : sgD g' = x) : PyData.tuple ((ps.map sgD).set n x) = optP (some (ps.set n g')) := by
  subst e
  show _ = PyData.tuple ((ps.set n g').map sgD)
  rw [List.map_set]

abbrev s_disrupted : Stmt := topS 14
theorem sc_disrupted : FnScope ["plant", "cycles", "disruption", "word", "number", "places", "cycle", "amount", "stage", "part", "changed"] ["plant", "cycles", "disruption"] (defScope s_disrupted) := ⟨rfl, rfl, rfl, by decide +kernel, rfl, by decide +kernel, by decide +kernel⟩
theorem ok_disrupted {Pg : Program} {w : World} {K : PySem.W.Frag} {mg : Str → Option Value} {base : Heap} (T : Tx w K mg) (C_disrupted_rows : Cal Pg w K mg base 6 "disrupted_rows" ["rows", "place", "word", "cycle", "amount"] (spR K 5 R_disrupted_rows)) (C_with_more : Cal Pg w K mg base 5 "with_more" ["curve", "cycle", "amount"] (spR K 3 R_with_more)) (C_replaced : Cal Pg w K mg base 1 "replaced" ["members", "at", "other"] (spR K 3 R_replaced)) {f : Addr} {fd : FuncData} (F : Fun K "disrupted" "disrupted" s_disrupted f fd) : FnOk Pg w K mg base CX0 7 f fd ["plant", "cycles", "disruption"] (spR K 3 R_disrupted) := by
  refine fn_ok (n := 3) F sc_disrupted rfl (by decide) (fun cdv A outer s H E hr => ⟨_, (pss_cons (ps_asg (pv 2) (pg_star rfl (pgs_cons (pg_name (i := 3) sc_disrupted.nd rfl (Or.inl rfl)) (pgs_cons (pg_name (i := 4) sc_disrupted.nd rfl (Or.inl rfl)) (pgs_consS (pg_name (i := 5) sc_disrupted.nd rfl (Or.inl rfl)) (pgs_cons (pg_name (i := 6) sc_disrupted.nd rfl (Or.inl rfl)) (pgs_cons (pg_name (i := 7) sc_disrupted.nd rfl (Or.inl rfl)) pgs_nil)))))))
    (pss_cons (ps_if (PW.pt (pw_or (pt_cmpR op_ge (pv 4) (pe_callB call_len_seq (by rfl) T.b_len (by decide +kernel) (pa_cons (pv 0) pa_nil)) (nomark _)) (pw_or1 (pt_cmpR op_le (pv 6) (pe_ix ix_seq (pv 1) (pv 4) (fun _ _ => rfl)) (nomark _))))) (pss_one (ps_ret pe_non)) pss_nil)
    (pss_cons (ps_par (i := 8) (j := 9) rfl sc_disrupted.nd rfl rfl (by decide) rfl rfl (pa_cons (pe_ix ix_seq (pv 0) (pv 4) (fun _ _ => rfl)) (pa_cons (pe_ix ix_kdict (pe_gd T.d_PARTS) (pv 3) (fun _ _ => rfl)) pa_nil)) (by rfl))
    (pss_cons (ps_if (pt_tru (pv 5) (by intro _; rfl)) (pss_one (ps_set (i := 10) sc_disrupted.nd rfl (Or.inl rfl) (pe_cal C_disrupted_rows hr (pa_cons (pe_ix ix_seq (pv 8) (pv 9) (fun _ _ => rfl)) (pa_cons (pe_ix ix_seq (pv 5) pe_int (fun _ _ => rfl)) (pa_cons (pv 3) (pa_cons (pv 6) (pa_cons (pv 7) pa_nil)))))))) (pss_one (ps_set (i := 10) sc_disrupted.nd rfl (Or.inl rfl) (pe_cal C_with_more hr (pa_cons (pe_ix ix_seq (pv 8) (pv 9) (fun _ _ => rfl)) (pa_cons (pv 6) (pa_cons (pv 7) pa_nil)))))))
    (pss_one (ps_ret (pe_ifExp (pt_cmpR op_isN (pv 10) pe_non (nomark _)) pe_non (pe_cal C_replaced hr (pa_cons (pv 0) (pa_cons (pv 4) (pa_cons (pe_cal C_replaced hr (pa_cons (pv 8) (pa_cons (pv 9) (pa_cons (pv 10) pa_nil)))) pa_nil))))))))))), ?_⟩)
  intro ss P hl hR
  obtain ⟨ps, rs, d, rfl, hb, hr, hk, hP⟩ := hR
  have l4 := hb.l4
  refine wq_star5 ((ye_v rfl).to (dd_eq d)) (ddP_len d) (ygs_1 yg_n (ygs_1 yg_n (ygs_1 yg_n (ygs_1 yg_n (ygs_1 yg_n ygs_0))))) ?_
  obtain ⟨b1, hb1⟩ : ∃ b1 : Bool, b1 = decide (((ps.length : Nat) : Int) ≤ (d.s : Int)) := ⟨_, rfl⟩
  refine wq_when (Pb := fun b => b = (b1 || decide (((d.k + 1 : Nat) : Int) ≤ rs.getD d.s 0))) (yt_ord ?_ fun h => ?_) (fun e => ?_) (fun e => ?_)
  · have q := (yd_cp (K := K) (ρ := [.d (plD ps), .d (.tuple (rs.map .int)), .d (ddD d), .d (.str (ddW d)), .d (.int (d.s : Int)), .d (.list (ddP d)), .d (.int ((d.k + 1 : Nat) : Int)), .d (.int d.a), .no, .no, .no]) (f := fun i j => decide (j ≤ i)) (ye_v (i := 4) rfl) ((yd_lenT (xs := ps.map sgD) (ye_v (i := 0) rfl)).to (by rw [List.length_map]))).to (e := .bool b1) (by rw [hb1])
    first
    | exact yt_d q
    | exact yt_B q
  · have hs : d.s < rs.length := by rw [hb1] at h; have h := of_decide_eq_false h; omega
    have q := yd_cp (K := K) (ρ := [.d (plD ps), .d (.tuple (rs.map .int)), .d (ddD d), .d (.str (ddW d)), .d (.int (d.s : Int)), .d (.list (ddP d)), .d (.int ((d.k + 1 : Nat) : Int)), .d (.int d.a), .no, .no, .no]) (f := fun i j => decide (i ≤ j)) (ye_v (i := 6) rfl) (yd_ixT (xs := rs.map .int) (ye_v (i := 1) rfl) (ye_v (i := 4) rfl) (atI_nat (getD_eq hs)))
    first
    | exact yt_d q
    | exact yt_B q
  · refine ws_retd (d := optP none) ye_n ?_
    have : chg ps rs d = none := by
      unfold chg
      cases hg : ps[d.s]? with
      | none => rfl
      | some g =>
        have hs := (List.getElem?_eq_some_iff.mp hg).1
        have e1 : b1 = false := by rw [hb1]; exact decide_eq_false (by omega)
        rw [e1, Bool.false_or] at e
        exact if_pos (of_decide_eq_true e.symm)
    rw [this] at hP
    exact hP
  have e := Bool.or_eq_false_iff.mp e.symm
  have hs : d.s < ps.length := by rw [hb1] at e; have e := of_decide_eq_false e.1; omega
  have e2 := of_decide_eq_false e.2
  obtain ⟨g, hg⟩ : ∃ g, ps[d.s]? = some g := ⟨_, List.getElem?_eq_getElem hs⟩
  have gb := hb.g g (List.mem_of_getElem? hg)
  have hc : chg ps rs d = (chgS g d).map fun g' => ps.set d.s g' := by unfold chg; rw [hg]; exact if_neg e2
  rw [hc] at hP
  have kd : KDct K w (Classical.choose T.d_PARTS) (ddW d) (.int (ddQ d : Int)) := by
    have q := (Classical.choose_spec T.d_PARTS).2
    cases d with
    | out s p k a => exact q.1
    | inp s p k a => exact q.2.1
    | slow s k a => exact q.2.2.1
    | cost s k a => exact q.2.2.2
  let B1 : PyData → Rho := fun x => [.d (plD ps), .d (.tuple (rs.map .int)), .d (ddD d), .d (.str (ddW d)), .d (.int (d.s : Int)), .d (.list (ddP d)), .d (.int ((d.k + 1 : Nat) : Int)), .d (.int d.a), .d (sgD g), .d (.int (ddQ d : Int)), .d x]
  let B0 : Rho := [.d (plD ps), .d (.tuple (rs.map .int)), .d (ddD d), .d (.str (ddW d)), .d (.int (d.s : Int)), .d (.list (ddP d)), .d (.int ((d.k + 1 : Nat) : Int)), .d (.int d.a), .d (sgD g), .d (.int (ddQ d : Int)), .no]
  refine ws_seq (fun r => r = B0) (ws_par (ya_d (y_pl (ye_v rfl) (ye_v rfl) hg) (ya_d (yd_kdct (ye_v rfl) kd) ya_n)) rfl) ?_
  rintro _ rfl
  refine ws_seq (fun r => (chgS g d = none ∧ r = B1 .none) ∨ ∃ g' x, chgS g d = some g' ∧ isNone x = false ∧ sgD g' = .tuple ((sgL g).set (ddQ d) x) ∧ r = B1 x) ?_ ?_
  · have g3 := gb.f3
    have o3 := gb.o3
    cases d with
    | out s p k a =>
      refine ws_ifd (b := true) ((yt_truR (xs := [.int (p : Int)]) (rl_of (ye_v (i := 5) rfl))).to rfl) (fun _ => ?_) (fun z => nomatch z)
      refine ws_set (P := fun d => d = oOs (chgO g.os p k a)) (ye_cl (ya_d (yd_ixT (xs := sgL g) (ye_v rfl) (ye_v rfl) rfl) (ya_d (yd_ixR (rl_of (ye_v rfl)) ye_i rfl) (ya_d (ye_v rfl) (ya_d (ye_v rfl) (ya_d (ye_v rfl) ya_n))))) rfl (.inl ⟨g.os, p, k, a, rfl, o3, gb.o, hk, rfl⟩)) ?_
      rintro _ rfl
      show (Option.map _ (chgO g.os p k a) = none ∧ _) ∨ ∃ g' x, Option.map _ (chgO g.os p k a) = some g' ∧ _
      cases chgO g.os p k a with
      | none => exact .inl ⟨rfl, rfl⟩
      | some os => exact .inr ⟨_, _, rfl, rfl, rfl, rfl⟩
    | inp s p k a =>
      refine ws_ifd (b := true) ((yt_truR (xs := [.int (p : Int)]) (rl_of (ye_v (i := 5) rfl))).to rfl) (fun _ => ?_) (fun z => nomatch z)
      refine ws_set (P := fun d => d = oFs (chgF g.fs p k a)) (ye_cl (ya_d (yd_ixT (xs := sgL g) (ye_v rfl) (ye_v rfl) rfl) (ya_d (yd_ixR (rl_of (ye_v rfl)) ye_i rfl) (ya_d (ye_v rfl) (ya_d (ye_v rfl) (ya_d (ye_v rfl) ya_n))))) rfl (.inr ⟨g.fs, p, k, a, rfl, g3, gb.f, hk, rfl⟩)) ?_
      rintro _ rfl
      show (Option.map _ (chgF g.fs p k a) = none ∧ _) ∨ ∃ g' x, Option.map _ (chgF g.fs p k a) = some g' ∧ _
      cases chgF g.fs p k a with
      | none => exact .inl ⟨rfl, rfl⟩
      | some os => exact .inr ⟨_, _, rfl, rfl, rfl, rfl⟩
    | slow s k a =>
      refine ws_ifd (b := false) ((yt_truR (xs := []) (rl_of (ye_v (i := 5) rfl))).to rfl) (fun z => nomatch z) (fun _ => ?_)
      refine ws_set (P := fun d => d = cvD (bump g.sp k a)) (ye_cl (ya_d (yd_ixT (xs := sgL g) (ye_v rfl) (ye_v rfl) rfl) (ya_d (ye_v rfl) (ya_d (ye_v rfl) ya_n))) rfl ⟨g.sp, k, a, rfl, gb.sp, hk, rfl⟩) ?_
      rintro _ rfl
      exact .inr ⟨_, _, rfl, rfl, rfl, rfl⟩
    | cost s k a =>
      refine ws_ifd (b := false) ((yt_truR (xs := []) (rl_of (ye_v (i := 5) rfl))).to rfl) (fun z => nomatch z) (fun _ => ?_)
      refine ws_set (P := fun d => d = cvD (bump g.pr k a)) (ye_cl (ya_d (yd_ixT (xs := sgL g) (ye_v rfl) (ye_v rfl) rfl) (ya_d (ye_v rfl) (ya_d (ye_v rfl) ya_n))) rfl ⟨g.pr, k, a, rfl, gb.pr, hk, rfl⟩) ?_
      rintro _ rfl
      exact .inr ⟨_, _, rfl, rfl, rfl, rfl⟩
  · rintro _ (⟨e1, rfl⟩ | ⟨g', x, e1, nx, sx, rfl⟩)
    · rw [e1] at hP
      exact ws_ret (ye_if (Pb := fun b => b = true) (yt_d ((yd_isN (ye_v rfl)).to rfl)) (fun _ => yd_of ye_n hP) (fun z => nomatch z)) fun d h => h
    · rw [e1, Option.map_some, ← pl_set sx] at hP
      have hq : ddQ d < 6 := by cases d <;> simp [ddQ]
      refine ws_ret (ye_if (Pb := fun b => b = false) (yt_d ((yd_isN (ye_v rfl)).to (by rw [nx]))) (fun z => nomatch z) (fun _ => ye_cl (ya_d (ye_v rfl) (ya_d (ye_v rfl) (ya_d (ye_cl (P := fun d' => d' = .tuple ((sgL g).set (ddQ d) x)) (ya_d (ye_v rfl) (ya_d (ye_v rfl) (ya_d (ye_v rfl) ya_n))) rfl ⟨sgL g, ddQ d, x, rfl, hq, (by show 6 ≤ 1000; decide), rfl⟩) ya_n))) rfl ⟨ps.map sgD, d.s, _, rfl, by rw [List.length_map]; exact hs, by rw [List.length_map]; omega, hP⟩)) fun d h => h


def szD (a b c d : Int) : PyData := .tuple [.int a, .int b, .int c, .int d]
def isSz : PyData → Prop := fun x => ∃ a b c d : Int, x = szD a b c d ∧ (1 ≤ a ∧ a ≤ b ∧ b ≤ 4 ∧ 1 ≤ c ∧ c ≤ 3 ∧ 1 ≤ d ∧ d ≤ 3)
theorem y_sz {K : PySem.W.Frag} {ρ : Rho} {te : TE} {a b c d : Int} (h : Pd K te ρ (szD a b c d)) (hh : 1 ≤ a ∧ a ≤ b ∧ b ≤ 4 ∧ 1 ≤ c ∧ c ≤ 3 ∧ 1 ≤ d ∧ d ≤ 3) : Pe K te ρ isSz := h.imp fun x e => ⟨a, b, c, d, e, hh⟩
def Rw (n : Nat) : PyData → Prop := fun x => ∃ (rs : List Int) (d : Dd), x = .tuple [.list (rs.map .int), ddD d] ∧ rs.length = n ∧ d.k < 12
noncomputable def Ask (ps : List Sg) (rs : List Int) (d : Dd) : PyData := .tuple [.tuple (rs.map .int), ddD d, optP (chg ps rs d)]
theorem chg_len {ps : List Sg} {rs : List Int} {d : Dd} {r : List Sg} (e : chg ps rs d = some r) : r.length = ps.length := by
  unfold chg at e
  cases hg : ps[d.s]? with
  | none => rw [hg] at e; exact nomatch e
  | some g =>
    rw [hg] at e
    dsimp only at e
    split at e
    · exact nomatch e
    · obtain ⟨g', _, rfl⟩ := Option.map_eq_some_iff.mp e
      exact List.length_set ..

abbrev s_law : Stmt := topS 37
theorem sc_law : FnScope ["script", "tape", "kind", "first", "plant", "asked", "k", "runs", "deed", "due", "later", "rows", "row", "stage"] ["script"] (defScope s_law) := ⟨rfl, rfl, rfl, by decide +kernel, rfl, by decide +kernel, by decide +kernel⟩
theorem ok_law {Pg : Program} {w : World} {K : PySem.W.Frag} {mg : Str → Option Value} {base : Heap} (T : Tx w K mg) (C__law_tape : Cal Pg w K mg base 1 "_law_tape" ["script"] (spTape K)) (C__law_draw : Cal Pg w K mg base 1 "_law_draw" ["tape", "many"] (spR K 2 R__law_draw)) (C__law_ramped : Cal Pg w K mg base 3 "_law_ramped" ["tape", "plant"] (spR K 2 R__law_ramped)) (C__law_plant : Cal Pg w K mg base 5 "_law_plant" ["tape", "size", "manner"] (spR K 3 R__law_plant)) (C__law_deed : Cal Pg w K mg base 2 "_law_deed" ["tape", "plant"] (spR K 2 R__law_deed)) (C__law_changed : Cal Pg w K mg base 3 "_law_changed" ["plant", "runs", "deed"] (spR K 3 R__law_changed)) (C__law_same : Cal Pg w K mg base 7 "_law_same" ["told", "due"] (spR K 2 (R__law_same 7))) (C_disrupted : Cal Pg w K mg base 7 "disrupted" ["plant", "cycles", "disruption"] (spR K 3 R_disrupted)) {f : Addr} {fd : FuncData} (F : Fun K "law" "law" s_law f fd) : FnOk Pg w K mg base CX0 8 f fd ["script"] (spLaw K) := by
  refine F.ok sc_law (fun vs H Q E h => ?_) (fun cdv A outer s H vs Q E hr h => ?_)
  · obtain ⟨a, ns, rfl, _⟩ := h
    rfl
  obtain ⟨a, ns, rfl, hS, hl, q⟩ := h
  refine ⟨_, (pss_cons (ps_set (i := 1) sc_law.nd rfl (Or.inr rfl) (pe_cal C__law_tape hr (pa_cons (pv 0) pa_nil)))
    (pss_cons (ps_set (i := 2) sc_law.nd rfl (Or.inl rfl) (pe_cal C__law_draw hr (pa_cons (pv 1) (pa_cons pe_int pa_nil))))
    (pss_cons (ps_set (i := 3) sc_law.nd rfl (Or.inl rfl) (pe_cal C__law_ramped hr (pa_cons (pv 1) (pa_cons (pe_cal C__law_plant hr (pa_cons (pv 1) (pa_cons (pe_ix ix_seq (pe_lst (pa_cons (pe_tup (pa_cons pe_int (pa_cons pe_int (pa_cons pe_int (pa_cons pe_int pa_nil))))) (pa_cons (pe_tup (pa_cons pe_int (pa_cons pe_int (pa_cons pe_int (pa_cons pe_int pa_nil))))) (pa_cons (pe_tup (pa_cons pe_int (pa_cons pe_int (pa_cons pe_int (pa_cons pe_int pa_nil))))) pa_nil)))) (pv 2) (fun _ _ => rfl)) (pa_cons pe_int pa_nil)))) pa_nil))))
    (pss_cons (ps_set (i := 4) sc_law.nd rfl (Or.inl rfl) (pv 3))
    (pss_cons (ps_set (i := 5) sc_law.nd rfl (Or.inl rfl) (pe_lst pa_nil))
    (pss_cons (ps_for PassesOwn.never rfl (pi_range1 rfl T.b_range (pa_cons pe_int pa_nil)) (pg_name (i := 6) sc_law.nd rfl (Or.inl rfl))
    (pss_cons (ps_setLc (i := 7) (own := [("stage", 13)]) (g := (gName 13)) (tt := tYes) rfl sc_law.nd rfl rfl (sw_true rfl rfl rfl (by decide +kernel)) (pi_seq (pv 4)) (blkOk_by (own := [("stage", 13)]) (N := ["script", "tape", "kind", "first", "plant", "asked", "k", "runs", "deed", "due", "later", "rows", "row", "stage"]) (sc := defScope s_law) (by decide +kernel)) (fun _ _ _ _ _ => (pg_name (i := 13) sc_law.nd rfl (Or.inl rfl))) (fun _ _ _ _ _ => pts_nil) (fun _ _ _ _ _ => (pe_ix (ix_seqK (K := K) rfl) (pe_lst (pa_cons pe_int (pa_cons pe_int (pa_cons (pe_cal C__law_draw hr (pa_cons (pv 1) (pa_cons pe_int pa_nil))) (pa_cons (pe_cal C__law_draw hr (pa_cons (pv 1) (pa_cons pe_int pa_nil))) pa_nil))))) (pe_cal C__law_draw hr (pa_cons (pv 1) (pa_cons pe_int pa_nil))) (fun _ _ => rfl))))
    (pss_cons (ps_set (i := 8) sc_law.nd rfl (Or.inl rfl) (pe_cal C__law_deed hr (pa_cons (pv 1) (pa_cons (pv 4) pa_nil))))
    (pss_cons (ps_set (i := 9) sc_law.nd rfl (Or.inl rfl) (pe_cal C__law_changed hr (pa_cons (pv 4) (pa_cons (pv 7) (pa_cons (pv 8) pa_nil)))))
    (pss_cons (ps_expr (pe_bm PySem.F.plainAttrs_list PySem.F.slot_list_append PySem.F.type_list_append mt_append (pv 5) (pa_cons (pe_tup (pa_cons (pe_callTy call_tuple_of (by rfl) T.b_tuple (by decide +kernel) (pa_cons (pv 7) pa_nil)) (pa_cons (pv 8) (pa_cons (pv 9) pa_nil)))) pa_nil)))
    (pss_cons (ps_set (i := 10) sc_law.nd rfl (Or.inl rfl) (pe_callTy call_list_of (by rfl) T.b_list (by decide +kernel) (pa_cons (pv 7) pa_nil)))
    (pss_cons (ps_asg (pe_ix ix_seq (pe_lst (pa_cons (pe_ix ix_seq (pv 8) (pe_op op_sub (pe_callB call_len_seq (by rfl) T.b_len (by decide +kernel) (pa_cons (pv 8) pa_nil)) pe_int) (fun _ _ => rfl)) (pa_cons pe_int pa_nil))) (pe_cal C__law_draw hr (pa_cons (pv 1) (pa_cons pe_int pa_nil))) (fun _ _ => rfl)) (pg_sub (pv 10) (pe_callB (callx_min rfl) (by rfl) T.b_min (by decide +kernel) (pa_cons (pe_ix ix_seq (pv 8) pe_int (fun _ _ => rfl)) (pa_cons (pe_op op_sub (pe_callB call_len_seq (by rfl) T.b_len (by decide +kernel) (pa_cons (pv 4) pa_nil)) pe_int) pa_nil))) set_list))
    (pss_cons (ps_set (i := 11) sc_law.nd rfl (Or.inl rfl) (pe_lst (pa_cons (pe_tup (pa_cons (pv 7) (pa_cons (pv 8) pa_nil))) (pa_cons (pe_tup (pa_cons (pv 10) (pa_cons (pv 8) pa_nil))) (pa_cons (pe_tup (pa_cons (pv 10) (pa_cons (pe_cal C__law_deed hr (pa_cons (pv 1) (pa_cons (pv 4) pa_nil))) pa_nil))) pa_nil)))))
    (pss_cons (ps_for PassesOwn.never rfl (pi_seq (pe_op opx_add (pv 11) (pe_slice slx (pv 11) po_none (po_some pe_int)))) (pg_name (i := 12) sc_law.nd rfl (Or.inl rfl))
    (pss_one (ps_if (pt_not (pt_val (pe_cal C__law_same hr (pa_cons (pe_cal C_disrupted hr (pa_cons (pv 4) (pa_cons (pe_callTy call_tuple_of (by rfl) T.b_tuple (by decide +kernel) (pa_cons (pe_ix ix_seq (pv 12) pe_int (fun _ _ => rfl)) pa_nil)) (pa_cons (pe_ix ix_seq (pv 12) pe_int (fun _ _ => rfl)) pa_nil)))) (pa_cons (pe_cal C__law_changed hr (pa_cons (pv 4) (pa_cons (pe_ix ix_seq (pv 12) pe_int (fun _ _ => rfl)) (pa_cons (pe_ix ix_seq (pv 12) pe_int (fun _ _ => rfl)) pa_nil)))) pa_nil))))) (pss_one (ps_ret pe_bl)) pss_nil)))
    (pss_one (ps_if (pt_cmpR op_notN (pv 9) pe_non (nomark _)) (pss_one (ps_set (i := 4) sc_law.nd rfl (Or.inl rfl) (pv 9))) pss_nil)))))))))))
    (pss_one (ps_ret (pe_cal C__law_same hr (pa_cons (pe_cal C_disrupted hr (pa_cons (pv 3) (pa_cons (pe_ix ix_seq (pe_ix ix_seq (pv 5) pe_int (fun _ _ => rfl)) pe_int (fun _ _ => rfl)) (pa_cons (pe_ix ix_seq (pe_ix ix_seq (pv 5) pe_int (fun _ _ => rfl)) pe_int (fun _ _ => rfl)) pa_nil)))) (pa_cons (pe_ix ix_seq (pe_ix ix_seq (pv 5) pe_int (fun _ _ => rfl)) pe_int (fun _ _ => rfl)) pa_nil))))))))))), ?_⟩
  refine law_go (m := 12) hS q rfl ?_
  refine wq_set (P := isI fun r => 0 ≤ r ∧ r < 3) (y_drd rfl ye_i fun r h1 h2 => ⟨h1, by omega⟩) ?_
  rintro _ ⟨kd, rfl, k0, k3⟩
  refine wq_set (P := fun d => ∃ ps : List Sg, d = plD ps ∧ PlB ps) (ye_call (PA := fun ss => ∃ ps : List Sg, ss = [.tp, .d (plD ps)] ∧ PlOk ps) (ya_t (PA := fun ss => ∃ ps : List Sg, ss = [.d (plD ps)] ∧ PlOk ps) rfl (ya_c (P := fun d => ∃ ps : List Sg, d = plD ps ∧ PlOk ps) (ye_call (PA := fun ss => ∃ x, ss = [.tp, .d x, .d (.int 1)] ∧ isSz x) (ya_t (PA := fun ss => ∃ x, ss = [.d x, .d (.int 1)] ∧ isSz x) rfl (ya_c (P := isSz) (ye_menu (Q := isSz) (n := 3) (ya_1 (y_sz (yd_t4 ye_i ye_i ye_i ye_i) (by decide)) (ya_1 (y_sz (yd_t4 ye_i ye_i ye_i ye_i) (by decide)) (ya_1 (y_sz (yd_t4 ye_i ye_i ye_i ye_i) (by decide)) ya_0))) ((ye_v rfl).imp fun d h => ⟨kd, h, k0, by omega⟩)) (ya_d ye_i ya_n) fun d ss h e => ⟨d, by rw [e], h⟩) fun ss ⟨x, e, h⟩ => ⟨x, by rw [e], h⟩) fun ss ⟨x, e, a, b, c, d, e2, h⟩ => ⟨by rw [e]; rfl, a, b, c, d, 1, by rw [e, e2]; rfl, h, fun ps hp => ⟨ps, rfl, hp⟩⟩) ya_n fun d ss ⟨ps, e1, h⟩ e2 => ⟨ps, by rw [e1, e2], h⟩) fun ss ⟨ps, e, h⟩ => ⟨ps, by rw [e], h⟩) fun ss ⟨ps, e, h⟩ => ⟨by rw [e]; rfl, ps, e, h, fun qs hq => ⟨qs, rfl, hq⟩⟩) ?_
  rintro _ ⟨p0, rfl, hb0⟩
  refine wq_setd (ye_v rfl) ?_
  refine wq_setmd nd_l0 ?_
  have same : ∀ {ρ : Rho} {ta tb : TE} {x : PyData}, Pd K ta ρ x → Pd K tb ρ x → Plain 6 x → Pd K (tCall (spR K 2 (R__law_same 7)) [] E0 (tCons ta (tCons tb tNil))) ρ (.bool true) := fun h1 h2 hp => ye_cl (ya_d h1 (ya_d h2 ya_n)) rfl ⟨_, rfl, hp, rfl⟩
  let B : List Sg → List PyData → Rho := fun ps as => [.no, .tp, .no, .d (plD p0), .d (plD ps), .ml as, .no, .no, .no, .no, .no, .no, .no, .no]
  let I : Nat → Rho → Prop := fun i r => ∃ (ps : List Sg) (as : List PyData), PlB ps ∧ as.length = i ∧ (i = 0 → ps = p0) ∧ (0 < i → ∃ rs d, as[0]? = some (Ask p0 rs d) ∧ rs.length = p0.length ∧ d.k < 12) ∧ Le r (B ps as)
  refine ws_seq (fun r => I 4 r) (ws_ford (xs := rgD 0 4) (it_r1 ye_i (by decide) (by decide)) (fun i r => I i r) ⟨p0, [], hb0, rfl, fun _ => rfl, fun z => by omega, (by repeat' first | exact Le.nil | refine Le.cons ?_ ?_ | exact rfl | exact trivial)⟩ ?_ ?_) ?_
  · rintro i z r hi ⟨ps, as, hb, al, i0, i1, le⟩
    have hi2 := (List.getElem?_eq_some_iff.mp hi).1
    rw [rg_len] at hi2
    have i4 : i < 4 := by omega
    refine ⟨_, _, yg_n, Ws.le ?_ (le.seta (j := 6) (x := .d z))⟩
    have l1 := hb.l1
    have l4 := hb.l4
    refine wq_set (P := fun d => ∃ rs : List Int, d = .list (rs.map .int) ∧ rs.length = ps.length) ((nl_lcI (PL := fun xs => xs = ps.map sgD) (sl := [13]) (C := fun _ => True) (it_t (ye_v rfl)) (fun i h => h) (fun xs e => by rw [e, List.length_map]; show _ < (16777216 : Nat); omega) (fun xs x e hx => ⟨_, yg_n, ye_menu (Q := isI fun _ => True) (n := 4) (ya_1 (isI_of ye_i trivial) (ya_1 (isI_of ye_i trivial) (ya_1 (y_drd rfl ye_i fun r h1 h2 => trivial) (ya_1 (y_drd rfl ye_i fun r h1 h2 => trivial) ya_0)))) (y_drd rfl ye_i fun r h1 h2 => ⟨h1, by omega⟩)⟩)).pe.imp fun d ⟨ys, e, xs, ns, e2, e3, e4, e5⟩ => ⟨ns, by rw [e, e3], by rw [e4, e2, List.length_map]⟩) ?_
    rintro _ ⟨rs, rfl, rl⟩
    refine wq_set (P := fun x => ∃ d : Dd, x = ddD d ∧ d.k < 12) (ye_cl (ya_td rfl (ya_d (ye_v rfl) ya_n)) rfl ⟨ps, rfl, hb, fun d h => ⟨d, rfl, h⟩⟩) ?_
    rintro _ ⟨d, rfl, hk⟩
    refine wq_setd (ye_cl (P := fun x => x = optP (chg ps rs d)) (ya_d (ye_v rfl) (ya_d (ye_v rfl) (ya_d (ye_v rfl) ya_n))) rfl ⟨ps, rs, d, rfl, hb, rl, hk, rfl⟩) ?_
    refine wq_app (i := 5) (xs := as) (P := fun x => x = Ask ps rs d) rfl (yd_t3 (yd_tupR (rl_of (ye_v rfl))) (ye_v rfl) (ye_v rfl)) (by rw [al]; show _ < (16777216 : Nat); omega) ?_
    rintro _ rfl
    refine wq_setmd (nd_listR (rl_of (ye_v rfl))) ?_
    obtain ⟨n, hn⟩ : ∃ n : Nat, n = min d.s (ps.length - 1) := ⟨_, rfl⟩
    have nl : n < rs.length := by omega
    let C : List Int → Rho := fun ls => [.no, .tp, .no, .d (plD p0), .d (plD ps), .ml (as ++ [Ask ps rs d]), .d z, .d (.list (rs.map .int)), .d (ddD d), .d (optP (chg ps rs d)), .ml (ls.map .int), .no, .no, .no]
    refine ws_seq (fun r => ∃ ls : List Int, ls.length = ps.length ∧ Le r (C ls)) (ws_seti (P := isI fun _ => True) (n := n) (j := (n : Int)) rfl (ye_menu (Q := isI fun _ => True) (n := 2) (ya_1 (isI_of (y_dc (ye_v rfl)) trivial) (ya_1 (isI_of ye_i trivial) ya_0)) (y_drd rfl ye_i fun r h1 h2 => ⟨h1, by omega⟩)) ((yd_min2 (y_ds (ye_v rfl)) (yd_sub ((yd_lenT (xs := ps.map sgD) (ye_v rfl)).to (by rw [List.length_map])) ye_i)).to (by rw [hn]; congr 1; omega)) (ixN_nat (by rw [List.length_map]; exact nl)) ?_) ?_
    · rintro _ ⟨v, rfl, _⟩
      refine ⟨rs.set n v, by rw [List.length_set]; exact rl, ?_⟩
      show Le _ [.no, .tp, .no, .d (plD p0), .d (plD ps), .ml (as ++ [Ask ps rs d]), .d z, .d (.list (rs.map .int)), .d (ddD d), .d (optP (chg ps rs d)), .ml ((rs.set n v).map .int), .no, .no, .no]
      rw [List.map_set]
      exact (by repeat' first | exact Le.nil | refine Le.cons ?_ ?_ | exact rfl | exact trivial)
    rintro r ⟨ls, ll, le⟩
    refine Ws.le ?_ le
    refine Ws.freeze (i := 10) (xs := ls.map .int) rfl ?_
    refine wq_set (P := fun x => ∃ xs, x = .list xs ∧ xs.length = 3 ∧ ∀ y ∈ xs, Rw ps.length y) ((nl_all (n := 3) (Q := Rw ps.length) (ya_1 ((yd_t2 (ye_v rfl) (ye_v rfl)).imp fun x e => ⟨rs, d, e, rl, hk⟩) (ya_1 ((yd_t2 (ye_v rfl) (ye_v rfl)).imp fun x e => ⟨ls, d, e, ll, hk⟩) (ya_1 (ye_t2 (A := fun x => x = .list (ls.map .int)) (B := fun x => ∃ d : Dd, x = ddD d ∧ d.k < 12) (ye_v rfl) (ye_cl (ya_td rfl (ya_d (ye_v rfl) ya_n)) rfl ⟨ps, rfl, hb, fun d h => ⟨d, rfl, h⟩⟩) fun a b e1 ⟨d, e2, h⟩ => ⟨ls, d, by rw [e1, e2], ll, h⟩) ya_0)))).pe.imp fun d ⟨xs, e, h1, h2⟩ => ⟨xs, e, h1, h2⟩) ?_
    rintro _ ⟨rows, rfl, r3, rok⟩
    let D : Rho := [.no, .tp, .no, .d (plD p0), .d (plD ps), .ml (as ++ [Ask ps rs d]), .no, .no, .no, .d (optP (chg ps rs d)), .no, .no, .no, .no]
    refine ws_seq (fun r => Le r D) (ws_for (PL := fun xs => ∀ x ∈ xs, Rw ps.length x) (it_L (PA := fun x => ∃ ys, x = .list ys ∧ ∀ y ∈ ys, Rw ps.length y) ((nl_cat (PL := fun xs => xs = rows) (PM := fun xs => xs = cut rows none (some 1)) (PN := fun xs => ∀ x ∈ xs, Rw ps.length x) (rl_of (ye_v rfl)) (nd_slR (rl_of (ye_v rfl)) yo_n (yo_i ye_i)).rl ?_).pe.imp fun d ⟨xs, e, h⟩ => ⟨xs, e, h⟩) fun x ⟨ys, e, h⟩ => ⟨ys, .inl e, h⟩) (fun _ _ r => Le r D) (fun _ _ => (by repeat' first | exact Le.nil | refine Le.cons ?_ ?_ | exact rfl | exact trivial)) ?_ (fun _ r _ h => h)) ?_
    · rintro xs ys rfl rfl
      have e : cut xs none (some ((1 : Nat) : Int)) = xs.take 1 := cut_to xs 1
      have e : cut xs none (some (1 : Int)) = xs.take 1 := e
      rw [e]
      refine ⟨by rw [List.length_take]; show _ ≤ (16777216 : Nat); omega, fun x hx => ?_⟩
      rcases List.mem_append.mp hx with hx | hx
      · exact rok x hx
      · exact rok x (List.mem_of_mem_take hx)
    · rintro ys j y r hys hj le
      obtain ⟨qs, e, rfl, ql, ek⟩ := hys y (List.mem_of_getElem? hj)
      refine ⟨_, _, yg_n, Ws.le ?_ (le.seta (j := 12) (x := .d (.tuple [.list (qs.map .int), ddD e])))⟩
      exact ws_ifd (b := false) (yt_notd (b := true) (yt_B (same (ye_cl (P := fun x => x = optP (chg ps qs e)) (ya_d (ye_v rfl) (ya_d (yd_tupR (rl_of (yd_ixT (ye_v rfl) ye_i rfl))) (ya_d (yd_ixT (ye_v rfl) ye_i rfl) ya_n))) rfl ⟨ps, qs, e, rfl, hb, ql, ek, rfl⟩) (ye_cl (P := fun x => x = optP (chg ps qs e)) (ya_d (ye_v rfl) (ya_d (yd_ixT (ye_v rfl) ye_i rfl) (ya_d (yd_ixT (ye_v rfl) ye_i rfl) ya_n))) rfl ⟨ps, qs, e, rfl, hb, ql, ek, rfl⟩) (opt_plain hb ek)))) (fun z => nomatch z) fun _ => ws_next (by repeat' first | exact Le.nil | refine Le.cons ?_ ?_ | exact rfl | exact trivial)
    rintro r le
    refine Ws.le ?_ le
    have fst : ∃ rs' d', (as ++ [Ask ps rs d])[0]? = some (Ask p0 rs' d') ∧ rs'.length = p0.length ∧ d'.k < 12 := by
      by_cases z : 0 < i
      · obtain ⟨rs', d', e1, e2, e3⟩ := i1 z
        exact ⟨rs', d', by rw [List.getElem?_append_left (by omega)]; exact e1, e2, e3⟩
      · have z : i = 0 := by omega
        have e1 := i0 z
        have e2 : as = [] := List.length_eq_zero_iff.mp (by omega)
        exact ⟨rs, d, by rw [e2, ← e1]; rfl, by rw [rl, e1], hk⟩
    have al2 : (as ++ [Ask ps rs d]).length = i + 1 := by rw [List.length_append, al]; rfl
    cases hc : chg ps rs d with
    | none =>
      have D1 : D = [.no, .tp, .no, .d (plD p0), .d (plD ps), .ml (as ++ [Ask ps rs d]), .no, .no, .no, .d .none, .no, .no, .no, .no] := by
        unfold D
        rw [hc]
        rfl
      rw [D1]
      exact ws_ifd (b := false) (by first | exact yt_d ((yd_ntN (ye_v rfl)).to rfl) | exact yt_B ((yd_ntN (ye_v rfl)).to rfl)) (fun z => nomatch z) fun _ => ws_next ⟨ps, _, hb, al2, fun z => by omega, fun _ => fst, (by repeat' first | exact Le.nil | refine Le.cons ?_ ?_ | exact rfl | exact trivial)⟩
    | some qs =>
      have D1 : D = [.no, .tp, .no, .d (plD p0), .d (plD ps), .ml (as ++ [Ask ps rs d]), .no, .no, .no, .d (plD qs), .no, .no, .no, .no] := by
        unfold D
        rw [hc]
        rfl
      rw [D1]
      exact ws_ifd (b := true) (by first | exact yt_d ((yd_ntN (ye_v rfl)).to rfl) | exact yt_B ((yd_ntN (ye_v rfl)).to rfl)) (fun _ => ws_setd (ye_v rfl) ⟨qs, _, chg_b hb hk hc, al2, fun z => by omega, fun _ => fst, (by repeat' first | exact Le.nil | refine Le.cons ?_ ?_ | exact rfl | exact trivial)⟩) fun z => nomatch z
  · rintro r h
    rw [rg_len] at h
    exact h
  rintro r ⟨ps, as, hb, al, _, i1, le⟩
  obtain ⟨rs, d, e1, rl, hk⟩ := i1 (by decide)
  refine Ws.le ?_ le
  have a0 : ∀ {ρ : Rho}, ρ[5]? = some (.ml as) → Pd K (tOp (rIx K) (tVar 5) (tC (.int 0))) ρ (Ask p0 rs d) := fun e => yd_ixR (rl_v e) ye_i (atI_nat (j := 0) e1)
  exact ws_ret (same (ye_cl (P := fun x => x = optP (chg p0 rs d)) (ya_d (ye_v rfl) (ya_d (yd_ixT (a0 rfl) ye_i rfl) (ya_d (yd_ixT (a0 rfl) ye_i rfl) ya_n))) rfl ⟨p0, rs, d, rfl, hb0, rl, hk, rfl⟩) (yd_ixT (a0 rfl) ye_i rfl) (opt_plain hb0 hk)) fun x h => h


theorem all_mk {l : PySem.W.OpenLaw} {w : World} {K : PySem.W.Frag} {h : Heap} {mg : Str → Option Value} {fa f0 f1 f2 f3 f4 f5 f6 f7 f8 f9 f10 f11 f12 f13 f14 f15 f16 f17 f18 f19 f20 f21 f22 f23 f24 f25 f26 f27 f28 f29 : Addr} (X : K.In h) (G : h.Ns mainGlobals mg) (hfa : mg "law" = some (.ref fa))
    {od0 an0 : Option Addr} {sl0 : Array (Option Value)} {oc0 kV0 dc0 pm0 cd0 ct0 : Value}
    (a0 : PySem.W.nsIn K mainGlobals "_law_tape" = some (some (.ref f0))) (l0 : K.lookup f0 = some ⟨oc0, od0, .func (PySem.W.fnOf "_law_tape" "_law_tape" (defArgs s__law_tape) (defBody s__law_tape) (defScope s__law_tape) .none kV0 dc0 pm0 an0 cd0 ct0), sl0⟩) (c0 : PySem.W.codeIn K cd0 "_law_tape" = true) (k0 : PySem.W.keepIn K (.ref f0) = true)
    {od1 an1 : Option Addr} {sl1 : Array (Option Value)} {oc1 kV1 dc1 pm1 cd1 ct1 : Value}
    (a1 : PySem.W.nsIn K mainGlobals "_law_draw" = some (some (.ref f1))) (l1 : K.lookup f1 = some ⟨oc1, od1, .func (PySem.W.fnOf "_law_draw" "_law_draw" (defArgs s__law_draw) (defBody s__law_draw) (defScope s__law_draw) .none kV1 dc1 pm1 an1 cd1 ct1), sl1⟩) (c1 : PySem.W.codeIn K cd1 "_law_draw" = true) (k1 : PySem.W.keepIn K (.ref f1) = true)
    {od2 an2 : Option Addr} {sl2 : Array (Option Value)} {oc2 kV2 dc2 pm2 cd2 ct2 : Value}
    (a2 : PySem.W.nsIn K mainGlobals "_law_ramp" = some (some (.ref f2))) (l2 : K.lookup f2 = some ⟨oc2, od2, .func (PySem.W.fnOf "_law_ramp" "_law_ramp" (defArgs s__law_ramp) (defBody s__law_ramp) (defScope s__law_ramp) .none kV2 dc2 pm2 an2 cd2 ct2), sl2⟩) (c2 : PySem.W.codeIn K cd2 "_law_ramp" = true) (k2 : PySem.W.keepIn K (.ref f2) = true)
    {od3 an3 : Option Addr} {sl3 : Array (Option Value)} {oc3 kV3 dc3 pm3 cd3 ct3 : Value}
    (a3 : PySem.W.nsIn K mainGlobals "_law_ramped" = some (some (.ref f3))) (l3 : K.lookup f3 = some ⟨oc3, od3, .func (PySem.W.fnOf "_law_ramped" "_law_ramped" (defArgs s__law_ramped) (defBody s__law_ramped) (defScope s__law_ramped) .none kV3 dc3 pm3 an3 cd3 ct3), sl3⟩) (c3 : PySem.W.codeIn K cd3 "_law_ramped" = true) (k3 : PySem.W.keepIn K (.ref f3) = true)
    {od4 an4 : Option Addr} {sl4 : Array (Option Value)} {oc4 kV4 dc4 pm4 cd4 ct4 : Value}
    (a4 : PySem.W.nsIn K mainGlobals "_law_tool" = some (some (.ref f4))) (l4 : K.lookup f4 = some ⟨oc4, od4, .func (PySem.W.fnOf "_law_tool" "_law_tool" (defArgs s__law_tool) (defBody s__law_tool) (defScope s__law_tool) .none kV4 dc4 pm4 an4 cd4 ct4), sl4⟩) (c4 : PySem.W.codeIn K cd4 "_law_tool" = true) (k4 : PySem.W.keepIn K (.ref f4) = true)
    {od5 an5 : Option Addr} {sl5 : Array (Option Value)} {oc5 kV5 dc5 pm5 cd5 ct5 : Value}
    (a5 : PySem.W.nsIn K mainGlobals "_law_flow" = some (some (.ref f5))) (l5 : K.lookup f5 = some ⟨oc5, od5, .func (PySem.W.fnOf "_law_flow" "_law_flow" (defArgs s__law_flow) (defBody s__law_flow) (defScope s__law_flow) .none kV5 dc5 pm5 an5 cd5 ct5), sl5⟩) (c5 : PySem.W.codeIn K cd5 "_law_flow" = true) (k5 : PySem.W.keepIn K (.ref f5) = true)
    {od6 an6 : Option Addr} {sl6 : Array (Option Value)} {oc6 kV6 dc6 pm6 cd6 ct6 : Value}
    (a6 : PySem.W.nsIn K mainGlobals "_law_steady" = some (some (.ref f6))) (l6 : K.lookup f6 = some ⟨oc6, od6, .func (PySem.W.fnOf "_law_steady" "_law_steady" (defArgs s__law_steady) (defBody s__law_steady) (defScope s__law_steady) .none kV6 dc6 pm6 an6 cd6 ct6), sl6⟩) (c6 : PySem.W.codeIn K cd6 "_law_steady" = true) (k6 : PySem.W.keepIn K (.ref f6) = true)
    {od7 an7 : Option Addr} {sl7 : Array (Option Value)} {oc7 kV7 dc7 pm7 cd7 ct7 : Value}
    (a7 : PySem.W.nsIn K mainGlobals "_law_curve" = some (some (.ref f7))) (l7 : K.lookup f7 = some ⟨oc7, od7, .func (PySem.W.fnOf "_law_curve" "_law_curve" (defArgs s__law_curve) (defBody s__law_curve) (defScope s__law_curve) .none kV7 dc7 pm7 an7 cd7 ct7), sl7⟩) (c7 : PySem.W.codeIn K cd7 "_law_curve" = true) (k7 : PySem.W.keepIn K (.ref f7) = true)
    {od8 an8 : Option Addr} {sl8 : Array (Option Value)} {oc8 kV8 dc8 pm8 cd8 ct8 : Value}
    (a8 : PySem.W.nsIn K mainGlobals "_law_feed" = some (some (.ref f8))) (l8 : K.lookup f8 = some ⟨oc8, od8, .func (PySem.W.fnOf "_law_feed" "_law_feed" (defArgs s__law_feed) (defBody s__law_feed) (defScope s__law_feed) .none kV8 dc8 pm8 an8 cd8 ct8), sl8⟩) (c8 : PySem.W.codeIn K cd8 "_law_feed" = true) (k8 : PySem.W.keepIn K (.ref f8) = true)
    {od9 an9 : Option Addr} {sl9 : Array (Option Value)} {oc9 kV9 dc9 pm9 cd9 ct9 : Value}
    (a9 : PySem.W.nsIn K mainGlobals "_law_stage" = some (some (.ref f9))) (l9 : K.lookup f9 = some ⟨oc9, od9, .func (PySem.W.fnOf "_law_stage" "_law_stage" (defArgs s__law_stage) (defBody s__law_stage) (defScope s__law_stage) .none kV9 dc9 pm9 an9 cd9 ct9), sl9⟩) (c9 : PySem.W.codeIn K cd9 "_law_stage" = true) (k9 : PySem.W.keepIn K (.ref f9) = true)
    {od10 an10 : Option Addr} {sl10 : Array (Option Value)} {oc10 kV10 dc10 pm10 cd10 ct10 : Value}
    (a10 : PySem.W.nsIn K mainGlobals "_law_plant" = some (some (.ref f10))) (l10 : K.lookup f10 = some ⟨oc10, od10, .func (PySem.W.fnOf "_law_plant" "_law_plant" (defArgs s__law_plant) (defBody s__law_plant) (defScope s__law_plant) .none kV10 dc10 pm10 an10 cd10 ct10), sl10⟩) (c10 : PySem.W.codeIn K cd10 "_law_plant" = true) (k10 : PySem.W.keepIn K (.ref f10) = true)
    {od11 an11 : Option Addr} {sl11 : Array (Option Value)} {oc11 kV11 dc11 pm11 cd11 ct11 : Value}
    (a11 : PySem.W.nsIn K mainGlobals "_law_deed" = some (some (.ref f11))) (l11 : K.lookup f11 = some ⟨oc11, od11, .func (PySem.W.fnOf "_law_deed" "_law_deed" (defArgs s__law_deed) (defBody s__law_deed) (defScope s__law_deed) .none kV11 dc11 pm11 an11 cd11 ct11), sl11⟩) (c11 : PySem.W.codeIn K cd11 "_law_deed" = true) (k11 : PySem.W.keepIn K (.ref f11) = true)
    {od12 an12 : Option Addr} {sl12 : Array (Option Value)} {oc12 kV12 dc12 pm12 cd12 ct12 : Value}
    (a12 : PySem.W.nsIn K mainGlobals "_law_step" = some (some (.ref f12))) (l12 : K.lookup f12 = some ⟨oc12, od12, .func (PySem.W.fnOf "_law_step" "_law_step" (defArgs s__law_step) (defBody s__law_step) (defScope s__law_step) .none kV12 dc12 pm12 an12 cd12 ct12), sl12⟩) (c12 : PySem.W.codeIn K cd12 "_law_step" = true) (k12 : PySem.W.keepIn K (.ref f12) = true)
    {od13 an13 : Option Addr} {sl13 : Array (Option Value)} {oc13 kV13 dc13 pm13 cd13 ct13 : Value}
    (a13 : PySem.W.nsIn K mainGlobals "_law_applies" = some (some (.ref f13))) (l13 : K.lookup f13 = some ⟨oc13, od13, .func (PySem.W.fnOf "_law_applies" "_law_applies" (defArgs s__law_applies) (defBody s__law_applies) (defScope s__law_applies) .none kV13 dc13 pm13 an13 cd13 ct13), sl13⟩) (c13 : PySem.W.codeIn K cd13 "_law_applies" = true) (k13 : PySem.W.keepIn K (.ref f13) = true)
    {od14 an14 : Option Addr} {sl14 : Array (Option Value)} {oc14 kV14 dc14 pm14 cd14 ct14 : Value}
    (a14 : PySem.W.nsIn K mainGlobals "_law_normal" = some (some (.ref f14))) (l14 : K.lookup f14 = some ⟨oc14, od14, .func (PySem.W.fnOf "_law_normal" "_law_normal" (defArgs s__law_normal) (defBody s__law_normal) (defScope s__law_normal) .none kV14 dc14 pm14 an14 cd14 ct14), sl14⟩) (c14 : PySem.W.codeIn K cd14 "_law_normal" = true) (k14 : PySem.W.keepIn K (.ref f14) = true)
    {od15 an15 : Option Addr} {sl15 : Array (Option Value)} {oc15 kV15 dc15 pm15 cd15 ct15 : Value}
    (a15 : PySem.W.nsIn K mainGlobals "_law_bumped" = some (some (.ref f15))) (l15 : K.lookup f15 = some ⟨oc15, od15, .func (PySem.W.fnOf "_law_bumped" "_law_bumped" (defArgs s__law_bumped) (defBody s__law_bumped) (defScope s__law_bumped) .none kV15 dc15 pm15 an15 cd15 ct15), sl15⟩) (c15 : PySem.W.codeIn K cd15 "_law_bumped" = true) (k15 : PySem.W.keepIn K (.ref f15) = true)
    {od16 an16 : Option Addr} {sl16 : Array (Option Value)} {oc16 kV16 dc16 pm16 cd16 ct16 : Value}
    (a16 : PySem.W.nsIn K mainGlobals "_law_changed" = some (some (.ref f16))) (l16 : K.lookup f16 = some ⟨oc16, od16, .func (PySem.W.fnOf "_law_changed" "_law_changed" (defArgs s__law_changed) (defBody s__law_changed) (defScope s__law_changed) .none kV16 dc16 pm16 an16 cd16 ct16), sl16⟩) (c16 : PySem.W.codeIn K cd16 "_law_changed" = true) (k16 : PySem.W.keepIn K (.ref f16) = true)
    {od17 an17 : Option Addr} {sl17 : Array (Option Value)} {oc17 kV17 dc17 pm17 cd17 ct17 : Value}
    (a17 : PySem.W.nsIn K mainGlobals "_law_same" = some (some (.ref f17))) (l17 : K.lookup f17 = some ⟨oc17, od17, .func (PySem.W.fnOf "_law_same" "_law_same" (defArgs s__law_same) (defBody s__law_same) (defScope s__law_same) .none kV17 dc17 pm17 an17 cd17 ct17), sl17⟩) (c17 : PySem.W.codeIn K cd17 "_law_same" = true) (k17 : PySem.W.keepIn K (.ref f17) = true)
    {od18 an18 : Option Addr} {sl18 : Array (Option Value)} {oc18 kV18 dc18 pm18 cd18 ct18 : Value}
    (a18 : PySem.W.nsIn K mainGlobals "member" = some (some (.ref f18))) (l18 : K.lookup f18 = some ⟨oc18, od18, .func (PySem.W.fnOf "member" "member" (defArgs s_member) (defBody s_member) (defScope s_member) .none kV18 dc18 pm18 an18 cd18 ct18), sl18⟩) (c18 : PySem.W.codeIn K cd18 "member" = true) (k18 : PySem.W.keepIn K (.ref f18) = true)
    {od19 an19 : Option Addr} {sl19 : Array (Option Value)} {oc19 kV19 dc19 pm19 cd19 ct19 : Value}
    (a19 : PySem.W.nsIn K mainGlobals "increment" = some (some (.ref f19))) (l19 : K.lookup f19 = some ⟨oc19, od19, .func (PySem.W.fnOf "increment" "increment" (defArgs s_increment) (defBody s_increment) (defScope s_increment) .none kV19 dc19 pm19 an19 cd19 ct19), sl19⟩) (c19 : PySem.W.codeIn K cd19 "increment" = true) (k19 : PySem.W.keepIn K (.ref f19) = true)
    {od20 an20 : Option Addr} {sl20 : Array (Option Value)} {oc20 kV20 dc20 pm20 cd20 ct20 : Value}
    (a20 : PySem.W.nsIn K mainGlobals "replaced" = some (some (.ref f20))) (l20 : K.lookup f20 = some ⟨oc20, od20, .func (PySem.W.fnOf "replaced" "replaced" (defArgs s_replaced) (defBody s_replaced) (defScope s_replaced) .none kV20 dc20 pm20 an20 cd20 ct20), sl20⟩) (c20 : PySem.W.codeIn K cd20 "replaced" = true) (k20 : PySem.W.keepIn K (.ref f20) = true)
    {od21 an21 : Option Addr} {sl21 : Array (Option Value)} {oc21 kV21 dc21 pm21 cd21 ct21 : Value}
    (a21 : PySem.W.nsIn K mainGlobals "increments" = some (some (.ref f21))) (l21 : K.lookup f21 = some ⟨oc21, od21, .func (PySem.W.fnOf "increments" "increments" (defArgs s_increments) (defBody s_increments) (defScope s_increments) .none kV21 dc21 pm21 an21 cd21 ct21), sl21⟩) (c21 : PySem.W.codeIn K cd21 "increments" = true) (k21 : PySem.W.keepIn K (.ref f21) = true)
    {od22 an22 : Option Addr} {sl22 : Array (Option Value)} {oc22 kV22 dc22 pm22 cd22 ct22 : Value}
    (a22 : PySem.W.nsIn K mainGlobals "prime_factors" = some (some (.ref f22))) (l22 : K.lookup f22 = some ⟨oc22, od22, .func (PySem.W.fnOf "prime_factors" "prime_factors" (defArgs s_prime_factors) (defBody s_prime_factors) (defScope s_prime_factors) .none kV22 dc22 pm22 an22 cd22 ct22), sl22⟩) (c22 : PySem.W.codeIn K cd22 "prime_factors" = true) (k22 : PySem.W.keepIn K (.ref f22) = true)
    {od23 an23 : Option Addr} {sl23 : Array (Option Value)} {oc23 kV23 dc23 pm23 cd23 ct23 : Value}
    (a23 : PySem.W.nsIn K mainGlobals "shortest_period" = some (some (.ref f23))) (l23 : K.lookup f23 = some ⟨oc23, od23, .func (PySem.W.fnOf "shortest_period" "shortest_period" (defArgs s_shortest_period) (defBody s_shortest_period) (defScope s_shortest_period) .none kV23 dc23 pm23 an23 cd23 ct23), sl23⟩) (c23 : PySem.W.codeIn K cd23 "shortest_period" = true) (k23 : PySem.W.keepIn K (.ref f23) = true)
    {od24 an24 : Option Addr} {sl24 : Array (Option Value)} {oc24 kV24 dc24 pm24 cd24 ct24 : Value}
    (a24 : PySem.W.nsIn K mainGlobals "normal_parts" = some (some (.ref f24))) (l24 : K.lookup f24 = some ⟨oc24, od24, .func (PySem.W.fnOf "normal_parts" "normal_parts" (defArgs s_normal_parts) (defBody s_normal_parts) (defScope s_normal_parts) .none kV24 dc24 pm24 an24 cd24 ct24), sl24⟩) (c24 : PySem.W.codeIn K cd24 "normal_parts" = true) (k24 : PySem.W.keepIn K (.ref f24) = true)
    {od25 an25 : Option Addr} {sl25 : Array (Option Value)} {oc25 kV25 dc25 pm25 cd25 ct25 : Value}
    (a25 : PySem.W.nsIn K mainGlobals "normal" = some (some (.ref f25))) (l25 : K.lookup f25 = some ⟨oc25, od25, .func (PySem.W.fnOf "normal" "normal" (defArgs s_normal) (defBody s_normal) (defScope s_normal) .none kV25 dc25 pm25 an25 cd25 ct25), sl25⟩) (c25 : PySem.W.codeIn K cd25 "normal" = true) (k25 : PySem.W.keepIn K (.ref f25) = true)
    {od26 an26 : Option Addr} {sl26 : Array (Option Value)} {oc26 kV26 dc26 pm26 cd26 ct26 : Value}
    (a26 : PySem.W.nsIn K mainGlobals "with_more" = some (some (.ref f26))) (l26 : K.lookup f26 = some ⟨oc26, od26, .func (PySem.W.fnOf "with_more" "with_more" (defArgs s_with_more) (defBody s_with_more) (defScope s_with_more) .none kV26 dc26 pm26 an26 cd26 ct26), sl26⟩) (c26 : PySem.W.codeIn K cd26 "with_more" = true) (k26 : PySem.W.keepIn K (.ref f26) = true)
    {od27 an27 : Option Addr} {sl27 : Array (Option Value)} {oc27 kV27 dc27 pm27 cd27 ct27 : Value}
    (a27 : PySem.W.nsIn K mainGlobals "disrupted_rows" = some (some (.ref f27))) (l27 : K.lookup f27 = some ⟨oc27, od27, .func (PySem.W.fnOf "disrupted_rows" "disrupted_rows" (defArgs s_disrupted_rows) (defBody s_disrupted_rows) (defScope s_disrupted_rows) .none kV27 dc27 pm27 an27 cd27 ct27), sl27⟩) (c27 : PySem.W.codeIn K cd27 "disrupted_rows" = true) (k27 : PySem.W.keepIn K (.ref f27) = true)
    {od28 an28 : Option Addr} {sl28 : Array (Option Value)} {oc28 kV28 dc28 pm28 cd28 ct28 : Value}
    (a28 : PySem.W.nsIn K mainGlobals "disrupted" = some (some (.ref f28))) (l28 : K.lookup f28 = some ⟨oc28, od28, .func (PySem.W.fnOf "disrupted" "disrupted" (defArgs s_disrupted) (defBody s_disrupted) (defScope s_disrupted) .none kV28 dc28 pm28 an28 cd28 ct28), sl28⟩) (c28 : PySem.W.codeIn K cd28 "disrupted" = true) (k28 : PySem.W.keepIn K (.ref f28) = true)
    {od29 an29 : Option Addr} {sl29 : Array (Option Value)} {oc29 kV29 dc29 pm29 cd29 ct29 : Value}
    (a29 : PySem.W.nsIn K mainGlobals "law" = some (some (.ref f29))) (l29 : K.lookup f29 = some ⟨oc29, od29, .func (PySem.W.fnOf "law" "law" (defArgs s_law) (defBody s_law) (defScope s_law) .none kV29 dc29 pm29 an29 cd29 ct29), sl29⟩) (c29 : PySem.W.codeIn K cd29 "law" = true) (k29 : PySem.W.keepIn K (.ref f29) = true)
    (z_abs : PySem.W.nsIn K mainGlobals "abs" = some none)
    (z_bool : PySem.W.nsIn K mainGlobals "bool" = some none)
    (z_int : PySem.W.nsIn K mainGlobals "int" = some none)
    (z_isinstance : PySem.W.nsIn K mainGlobals "isinstance" = some none)
    (z_len : PySem.W.nsIn K mainGlobals "len" = some none)
    (z_list : PySem.W.nsIn K mainGlobals "list" = some none)
    (z_max : PySem.W.nsIn K mainGlobals "max" = some none)
    (z_min : PySem.W.nsIn K mainGlobals "min" = some none)
    (z_range : PySem.W.nsIn K mainGlobals "range" = some none)
    (z_str : PySem.W.nsIn K mainGlobals "str" = some none)
    (z_sum : PySem.W.nsIn K mainGlobals "sum" = some none)
    (z_tuple : PySem.W.nsIn K mainGlobals "tuple" = some none)
    {da_PARTS : Addr} {de_PARTS : Array DictEntry} {dn_PARTS : Nat} (zd_PARTS : PySem.W.nsIn K mainGlobals "PARTS" = some (some (.ref da_PARTS))) (ld_PARTS : K.lookup da_PARTS = some ⟨.type "dict", none, .dict de_PARTS dn_PARTS, #[]⟩) (lk_PARTS : PySem.W.KeysLit w.params de_PARTS.toList)
    {tv_PARTS_0 : Tok} (ln_PARTS_0 : PySem.W.nsIn K da_PARTS "yield" = some (some (.int 1 tv_PARTS_0)))
    {tv_PARTS_1 : Tok} (ln_PARTS_1 : PySem.W.nsIn K da_PARTS "extra" = some (some (.int 0 tv_PARTS_1)))
    {tv_PARTS_2 : Tok} (ln_PARTS_2 : PySem.W.nsIn K da_PARTS "slow" = some (some (.int 3 tv_PARTS_2)))
    {tv_PARTS_3 : Tok} (ln_PARTS_3 : PySem.W.nsIn K da_PARTS "cost" = some (some (.int 2 tv_PARTS_3)))
    : ∃ fd : FuncData, (∀ (s : Shared) (v : Value), BindsTo s fd ⟨[v], []⟩ [("script", v)]) ∧ ∀ base : Heap, K.In base → base.Ns mainGlobals mg → FnOk l.prog w K mg base CX0 8 fa fd ["script"] (spLaw K) := by
  have e := hfa.symm.trans (PySem.W.mg_of X G a29)
  cases e
  have T : Tx w K mg := ⟨PySem.W.mg_none_of X G z_abs, PySem.W.mg_none_of X G z_bool, PySem.W.mg_none_of X G z_int, PySem.W.mg_none_of X G z_isinstance, PySem.W.mg_none_of X G z_len, PySem.W.mg_none_of X G z_list, PySem.W.mg_none_of X G z_max, PySem.W.mg_none_of X G z_min, PySem.W.mg_none_of X G z_range, PySem.W.mg_none_of X G z_str, PySem.W.mg_none_of X G z_sum, PySem.W.mg_none_of X G z_tuple, ⟨_, PySem.W.mg_of X G zd_PARTS, ⟨_, _, _, ld_PARTS, lk_PARTS, ln_PARTS_0, _, rfl⟩, ⟨_, _, _, ld_PARTS, lk_PARTS, ln_PARTS_1, _, rfl⟩, ⟨_, _, _, ld_PARTS, lk_PARTS, ln_PARTS_2, _, rfl⟩, ⟨_, _, _, ld_PARTS, lk_PARTS, ln_PARTS_3, _, rfl⟩⟩⟩
  have F0 := fun_mk (st := s__law_tape) l0 c0 k0
  have F1 := fun_mk (st := s__law_draw) l1 c1 k1
  have F2 := fun_mk (st := s__law_ramp) l2 c2 k2
  have F3 := fun_mk (st := s__law_ramped) l3 c3 k3
  have F4 := fun_mk (st := s__law_tool) l4 c4 k4
  have F5 := fun_mk (st := s__law_flow) l5 c5 k5
  have F6 := fun_mk (st := s__law_steady) l6 c6 k6
  have F7 := fun_mk (st := s__law_curve) l7 c7 k7
  have F8 := fun_mk (st := s__law_feed) l8 c8 k8
  have F9 := fun_mk (st := s__law_stage) l9 c9 k9
  have F10 := fun_mk (st := s__law_plant) l10 c10 k10
  have F11 := fun_mk (st := s__law_deed) l11 c11 k11
  have F12 := fun_mk (st := s__law_step) l12 c12 k12
  have F13 := fun_mk (st := s__law_applies) l13 c13 k13
  have F14 := fun_mk (st := s__law_normal) l14 c14 k14
  have F15 := fun_mk (st := s__law_bumped) l15 c15 k15
  have F16 := fun_mk (st := s__law_changed) l16 c16 k16
  have F17 := fun_mk (st := s__law_same) l17 c17 k17
  have F18 := fun_mk (st := s_member) l18 c18 k18
  have F19 := fun_mk (st := s_increment) l19 c19 k19
  have F20 := fun_mk (st := s_replaced) l20 c20 k20
  have F21 := fun_mk (st := s_increments) l21 c21 k21
  have F22 := fun_mk (st := s_prime_factors) l22 c22 k22
  have F23 := fun_mk (st := s_shortest_period) l23 c23 k23
  have F24 := fun_mk (st := s_normal_parts) l24 c24 k24
  have F25 := fun_mk (st := s_normal) l25 c25 k25
  have F26 := fun_mk (st := s_with_more) l26 c26 k26
  have F27 := fun_mk (st := s_disrupted_rows) l27 c27 k27
  have F28 := fun_mk (st := s_disrupted) l28 c28 k28
  have F29 := fun_mk (st := s_law) l29 c29 k29
  refine ⟨PySem.W.fnOf "law" "law" (defArgs s_law) (defBody s_law) (defScope s_law) .none kV29 dc29 pm29 an29 cd29 ct29, fun s v => .of_eq rfl, fun base _ _ => ?_⟩
  have C__law_tape : Cal l.prog w K mg base 1 "_law_tape" ["script"] (spTape K) := ⟨f0, _, ok__law_tape T  F0, PySem.W.mg_of X G a0, k0, F0.binds fun _ _ _ _ _ _ us hl => match us, hl with | [_], _ => rfl⟩
  have C__law_draw : Cal l.prog w K mg base 1 "_law_draw" ["tape", "many"] (spR K 2 R__law_draw) := ⟨f1, _, ok__law_draw T  F1, PySem.W.mg_of X G a1, k1, F1.binds fun _ _ _ _ _ _ us hl => match us, hl with | [_, _], _ => rfl⟩
  have C__law_ramp : Cal l.prog w K mg base 2 "_law_ramp" ["tape", "top"] (spR K 2 R__law_ramp) := ⟨f2, _, ok__law_ramp T C__law_draw F2, PySem.W.mg_of X G a2, k2, F2.binds fun _ _ _ _ _ _ us hl => match us, hl with | [_, _], _ => rfl⟩
  have C__law_ramped : Cal l.prog w K mg base 3 "_law_ramped" ["tape", "plant"] (spR K 2 R__law_ramped) := ⟨f3, _, ok__law_ramped T C__law_ramp F3, PySem.W.mg_of X G a3, k3, F3.binds fun _ _ _ _ _ _ us hl => match us, hl with | [_, _], _ => rfl⟩
  have C__law_tool : Cal l.prog w K mg base 2 "_law_tool" ["tape"] (spR K 1 R__law_tool) := ⟨f4, _, ok__law_tool T C__law_draw F4, PySem.W.mg_of X G a4, k4, F4.binds fun _ _ _ _ _ _ us hl => match us, hl with | [_], _ => rfl⟩
  have C__law_flow : Cal l.prog w K mg base 2 "_law_flow" ["tape"] (spR K 1 R__law_flow) := ⟨f5, _, ok__law_flow T C__law_draw F5, PySem.W.mg_of X G a5, k5, F5.binds fun _ _ _ _ _ _ us hl => match us, hl with | [_], _ => rfl⟩
  have C__law_steady : Cal l.prog w K mg base 2 "_law_steady" ["tape"] (spR K 1 R__law_steady) := ⟨f6, _, ok__law_steady T C__law_draw F6, PySem.W.mg_of X G a6, k6, F6.binds fun _ _ _ _ _ _ us hl => match us, hl with | [_], _ => rfl⟩
  have C__law_curve : Cal l.prog w K mg base 3 "_law_curve" ["tape", "manner"] (spR K 2 R__law_curve) := ⟨f7, _, ok__law_curve T C__law_flow C__law_steady C__law_draw F7, PySem.W.mg_of X G a7, k7, F7.binds fun _ _ _ _ _ _ us hl => match us, hl with | [_, _], _ => rfl⟩
  have C__law_feed : Cal l.prog w K mg base 4 "_law_feed" ["tape", "buffer", "manner"] (spR K 3 R__law_feed) := ⟨f8, _, ok__law_feed T C__law_draw C__law_tool C__law_curve F8, PySem.W.mg_of X G a8, k8, F8.binds fun _ _ _ _ _ _ us hl => match us, hl with | [_, _, _], _ => rfl⟩
  have C__law_stage : Cal l.prog w K mg base 2 "_law_stage" ["tape", "feeds", "outputs"] (spR K 3 R__law_stage) := ⟨f9, _, ok__law_stage T C__law_draw F9, PySem.W.mg_of X G a9, k9, F9.binds fun _ _ _ _ _ _ us hl => match us, hl with | [_, _, _], _ => rfl⟩
  have C__law_plant : Cal l.prog w K mg base 5 "_law_plant" ["tape", "size", "manner"] (spR K 3 R__law_plant) := ⟨f10, _, ok__law_plant T C__law_draw C__law_feed C__law_curve C__law_stage F10, PySem.W.mg_of X G a10, k10, F10.binds fun _ _ _ _ _ _ us hl => match us, hl with | [_, _, _], _ => rfl⟩
  have C__law_deed : Cal l.prog w K mg base 2 "_law_deed" ["tape", "plant"] (spR K 2 R__law_deed) := ⟨f11, _, ok__law_deed T C__law_draw F11, PySem.W.mg_of X G a11, k11, F11.binds fun _ _ _ _ _ _ us hl => match us, hl with | [_, _], _ => rfl⟩
  have C__law_step : Cal l.prog w K mg base 1 "_law_step" ["curve", "k"] (spR K 2 R__law_step) := ⟨f12, _, ok__law_step T  F12, PySem.W.mg_of X G a12, k12, F12.binds fun _ _ _ _ _ _ us hl => match us, hl with | [_, _], _ => rfl⟩
  have C__law_applies : Cal l.prog w K mg base 2 "_law_applies" ["plant", "runs", "deed"] (spR K 3 R__law_applies) := ⟨f13, _, ok__law_applies T C__law_step F13, PySem.W.mg_of X G a13, k13, F13.binds fun _ _ _ _ _ _ us hl => match us, hl with | [_, _, _], _ => rfl⟩
  have C__law_normal : Cal l.prog w K mg base 1 "_law_normal" ["first", "lead", "turn"] (spR K 3 R__law_normal) := ⟨f14, _, ok__law_normal T  F14, PySem.W.mg_of X G a14, k14, F14.binds fun _ _ _ _ _ _ us hl => match us, hl with | [_, _, _], _ => rfl⟩
  have C__law_bumped : Cal l.prog w K mg base 2 "_law_bumped" ["curve", "k", "more"] (spR K 3 R__law_bumped) := ⟨f15, _, ok__law_bumped T C__law_step C__law_normal F15, PySem.W.mg_of X G a15, k15, F15.binds fun _ _ _ _ _ _ us hl => match us, hl with | [_, _, _], _ => rfl⟩
  have C__law_changed : Cal l.prog w K mg base 3 "_law_changed" ["plant", "runs", "deed"] (spR K 3 R__law_changed) := ⟨f16, _, ok__law_changed T C__law_applies C__law_bumped F16, PySem.W.mg_of X G a16, k16, F16.binds fun _ _ _ _ _ _ us hl => match us, hl with | [_, _, _], _ => rfl⟩
  have b17 : Binds K _ ["told", "due"] [] := F17.binds fun _ _ _ _ _ _ us hl => match us, hl with | [_, _], _ => rfl
  have C__law_same : Cal l.prog w K mg base 7 "_law_same" ["told", "due"] (spR K 2 (R__law_same 7)) := ⟨f17, _, ok__law_same T  F17 (PySem.W.mg_of X G a17) k17 b17 7, PySem.W.mg_of X G a17, k17, b17⟩
  have C_member : Cal l.prog w K mg base 1 "member" ["transient", "period", "at"] (spR K 3 R_member) := ⟨f18, _, ok_member T  F18, PySem.W.mg_of X G a18, k18, F18.binds fun _ _ _ _ _ _ us hl => match us, hl with | [_, _, _], _ => rfl⟩
  have C_increment : Cal l.prog w K mg base 2 "increment" ["curve", "k"] (spR K 2 R_increment) := ⟨f19, _, ok_increment T C_member F19, PySem.W.mg_of X G a19, k19, F19.binds fun _ _ _ _ _ _ us hl => match us, hl with | [_, _], _ => rfl⟩
  have C_replaced : Cal l.prog w K mg base 1 "replaced" ["members", "at", "other"] (spR K 3 R_replaced) := ⟨f20, _, ok_replaced T  F20, PySem.W.mg_of X G a20, k20, F20.binds fun _ _ _ _ _ _ us hl => match us, hl with | [_, _, _], _ => rfl⟩
  have CF_increments : Cal l.prog w K mg base 1 "increments" ["curve", "many"] (spL K 2 RL_increments) := ⟨f21, _, okf_increments T  F21, PySem.W.mg_of X G a21, k21, F21.binds fun _ _ _ _ _ _ us hl => match us, hl with | [_, _], _ => rfl⟩
  have C_prime_factors : Cal l.prog w K mg base 1 "prime_factors" ["number"] (spR K 1 R_prime_factors) := ⟨f22, _, ok_prime_factors T  F22, PySem.W.mg_of X G a22, k22, F22.binds fun _ _ _ _ _ _ us hl => match us, hl with | [_], _ => rfl⟩
  have C_shortest_period : Cal l.prog w K mg base 2 "shortest_period" ["period"] (spR K 1 R_shortest_period) := ⟨f23, _, ok_shortest_period T C_prime_factors F23, PySem.W.mg_of X G a23, k23, F23.binds fun _ _ _ _ _ _ us hl => match us, hl with | [_], _ => rfl⟩
  have C_normal_parts : Cal l.prog w K mg base 3 "normal_parts" ["transient", "period"] (spR K 2 R_normal_parts) := ⟨f24, _, ok_normal_parts T C_shortest_period F24, PySem.W.mg_of X G a24, k24, F24.binds fun _ _ _ _ _ _ us hl => match us, hl with | [_, _], _ => rfl⟩
  have C_normal : Cal l.prog w K mg base 4 "normal" ["curve"] (spR K 1 R_normal) := ⟨f25, _, ok_normal T C_normal_parts F25, PySem.W.mg_of X G a25, k25, F25.binds fun _ _ _ _ _ _ us hl => match us, hl with | [_], _ => rfl⟩
  have C_with_more : Cal l.prog w K mg base 5 "with_more" ["curve", "cycle", "amount"] (spR K 3 R_with_more) := ⟨f26, _, ok_with_more T CF_increments C_normal F26, PySem.W.mg_of X G a26, k26, F26.binds fun _ _ _ _ _ _ us hl => match us, hl with | [_, _, _], _ => rfl⟩
  have C_disrupted_rows : Cal l.prog w K mg base 6 "disrupted_rows" ["rows", "place", "word", "cycle", "amount"] (spR K 5 R_disrupted_rows) := ⟨f27, _, ok_disrupted_rows T C_increment C_replaced C_with_more F27, PySem.W.mg_of X G a27, k27, F27.binds fun _ _ _ _ _ _ us hl => match us, hl with | [_, _, _, _, _], _ => rfl⟩
  have C_disrupted : Cal l.prog w K mg base 7 "disrupted" ["plant", "cycles", "disruption"] (spR K 3 R_disrupted) := ⟨f28, _, ok_disrupted T C_disrupted_rows C_with_more C_replaced F28, PySem.W.mg_of X G a28, k28, F28.binds fun _ _ _ _ _ _ us hl => match us, hl with | [_, _, _], _ => rfl⟩
  exact ok_law T C__law_tape C__law_draw C__law_ramped C__law_plant C__law_deed C__law_changed C__law_same C_disrupted F29
end PF
open PySem PySem.W PyProof.Rows
set_option maxHeartbeats 0 in
theorem PySem.Challenge.cw_plantrace_k48_disrupted_plants_holds : PySem.Challenge.rw_plantrace_k48_disrupted_plants.Holds := by
  w_on; o_law; k_head; (case hw => w_witness2)
  k_fill
  refine L2.walk_of (l := PySem.Challenge.rw_plantrace_k48_disrupted_plants) (n := 63) (k := 8) (x := "script") (CX := fun _ => L2.CX0) (sp := fun w => PD.spLaw _) rfl (by decide) rfl ⟨rfl, by decide, by decide⟩ (fun w h Y => PySem.W.kIn_of Y) ?F (fun _ _ a ns hl _ hS => ⟨a, ns, rfl, hS, hl, fun _ => rfl⟩) (fun _ _ _ _ _ h => h)
  case F =>
    intro w mg fa h KX G hmg
    refine' PF.all_mk KX G hmg ?a0 ?l0 ?c0 ?k0 ?a1 ?l1 ?c1 ?k1 ?a2 ?l2 ?c2 ?k2 ?a3 ?l3 ?c3 ?k3 ?a4 ?l4 ?c4 ?k4 ?a5 ?l5 ?c5 ?k5 ?a6 ?l6 ?c6 ?k6 ?a7 ?l7 ?c7 ?k7 ?a8 ?l8 ?c8 ?k8 ?a9 ?l9 ?c9 ?k9 ?a10 ?l10 ?c10 ?k10 ?a11 ?l11 ?c11 ?k11 ?a12 ?l12 ?c12 ?k12 ?a13 ?l13 ?c13 ?k13 ?a14 ?l14 ?c14 ?k14 ?a15 ?l15 ?c15 ?k15 ?a16 ?l16 ?c16 ?k16 ?a17 ?l17 ?c17 ?k17 ?a18 ?l18 ?c18 ?k18 ?a19 ?l19 ?c19 ?k19 ?a20 ?l20 ?c20 ?k20 ?a21 ?l21 ?c21 ?k21 ?a22 ?l22 ?c22 ?k22 ?a23 ?l23 ?c23 ?k23 ?a24 ?l24 ?c24 ?k24 ?a25 ?l25 ?c25 ?k25 ?a26 ?l26 ?c26 ?k26 ?a27 ?l27 ?c27 ?k27 ?a28 ?l28 ?c28 ?k28 ?a29 ?l29 ?c29 ?k29 ?z_abs ?z_bool ?z_int ?z_isinstance ?z_len ?z_list ?z_max ?z_min ?z_range ?z_str ?z_sum ?z_tuple ?zd_PARTS ?ld_PARTS ?lk_PARTS ?ln_PARTS_0 ?ln_PARTS_1 ?ln_PARTS_2 ?ln_PARTS_3
    (case a0 => k_is)
    (case l0 => k_is)
    (case c0 => k_is)
    (case k0 => k_is)
    (case a1 => k_is)
    (case l1 => k_is)
    (case c1 => k_is)
    (case k1 => k_is)
    (case a2 => k_is)
    (case l2 => k_is)
    (case c2 => k_is)
    (case k2 => k_is)
    (case a3 => k_is)
    (case l3 => k_is)
    (case c3 => k_is)
    (case k3 => k_is)
    (case a4 => k_is)
    (case l4 => k_is)
    (case c4 => k_is)
    (case k4 => k_is)
    (case a5 => k_is)
    (case l5 => k_is)
    (case c5 => k_is)
    (case k5 => k_is)
    (case a6 => k_is)
    (case l6 => k_is)
    (case c6 => k_is)
    (case k6 => k_is)
    (case a7 => k_is)
    (case l7 => k_is)
    (case c7 => k_is)
    (case k7 => k_is)
    (case a8 => k_is)
    (case l8 => k_is)
    (case c8 => k_is)
    (case k8 => k_is)
    (case a9 => k_is)
    (case l9 => k_is)
    (case c9 => k_is)
    (case k9 => k_is)
    (case a10 => k_is)
    (case l10 => k_is)
    (case c10 => k_is)
    (case k10 => k_is)
    (case a11 => k_is)
    (case l11 => k_is)
    (case c11 => k_is)
    (case k11 => k_is)
    (case a12 => k_is)
    (case l12 => k_is)
    (case c12 => k_is)
    (case k12 => k_is)
    (case a13 => k_is)
    (case l13 => k_is)
    (case c13 => k_is)
    (case k13 => k_is)
    (case a14 => k_is)
    (case l14 => k_is)
    (case c14 => k_is)
    (case k14 => k_is)
    (case a15 => k_is)
    (case l15 => k_is)
    (case c15 => k_is)
    (case k15 => k_is)
    (case a16 => k_is)
    (case l16 => k_is)
    (case c16 => k_is)
    (case k16 => k_is)
    (case a17 => k_is)
    (case l17 => k_is)
    (case c17 => k_is)
    (case k17 => k_is)
    (case a18 => k_is)
    (case l18 => k_is)
    (case c18 => k_is)
    (case k18 => k_is)
    (case a19 => k_is)
    (case l19 => k_is)
    (case c19 => k_is)
    (case k19 => k_is)
    (case a20 => k_is)
    (case l20 => k_is)
    (case c20 => k_is)
    (case k20 => k_is)
    (case a21 => k_is)
    (case l21 => k_is)
    (case c21 => k_is)
    (case k21 => k_is)
    (case a22 => k_is)
    (case l22 => k_is)
    (case c22 => k_is)
    (case k22 => k_is)
    (case a23 => k_is)
    (case l23 => k_is)
    (case c23 => k_is)
    (case k23 => k_is)
    (case a24 => k_is)
    (case l24 => k_is)
    (case c24 => k_is)
    (case k24 => k_is)
    (case a25 => k_is)
    (case l25 => k_is)
    (case c25 => k_is)
    (case k25 => k_is)
    (case a26 => k_is)
    (case l26 => k_is)
    (case c26 => k_is)
    (case k26 => k_is)
    (case a27 => k_is)
    (case l27 => k_is)
    (case c27 => k_is)
    (case k27 => k_is)
    (case a28 => k_is)
    (case l28 => k_is)
    (case c28 => k_is)
    (case k28 => k_is)
    (case a29 => k_is)
    (case l29 => k_is)
    (case c29 => k_is)
    (case k29 => k_is)
    (case z_abs => k_is)
    (case z_bool => k_is)
    (case z_int => k_is)
    (case z_isinstance => k_is)
    (case z_len => k_is)
    (case z_list => k_is)
    (case z_max => k_is)
    (case z_min => k_is)
    (case z_range => k_is)
    (case z_str => k_is)
    (case z_sum => k_is)
    (case z_tuple => k_is)
    (case zd_PARTS => k_is)
    (case ld_PARTS => k_is)
    (case lk_PARTS => k_keys)
    (case ln_PARTS_0 => k_is)
    (case ln_PARTS_1 => k_is)
    (case ln_PARTS_2 => k_is)
    (case ln_PARTS_3 => k_is)
