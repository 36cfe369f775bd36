import PyProof.Rows.All
import Wide.All
import OpenK.AllK
import Wide.FinOn
import HandS.Base
import HandS.Call
import HandS.List
import HandS.Comp
import HandS.Ends
import HandS.Words
import HandS.WordsList
import HandS.IsInst
import HandS.Gcd
import HandS.TupAny
import HandS.TupMul
import HandS.Wide
import HandS.WideMore
import HandS.Conv
import HandS.Style
import KE.KTupSum
import HandS.Exc
import HandS.ExcOwn
import HandS.TryOnly
import HandS.WordsExc
import HandS.Iter
import HandS.Zip
import PyProof.Draws
import PyProof.ListNew
import PyProof.EnumIter
import HandS.MapObj
import KE.KMathG
import HandS.IterVal
import PyProof.LayNew
import KE.GoesEnumKw
import HandS.SortKw
import HandS.ExcIs
import HandS.SortInts
import HandS.Strs
import HandS.SetFor
import KE.KDictZip
import PyProof.ZipIter
import KE.GoesMore
import PyProof.WalksMore
import HandS.Star
import HandS.HotCalls
import HandS.ExcField
import KE.KExcIs
import PyProof.Rows.CountFlat
import HandS.TupSets
import KE.GoesRev
import HandS.RaiseMore
import HandS.FStr
import HandS.Flow
import KE.KUnpackStar
import HandS.More
import HandS.Dict
import HandS.SetKeys
import HandS.SetBool
import HandS.DictComp
import HandS.Sort
import KE.KDictPairs
import HandS.Rev
import KE.DataMinMax
import PyProof.Rows.CallKwBuiltin
import HandS.Defaults
import HandS.MakeKwOnly
import HandS.DictTup
import HandS.SortRule
import KE.KEqNest
import HandS.ExcInit
import HandS.ExcSuper
import KE.KSuper
import KE.KExcSuper
import HandS.TryMany
import PyProof.SeqIndex
import PySem.Challenge.RW_plantrace_k93_expediting
set_option Elab.async false
set_option linter.all false
set_option maxRecDepth 100000
/-! PD: a layer over pure data. A ghost heap G (what never changes) lies within the tracked heap H; T tells the tapes. -/
namespace PD
open PySem PySem.Spec PyProof.Rows L2

/-! ### data in a heap that stands still -/
/-- the tuple at a has no dict of its own -/
def PlT (K : PySem.W.Frag) (G : Hp) (a : Addr) : Prop := (∃ (o : Obj) (xs : List V), G a = some (.frz o (.tup xs)) ∧ o.dict = none) ∨ ∃ o : Obj, K.lookup a = some o ∧ o.dict = none
theorem PlT.mono {K : PySem.W.Frag} {G G' : Hp} {a : Addr} (e : Same G G') (h : PlT K G a) : PlT K G' a := by
  rcases h with ⟨o, u, h, d⟩ | h
  · exact .inl ⟨o, u, e _ _ h, d⟩
  · exact .inr h
def kD : Key → PyData
  | .inl i => .int i
  | .inr x => .str x
mutual
inductive Dn (K : PySem.W.Frag) (G : Hp) : V → PyData → Prop
  | non : Dn K G .non .none
  | bl (b : Bool) : Dn K G (.bl b) (.bool b)
  | int (i : Int) : Dn K G (.int i) (.int i)
  | str (x : Str) : Dn K G (.str x) (.str x)
  | lst {a : Addr} {xs : List V} {ds : List PyData} : G a = some (.lst xs) → DnAll K G xs ds → Dn K G (.ref a) (.list ds)
  | tup {a : Addr} {xs : List V} {ds : List PyData} {p : PlT K G a} : SqT K G a xs → DnAll K G xs ds → Dn K G (.ref a) (.tuple ds)
  | dct {a : Addr} {o : Obj} {kvs : List (Key × V)} {ds : List PyData} {es : List (PyData × PyData)} : G a = some (.frz o (.dK kvs)) → DnAll K G (kvs.map (·.2)) ds → es = (kvs.map fun q => kD q.1).zip ds → Dn K G (.ref a) (.dict es)
inductive DnAll (K : PySem.W.Frag) (G : Hp) : List V → List PyData → Prop
  | nil : DnAll K G [] []
  | cons {v : V} {vs : List V} {d : PyData} {ds : List PyData} : Dn K G v d → DnAll K G vs ds → DnAll K G (v :: vs) (d :: ds)
end
theorem sqt_mono {K : PySem.W.Frag} {G G' : Hp} {a : Addr} {xs : List V} (e : Same G G') (h : SqT K G a xs) : SqT K G' a xs := by
  rcases h with (h | ⟨o, h⟩) | h
  · exact .inl (.inl (e _ _ h))
  · exact .inl (.inr ⟨o, e _ _ h⟩)
  · exact .inr h
section
variable {K : PySem.W.Frag} {G G' : Hp}
mutual
theorem Dn.mono (e : Same G G') : ∀ {v : V} {d : PyData}, Dn K G v d → Dn K G' v d
  | _, _, .non => .non
  | _, _, .bl b => .bl b
  | _, _, .int i => .int i
  | _, _, .str x => .str x
  | _, _, .lst h a => .lst (e _ _ h) (DnAll.mono e a)
  | _, _, .tup (p := p) h a => .tup (p := p.mono e) (sqt_mono e h) (DnAll.mono e a)
  | _, _, .dct h a z => .dct (e _ _ h) (DnAll.mono e a) z
theorem DnAll.mono (e : Same G G') : ∀ {vs : List V} {ds : List PyData}, DnAll K G vs ds → DnAll K G' vs ds
  | _, _, .nil => .nil
  | _, _, .cons h t => .cons (Dn.mono e h) (DnAll.mono e t)
end
mutual
theorem Dn.dp : ∀ {v : V} {d : PyData}, Dn K G v d → d.hasDict = false → Dp K G v d
  | _, _, .non, _ => .non
  | _, _, .bl b, _ => .bl b
  | _, _, .int i, _ => .int i
  | _, _, .str x, _ => .str x
  | _, _, .lst h a, z => .lst (.inl (.inl h)) (DnAll.dp a (by simpa only [PyData.hasDict] using z))
  | _, _, .tup h a, z => .tup h (DnAll.dp a (by simpa only [PyData.hasDict] using z))
  | _, _, .dct h a q, z => by simp [PyData.hasDict] at z
theorem DnAll.dp : ∀ {vs : List V} {ds : List PyData}, DnAll K G vs ds → PyData.hasDictAll ds = false → DpAll K G vs ds
  | _, _, .nil, _ => .nil
  | _, _, .cons h t, z => .cons (Dn.dp h (by simp only [PyData.hasDictAll, Bool.or_eq_false_iff] at z; exact z.1)) (DnAll.dp t (by simp only [PyData.hasDictAll, Bool.or_eq_false_iff] at z; exact z.2))
end
theorem DnAll.length : ∀ {vs : List V} {ds : List PyData}, DnAll K G vs ds → vs.length = ds.length
  | _, _, .nil => rfl
  | _, _, .cons _ t => congrArg (· + 1) (DnAll.length t)
theorem DnAll.get : ∀ {vs : List V} {ds : List PyData} {i : Nat} {d : PyData}, DnAll K G vs ds → ds[i]? = some d → ∃ v, vs[i]? = some v ∧ Dn K G v d
  | _, _, _, _, .nil, e => by simp at e
  | _, _, 0, _, .cons r _, e => by
    have e := Option.some.inj e
    subst e
    exact ⟨_, rfl, r⟩
  | _, _, i + 1, d, .cons _ t, e => DnAll.get (i := i) t e
theorem DnAll.get' : ∀ {vs : List V} {ds : List PyData} {i : Nat} {v : V}, DnAll K G vs ds → vs[i]? = some v → ∃ d, ds[i]? = some d ∧ Dn K G v d
  | _, _, _, _, .nil, e => by simp at e
  | _, _, 0, _, .cons r _, e => by
    have e := Option.some.inj e
    subst e
    exact ⟨_, rfl, r⟩
  | _, _, i + 1, d, .cons _ t, e => DnAll.get' (i := i) t e
theorem DnAll.append : ∀ {vs ws : List V} {ds es : List PyData}, DnAll K G vs ds → DnAll K G ws es → DnAll K G (vs ++ ws) (ds ++ es)
  | _, _, _, _, .nil, s => s
  | _, _, _, _, .cons r t, s => .cons r (DnAll.append t s)
theorem DnAll.take : ∀ {vs : List V} {ds : List PyData} (n : Nat), DnAll K G vs ds → DnAll K G (vs.take n) (ds.take n)
  | _, _, 0, _ => .nil
  | _, _, _ + 1, .nil => .nil
  | _, _, n + 1, .cons r t => .cons r (DnAll.take n t)
theorem DnAll.drop : ∀ {vs : List V} {ds : List PyData} (n : Nat), DnAll K G vs ds → DnAll K G (vs.drop n) (ds.drop n)
  | _, _, 0, r => r
  | _, _, _ + 1, .nil => .nil
  | _, _, n + 1, .cons _ t => DnAll.drop n t
theorem DnAll.dropLast {vs : List V} {ds : List PyData} (h : DnAll K G vs ds) : DnAll K G vs.dropLast ds.dropLast := by
  rw [List.dropLast_eq_take, List.dropLast_eq_take, h.length]
  exact h.take _
theorem DnAll.rep : ∀ (n : Nat) {vs : List V} {ds : List PyData}, DnAll K G vs ds → DnAll K G (List.replicate n vs).flatten (List.replicate n ds).flatten
  | 0, _, _, _ => .nil
  | n + 1, _, _, h => by
    rw [List.replicate_succ, List.replicate_succ, List.flatten_cons, List.flatten_cons]
    exact h.append (DnAll.rep n h)
theorem DnAll.set : ∀ {vs : List V} {ds : List PyData} {v : V} {d : PyData} (i : Nat), DnAll K G vs ds → Dn K G v d → DnAll K G (vs.set i v) (ds.set i d)
  | _, _, _, _, _, .nil, _ => .nil
  | _, _, _, _, 0, .cons _ t, h => .cons h t
  | _, _, _, _, i + 1, .cons r t, h => .cons r (DnAll.set i t h)
theorem DnAll.rev {vs : List V} {ds : List PyData} (h : DnAll K G vs ds) : DnAll K G vs.reverse ds.reverse := by
  induction vs generalizing ds with
  | nil => cases h; exact .nil
  | cons v vs ih =>
    cases h with
    | cons r t =>
      rw [List.reverse_cons, List.reverse_cons]
      exact (ih t).append (.cons r .nil)
theorem DnAll.ints : ∀ {vs : List V} {ns : List Int}, DnAll K G vs (ns.map PyData.int) → vs = ns.map V.int
  | _, [], .nil => rfl
  | _, n :: ns, .cons h t => by
    cases h
    rw [DnAll.ints t]
    rfl
theorem DnAll.bools : ∀ {vs : List V} {ns : List Bool}, DnAll K G vs (ns.map PyData.bool) → vs = ns.map V.bl
  | _, [], .nil => rfl
  | _, n :: ns, .cons h t => by
    cases h
    rw [DnAll.bools t]
    rfl
theorem DnAll.of_ints : ∀ (ns : List Int), DnAll K G (ns.map V.int) (ns.map PyData.int)
  | [] => .nil
  | n :: ns => .cons (.int n) (DnAll.of_ints ns)
end

/-! ### tapes -/
/-- a tape: the script's numbers, the place, what is left of a number, the mixed one -/
def Tp (G H : Hp) (a : Addr) : Prop := ∃ (b : Addr) (ns : List Int) (place rest mixed : Int), H a = some (.lst [.ref b, .int place, .int rest, .int mixed]) ∧ G b = some (.lst (ns.map V.int)) ∧ G a = none ∧
  0 ≤ place ∧ 0 ≤ rest ∧ 0 ≤ mixed ∧ mixed < 2147483647
structure Step (T : Addr → Prop) (G H G' H' : Hp) : Prop where
  g : Same G G'
  gh : Same G' H'
  h : ∀ p o, ¬ T p → H p = some o → H' p = some o
  fr : ∀ p, G p = none → H p ≠ none → G' p = none
  tp : ∀ a, T a → Tp G' H' a
theorem Step.no {T : Addr → Prop} {G H G' H' : Hp} (s : Step T G H G' H') {p : Addr} (h : H' p = none) (nt : ¬ T p) : H p = none := by
  cases q : H p with
  | none => rfl
  | some o =>
    rw [s.h p o nt q] at h
    cases h
theorem Step.so {T : Addr → Prop} {G H G' H' : Hp} (s : Step T G H G' H') {p : Addr} (h : H p ≠ Option.none) : H' p ≠ Option.none := by
  intro z
  by_cases t : T p
  · obtain ⟨b, ns, x, y, m, e, _⟩ := s.tp p t
    rw [e] at z
    cases z
  · exact h (s.no z t)
theorem Step.trans {T : Addr → Prop} {G H G1 H1 G2 H2 : Hp} (a : Step T G H G1 H1) (b : Step T G1 H1 G2 H2) : Step T G H G2 H2 where
  g := a.g.trans b.g
  gh := b.gh
  h := fun p o nt e => b.h p o nt (a.h p o nt e)
  fr := fun p e n => b.fr p (a.fr p e n) (a.so n)
  tp := b.tp
theorem Step.refl {T : Addr → Prop} {G H : Hp} (gh : Same G H) (tp : ∀ a, T a → Tp G H a) : Step T G H G H := ⟨Same.refl _, gh, fun _ _ _ e => e, fun _ e _ => e, tp⟩
theorem Tp.mono {G H G' H' : Hp} {a : Addr} (t : Tp G H a) (g : Same G G') (h : H' a = H a) (n : G' a = none) : Tp G' H' a := by
  obtain ⟨b, ns, x, y, m, e, eb, ea, r⟩ := t
  exact ⟨b, ns, x, y, m, h.trans e, g _ _ eb, n, r⟩
/-- a pure step within one with tapes -/
theorem Step.pure {T : Addr → Prop} {G H G' H' : Hp} (s : Step (fun _ => False) G H G' H') (tp : ∀ a, T a → Tp G H a) : Step T G H G' H' where
  g := s.g
  gh := s.gh
  h := fun p o _ e => s.h p o id e
  fr := s.fr
  tp := fun a t => by
    have q := tp a t
    obtain ⟨b, ns, x, y, m, e, eb, ea, r⟩ := id q
    exact q.mono s.g ((s.h a _ id e).trans e.symm) (s.fr a ea (by rw [e]; intro z; cases z))
/-- a new object, of the data -/
theorem Step.new {T : Addr → Prop} {G H : Hp} {p : Addr} {o : HO} (gh : Same G H) (tp : ∀ a, T a → Tp G H a) (hp : H p = none) : Step T G H (upd G p o) (upd H p o) := by
  have gp : G p = Option.none := gh.free hp
  refine ⟨fun a u e => by rw [upd_ne (ne_of_none e gp)]; exact e, fun a u e => ?_, fun a u _ e => by rw [upd_ne (ne_of_none e hp)]; exact e, fun a e n => ?_, fun a t => ?_⟩
  · by_cases q : a = p
    · rw [q, upd_same] at e ⊢
      exact e
    · rw [upd_ne q] at e ⊢
      exact gh _ _ e
  · rw [upd_ne (fun z => n (by rw [z]; exact hp))]
    exact e
  · have q := tp a t
    obtain ⟨b, ns, x, y, m, e, eb, ea, r⟩ := id q
    have nap : a ≠ p := ne_of_none e hp
    refine q.mono (fun c u ec => by rw [upd_ne (ne_of_none ec gp)]; exact ec) (upd_ne nap) ?_
    rw [upd_ne nap]
    exact ea
/-- a new object that is not of the data (a list to be changed) -/
theorem Step.newM {T : Addr → Prop} {G H : Hp} {p : Addr} {o : HO} (gh : Same G H) (tp : ∀ a, T a → Tp G H a) (hp : H p = none) : Step T G H G (upd H p o) := by
  refine ⟨Same.refl _, fun a u e => ?_, fun a u _ e => by rw [upd_ne (ne_of_none e hp)]; exact e, fun a e n => e, fun a t => ?_⟩
  · rw [upd_ne (ne_of_none (gh _ _ e) hp)]
    exact gh _ _ e
  · have q := tp a t
    obtain ⟨b, ns, x, y, m, e, eb, ea, r⟩ := id q
    exact q.mono (Same.refl _) (upd_ne (ne_of_none e hp)) ea

/-! ### what the slots hold -/
/-- what may be changed: the places of its own, what the slot's value and they hold -/
structure Mo where
  fp : List Addr
  ok : PySem.W.Frag → Hp → Hp → Option V → Prop
  frame : ∀ {K : PySem.W.Frag} {G G' H H' : Hp} {o : Option V}, Same G G' → (∀ a, a ∈ fp → H' a = H a) → ok K G H o → ok K G' H' o
inductive Sl where
  | no
  | d (x : PyData)
  | ml (xs : List PyData)
  | tp
  | rf (a : Addr)
  | rg (lo hi : Int)
  | mx (m : Mo)
/-- the places that a slot's value has for itself -/
def Sl.fp : Sl → Option V → Addr → Prop
  | .ml _, o, a => o = some (.ref a)
  | .mx m, _, a => a ∈ m.fp
  | _, _, _ => False
abbrev Rho := List Sl
def SlOk (T : Addr → Prop) (K : PySem.W.Frag) (H0 G H : Hp) : Sl → Option V → Prop
  | .no, _ => True
  | .d x, o => ∃ v, o = some v ∧ Dn K G v x
  | .ml xs, o => ∃ l vs, o = some (.ref l) ∧ H l = some (.lst vs) ∧ DnAll K G vs xs ∧ G l = none ∧ H0 l = none ∧ ¬ T l
  | .tp, o => ∃ a, o = some (.ref a) ∧ T a
  | .rf a, o => o = some (.ref a)
  | .rg lo hi, o => ∃ a, o = some (.ref a) ∧ G a = some (.rng lo hi)
  | .mx m, o => m.ok K G H o ∧ ∀ a, a ∈ m.fp → H a ≠ none ∧ G a = none ∧ H0 a = none ∧ ¬ T a
structure Den (T : Addr → Prop) (K : PySem.W.Frag) (H0 G H : Hp) (σ : L2.St) (ρ : Rho) : Prop where
  len : σ.length = ρ.length
  ok : ∀ (i : Nat) (s : Sl) (o : Option V), ρ[i]? = some s → σ[i]? = some o → SlOk T K H0 G H s o
  one : ∀ (i j : Nat) (s t : Sl) (o u : Option V) (l : Addr), i ≠ j → ρ[i]? = some s → ρ[j]? = some t → σ[i]? = some o → σ[j]? = some u → s.fp o l → ¬ t.fp u l
section
variable {T : Addr → Prop} {K : PySem.W.Frag} {H0 G H G' H' : Hp} {σ : L2.St} {ρ : Rho}
theorem SlOk.mono (s : Step T G H G' H') {x : Sl} {o : Option V} (h : SlOk T K H0 G H x o) : SlOk T K H0 G' H' x o := by
  cases x with
  | no => trivial
  | d x => exact let ⟨v, e, d⟩ := h; ⟨v, e, d.mono s.g⟩
  | ml xs =>
    obtain ⟨l, vs, e, hl, d, gl, h0, nt⟩ := h
    exact ⟨l, vs, e, s.h l _ nt hl, d.mono s.g, s.fr l gl (by rw [hl]; intro z; cases z), h0, nt⟩
  | tp => exact h
  | rf a => exact h
  | rg lo hi => exact let ⟨a, e, g⟩ := h; ⟨a, e, s.g _ _ g⟩
  | mx m =>
    have at' : ∀ a, a ∈ m.fp → H' a = H a := fun a ha => by
      obtain ⟨hl, gl, h0, nt⟩ := h.2 a ha
      cases q : H a with
      | none => exact absurd q hl
      | some u => exact s.h a u nt q
    exact ⟨m.frame s.g at' h.1, fun a ha => by
      obtain ⟨hl, gl, h0, nt⟩ := h.2 a ha
      exact ⟨by rw [at' a ha]; exact hl, s.fr a gl hl, h0, nt⟩⟩
theorem Den.mono (h : Den T K H0 G H σ ρ) (s : Step T G H G' H') : Den T K H0 G' H' σ ρ := ⟨h.len, fun i x o e1 e2 => (h.ok i x o e1 e2).mono s, h.one⟩
theorem Den.at (h : Den T K H0 G H σ ρ) {i : Nat} {s : Sl} (e : ρ[i]? = some s) : ∃ o, σ[i]? = some o ∧ SlOk T K H0 G H s o := by
  have hi : i < σ.length := by rw [h.len]; exact (List.getElem?_eq_some_iff.mp e).1
  exact ⟨σ[i], List.getElem?_eq_getElem hi, h.ok i s _ e (List.getElem?_eq_getElem hi)⟩
theorem Den.live (h : Den T K H0 G H σ ρ) {j : Nat} {s : Sl} {o : Option V} {l : Addr} (e : ρ[j]? = some s) (e2 : σ[j]? = some o) (f : s.fp o l) : H l ≠ none := by
  have q := h.ok j s _ e e2
  cases s with
  | ml xs =>
    obtain ⟨a, vs, ea, hl, _⟩ := q
    have f : o = some (.ref l) := f
    rw [f] at ea
    cases ea
    rw [hl]
    intro z
    cases z
  | mx w => exact (q.2 l f).1
  | _ => exact f.elim
/-- a slot gets data (or nothing is known of it) -/
theorem Den.set (h : Den T K H0 G H σ ρ) {i : Nat} {s : Sl} {o : Option V} (hs : SlOk T K H0 G H s o) (nm : ∀ a, ¬ s.fp o a) : Den T K H0 G H (σ.set i o) (ρ.set i s) := by
  refine ⟨by rw [List.length_set, List.length_set]; exact h.len, fun j x u e1 e2 => ?_, fun j k xs ys p q l hjk e1 e2 e3 e4 f1 f2 => ?_⟩
  · by_cases q : i = j
    · subst q
      have hi : i < ρ.length := by
        have := (List.getElem?_eq_some_iff.mp e1).1
        rwa [List.length_set] at this
      rw [List.getElem?_set_self hi] at e1
      rw [List.getElem?_set_self (by rw [h.len]; exact hi)] at e2
      cases e1
      cases e2
      exact hs
    · rw [List.getElem?_set_ne q] at e1 e2
      exact h.ok j x u e1 e2
  · have ni : ∀ {j : Nat} {zs : Sl} {p : Option V}, (ρ.set i s)[j]? = some zs → (σ.set i o)[j]? = some p → zs.fp p l → i ≠ j := fun {j zs p} e e' m q => by
      subst q
      have hi : i < ρ.length := by
        have := (List.getElem?_eq_some_iff.mp e).1
        rwa [List.length_set] at this
      rw [List.getElem?_set_self hi] at e
      rw [List.getElem?_set_self (by rw [h.len]; exact hi)] at e'
      cases e
      cases e'
      exact nm l m
    have n1 := ni e1 e3 f1
    have n2 := ni e2 e4 f2
    rw [List.getElem?_set_ne n1] at e1 e3
    rw [List.getElem?_set_ne n2] at e2 e4
    exact h.one j k xs ys p q l hjk e1 e2 e3 e4 f1 f2
end

/-! ### the judgements -/
def Pe (K : PySem.W.Frag) (te : TE) (ρ : Rho) (P : PyData → Prop) : Prop := ∀ (T : Addr → Prop) (H0 G H : Hp) (σ : L2.St), Same G H → (∀ a, T a → Tp G H a) → Den T K H0 G H σ ρ →
  ∀ Q : VK, (∀ d v G' H', P d → Step T G H G' H' → Dn K G' v d → Q v H') → te σ H Q
abbrev Pd (K : PySem.W.Frag) (te : TE) (ρ : Rho) (d : PyData) : Prop := Pe K te ρ (fun x => x = d)
/-- a list to be read now -/
def RdL (T : Addr → Prop) (G H : Hp) (p : Addr) (vs : List V) : Prop := G p = some (.lst vs) ∨ (H p = some (.lst vs) ∧ ¬ T p)
def Rl (K : PySem.W.Frag) (te : TE) (ρ : Rho) (P : List PyData → Prop) : Prop := ∀ (T : Addr → Prop) (H0 G H : Hp) (σ : L2.St), Same G H → (∀ a, T a → Tp G H a) → Den T K H0 G H σ ρ →
  ∀ Q : VK, (∀ xs p vs G' H', P xs → Step T G H G' H' → RdL T G' H' p vs → DnAll K G' vs xs → Q (.ref p) H') → te σ H Q
def Pt (K : PySem.W.Frag) (t : TT) (ρ : Rho) (P : Bool → Prop) : Prop := ∀ (T : Addr → Prop) (H0 G H : Hp) (σ : L2.St), Same G H → (∀ a, T a → Tp G H a) → Den T K H0 G H σ ρ →
  ∀ Q : Bool → Hp → Prop, (∀ b G' H', P b → Step T G H G' H' → Q b H') → t σ H Q
abbrev Ptd (K : PySem.W.Frag) (t : TT) (ρ : Rho) (b : Bool) : Prop := Pt K t ρ (fun x => x = b)
/-- arguments: data and tapes -/
def ArgOk (T : Addr → Prop) (K : PySem.W.Frag) (G : Hp) : Sl → V → Prop
  | .d x, v => Dn K G v x
  | .tp, v => ∃ a, v = .ref a ∧ T a
  | _, _ => False
abbrev ArgsOk (T : Addr → Prop) (K : PySem.W.Frag) (G : Hp) : List Sl → List V → Prop := Paired (ArgOk T K G)
def Pas (K : PySem.W.Frag) (ta : TA) (ρ : Rho) (P : List Sl → Prop) : Prop := ∀ (T : Addr → Prop) (H0 G H : Hp) (σ : L2.St), Same G H → (∀ a, T a → Tp G H a) → Den T K H0 G H σ ρ →
  ∀ Q : List V → Hp → Prop, (∀ ss vs G' H', P ss → Step T G H G' H' → ArgsOk T K G' ss vs → Q vs H') → ta σ H Q
abbrev Pasd (K : PySem.W.Frag) (ta : TA) (ρ : Rho) (ss : List Sl) : Prop := Pas K ta ρ (fun x => x = ss)

theorem RdL.sq {T : Addr → Prop} {K : PySem.W.Frag} {G H : Hp} {p : Addr} {vs : List V} (h : RdL T G H p vs) (gh : Same G H) : SqL K H p vs := by
  rcases h with h | ⟨h, _⟩
  · exact .inl (.inl (gh _ _ h))
  · exact .inl (.inl h)
theorem RdL.at {T : Addr → Prop} {G H : Hp} {p : Addr} {vs : List V} (h : RdL T G H p vs) (gh : Same G H) : H p = some (.lst vs) := by
  rcases h with h | ⟨h, _⟩
  · exact gh _ _ h
  · exact h
theorem RdL.mono {T : Addr → Prop} {G H G' H' : Hp} {p : Addr} {vs : List V} (h : RdL T G H p vs) (s : Step T G H G' H') : RdL T G' H' p vs := by
  rcases h with h | ⟨h, n⟩
  · exact .inl (s.g _ _ h)
  · exact .inr ⟨s.h _ _ n h, n⟩
theorem ArgOk.mono {T : Addr → Prop} {K : PySem.W.Frag} {G G' : Hp} (g : Same G G') : ∀ {s : Sl} {v : V}, ArgOk T K G s v → ArgOk T K G' s v
  | .d _, _, h => Dn.mono g h
  | .tp, _, h => h
theorem ArgsOk.mono {T : Addr → Prop} {K : PySem.W.Frag} {G G' : Hp} (g : Same G G') {ss : List Sl} {vs : List V} (h : ArgsOk T K G ss vs) : ArgsOk T K G' ss vs := Paired.mapP h fun _ _ q => q.mono g

section
variable {K : PySem.W.Frag} {ρ : Rho} {te ta tb tc : TE} {P P' : PyData → Prop}
theorem Pe.imp (h : Pe K te ρ P) (i : ∀ d, P d → P' d) : Pe K te ρ P' := fun T H0 G H σ gh tp D Q q => h T H0 G H σ gh tp D Q fun d v G' H' p => q d v G' H' (i d p)
theorem Pe.to {d e : PyData} (h : Pd K te ρ d) (i : d = e) : Pd K te ρ e := i ▸ h
theorem yd_of {d : PyData} (h : Pd K te ρ d) (i : P d) : Pe K te ρ P := h.imp fun x e => e ▸ i
/-- the two steps of an operation -/
theorem Pe.bind {Q : VK} {T : Addr → Prop} {H0 G H : Hp} {σ : L2.St} (h : Pe K te ρ P) (gh : Same G H) (tp : ∀ a, T a → Tp G H a) (D : Den T K H0 G H σ ρ)
    (k : ∀ d v G' H', P d → Step T G H G' H' → Same G' H' → (∀ a, T a → Tp G' H' a) → Den T K H0 G' H' σ ρ → Dn K G' v d → Q v H') : te σ H Q :=
  h T H0 G H σ gh tp D Q fun d v G' H' p s x => k d v G' H' p s s.gh s.tp (D.mono s) x
theorem Rl.bind {PL : List PyData → Prop} {Q : VK} {T : Addr → Prop} {H0 G H : Hp} {σ : L2.St} (h : Rl K te ρ PL) (gh : Same G H) (tp : ∀ a, T a → Tp G H a) (D : Den T K H0 G H σ ρ)
    (k : ∀ xs p vs G' H', PL xs → Step T G H G' H' → Same G' H' → (∀ a, T a → Tp G' H' a) → Den T K H0 G' H' σ ρ → RdL T G' H' p vs → DnAll K G' vs xs → Q (.ref p) H') : te σ H Q :=
  h T H0 G H σ gh tp D Q fun xs p vs G' H' a s x y => k xs p vs G' H' a s s.gh s.tp (D.mono s) x y
theorem Pas.bind {tr : TA} {PA : List Sl → Prop} {Q : List V → Hp → Prop} {T : Addr → Prop} {H0 G H : Hp} {σ : L2.St} (h : Pas K tr ρ PA) (gh : Same G H) (tp : ∀ a, T a → Tp G H a) (D : Den T K H0 G H σ ρ)
    (k : ∀ ss vs G' H', PA ss → Step T G H G' H' → Same G' H' → (∀ a, T a → Tp G' H' a) → Den T K H0 G' H' σ ρ → ArgsOk T K G' ss vs → Q vs H') : tr σ H Q :=
  h T H0 G H σ gh tp D Q fun ss vs G' H' a s x => k ss vs G' H' a s s.gh s.tp (D.mono s) x

/-! ### names, constants -/
theorem ye_v {i : Nat} {d : PyData} (e : ρ[i]? = some (.d d)) : Pd K (tVar i) ρ d := fun T H0 G H σ gh tp D Q q => by
  obtain ⟨o, e1, v, rfl, x⟩ := D.at e
  exact ⟨v, e1, q d v G H rfl (Step.refl gh tp) x⟩
theorem ye_i {i : Int} : Pd K (tC (.int i)) ρ (.int i) := fun T H0 G H σ gh tp D Q q => q _ _ G H rfl (Step.refl gh tp) (.int i)
theorem ye_b {b : Bool} : Pd K (tC (.bl b)) ρ (.bool b) := fun T H0 G H σ gh tp D Q q => q _ _ G H rfl (Step.refl gh tp) (.bl b)
theorem ye_n : Pd K (tC .non) ρ .none := fun T H0 G H σ gh tp D Q q => q _ _ G H rfl (Step.refl gh tp) .non
theorem ye_s {x : Str} : Pd K (tC (.str x)) ρ (.str x) := fun T H0 G H σ gh tp D Q q => q _ _ G H rfl (Step.refl gh tp) (.str x)
theorem rl_v {i : Nat} {xs : List PyData} (e : ρ[i]? = some (.ml xs)) : Rl K (tVar i) ρ (fun x => x = xs) := fun T H0 G H σ gh tp D Q q => by
  obtain ⟨o, e1, l, vs, rfl, hl, x, gl, h0, nt⟩ := D.at e
  exact ⟨_, e1, q xs l vs G H rfl (Step.refl gh tp) (.inr ⟨hl, nt⟩) x⟩
theorem rl_of {xs : List PyData} (h : Pd K te ρ (.list xs)) : Rl K te ρ (fun x => x = xs) := fun T H0 G H σ gh tp D Q q =>
  h T H0 G H σ gh tp D Q fun d v G' H' p s x => by
    subst p
    cases x with
    | lst e a => exact q xs _ _ G' H' rfl s (.inl e) a

/-! ### operations on ints -/
theorem ye_int2 {r : R2} {Pa Pb : PyData → Prop} (ha : Pe K ta ρ Pa) (hb : Pe K tb ρ Pb) (h : ∀ x y, Pa x → Pb y → ∃ i j d v, x = .int i ∧ y = .int j ∧ P d ∧ (∀ G, Dn K G v d) ∧ ∀ H (Q : VK), Q v H → r (.int i) (.int j) H Q) : Pe K (tOp r ta tb) ρ P :=
  fun T H0 G H σ gh tp D Q q => ha.bind gh tp D fun x v G1 H1 p1 s1 gh1 tp1 D1 x1 => hb.bind gh1 tp1 D1 fun y u G2 H2 p2 s2 gh2 tp2 D2 x2 => by
    obtain ⟨i, j, d, z, rfl, rfl, hP, hz, hr⟩ := h x y p1 p2
    cases x1
    cases x2
    exact hr H2 Q (q d z G2 H2 hP (s1.trans s2) (hz G2))
theorem ye_I0 {g : Int → Int → V} {f : Int → Int → PyData} {Pa Pb : PyData → Prop} (ha : Pe K ta ρ Pa) (hb : Pe K tb ρ Pb) (hf : ∀ i j G, Dn K G (g i j) (f i j)) (h : ∀ x y, Pa x → Pb y → ∃ i j, x = .int i ∧ y = .int j ∧ P (f i j)) : Pe K (tOp (rI0 g) ta tb) ρ P :=
  ye_int2 ha hb fun x y p1 p2 => let ⟨i, j, e1, e2, p⟩ := h x y p1 p2; ⟨i, j, f i j, g i j, e1, e2, p, hf i j, fun H Q q => ⟨i, j, rfl, rfl, q⟩⟩
theorem ye_IC {C : Int → Int → Prop} {g : Int → Int → V} {f : Int → Int → PyData} {Pa Pb : PyData → Prop} (ha : Pe K ta ρ Pa) (hb : Pe K tb ρ Pb) (hf : ∀ i j G, Dn K G (g i j) (f i j)) (h : ∀ x y, Pa x → Pb y → ∃ i j, x = .int i ∧ y = .int j ∧ C i j ∧ P (f i j)) : Pe K (tOp (rI C g) ta tb) ρ P :=
  ye_int2 ha hb fun x y p1 p2 => let ⟨i, j, e1, e2, c, p⟩ := h x y p1 p2; ⟨i, j, f i j, g i j, e1, e2, p, hf i j, fun H Q q => ⟨i, j, rfl, rfl, c, q⟩⟩
end
end PD

namespace PD
open PySem PySem.Spec PyProof.Rows L2

/-! ### rules that serve any kind -/
section
variable {X : Cx}
/-- a new tuple of these -/
abbrev NewT (H : Hp) (xs : List V) (Q : VK) : Prop := ∀ (p : Addr) (o : Obj), H p = none → o.dict = none → Q (.ref p) (upd H p (.frz o (.tup xs)))
theorem fin_tup {pins : List (Addr × Obj)} {σ : L2.St} {H : Hp} {s : Shared} (I : Inv X pins σ H s) {xs : List V} {its : List Value} {Q : VK} (r : Vals xs its) (hz : xs.length ≤ sizeLine) (q : NewT H xs Q) :
    EP X pins σ Q (.ref s.heap.objs.size) { s with heap := s.heap.push { cls := .type "tuple", data := .seq its.toArray } } :=
  ⟨.ref s.heap.objs.size, upd H s.heap.objs.size (.frz { cls := .type "tuple", data := .seq its.toArray } (.tup xs)),
    I.laid (t' := s.toks) (o := .frz { cls := .type "tuple", data := .seq its.toArray } (.tup xs)) (fun _ _ => Heap.get?_push_of_some _) (Nat.le_refl _) ⟨Heap.get?_push_size _ rfl, hz, its, r, IsTup.new _ _⟩, rfl, q _ _ (I.hok.fresh (Nat.le_refl _)) rfl⟩
def tTuq (t : TA) : TE := fun σ H Q => t σ H fun xs H1 => xs.length ≤ sizeLine ∧ NewT H1 xs Q
theorem pe_tuq {es : List Expr} {t : TA} {x1 pos} (h : PA X es t) : PE X (.Tuple es x1 pos) (tTuq t) :=
  ⟨fun pins s σ H Q I hq => wpAny_Tuple_spliced (thn (h.run pos pins s σ H _ I hq) fun us s1 ⟨xs, H1, I1, r, z, q⟩ => ⟨by rw [← r.length]; exact z, fin_tup I1 r z q⟩)⟩
/-- t + u -/
def rCatQ (K : PySem.W.Frag) : R2 := fun x y H Q => ∃ a b xs ys, x = .ref a ∧ y = .ref b ∧ SqT K H a xs ∧ SqT K H b ys ∧ xs.length + ys.length ≤ sizeLine ∧
  (xs = [] → Q (.ref b) H) ∧ (xs ≠ [] → ys = [] → Q (.ref a) H) ∧ (xs ≠ [] → ys ≠ [] → NewT H (xs ++ ys) Q)
theorem op_catQ : OpR X (binaryOp .Add) (rCatQ X.K) := by
  intro pins s σ H x y v u Q I rx ry ⟨a, b, xs, ys, ex, ey, ha, hb, hz, q0, q1, q2⟩
  subst ex ey
  cases rx
  cases ry
  obtain ⟨its, r1, p1, _⟩ := I.tuple ha
  obtain ⟨ots, r2, p2, _⟩ := I.tuple hb
  by_cases hx : xs = []
  · subst hx
    cases r1
    exact cat_tup0 p1 p2 ⟨.ref b, H, I, rfl, q0 rfl⟩
  · refine HT.cat_tup p1 p2 (fun w => hx (r1.nil_iff.mp w)) (fun w => ⟨.ref a, H, I, rfl, q1 hx (r2.nil_iff.mp w)⟩) (fun w => ?_) (by rw [← r1.length, ← r2.length]; exact hz)
    exact fin_tup I (r1.append r2) (by rw [List.length_append]; exact hz) (q2 hx fun e => w (r2.nil_iff.mpr e))
/-- t[lo:hi] -/
def rSlQ (K : PySem.W.Frag) : V → Option Int → Option Int → Hp → VK → Prop := fun x lo hi H Q => ∃ a xs, x = .ref a ∧ SqT K H a xs ∧
  (HT.sIx xs.length 0 lo = 0 ∧ HT.sIx xs.length xs.length hi = xs.length → Q (.ref a) H) ∧ (¬ (HT.sIx xs.length 0 lo = 0 ∧ HT.sIx xs.length xs.length hi = xs.length) → NewT H (cutV xs lo hi) Q)
theorem sl_tupQ : SlR X (rSlQ X.K) := by
  intro pins s σ H x v vl vu lo hi sl Q I rx hs pl pu ⟨a, xs, ex, hx, q1, q2⟩
  subst ex
  cases rx
  obtain ⟨its, r, ht, hz⟩ := I.tuple hx
  have en : its.toArray.size = xs.length := (List.size_toArray ..).trans r.length.symm
  refine ⟨"tuple", _, PyProof.Rows.slot_tuple_getitem.lookup, ht.typeIs, ?_⟩
  by_cases hw : HT.sIx xs.length 0 lo = 0 ∧ HT.sIx xs.length xs.length hi = xs.length
  · exact getItem_tuple_whole ht hs pl pu (en.symm ▸ hw) ⟨.ref a, H, I, rfl, q1 hw⟩
  · refine HT.getItem_tuple_cut ht hs pl pu (en.symm ▸ hw) ?_ (en.symm ▸ hz)
    rw [en]
    exact fin_tup I ((r.drop (HT.sIx xs.length 0 lo)).take _) (Nat.le_trans (cutV_length xs lo hi) hz) (q2 hw)
def rTupQ (K : PySem.W.Frag) : List V → Hp → VK → Prop := fun xs H Q => ∃ p ys, xs = [V.ref p] ∧ ((SqL K H p ys ∧ NewT H ys Q) ∨ (SqT K H p ys ∧ Q (.ref p) H))
theorem call_tupQ : CallR X (.type "tuple") (rTupQ X.K) := by
  intro pins s σ H xs us Q I r ⟨p, ys, ex, h⟩
  subst ex
  obtain ⟨u, eu, rx⟩ := vals1 r
  subst eu
  cases rx
  rcases h with ⟨hq, q⟩ | ⟨hq, q⟩
  · obtain ⟨its, rv, pl, hz⟩ := I.list hq
    have hn := rv.length
    exact call_tuple_list pl.isList (fun h' kp => fin_tup (s := { s with heap := h' }) (I.kept (t' := s.toks) kp) rv hz q) (by simp only [List.size_toArray]; omega)
  · obtain ⟨its, rv, pl, hz⟩ := I.tuple hq
    exact call_tuple_same pl ⟨.ref p, H, I, rfl, q⟩
/-- t * k, k from 2 on -/
def rRepQ (K : PySem.W.Frag) : R2 := fun x y H Q => ∃ l k xs, x = .ref l ∧ y = .int k ∧ SqT K H l xs ∧ xs ≠ [] ∧ 2 ≤ k ∧ k ≤ 1000 ∧ xs.length ≤ 1000 ∧ NewT H (List.replicate k.toNat xs).flatten Q
theorem op_repQ : OpR X (binaryOp .Mult) (rRepQ X.K) := by
  intro pins s σ H x y v u Q I rx ry ⟨l, k, xs, ex, ey, hT, hne, h1, h2, hz, q⟩
  subst ex ey
  cases rx
  obtain ⟨t, rfl⟩ := ry
  obtain ⟨its, r, ⟨⟨cls, dd, data, sl⟩, ho, hc, n, hd⟩, _⟩ := I.tuple hT
  simp only at hc hd
  subst hc hd
  have le : its.length = xs.length := r.length.symm
  have ln : 0 < its.length := by rw [le]; exact List.length_pos_iff.mpr hne
  have ie : its.toArray.isEmpty = false := by rw [List.isEmpty_toArray]; cases its with | nil => exact absurd ln (Nat.lt_irrefl _) | cons _ _ => rfl
  have is : its.toArray.size = xs.length := (List.size_toArray ..).trans le
  have prod : k.toNat * xs.length ≤ 1000 * 1000 := Nat.mul_le_mul (by omega) hz
  have prodI : ((its.toArray.size : Nat) : Int) * k ≤ 1000000 := by
    have : ((xs.length : Nat) : Int) * k ≤ 1000 * k := Int.mul_le_mul_of_nonneg_right (by omega) (by omega)
    rw [is]
    omega
  have fl : ∀ {α : Type} {zs : List α}, zs.length = xs.length → (List.replicate k.toNat zs).flatten.length ≤ sizeLine := fun {_ zs} e => by
    rw [PyProof.Rows.lm_len_rep_flat, e, sizeLine_eq]
    omega
  have c0 : (decide (k < -(2 ^ 63)) || decide (k ≥ 2 ^ 63)) = false := Bool.or_eq_false_iff.mpr ⟨decide_eq_false (by omega), decide_eq_false (by omega)⟩
  have c1 : (its.toArray.isEmpty || k == 1) = false := Bool.or_eq_false_iff.mpr ⟨ie, beq_eq_false_iff_ne.mpr (by omega)⟩
  have c2 : (decide (k ≤ 0) || its.toArray.isEmpty) = false := Bool.or_eq_false_iff.mpr ⟨decide_eq_false (by omega), ie⟩
  have c4 : Builtin.Tuple.tupleTooMany (((its.toArray.size : Nat) : Int) * k) = false := decide_eq_false (by rw [sizeLine_eq]; omega)
  have go := tuple_mulW l its.toArray n dd sl k t c0 c1 c2 (by omega) c4 (by rw [size_rep, List.size_toArray]; exact fl le)
  refine wpAny_binaryOp_repeat_ref (T := "tuple") (U := "int") (by decide) ⟨_, ho, rfl⟩ (fun s' => typeIs_int s' k t) noFill_tuple_mul F.fills_int_mul F.slot_int_rmul repeat_tuple F.slot_int_index.lookup ?_
  refine call_meets F.slot_int_rmul (typeIs_int s k t) F.entry_int_rmul (F.args_int_rmul_2 _ _) (int_rmul_tuple k t l its.toArray n dd sl) ⟨ho, rfl, ⟨_, ho, rfl⟩, ?_⟩
  refine call_meets F.slot_tuple_mul ⟨_, ho, rfl⟩ F.entry_tuple_mul (F.args_tuple_mul_2 _ _) go ⟨ho, ?_⟩
  rw [size_rep]
  exact fin_tup I (r.rep k.toNat) (fl rfl) q
def rPlus (K : PySem.W.Frag) : R2 := fun x y H Q => rI0 (fun i j => .int (i + j)) x y H Q ∨ (rCat x y H Q ∨ rCatQ K x y H Q)
theorem opx_add : OpR X (binaryOp .Add) (rPlus X.K) := op_add.or (op_cat.or op_catQ)
def rTimes (K : PySem.W.Frag) : R2 := fun x y H Q => rI CMul (fun i j => .int (i * j)) x y H Q ∨ (rI CMulW (fun i j => .int (i * j)) x y H Q ∨ (rRep x y H Q ∨ rRepQ K x y H Q))
theorem opx_mul : OpR X (binaryOp .Mult) (rTimes X.K) := op_mul.or (op_mulW.or (op_rep.or op_repQ))
abbrev rMinus : R2 := rI0 fun i j => .int (i - j)
abbrev rFd : R2 := rI CDivW fun i j => .int (i / j)
abbrev rMd : R2 := rI (fun _ j => 0 < j) fun i j => .int (i % j)
def rEqX (K : PySem.W.Frag) : R2 := fun x y H Q => rEq x y H Q ∨ rEqD K x y H Q
theorem opx_eq {k : Nat} (hr : Room k X.A) : OpR X (compareOp .Eq) (rEqX X.K) := op_eq.or (op_eqD hr.units)
def rNeX (K : PySem.W.Frag) : R2 := fun x y H Q => rNe x y H Q ∨ rNeD K x y H Q
theorem opx_ne {k : Nat} (hr : Room k X.A) : OpR X (compareOp .NotEq) (rNeX X.K) := op_ne.or (op_neD hr.units)
abbrev rSlX (K : PySem.W.Frag) : V → Option Int → Option Int → Hp → VK → Prop := fun x lo hi H Q => rSlL K x lo hi H Q ∨ rSlQ K x lo hi H Q
theorem slx : SlR X (rSlX X.K) := sl_list.or sl_tupQ
theorem CallR.or {f : Value} {r r' : List V → Hp → VK → Prop} (h : CallR X f r) (h' : CallR X f r') : CallR X f (fun x H Q => r x H Q ∨ r' x H Q) := by
  intro pins s σ H x u Q I rx q
  rcases q with q | q
  · exact h pins s σ H x u Q I rx q
  · exact h' pins s σ H x u Q I rx q
def rSumT (K : PySem.W.Frag) : List V → Hp → VK → Prop := fun vs H Q => ∃ (a : Addr) (ns : List Int), vs = [V.ref a] ∧ SqT K H a (ns.map V.int) ∧ Q (.int ns.sum) H
theorem cr_sumT (hc : X.calm = true) : CallR X (.builtin "sum") (rSumT X.K) := by
  intro pins s σ H vs us Q I r h
  obtain ⟨a, ns, rfl, hs, q⟩ := h
  obtain ⟨its, rv, ht, _⟩ := I.tuple hs
  rw [Vals.ref1 r]
  have hi := rv.ints
  obtain ⟨xs, hx⟩ := hi.allInts.items
  have hn : numsOf its.toArray.toList = ns := by rw [show its.toArray.toList = its from rfl, hi.numsOf]
  have hl : s.heap.IsTuple a its.toArray := ht
  rw [hx] at hl hn
  rw [nums_intItems] at hn
  refine PySem.W.ktm_sumG (I.ok.hd hc) hl fun h' tk t' hk => ⟨.int _, H, I.kept hk, ⟨t', ?_⟩, q⟩
  rw [preSum_eq, List.take_of_length_le (by simp), hn]
abbrev rSumX (K : PySem.W.Frag) : List V → Hp → VK → Prop := fun x H Q => rSum K x H Q ∨ rSumT K x H Q
theorem callx_sum (hc : X.calm = true) : CallR X (.builtin "sum") (rSumX X.K) := CallR.or (cr_sum hc) (cr_sumT hc)
abbrev rMaxX (K : PySem.W.Frag) : List V → Hp → VK → Prop := fun xs H Q => (∃ i j, xs = [V.int i, V.int j] ∧ Q (.int (if j > i then j else i)) H) ∨ rMax K xs H Q
theorem callx_max (hc : X.calm = true) : CallR X (.builtin "max") (rMaxX X.K) := CallR.or (call_max2 hc) (cr_max hc)
abbrev rMinX (K : PySem.W.Frag) : List V → Hp → VK → Prop := fun xs H Q => (∃ i j, xs = [V.int i, V.int j] ∧ Q (.int (if j < i then j else i)) H) ∨ rMin K xs H Q
theorem callx_min (hc : X.calm = true) : CallR X (.builtin "min") (rMinX X.K) := CallR.or (call_min2 hc) (cr_min hc)
abbrev rLen (K : PySem.W.Frag) : List V → Hp → VK → Prop := fun xs H Q => ∃ p ys, xs = [V.ref p] ∧ (SqL K H p ys ∨ SqT K H p ys) ∧ Q (.int ys.length) H
abbrev rListOf (K : PySem.W.Frag) : List V → Hp → VK → Prop := fun xs H Q => ∃ p ys, xs = [V.ref p] ∧ (SqL K H p ys ∨ SqT K H p ys) ∧ ∀ l, H l = none → Q (.ref l) (upd H l (.lst ys))
abbrev rTupOf (K : PySem.W.Frag) : List V → Hp → VK → Prop := rTupQ K
abbrev rAbs : List V → Hp → VK → Prop := fun xs H Q => ∃ i, xs = [V.int i] ∧ Q (.int (if i < 0 then -i else i)) H
abbrev rInt1 : List V → Hp → VK → Prop := fun xs H Q => (∃ i, xs = [V.int i] ∧ Q (.int i) H) ∨ ∃ k, xs = [V.bl k] ∧ Q (.int (if k then 1 else 0)) H
end

/-! ### new lists -/
def Nl (K : PySem.W.Frag) (te : TE) (ρ : Rho) (P : List PyData → Prop) : Prop := ∀ (T : Addr → Prop) (H0 G H : Hp) (σ : L2.St), Same G H → (∀ a, T a → Tp G H a) → Den T K H0 G H σ ρ →
  ∀ Q : VK, (∀ xs p vs G' H', P xs → Step T G H G' H' → H p = none → ¬ T p → G' p = none → H' p = some (.lst vs) → DnAll K G' vs xs → Q (.ref p) H') → te σ H Q
abbrev Nld (K : PySem.W.Frag) (te : TE) (ρ : Rho) (xs : List PyData) : Prop := Nl K te ρ (fun x => x = xs)
theorem tape_some {T : Addr → Prop} {G H : Hp} (tp : ∀ a, T a → Tp G H a) {p : Addr} (h : H p = none) : ¬ T p := fun t => by
  obtain ⟨_, _, _, _, _, e, _⟩ := tp p t
  rw [h] at e
  cases e
/-- what was made joins the data -/
theorem Step.join {T : Addr → Prop} {G H G' H' : Hp} {p : Addr} {o : HO} (s : Step T G H G' H') (hp : H p = none) (nt : ¬ T p) (gp : G' p = none) (h : H' p = some o) : Step T G H (upd G' p o) H' := by
  refine ⟨fun a u e => ?_, fun a u e => ?_, s.h, fun a e n => ?_, fun a t => ?_⟩
  · have := s.g a u e
    rw [upd_ne (ne_of_none this gp)]
    exact this
  · by_cases q : a = p
    · rw [q, upd_same] at e
      cases e
      rw [q]
      exact h
    · rw [upd_ne q] at e
      exact s.gh _ _ e
  · rw [upd_ne (fun z => n (by rw [z]; exact hp))]
    exact s.fr a e n
  · have q := s.tp a t
    have nap : a ≠ p := fun z => nt (z ▸ t)
    obtain ⟨b, ns, x, y, m, e, eb, ea, r⟩ := id q
    refine q.mono (fun c u ec => by rw [upd_ne (ne_of_none ec gp)]; exact ec) rfl ?_
    rw [upd_ne nap]
    exact ea
section
variable {K : PySem.W.Frag} {ρ : Rho} {te ta tb tc : TE} {P P' : PyData → Prop} {t u : TT}
theorem Nl.pe {PL : List PyData → Prop} (h : Nl K te ρ PL) : Pe K te ρ (fun d => ∃ xs, d = .list xs ∧ PL xs) := fun T H0 G H σ gh tp D Q q =>
  h T H0 G H σ gh tp D Q fun xs p vs G' H' px s hp nt gp hl a => q (.list xs) (.ref p) (upd G' p (.lst vs)) H' ⟨xs, rfl, px⟩ (s.join hp nt gp hl) (.lst upd_same (a.mono fun c u e => by rw [upd_ne (ne_of_none e gp)]; exact e))
theorem Nl.pd {xs : List PyData} (h : Nld K te ρ xs) : Pd K te ρ (.list xs) := h.pe.imp fun d ⟨ys, e, e2⟩ => by rw [e, e2]
theorem Nl.rl {PL : List PyData → Prop} (h : Nl K te ρ PL) : Rl K te ρ PL := fun T H0 G H σ gh tp D Q q =>
  h T H0 G H σ gh tp D Q fun xs p vs G' H' px s hp nt gp hl a => q xs p vs G' H' px s (.inr ⟨hl, nt⟩) a
theorem Nl.imp {PL PL' : List PyData → Prop} (h : Nl K te ρ PL) (i : ∀ d, PL d → PL' d) : Nl K te ρ PL' := fun T H0 G H σ gh tp D Q q => h T H0 G H σ gh tp D Q fun xs p vs G' H' px => q xs p vs G' H' (i xs px)
theorem Rl.imp {PL PL' : List PyData → Prop} (h : Rl K te ρ PL) (i : ∀ d, PL d → PL' d) : Rl K te ρ PL' := fun T H0 G H σ gh tp D Q q => h T H0 G H σ gh tp D Q fun xs p vs G' H' px => q xs p vs G' H' (i xs px)
/-- a new object ends it -/
theorem new_end {T : Addr → Prop} {G H : Hp} {xs : List PyData} {vs : List V} {Q : VK} (gh : Same G H) (tp : ∀ a, T a → Tp G H a) (a : DnAll K G vs xs)
    (q : ∀ p G' H', Step T G H G' H' → H p = none → ¬ T p → G' p = none → H' p = some (.lst vs) → DnAll K G' vs xs → Q (.ref p) H') : ∀ p, H p = none → Q (.ref p) (upd H p (.lst vs)) := fun p hp =>
  q p G _ (Step.newM gh tp hp) hp (tape_some tp hp) (gh.free hp) upd_same a
theorem new_tup {T : Addr → Prop} {G H : Hp} {xs : List PyData} {vs : List V} {Q : VK} (gh : Same G H) (tp : ∀ a, T a → Tp G H a) (a : DnAll K G vs xs)
    (q : ∀ v G' H', Step T G H G' H' → Dn K G' v (.tuple xs) → Q v H') : NewT H vs Q := fun p o hp ho =>
  q (.ref p) (upd G p (.frz o (.tup vs))) _ (Step.new gh tp hp) (.tup (p := .inl ⟨o, _, upd_same, ho⟩) (.inl (.inr ⟨o, upd_same⟩)) (a.mono fun c u e => by rw [upd_ne (ne_of_none e (gh.free hp))]; exact e))

/-! ### ints -/
theorem dn_int {f : Int → Int → Int} : ∀ i j G, Dn K G ((fun i j => V.int (f i j)) i j) ((fun i j => PyData.int (f i j)) i j) := fun _ _ _ => .int _
theorem dn_bl {f : Int → Int → Bool} : ∀ i j G, Dn K G ((fun i j => V.bl (f i j)) i j) ((fun i j => PyData.bool (f i j)) i j) := fun _ _ _ => .bl _
section
variable {Pa Pb : PyData → Prop}
theorem ye_add (ha : Pe K ta ρ Pa) (hb : Pe K tb ρ Pb) (h : ∀ x y, Pa x → Pb y → ∃ i j, x = .int i ∧ y = .int j ∧ P (.int (i + j))) : Pe K (tOp (rPlus K) ta tb) ρ P :=
  ye_int2 ha hb fun x y p1 p2 => let ⟨i, j, e1, e2, p⟩ := h x y p1 p2; ⟨i, j, _, _, e1, e2, p, fun _ => .int _, fun H Q q => .inl ⟨i, j, rfl, rfl, q⟩⟩
theorem ye_sub (ha : Pe K ta ρ Pa) (hb : Pe K tb ρ Pb) (h : ∀ x y, Pa x → Pb y → ∃ i j, x = .int i ∧ y = .int j ∧ P (.int (i - j))) : Pe K (tOp rMinus ta tb) ρ P :=
  ye_I0 ha hb dn_int h
theorem ye_mul (ha : Pe K ta ρ Pa) (hb : Pe K tb ρ Pb) (h : ∀ x y, Pa x → Pb y → ∃ i j, x = .int i ∧ y = .int j ∧ (CMul i j ∨ CMulW i j) ∧ P (.int (i * j))) : Pe K (tOp (rTimes K) ta tb) ρ P :=
  ye_int2 ha hb fun x y p1 p2 => let ⟨i, j, e1, e2, c, p⟩ := h x y p1 p2; ⟨i, j, _, _, e1, e2, p, fun _ => .int _, fun H Q q => c.elim (fun c => .inl ⟨i, j, rfl, rfl, c, q⟩) fun c => .inr (.inl ⟨i, j, rfl, rfl, c, q⟩)⟩
theorem ye_fd (ha : Pe K ta ρ Pa) (hb : Pe K tb ρ Pb) (h : ∀ x y, Pa x → Pb y → ∃ i j, x = .int i ∧ y = .int j ∧ CDivW i j ∧ P (.int (i / j))) : Pe K (tOp rFd ta tb) ρ P :=
  ye_IC ha hb dn_int h
theorem ye_md (ha : Pe K ta ρ Pa) (hb : Pe K tb ρ Pb) (h : ∀ x y, Pa x → Pb y → ∃ i j, x = .int i ∧ y = .int j ∧ 0 < j ∧ P (.int (i % j))) : Pe K (tOp rMd ta tb) ρ P :=
  ye_IC ha hb dn_int h
theorem ye_pow (ha : Pe K ta ρ Pa) (hb : Pe K tb ρ Pb) (h : ∀ x y, Pa x → Pb y → ∃ i j, x = .int i ∧ y = .int j ∧ CPow i j ∧ P (.int (i ^ j.toNat))) : Pe K (tOp (rI CPow fun i j => .int (i ^ j.toNat)) ta tb) ρ P :=
  ye_IC ha hb dn_int h
/-- < <= > >= -/
theorem ye_cp {f : Int → Int → Bool} (ha : Pe K ta ρ Pa) (hb : Pe K tb ρ Pb) (h : ∀ x y, Pa x → Pb y → ∃ i j, x = .int i ∧ y = .int j ∧ P (.bool (f i j))) : Pe K (tOp (rI0 fun i j => .bl (f i j)) ta tb) ρ P :=
  ye_I0 ha hb dn_bl h
theorem ye_ng (ha : Pe K ta ρ Pa) (h : ∀ x, Pa x → ∃ i, x = .int i ∧ P (.int (-i))) : Pe K (tUn (rU fun i => .int (-i)) ta) ρ P := fun T H0 G H σ gh tp D Q q =>
  ha.bind gh tp D fun x v G1 H1 p1 s1 gh1 tp1 D1 x1 => by
    obtain ⟨i, rfl, hP⟩ := h x p1
    cases x1
    exact ⟨i, rfl, q _ _ G1 H1 hP s1 (.int _)⟩
end
section
variable {i j : Int}
theorem yd_add (ha : Pd K ta ρ (.int i)) (hb : Pd K tb ρ (.int j)) : Pd K (tOp (rPlus K) ta tb) ρ (.int (i + j)) := ye_add ha hb fun _ _ e1 e2 => ⟨i, j, e1, e2, rfl⟩
theorem yd_sub (ha : Pd K ta ρ (.int i)) (hb : Pd K tb ρ (.int j)) : Pd K (tOp rMinus ta tb) ρ (.int (i - j)) := ye_sub ha hb fun _ _ e1 e2 => ⟨i, j, e1, e2, rfl⟩
theorem yd_mul (ha : Pd K ta ρ (.int i)) (hb : Pd K tb ρ (.int j)) (c : CMul i j ∨ CMulW i j) : Pd K (tOp (rTimes K) ta tb) ρ (.int (i * j)) := ye_mul ha hb fun _ _ e1 e2 => ⟨i, j, e1, e2, c, rfl⟩
theorem cdiv_of {i j : Int} (h : 0 < j) (hj : j < 2 ^ 200) : CDivW i j := wide_div (b := 200) h (by omega) (by decide) (by decide)
theorem yd_fd (ha : Pd K ta ρ (.int i)) (hb : Pd K tb ρ (.int j)) (h : 0 < j) (hj : j < 2 ^ 200) : Pd K (tOp rFd ta tb) ρ (.int (i / j)) := ye_fd ha hb fun _ _ e1 e2 => ⟨i, j, e1, e2, cdiv_of h hj, rfl⟩
theorem yd_md (ha : Pd K ta ρ (.int i)) (hb : Pd K tb ρ (.int j)) (h : 0 < j) : Pd K (tOp rMd ta tb) ρ (.int (i % j)) := ye_md ha hb fun _ _ e1 e2 => ⟨i, j, e1, e2, h, rfl⟩
theorem yd_pow (ha : Pd K ta ρ (.int i)) (hb : Pd K tb ρ (.int j)) (h : CPow i j) : Pd K (tOp (rI CPow fun i j => .int (i ^ j.toNat)) ta tb) ρ (.int (i ^ j.toNat)) := ye_pow ha hb fun _ _ e1 e2 => ⟨i, j, e1, e2, h, rfl⟩
theorem yd_cp {f : Int → Int → Bool} (ha : Pd K ta ρ (.int i)) (hb : Pd K tb ρ (.int j)) : Pd K (tOp (rI0 fun i j => .bl (f i j)) ta tb) ρ (.bool (f i j)) := ye_cp ha hb fun _ _ e1 e2 => ⟨i, j, e1, e2, rfl⟩
theorem yd_ng (ha : Pd K ta ρ (.int i)) : Pd K (tUn (rU fun i => .int (-i)) ta) ρ (.int (-i)) := ye_ng ha fun _ e => ⟨i, e, rfl⟩
end

/-! ### == of ints, bools, texts, None; of data -/
def scalD : PyData → PyData → Bool
  | .none, .none | .bool _, .bool _ | .int _, .int _ | .str _, .str _ => true
  | _, _ => false
def eqS : PyData → PyData → Bool
  | .none, .none => true
  | .bool a, .bool b => decide (a = b)
  | .int a, .int b => decide (a = b)
  | .str a, .str b => decide (a = b)
  | _, _ => false
theorem Dn.det : ∀ {G : Hp} {v u : V} {d e : PyData}, scalD d e = true → Dn K G v d → Dn K G u e → scal v u = true ∧ decide (v = u) = eqS d e
  | _, _, _, .none, .none, _, .non, .non => ⟨rfl, rfl⟩
  | _, _, _, .bool a, .bool b, _, .bl _, .bl _ => ⟨rfl, by simp [eqS]⟩
  | _, _, _, .int a, .int b, _, .int _, .int _ => ⟨rfl, by simp [eqS]⟩
  | _, _, _, .str a, .str b, _, .str _, .str _ => ⟨rfl, by simp [eqS]⟩
theorem yd_eqS {x y : PyData} (ha : Pd K ta ρ x) (hb : Pd K tb ρ y) (h : scalD x y = true) : Pd K (tOp (rEqX K) ta tb) ρ (.bool (eqS x y)) := fun T H0 G H σ gh tp D Q q =>
  ha.bind gh tp D fun x' v G1 H1 p1 s1 gh1 tp1 D1 x1 => hb.bind gh1 tp1 D1 fun y' u G2 H2 p2 s2 gh2 tp2 D2 x2 => by
    subst p1 p2
    obtain ⟨a, b⟩ := Dn.det h (x1.mono s2.g) x2
    exact .inl ⟨a, by rw [b]; exact q _ _ G2 H2 rfl (s1.trans s2) (.bl _)⟩
theorem yd_neS {x y : PyData} (ha : Pd K ta ρ x) (hb : Pd K tb ρ y) (h : scalD x y = true) : Pd K (tOp (rNeX K) ta tb) ρ (.bool (!eqS x y)) := fun T H0 G H σ gh tp D Q q =>
  ha.bind gh tp D fun x' v G1 H1 p1 s1 gh1 tp1 D1 x1 => hb.bind gh1 tp1 D1 fun y' u G2 H2 p2 s2 gh2 tp2 D2 x2 => by
    subst p1 p2
    obtain ⟨a, b⟩ := Dn.det h (x1.mono s2.g) x2
    exact .inl ⟨a, by rw [b]; exact q _ _ G2 H2 rfl (s1.trans s2) (.bl _)⟩
theorem noDict_of {d : PyData} (h : SeqAt.shaped d = true) : d.hasDict = false := PyData.hasDict_of_canLay d (SeqAt.canLay_of_shaped h)
theorem yd_eqD {x y : PyData} (ha : Pd K ta ρ x) (hb : Pd K tb ρ y) (h1 : SeqAt.shaped x = true) (h2 : SeqAt.shaped y = true) : Pd K (tOp (rEqX K) ta tb) ρ (.bool (PyData.eqv x y)) := fun T H0 G H σ gh tp D Q q =>
  ha.bind gh tp D fun x' v G1 H1 p1 s1 gh1 tp1 D1 x1 => hb.bind gh1 tp1 D1 fun y' u G2 H2 p2 s2 gh2 tp2 D2 x2 => by
    subst p1 p2
    exact .inr ⟨x', y', ((x1.mono s2.g).mono gh2).dp (noDict_of h1), (x2.mono gh2).dp (noDict_of h2), h1, h2, q _ _ G2 H2 rfl (s1.trans s2) (.bl _)⟩
theorem yd_neD {x y : PyData} (ha : Pd K ta ρ x) (hb : Pd K tb ρ y) (h1 : SeqAt.shaped x = true) (h2 : SeqAt.shaped y = true) : Pd K (tOp (rNeX K) ta tb) ρ (.bool (!PyData.eqv x y)) := fun T H0 G H σ gh tp D Q q =>
  ha.bind gh tp D fun x' v G1 H1 p1 s1 gh1 tp1 D1 x1 => hb.bind gh1 tp1 D1 fun y' u G2 H2 p2 s2 gh2 tp2 D2 x2 => by
    subst p1 p2
    exact .inr ⟨x', y', ((x1.mono s2.g).mono gh2).dp (noDict_of h1), (x2.mono gh2).dp (noDict_of h2), h1, h2, q _ _ G2 H2 rfl (s1.trans s2) (.bl _)⟩
def isNone : PyData → Bool
  | .none => true
  | _ => false
theorem Dn.isN {G : Hp} {v : V} {d : PyData} (h : Dn K G v d) : decide (v = .non) = isNone d := by
  cases h <;> simp [isNone]
theorem yd_isN {x : PyData} (ha : Pd K ta ρ x) : Pd K (tOp (fun x y H Q => y = .non ∧ Q (.bl (decide (x = .non))) H) ta (tC .non)) ρ (.bool (isNone x)) := fun T H0 G H σ gh tp D Q q =>
  ha.bind gh tp D fun x' v G1 H1 p1 s1 gh1 tp1 D1 x1 => by
    subst p1
    exact ⟨rfl, by rw [x1.isN]; exact q _ _ G1 H1 rfl s1 (.bl _)⟩
theorem yd_ntN {x : PyData} (ha : Pd K ta ρ x) : Pd K (tOp (fun x y H Q => y = .non ∧ Q (.bl (!decide (x = .non))) H) ta (tC .non)) ρ (.bool (!isNone x)) := fun T H0 G H σ gh tp D Q q =>
  ha.bind gh tp D fun x' v G1 H1 p1 s1 gh1 tp1 D1 x1 => by
    subst p1
    exact ⟨rfl, by rw [x1.isN]; exact q _ _ G1 H1 rfl s1 (.bl _)⟩

/-! ### arguments -/
theorem ya_n : Pasd K tNil ρ [] := fun T H0 G H σ gh tp D Q q => q _ _ G H rfl (Step.refl gh tp) .nil
theorem ya_c {tr : TA} {PA : List Sl → Prop} {PR : List Sl → Prop} (h : Pe K te ρ P) (hr : Pas K tr ρ PA) (k : ∀ d ss, P d → PA ss → PR (.d d :: ss)) : Pas K (tCons te tr) ρ PR := fun T H0 G H σ gh tp D Q q =>
  h.bind gh tp D fun x v G1 H1 p1 s1 gh1 tp1 D1 x1 => hr.bind gh1 tp1 D1 fun ss vs G2 H2 p2 s2 gh2 tp2 D2 x2 => q _ _ G2 H2 (k x ss p1 p2) (s1.trans s2) (.cons (x1.mono s2.g) x2)
theorem ya_d {tr : TA} {d : PyData} {ss : List Sl} (h : Pd K te ρ d) (hr : Pasd K tr ρ ss) : Pasd K (tCons te tr) ρ (.d d :: ss) := ya_c h hr fun _ _ e1 e2 => by rw [e1, e2]
theorem ya_t {tr : TA} {i : Nat} {PA : List Sl → Prop} {PR : List Sl → Prop} (e : ρ[i]? = some .tp) (hr : Pas K tr ρ PA) (k : ∀ ss, PA ss → PR (.tp :: ss)) : Pas K (tCons (tVar i) tr) ρ PR := fun T H0 G H σ gh tp D Q q => by
  obtain ⟨o, e1, a, rfl, t⟩ := D.at e
  exact ⟨_, e1, hr.bind gh tp D fun ss vs G2 H2 p2 s2 gh2 tp2 D2 x2 => q _ _ G2 H2 (k ss p2) s2 (.cons ⟨a, rfl, t⟩ x2)⟩
theorem ya_td {tr : TA} {i : Nat} {ss : List Sl} (e : ρ[i]? = some .tp) (hr : Pasd K tr ρ ss) : Pasd K (tCons (tVar i) tr) ρ (.tp :: ss) := ya_t e hr fun _ e => by rw [e]
/-- a built-in's call by one datum -/
theorem ye_cb1 {r : List V → Hp → VK → Prop} {Pa : PyData → Prop} (ha : Pe K ta ρ Pa)
    (h : ∀ x, Pa x → ∀ T G H v, Same G H → (∀ a, T a → Tp G H a) → Dn K G v x → ∀ Q : VK, (∀ d z G' H', P d → Step T G H G' H' → Dn K G' z d → Q z H') → r [v] H Q) : Pe K (tCB r (tCons ta tNil)) ρ P := fun T H0 G H σ gh tp D Q q =>
  ha.bind gh tp D fun x v G1 H1 p1 s1 gh1 tp1 D1 x1 => h x p1 T G1 H1 v gh1 tp1 x1 Q fun d z G' H' p s => q d z G' H' p (s1.trans s)
theorem ye_cb2 {r : List V → Hp → VK → Prop} {Pa Pb : PyData → Prop} (ha : Pe K ta ρ Pa) (hb : Pe K tb ρ Pb)
    (h : ∀ x y, Pa x → Pb y → ∀ T G H v u, Same G H → (∀ a, T a → Tp G H a) → Dn K G v x → Dn K G u y → ∀ Q : VK, (∀ d z G' H', P d → Step T G H G' H' → Dn K G' z d → Q z H') → r [v, u] H Q) : Pe K (tCB r (tCons ta (tCons tb tNil))) ρ P := fun T H0 G H σ gh tp D Q q =>
  ha.bind gh tp D fun x v G1 H1 p1 s1 gh1 tp1 D1 x1 => hb.bind gh1 tp1 D1 fun y u G2 H2 p2 s2 gh2 tp2 D2 x2 => h x y p1 p2 T G2 H2 v u gh2 tp2 (x1.mono s2.g) x2 Q fun d z G' H' p s => q d z G' H' p ((s1.trans s2).trans s)
/-- an end that changes nothing -/
theorem same_end {T : Addr → Prop} {G H : Hp} {d : PyData} {z : V} {Q : VK} (gh : Same G H) (tp : ∀ a, T a → Tp G H a) (p : P d) (x : Dn K G z d) (q : ∀ d z G' H', P d → Step T G H G' H' → Dn K G' z d → Q z H') : Q z H := q d z G H p (Step.refl gh tp) x
theorem ye_len {Pa : PyData → Prop} (ha : Pe K ta ρ Pa) (h : ∀ x, Pa x → ∃ xs, (x = .list xs ∨ x = .tuple xs) ∧ P (.int xs.length)) : Pe K (tCB (rLen K) (tCons ta tNil)) ρ P := ye_cb1 ha fun x p1 T G H v gh tp x1 Q q => by
  obtain ⟨xs, e, hP⟩ := h x p1
  rcases e with rfl | rfl
  · cases x1 with
    | @lst a vs _ e1 a1 => exact ⟨a, vs, rfl, .inl (.inl (.inl (gh _ _ e1))), q _ _ G H (by rw [a1.length]; exact hP) (Step.refl gh tp) (.int _)⟩
  · cases x1 with
    | @tup a vs _ pl e1 a1 => exact ⟨a, vs, rfl, .inr (sqt_mono gh e1), q _ _ G H (by rw [a1.length]; exact hP) (Step.refl gh tp) (.int _)⟩
theorem yd_lenT {xs : List PyData} (ha : Pd K ta ρ (.tuple xs)) : Pd K (tCB (rLen K) (tCons ta tNil)) ρ (.int xs.length) := ye_len ha fun x e => ⟨xs, .inr e, rfl⟩
theorem yd_lenL {xs : List PyData} (ha : Pd K ta ρ (.list xs)) : Pd K (tCB (rLen K) (tCons ta tNil)) ρ (.int xs.length) := ye_len ha fun x e => ⟨xs, .inl e, rfl⟩
theorem ye_lenR {PL : List PyData → Prop} (ha : Rl K ta ρ PL) (h : ∀ xs, PL xs → P (.int xs.length)) : Pe K (tCB (rLen K) (tCons ta tNil)) ρ P := fun T H0 G H σ gh tp D Q q =>
  ha.bind gh tp D fun xs p vs G1 H1 p1 s1 gh1 tp1 D1 rd a => ⟨p, vs, rfl, .inl (rd.sq gh1), q _ _ G1 H1 (by rw [a.length]; exact h xs p1) s1 (.int _)⟩
theorem yd_lenR {xs : List PyData} (ha : Rl K ta ρ (fun x => x = xs)) : Pd K (tCB (rLen K) (tCons ta tNil)) ρ (.int xs.length) := ye_lenR ha fun _ e => by rw [e]
theorem yd_sumT {ns : List Int} (ha : Pd K ta ρ (.tuple (ns.map .int))) : Pd K (tCB (rSumX K) (tCons ta tNil)) ρ (.int ns.sum) := ye_cb1 ha fun x p1 T G H v gh tp x1 Q q => by
  subst p1
  cases x1 with
  | @tup a vs _ pl e1 a1 =>
    have := a1.ints
    subst this
    exact .inr ⟨a, ns, rfl, sqt_mono gh e1, q _ _ G H rfl (Step.refl gh tp) (.int _)⟩
theorem ye_sumR {PL : List PyData → Prop} (ha : Rl K ta ρ PL) (h : ∀ xs, PL xs → ∃ ns : List Int, xs = ns.map .int ∧ P (.int ns.sum)) : Pe K (tCB (rSumX K) (tCons ta tNil)) ρ P := fun T H0 G H σ gh tp D Q q =>
  ha.bind gh tp D fun xs p vs G1 H1 p1 s1 gh1 tp1 D1 rd a => by
    obtain ⟨ns, rfl, hP⟩ := h xs p1
    have := a.ints
    subst this
    exact .inl ⟨p, ns, rfl, rd.sq gh1, q _ _ G1 H1 hP s1 (.int _)⟩
theorem yd_sumR {ns : List Int} (ha : Rl K ta ρ (fun x => x = ns.map .int)) : Pd K (tCB (rSumX K) (tCons ta tNil)) ρ (.int ns.sum) := ye_sumR ha fun _ e => ⟨ns, e, rfl⟩
theorem ye_max2 {Pa Pb : PyData → Prop} (ha : Pe K ta ρ Pa) (hb : Pe K tb ρ Pb) (h : ∀ x y, Pa x → Pb y → ∃ i j, x = .int i ∧ y = .int j ∧ P (.int (max i j))) : Pe K (tCB (rMaxX K) (tCons ta (tCons tb tNil))) ρ P := ye_cb2 ha hb fun x y p1 p2 T G H v u gh tp x1 x2 Q q => by
  obtain ⟨i, j, rfl, rfl, hP⟩ := h x y p1 p2
  cases x1
  cases x2
  refine .inl ⟨i, j, rfl, q _ _ G H hP (Step.refl gh tp) ?_⟩
  rw [show (if j > i then j else i) = max i j by split <;> omega]
  exact .int _
theorem yd_max2 {i j : Int} (ha : Pd K ta ρ (.int i)) (hb : Pd K tb ρ (.int j)) : Pd K (tCB (rMaxX K) (tCons ta (tCons tb tNil))) ρ (.int (max i j)) := ye_max2 ha hb fun _ _ e1 e2 => ⟨i, j, e1, e2, rfl⟩
theorem ye_min2 {Pa Pb : PyData → Prop} (ha : Pe K ta ρ Pa) (hb : Pe K tb ρ Pb) (h : ∀ x y, Pa x → Pb y → ∃ i j, x = .int i ∧ y = .int j ∧ P (.int (min i j))) : Pe K (tCB (rMinX K) (tCons ta (tCons tb tNil))) ρ P := ye_cb2 ha hb fun x y p1 p2 T G H v u gh tp x1 x2 Q q => by
  obtain ⟨i, j, rfl, rfl, hP⟩ := h x y p1 p2
  cases x1
  cases x2
  refine .inl ⟨i, j, rfl, q _ _ G H hP (Step.refl gh tp) ?_⟩
  rw [show (if j < i then j else i) = min i j by split <;> omega]
  exact .int _
theorem yd_min2 {i j : Int} (ha : Pd K ta ρ (.int i)) (hb : Pd K tb ρ (.int j)) : Pd K (tCB (rMinX K) (tCons ta (tCons tb tNil))) ρ (.int (min i j)) := ye_min2 ha hb fun _ _ e1 e2 => ⟨i, j, e1, e2, rfl⟩
theorem ye_abs {Pa : PyData → Prop} (ha : Pe K ta ρ Pa) (h : ∀ x, Pa x → ∃ i, x = .int i ∧ P (.int (i.natAbs : Int))) : Pe K (tCB rAbs (tCons ta tNil)) ρ P := ye_cb1 ha fun x p1 T G H v gh tp x1 Q q => by
  obtain ⟨i, rfl, hP⟩ := h x p1
  cases x1
  refine ⟨i, rfl, q _ _ G H hP (Step.refl gh tp) ?_⟩
  rw [show (if i < 0 then -i else i) = (i.natAbs : Int) by split <;> omega]
  exact .int _
theorem yd_abs {i : Int} (ha : Pd K ta ρ (.int i)) : Pd K (tCB rAbs (tCons ta tNil)) ρ (.int (i.natAbs : Int)) := ye_abs ha fun _ e => ⟨i, e, rfl⟩
theorem ye_toI {Pa : PyData → Prop} (ha : Pe K ta ρ Pa) (h : ∀ x, Pa x → ∃ i, x = .int i ∧ P (.int i)) : Pe K (tCB rInt1 (tCons ta tNil)) ρ P := ye_cb1 ha fun x p1 T G H v gh tp x1 Q q => by
  obtain ⟨i, rfl, hP⟩ := h x p1
  cases x1
  exact .inl ⟨i, rfl, q _ _ G H hP (Step.refl gh tp) (.int _)⟩
theorem yd_toI {i : Int} (ha : Pd K ta ρ (.int i)) : Pd K (tCB rInt1 (tCons ta tNil)) ρ (.int i) := ye_toI ha fun _ e => ⟨i, e, rfl⟩
theorem yd_toIb {b : Bool} (ha : Pd K ta ρ (.bool b)) : Pd K (tCB rInt1 (tCons ta tNil)) ρ (.int (if b then 1 else 0)) := ye_cb1 ha fun x p1 T G H v gh tp x1 Q q => by
  subst p1
  cases x1
  exact .inr ⟨b, rfl, q _ _ G H rfl (Step.refl gh tp) (.int _)⟩
theorem yd_gcd {i j : Int} (ha : Pd K ta ρ (.int i)) (hb : Pd K tb ρ (.int j)) : Pd K (tCB rGcd (tCons ta (tCons tb tNil))) ρ (.int ((Nat.gcd i.natAbs j.natAbs : Nat) : Int)) := ye_cb2 ha hb fun x y p1 p2 T G H v u gh tp x1 x2 Q q => by
  subst p1 p2
  cases x1
  cases x2
  exact ⟨i, j, rfl, q _ _ G H rfl (Step.refl gh tp) (.int _)⟩
/-! ### isinstance -/
def kindD : PyData → String
  | .none => "NoneType"
  | .bool _ => "bool"
  | .int _ => "int"
  | .str _ => "str"
  | .list _ => "list"
  | .tuple _ => "tuple"
  | .dict _ => "dict"
theorem Dn.ty {G H : Hp} (gh : Same G H) {v : V} {d : PyData} (h : Dn K G v d) : TyX K H v (.type (kindD d)) := by
  cases h with
  | non => exact .base .non
  | bl b => exact .base (.bl b)
  | int i => exact .base (.int i)
  | str x => exact .base (.str x)
  | lst e a => exact .base (.lst (gh _ _ e))
  | dct e a z => exact .fDict (gh _ _ e)
  | tup e a =>
    rcases e with (e | ⟨o, e⟩) | ⟨o, its, n, e, c, _⟩
    · exact .base (.tup (gh _ _ e))
    · exact .fTuple (gh _ _ e)
    · exact .kTuple e c
theorem yd_isi {x : PyData} {k n : String} {b : Bool} (ha : Pd K ta ρ x) (hk : kindD x = k) (h : kitB k n = some b) : Pd K (tCB (rIsi K) (tCons ta (tCons (tC (.ty n)) tNil))) ρ (.bool b) := fun T H0 G H σ gh tp D Q q =>
  ha.bind gh tp D fun x' v G1 H1 p1 s1 gh1 tp1 D1 x1 => by
    subst p1
    exact ⟨v, .ty n, _, _, b, rfl, .ty n, x1.ty gh1, kit_ty (by rw [hk]; exact h), q _ _ G1 H1 rfl s1 (.bl b)⟩
/-! ### displays -/
theorem dnall_of {T : Addr → Prop} {G : Hp} : ∀ {ds : List PyData} {vs : List V}, ArgsOk T K G (ds.map .d) vs → DnAll K G vs ds
  | [], _, .nil => .nil
  | _ :: _, _, .cons h t => .cons h (dnall_of t)
theorem ye_tup {ta : TA} {PA : List Sl → Prop} (h : Pas K ta ρ PA) (hP : ∀ ss, PA ss → ∃ ds, ss = ds.map .d ∧ ds.length ≤ sizeLine ∧ P (.tuple ds)) : Pe K (tTuq ta) ρ P := fun T H0 G H σ gh tp D Q q =>
  h.bind gh tp D fun ss vs G1 H1 p1 s1 gh1 tp1 D1 x1 => by
    obtain ⟨ds, rfl, hl, hP⟩ := hP ss p1
    have a := dnall_of x1
    exact ⟨by rw [a.length]; exact hl, new_tup gh1 tp1 a fun v G' H' s x => q _ v G' H' hP (s1.trans s) x⟩
theorem yd_tup {ta : TA} {ds : List PyData} (h : Pasd K ta ρ (ds.map .d)) (hl : ds.length ≤ sizeLine := by exact Nat.le_of_ble_eq_true rfl) : Pd K (tTuq ta) ρ (.tuple ds) := ye_tup h fun ss e => ⟨ds, e, hl, rfl⟩
theorem nl_lst {ta : TA} {PA : List Sl → Prop} {PL : List PyData → Prop} (h : Pas K ta ρ PA) (hP : ∀ ss, PA ss → ∃ ds, ss = ds.map .d ∧ ds.length ≤ sizeLine ∧ PL ds) : Nl K (tLst ta) ρ PL := fun T H0 G H σ gh tp D Q q =>
  h.bind gh tp D fun ss vs G1 H1 p1 s1 gh1 tp1 D1 x1 => by
    obtain ⟨ds, rfl, hl, hP⟩ := hP ss p1
    have a := dnall_of x1
    exact ⟨by rw [a.length]; exact hl, new_end gh1 tp1 a fun p G' H' s hp nt gp e a' => q ds p vs G' H' hP (s1.trans s) (s1.no hp nt) nt gp e a'⟩
theorem nd_lst {ta : TA} {ds : List PyData} (h : Pasd K ta ρ (ds.map .d)) (hl : ds.length ≤ sizeLine := by exact Nat.le_of_ble_eq_true rfl) : Nld K (tLst ta) ρ ds := nl_lst h fun ss e => ⟨ds, e, hl, rfl⟩
end
end PD

namespace PD
open PySem PySem.Spec PyProof.Rows L2

/-- xs[lo:hi] -/
def cut {α : Type} (xs : List α) (lo hi : Option Int) : List α := (xs.drop (HT.sIx xs.length 0 lo)).take (HT.sIx xs.length xs.length hi - HT.sIx xs.length 0 lo)
theorem cut_map {α β : Type} (f : α → β) (xs : List α) (lo hi : Option Int) : cut (xs.map f) lo hi = (cut xs lo hi).map f := by
  unfold cut
  rw [List.length_map, List.map_take, List.map_drop]
theorem cut_len {α : Type} (xs : List α) (lo hi : Option Int) : (cut xs lo hi).length ≤ xs.length := by
  unfold cut
  rw [List.length_take, List.length_drop]
  omega
theorem cutV_eq (xs : List V) (lo hi : Option Int) : cutV xs lo hi = cut xs lo hi := rfl
theorem cut_from {α : Type} (xs : List α) (k : Nat) : cut xs (some (k : Int)) none = xs.drop k := by
  unfold cut
  rw [HT.sIx_nat, HT.sIx_none, List.take_of_length_le (by rw [List.length_drop]; omega)]
  by_cases h : k ≤ xs.length
  · rw [Nat.min_eq_left h]
  · rw [Nat.min_eq_right (by omega), List.drop_of_length_le (Nat.le_refl _), List.drop_of_length_le (by omega)]
theorem cut_to {α : Type} (xs : List α) (k : Nat) : cut xs none (some (k : Int)) = xs.take k := by
  unfold cut
  rw [HT.sIx_nat, HT.sIx_none, List.drop_zero, Nat.sub_zero]
  by_cases h : k ≤ xs.length
  · rw [Nat.min_eq_left h]
  · rw [Nat.min_eq_right (by omega), List.take_of_length_le (Nat.le_refl _), List.take_of_length_le (by omega)]
theorem DnAll.cut {K : PySem.W.Frag} {G : Hp} {vs : List V} {ds : List PyData} (h : DnAll K G vs ds) (lo hi : Option Int) : DnAll K G (cutV vs lo hi) (PD.cut ds lo hi) := by
  rw [cutV_eq]
  unfold PD.cut
  rw [h.length]
  exact (h.drop _).take _
theorem atI_map {α β : Type} (f : α → β) (xs : List α) (i : Int) : atI (xs.map f) i = (atI xs i).map f := by
  unfold atI
  rw [List.length_map]
  cases ixN xs.length i with
  | none => rfl
  | some j =>
    show (xs.map f)[j]? = (xs[j]?).map f
    rw [List.getElem?_map]
theorem DnAll.atI {K : PySem.W.Frag} {G : Hp} {vs : List V} {ds : List PyData} {d : PyData} {i : Int} (h : DnAll K G vs ds) (e : L2.atI ds i = some d) : ∃ v, L2.atI vs i = some v ∧ Dn K G v d := by
  unfold L2.atI at e ⊢
  rw [h.length]
  cases q : ixN ds.length i with
  | none =>
    rw [q] at e
    cases e
  | some j =>
    rw [q] at e
    exact h.get e

section
variable {K : PySem.W.Frag} {ρ : Rho} {te ta tb tc : TE} {P P' : PyData → Prop} {t u : TT}
/-! ### subscripts -/
theorem ye_ixT {Pa Pb : PyData → Prop} (ha : Pe K ta ρ Pa) (hb : Pe K tb ρ Pb) (h : ∀ x y, Pa x → Pb y → ∃ xs i d, (x = .tuple xs ∨ x = .list xs) ∧ y = .int i ∧ atI xs i = some d ∧ P d) : Pe K (tOp (rIx K) ta tb) ρ P := fun T H0 G H σ gh tp D Q q =>
  ha.bind gh tp D fun x v G1 H1 p1 s1 gh1 tp1 D1 x1 => hb.bind gh1 tp1 D1 fun y u G2 H2 p2 s2 gh2 tp2 D2 x2 => by
    obtain ⟨xs, i, d, ex, rfl, e, hP⟩ := h x y p1 p2
    have x1 := x1.mono s2.g
    cases x2
    rcases ex with rfl | rfl
    · cases x1 with
      | @tup a vs _ pl e1 a1 =>
        obtain ⟨z, ez, dz⟩ := a1.atI e
        exact .inr (.inl ⟨a, vs, i, z, rfl, rfl, sqt_mono gh2 e1, ez, q d z G2 H2 hP (s1.trans s2) dz⟩)
    · cases x1 with
      | @lst a vs _ e1 a1 =>
        obtain ⟨z, ez, dz⟩ := a1.atI e
        exact .inl ⟨a, vs, i, z, rfl, rfl, .inl (.inl (gh2 _ _ e1)), ez, q d z G2 H2 hP (s1.trans s2) dz⟩
theorem ye_ixR {PL : List PyData → Prop} {Pb : PyData → Prop} (ha : Rl K ta ρ PL) (hb : Pe K tb ρ Pb) (h : ∀ xs y, PL xs → Pb y → ∃ i d, y = .int i ∧ atI xs i = some d ∧ P d) : Pe K (tOp (rIx K) ta tb) ρ P := fun T H0 G H σ gh tp D Q q =>
  ha.bind gh tp D fun xs p vs G1 H1 p1 s1 gh1 tp1 D1 rd a => hb.bind gh1 tp1 D1 fun y u G2 H2 p2 s2 gh2 tp2 D2 x2 => by
    obtain ⟨i, d, rfl, e, hP⟩ := h xs y p1 p2
    cases x2
    obtain ⟨z, ez, dz⟩ := (a.mono s2.g).atI e
    exact .inl ⟨p, vs, i, z, rfl, rfl, (rd.mono s2).sq gh2, ez, q d z G2 H2 hP (s1.trans s2) dz⟩
theorem yd_ixT {xs : List PyData} {i : Int} {d : PyData} (ha : Pd K ta ρ (.tuple xs)) (hb : Pd K tb ρ (.int i)) (e : atI xs i = some d) : Pd K (tOp (rIx K) ta tb) ρ d := ye_ixT ha hb fun x y e1 e2 => ⟨xs, i, d, .inl e1, e2, e, rfl⟩
theorem yd_ixL {xs : List PyData} {i : Int} {d : PyData} (ha : Pd K ta ρ (.list xs)) (hb : Pd K tb ρ (.int i)) (e : atI xs i = some d) : Pd K (tOp (rIx K) ta tb) ρ d := ye_ixT ha hb fun x y e1 e2 => ⟨xs, i, d, .inr e1, e2, e, rfl⟩
theorem yd_ixR {xs : List PyData} {i : Int} {d : PyData} (ha : Rl K ta ρ (fun x => x = xs)) (hb : Pd K tb ρ (.int i)) (e : atI xs i = some d) : Pd K (tOp (rIx K) ta tb) ρ d := ye_ixR ha hb fun x y e1 e2 => ⟨i, d, e2, by rw [e1]; exact e, rfl⟩

/-! ### slices -/
def Po (K : PySem.W.Frag) (to : TO) (ρ : Rho) (P : Option Int → Prop) : Prop := ∀ (T : Addr → Prop) (H0 G H : Hp) (σ : L2.St), Same G H → (∀ a, T a → Tp G H a) → Den T K H0 G H σ ρ →
  ∀ Q : Option Int → Hp → Prop, (∀ o G' H', P o → Step T G H G' H' → Q o H') → to σ H Q
abbrev Pod (K : PySem.W.Frag) (to : TO) (ρ : Rho) (o : Option Int) : Prop := Po K to ρ (fun x => x = o)
theorem yo_n : Pod K tNoPart ρ none := fun T H0 G H σ gh tp D Q q => q none G H rfl (Step.refl gh tp)
theorem yo_e {Pa : PyData → Prop} {PO : Option Int → Prop} (h : Pe K te ρ Pa) (hP : ∀ x, Pa x → ∃ i, x = .int i ∧ PO (some i)) : Po K (tPart te) ρ PO := fun T H0 G H σ gh tp D Q q =>
  h.bind gh tp D fun x v G1 H1 p1 s1 gh1 tp1 D1 x1 => by
    obtain ⟨i, rfl, p⟩ := hP x p1
    cases x1
    exact ⟨i, rfl, q _ G1 H1 p s1⟩
theorem yo_i {i : Int} (h : Pd K te ρ (.int i)) : Pod K (tPart te) ρ (some i) := yo_e h fun x e => ⟨i, e, rfl⟩
theorem Po.bind {to : TO} {PO : Option Int → Prop} {Q : Option Int → Hp → Prop} {T : Addr → Prop} {H0 G H : Hp} {σ : L2.St} (h : Po K to ρ PO) (gh : Same G H) (tp : ∀ a, T a → Tp G H a) (D : Den T K H0 G H σ ρ)
    (k : ∀ o G' H', PO o → Step T G H G' H' → Same G' H' → (∀ a, T a → Tp G' H' a) → Den T K H0 G' H' σ ρ → Q o H') : to σ H Q :=
  h T H0 G H σ gh tp D Q fun o G' H' p s => k o G' H' p s s.gh s.tp (D.mono s)
theorem yd_slT {xs : List PyData} {tl th : TO} {lo hi : Option Int} (ha : Pd K ta ρ (.tuple xs)) (hl : Pod K tl ρ lo) (hh : Pod K th ρ hi) : Pd K (tSl (rSlX K) ta tl th) ρ (.tuple (cut xs lo hi)) := fun T H0 G H σ gh tp D Q q =>
  ha.bind gh tp D fun x v G1 H1 p1 s1 gh1 tp1 D1 x1 => hl.bind gh1 tp1 D1 fun o1 G2 H2 p2 s2 gh2 tp2 D2 => hh.bind gh2 tp2 D2 fun o2 G3 H3 p3 s3 gh3 tp3 D3 => by
    subst p1 p2 p3
    have s := (s1.trans s2).trans s3
    have x1 := (x1.mono s2.g).mono s3.g
    cases x1 with
    | @tup a vs _ pl e1 a1 =>
      refine .inr ⟨a, vs, rfl, sqt_mono gh3 e1, ?_, fun _ => ?_⟩
      · rintro ⟨h1, h2⟩
        have e : cut xs o1 o2 = xs := by
          unfold cut
          rw [← a1.length, h1, h2, a1.length, List.drop_zero, Nat.sub_zero]
          exact List.take_of_length_le (Nat.le_refl _)
        exact q _ _ G3 H3 (by rw [e]) s (.tup (p := pl) e1 a1)
      · exact new_tup gh3 tp3 (a1.cut o1 o2) fun v G' H' s' x => q _ v G' H' rfl (s.trans s') x
theorem nd_slR {xs : List PyData} {tl th : TO} {lo hi : Option Int} (ha : Rl K ta ρ (fun x => x = xs)) (hl : Pod K tl ρ lo) (hh : Pod K th ρ hi) : Nld K (tSl (rSlX K) ta tl th) ρ (cut xs lo hi) := fun T H0 G H σ gh tp D Q q =>
  ha.bind gh tp D fun x p vs G1 H1 p1 s1 gh1 tp1 D1 rd a1 => hl.bind gh1 tp1 D1 fun o1 G2 H2 p2 s2 gh2 tp2 D2 => hh.bind gh2 tp2 D2 fun o2 G3 H3 p3 s3 gh3 tp3 D3 => by
    subst p1 p2 p3
    have s := (s1.trans s2).trans s3
    exact .inl ⟨p, vs, rfl, ((rd.mono s2).mono s3).sq gh3, new_end gh3 tp3 (((a1.mono s2.g).mono s3.g).cut o1 o2) fun p G' H' s' hp nt gp e a' => q _ p _ G' H' rfl (s.trans s') (s.no hp nt) nt gp e a'⟩
/-! ### + and * of lists and tuples -/
theorem ye_catT {Pa Pb : PyData → Prop} (ha : Pe K ta ρ Pa) (hb : Pe K tb ρ Pb) (h : ∀ x y, Pa x → Pb y → ∃ xs ys, x = .tuple xs ∧ y = .tuple ys ∧ xs.length + ys.length ≤ sizeLine ∧ P (.tuple (xs ++ ys))) : Pe K (tOp (rPlus K) ta tb) ρ P := fun T H0 G H σ gh tp D Q q =>
  ha.bind gh tp D fun x v G1 H1 p1 s1 gh1 tp1 D1 x1 => hb.bind gh1 tp1 D1 fun y u G2 H2 p2 s2 gh2 tp2 D2 x2 => by
    obtain ⟨xs, ys, rfl, rfl, hl, hP⟩ := h x y p1 p2
    have x1 := x1.mono s2.g
    cases x1 with
    | @tup a vs _ pl e1 a1 =>
      cases x2 with
      | @tup b us _ pl2 e2 a2 =>
        refine .inr (.inr ⟨a, b, vs, us, rfl, rfl, sqt_mono gh2 e1, sqt_mono gh2 e2, by rw [a1.length, a2.length]; exact hl, fun z => ?_, fun _ z => ?_, fun _ _ => ?_⟩)
        · subst z
          cases a1
          exact q _ _ G2 H2 hP (s1.trans s2) (.tup (p := pl2) e2 a2)
        · subst z
          cases a2
          exact q _ _ G2 H2 (by rw [List.append_nil] at hP; exact hP) (s1.trans s2) (.tup (p := pl) e1 a1)
        · exact new_tup gh2 tp2 (a1.append a2) fun v G' H' s' x => q _ v G' H' hP ((s1.trans s2).trans s') x
theorem yd_catT {xs ys : List PyData} (ha : Pd K ta ρ (.tuple xs)) (hb : Pd K tb ρ (.tuple ys)) (hl : xs.length + ys.length ≤ sizeLine) : Pd K (tOp (rPlus K) ta tb) ρ (.tuple (xs ++ ys)) := ye_catT ha hb fun x y e1 e2 => ⟨xs, ys, e1, e2, hl, rfl⟩
theorem nl_cat {PL PM PN : List PyData → Prop} (ha : Rl K ta ρ PL) (hb : Rl K tb ρ PM) (h : ∀ xs ys, PL xs → PM ys → xs.length + ys.length ≤ sizeLine ∧ PN (xs ++ ys)) : Nl K (tOp (rPlus K) ta tb) ρ PN := fun T H0 G H σ gh tp D Q q =>
  ha.bind gh tp D fun xs p vs G1 H1 p1 s1 gh1 tp1 D1 rd a1 => hb.bind gh1 tp1 D1 fun ys r us G2 H2 p2 s2 gh2 tp2 D2 rd2 a2 => by
    obtain ⟨hl, hP⟩ := h xs ys p1 p2
    have a1 := a1.mono s2.g
    have s := s1.trans s2
    exact .inr (.inl ⟨p, r, vs, us, rfl, rfl, (rd.mono s2).at gh2, rd2.at gh2, by rw [a1.length, a2.length]; exact hl, new_end gh2 tp2 (a1.append a2) fun p G' H' s' hp nt gp e a' => q _ p _ G' H' hP (s.trans s') (s.no hp nt) nt gp e a'⟩)
theorem nd_cat {xs ys : List PyData} (ha : Rl K ta ρ (fun x => x = xs)) (hb : Rl K tb ρ (fun x => x = ys)) (hl : xs.length + ys.length ≤ sizeLine) : Nld K (tOp (rPlus K) ta tb) ρ (xs ++ ys) := nl_cat ha hb fun _ _ e1 e2 => by rw [e1, e2]; exact ⟨hl, rfl⟩
theorem nl_rep {PL PN : List PyData → Prop} {Pb : PyData → Prop} (ha : Rl K ta ρ PL) (hb : Pe K tb ρ Pb) (h : ∀ xs y, PL xs → Pb y → ∃ k : Int, y = .int k ∧ -(2 ^ 63) ≤ k ∧ k < 2 ^ 63 ∧ xs.length * k.toNat ≤ sizeLine ∧ PN (List.replicate k.toNat xs).flatten) : Nl K (tOp (rTimes K) ta tb) ρ PN := fun T H0 G H σ gh tp D Q q =>
  ha.bind gh tp D fun xs p vs G1 H1 p1 s1 gh1 tp1 D1 rd a1 => hb.bind gh1 tp1 D1 fun y u G2 H2 p2 s2 gh2 tp2 D2 x2 => by
    obtain ⟨k, rfl, h1, h2, hl, hP⟩ := h xs y p1 p2
    cases x2
    have a1 := a1.mono s2.g
    have s := s1.trans s2
    exact .inr (.inr (.inl ⟨p, k, vs, rfl, rfl, (rd.mono s2).at gh2, h1, h2, by rw [a1.length]; exact hl, new_end gh2 tp2 (a1.rep k.toNat) fun p G' H' s' hp nt gp e a' => q _ p _ G' H' hP (s.trans s') (s.no hp nt) nt gp e a'⟩))
theorem nd_rep {xs : List PyData} {k : Int} (ha : Rl K ta ρ (fun x => x = xs)) (hb : Pd K tb ρ (.int k)) (h1 : 0 ≤ k) (h2 : k < 2 ^ 63) (hl : xs.length * k.toNat ≤ sizeLine) : Nld K (tOp (rTimes K) ta tb) ρ (List.replicate k.toNat xs).flatten :=
  nl_rep ha hb fun _ _ e1 e2 => ⟨k, e2, by omega, h2, by rw [e1]; exact hl, by rw [e1]⟩
theorem yd_repT {xs : List PyData} {k : Int} (ha : Pd K ta ρ (.tuple xs)) (hb : Pd K tb ρ (.int k)) (hne : xs ≠ []) (h2 : 2 ≤ k) (h3 : k ≤ 1000) (hl : xs.length ≤ 1000) : Pd K (tOp (rTimes K) ta tb) ρ (.tuple (List.replicate k.toNat xs).flatten) := fun T H0 G H σ gh tp D Q q =>
  ha.bind gh tp D fun x v G1 H1 p1 s1 gh1 tp1 D1 x1 => hb.bind gh1 tp1 D1 fun y u G2 H2 p2 s2 gh2 tp2 D2 x2 => by
    subst p1 p2
    have x1 := x1.mono s2.g
    cases x2
    cases x1 with
    | @tup a vs _ pl e1 a1 =>
      exact .inr (.inr (.inr ⟨a, k, vs, rfl, rfl, sqt_mono gh2 e1, fun z => (by subst z; cases a1; exact hne rfl), h2, h3, by rw [a1.length]; exact hl, new_tup gh2 tp2 (a1.rep k.toNat) fun v G' H' s' x => q _ v G' H' rfl ((s1.trans s2).trans s') x⟩))
/-! ### list(..), tuple(..) -/
theorem nd_listR {xs : List PyData} (ha : Rl K ta ρ (fun x => x = xs)) : Nld K (tCB (rListOf K) (tCons ta tNil)) ρ xs := fun T H0 G H σ gh tp D Q q =>
  ha.bind gh tp D fun ys p vs G1 H1 p1 s1 gh1 tp1 D1 rd a1 => by
    subst p1
    exact ⟨p, vs, rfl, .inl (rd.sq gh1), new_end gh1 tp1 a1 fun p G' H' s' hp nt gp e a' => q _ p _ G' H' rfl (s1.trans s') (s1.no hp nt) nt gp e a'⟩
theorem nl_listT {PA : PyData → Prop} {PL : List PyData → Prop} (ha : Pe K ta ρ PA) (h : ∀ x, PA x → ∃ xs, x = .tuple xs ∧ PL xs) : Nl K (tCB (rListOf K) (tCons ta tNil)) ρ PL := fun T H0 G H σ gh tp D Q q =>
  ha.bind gh tp D fun x v G1 H1 p1 s1 gh1 tp1 D1 x1 => by
    obtain ⟨xs, rfl, hP⟩ := h x p1
    cases x1 with
    | @tup a vs _ pl e1 a1 =>
      exact ⟨a, vs, rfl, .inr (sqt_mono gh1 e1), new_end gh1 tp1 a1 fun p G' H' s' hp nt gp e a' => q _ p _ G' H' hP (s1.trans s') (s1.no hp nt) nt gp e a'⟩
theorem nd_listT {xs : List PyData} (ha : Pd K ta ρ (.tuple xs)) : Nld K (tCB (rListOf K) (tCons ta tNil)) ρ xs := nl_listT ha fun x e => ⟨xs, e, rfl⟩
theorem ye_tupR {PL : List PyData → Prop} (ha : Rl K ta ρ PL) (h : ∀ xs, PL xs → P (.tuple xs)) : Pe K (tCB (rTupOf K) (tCons ta tNil)) ρ P := fun T H0 G H σ gh tp D Q q =>
  ha.bind gh tp D fun ys p vs G1 H1 p1 s1 gh1 tp1 D1 rd a1 => ⟨p, vs, rfl, .inl ⟨rd.sq gh1, new_tup gh1 tp1 a1 fun v G' H' s' x => q _ v G' H' (h ys p1) (s1.trans s') x⟩⟩
theorem yd_tupR {xs : List PyData} (ha : Rl K ta ρ (fun x => x = xs)) : Pd K (tCB (rTupOf K) (tCons ta tNil)) ρ (.tuple xs) := ye_tupR ha fun _ e => by rw [e]
theorem yd_tupT {xs : List PyData} (ha : Pd K ta ρ (.tuple xs)) : Pd K (tCB (rTupOf K) (tCons ta tNil)) ρ (.tuple xs) := fun T H0 G H σ gh tp D Q q =>
  ha.bind gh tp D fun x v G1 H1 p1 s1 gh1 tp1 D1 x1 => by
    subst p1
    cases x1 with
    | @tup a vs _ pl e1 a1 => exact ⟨a, vs, rfl, .inr ⟨sqt_mono gh1 e1, q _ _ G1 H1 rfl s1 (.tup (p := pl) e1 a1)⟩⟩
/-- list(range(n)), list(range(a, b)) -/
def rgD (a b : Int) : List PyData := (List.range (b - a).toNat).map fun i => PyData.int (a + (i : Nat))
theorem dn_rg (G : Hp) (a b : Int) : DnAll K G (rgV a b) (rgD a b) := by
  unfold rgV rgD
  induction (List.range (b - a).toNat) with
  | nil => exact .nil
  | cons n r ih => exact .cons (.int _) ih
theorem nd_rg1 {n : Int} (ha : Pd K ta ρ (.int n)) (h : RgOk 0 n) : Nld K (tLstRg (tRg1 ta)) ρ (rgD 0 n) := fun T H0 G H σ gh tp D Q q =>
  ha.bind gh tp D fun x v G1 H1 p1 s1 gh1 tp1 D1 x1 => by
    subst p1
    cases x1
    exact ⟨n, rfl, h, new_end gh1 tp1 (dn_rg G1 0 n) fun p G' H' s' hp nt gp e a' => q _ p _ G' H' rfl (s1.trans s') (s1.no hp nt) nt gp e a'⟩
theorem nd_rg2 {n m : Int} (ha : Pd K ta ρ (.int n)) (hb : Pd K tb ρ (.int m)) (h : RgOk n m) : Nld K (tLstRg (tRg2 ta tb)) ρ (rgD n m) := fun T H0 G H σ gh tp D Q q =>
  ha.bind gh tp D fun x v G1 H1 p1 s1 gh1 tp1 D1 x1 => hb.bind gh1 tp1 D1 fun y u G2 H2 p2 s2 gh2 tp2 D2 x2 => by
    subst p1 p2
    cases x1
    cases x2
    exact ⟨n, m, rfl, rfl, h, new_end gh2 tp2 (dn_rg G2 n m) fun p G' H' s' hp nt gp e a' => q _ p _ G' H' rfl ((s1.trans s2).trans s') ((s1.trans s2).no hp nt) nt gp e a'⟩
/-! ### if as an expression; tests -/
theorem ye_if {Pb : Bool → Prop} (h : Pt K t ρ Pb) (h1 : Pb true → Pe K ta ρ P) (h2 : Pb false → Pe K tb ρ P) : Pe K (tIf t ta tb) ρ P := fun T H0 G H σ gh tp D Q q =>
  h T H0 G H σ gh tp D _ fun b G1 H1 p1 s1 => by
    cases b with
    | true =>
      show ta σ H1 Q
      exact (h1 p1).bind s1.gh s1.tp (D.mono s1) fun d v G' H' p s gh' tp' D' x => q d v G' H' p (s1.trans s) x
    | false =>
      show tb σ H1 Q
      exact (h2 p1).bind s1.gh s1.tp (D.mono s1) fun d v G' H' p s gh' tp' D' x => q d v G' H' p (s1.trans s) x
theorem yt_v {Pa : PyData → Prop} {Pb : Bool → Prop} (h : Pe K te ρ Pa) (hb : ∀ x, Pa x → ∃ b, x = .bool b ∧ Pb b) : Pt K (tTest te) ρ Pb := fun T H0 G H σ gh tp D Q q =>
  h.bind gh tp D fun x v G1 H1 p1 s1 gh1 tp1 D1 x1 => by
    obtain ⟨b, rfl, p⟩ := hb x p1
    cases x1
    exact ⟨b, rfl, q b G1 H1 p s1⟩
theorem yt_d {b : Bool} (h : Pd K te ρ (.bool b)) : Ptd K (tTest te) ρ b := yt_v h fun x e => ⟨b, e, rfl⟩
theorem yt_vB {Pa : PyData → Prop} {Pb : Bool → Prop} (h : Pe K te ρ Pa) (hb : ∀ x, Pa x → ∃ b, x = .bool b ∧ Pb b) : Pt K (tB te) ρ Pb := fun T H0 G H σ gh tp D Q q =>
  h.bind gh tp D fun x v G1 H1 p1 s1 gh1 tp1 D1 x1 => by
    obtain ⟨b, rfl, p⟩ := hb x p1
    cases x1
    exact ⟨b, rfl, q b G1 H1 p s1⟩
theorem yt_B {b : Bool} (h : Pd K te ρ (.bool b)) : Ptd K (tB te) ρ b := yt_vB h fun x e => ⟨b, e, rfl⟩
theorem Pt.to {b c : Bool} (h : Ptd K t ρ b) (e : b = c) : Ptd K t ρ c := e ▸ h
theorem Pt.imp {Pb Pc : Bool → Prop} (h : Pt K t ρ Pb) (i : ∀ b, Pb b → Pc b) : Pt K t ρ Pc := fun T H0 G H σ gh tp D Q q => h T H0 G H σ gh tp D Q fun b G' H' p => q b G' H' (i b p)
theorem yt_not {Pb Pc : Bool → Prop} (h : Pt K t ρ Pb) (i : ∀ b, Pb b → Pc (!b)) : Pt K (tNot t) ρ Pc := fun T H0 G H σ gh tp D Q q => h T H0 G H σ gh tp D _ fun b G' H' p s => q (!b) G' H' (i b p) s
theorem yt_notd {b : Bool} (h : Ptd K t ρ b) : Ptd K (tNot t) ρ (!b) := yt_not h fun _ e => by rw [e]
theorem yt_and {Pb Pc Pd' : Bool → Prop} (h : Pt K t ρ Pb) (h2 : Pb true → Pt K u ρ Pc) (h3 : Pb false → Pd' false) (h4 : ∀ c, Pb true → Pc c → Pd' c) : Pt K (tAnd t u) ρ Pd' := fun T H0 G H σ gh tp D Q q =>
  h T H0 G H σ gh tp D _ fun b G1 H1 p s => by
    cases b with
    | true =>
      show u σ H1 Q
      exact h2 p T H0 G1 H1 σ s.gh s.tp (D.mono s) Q fun c G' H' pc s' => q c G' H' (h4 c p pc) (s.trans s')
    | false => exact q false G1 H1 (h3 p) s
theorem yt_or {Pb Pc Pd' : Bool → Prop} (h : Pt K t ρ Pb) (h2 : Pb false → Pt K u ρ Pc) (h3 : Pb true → Pd' true) (h4 : ∀ c, Pb false → Pc c → Pd' c) : Pt K (tOr t u) ρ Pd' := fun T H0 G H σ gh tp D Q q =>
  h T H0 G H σ gh tp D _ fun b G1 H1 p s => by
    cases b with
    | false =>
      show u σ H1 Q
      exact h2 p T H0 G1 H1 σ s.gh s.tp (D.mono s) Q fun c G' H' pc s' => q c G' H' (h4 c p pc) (s.trans s')
    | true => exact q true G1 H1 (h3 p) s
theorem yt_andd {a b : Bool} (h : Ptd K t ρ a) (h2 : a = true → Ptd K u ρ b) : Ptd K (tAnd t u) ρ (a && b) := yt_and h (fun e => h2 e.symm) (fun e => by rw [← e]; rfl) fun c e e2 => by rw [← e, e2]; rfl
theorem yt_ord {a b : Bool} (h : Ptd K t ρ a) (h2 : a = false → Ptd K u ρ b) : Ptd K (tOr t u) ρ (a || b) := yt_or h (fun e => h2 e.symm) (fun e => by rw [← e]; rfl) fun c e e2 => by rw [← e, e2]; rfl
theorem ye_andV {Pa : PyData → Prop} {Pb Pc : Bool → Prop} (h : Pe K ta ρ (fun d => ∃ b, d = .bool b ∧ Pb b)) (h2 : Pb true → Pe K tb ρ (fun d => ∃ b, d = .bool b ∧ Pc b)) (h3 : Pb false → P (.bool false)) (h4 : ∀ c, Pb true → Pc c → P (.bool c)) : Pe K (tAndV ta tb) ρ P := fun T H0 G H σ gh tp D Q q =>
  h.bind gh tp D fun x v G1 H1 p1 s1 gh1 tp1 D1 x1 => by
    obtain ⟨b, rfl, p⟩ := p1
    cases x1
    refine ⟨b, rfl, ?_⟩
    cases b with
    | true =>
      show tb σ H1 Q
      exact (h2 p).bind gh1 tp1 D1 fun d v G' H' pd s gh' tp' D' x => by
        obtain ⟨c, rfl, pc⟩ := pd
        exact q _ v G' H' (h4 c p pc) (s1.trans s) x
    | false => exact q _ _ G1 H1 (h3 p) s1 (.bl _)
theorem yd_andV {a b : Bool} (h : Pd K ta ρ (.bool a)) (h2 : a = true → Pd K tb ρ (.bool b)) : Pd K (tAndV ta tb) ρ (.bool (a && b)) := fun T H0 G H σ gh tp D Q q =>
  h.bind gh tp D fun x v G1 H1 p1 s1 gh1 tp1 D1 x1 => by
    subst p1
    cases x1
    refine ⟨a, rfl, ?_⟩
    cases a with
    | true =>
      show tb σ H1 Q
      exact (h2 rfl).bind gh1 tp1 D1 fun d v G' H' pd s gh' tp' D' x => by
        subst pd
        exact q _ v G' H' rfl (s1.trans s) x
    | false => exact q _ _ G1 H1 rfl s1 (.bl _)
theorem yd_orV {a b : Bool} (h : Pd K ta ρ (.bool a)) (h2 : a = false → Pd K tb ρ (.bool b)) : Pd K (tOrV ta tb) ρ (.bool (a || b)) := fun T H0 G H σ gh tp D Q q =>
  h.bind gh tp D fun x v G1 H1 p1 s1 gh1 tp1 D1 x1 => by
    subst p1
    cases x1
    refine ⟨a, rfl, ?_⟩
    cases a with
    | false =>
      show tb σ H1 Q
      exact (h2 rfl).bind gh1 tp1 D1 fun d v G' H' pd s gh' tp' D' x => by
        subst pd
        exact q _ v G' H' rfl (s1.trans s) x
    | true => exact q _ _ G1 H1 rfl s1 (.bl _)
theorem yd_notV {a : Bool} (h : Pd K ta ρ (.bool a)) : Pd K (tNotV ta) ρ (.bool (!a)) := fun T H0 G H σ gh tp D Q q =>
  h.bind gh tp D fun x v G1 H1 p1 s1 gh1 tp1 D1 x1 => by
    subst p1
    cases x1
    exact ⟨a, rfl, q _ _ G1 H1 rfl s1 (.bl _)⟩
end

/-! ### what a def promises -/
abbrev Pr := List Sl → (PyData → Prop) → Prop
def spR (K : PySem.W.Frag) (n : Nat) (R : Pr) : Sp := fun vs H Q _ => ∃ (T : Addr → Prop) (G : Hp) (ss : List Sl) (P : PyData → Prop), Same G H ∧ (∀ a, T a → Tp G H a) ∧ ArgsOk T K G ss vs ∧ ss.length = n ∧ R ss P ∧
  ∀ d v G' H', P d → Step T G H G' H' → Dn K G' v d → Q v H'
section
variable {K : PySem.W.Frag} {ρ : Rho} {P : PyData → Prop}
theorem ye_call {n : Nat} {R : Pr} {ta : TA} {PA : List Sl → Prop} {E : XK} (h : Pas K ta ρ PA) (hR : ∀ ss, PA ss → ss.length = n ∧ R ss P) : Pe K (tCall (spR K n R) [] E ta) ρ P := fun T H0 G H σ gh tp D Q q =>
  h.bind gh tp D fun ss vs G1 H1 p1 s1 gh1 tp1 D1 x1 => by
    obtain ⟨hl, hr⟩ := hR ss p1
    show spR K n R (vs ++ []) H1 Q E
    rw [List.append_nil]
    exact ⟨T, G1, ss, P, gh1, tp1, x1, hl, hr, fun d v G' H' p s x => q d v G' H' p (s1.trans s) x⟩
theorem ye_cl {n : Nat} {R : Pr} {ta : TA} {ss : List Sl} {E : XK} (h : Pasd K ta ρ ss) (hl : ss.length = n) (hR : R ss P) : Pe K (tCall (spR K n R) [] E ta) ρ P := ye_call h fun x e => by rw [e]; exact ⟨hl, hR⟩
end

/-! ### statements -/
structure Ed where
  nx : Rho → Prop := fun _ => False
  rt : PyData → Prop := fun _ => False
  bk : Rho → Prop := fun _ => False
  ct : Rho → Prop := fun _ => False
  /-- what is wished of what is raised; what may be raised: a class, its fields, the slots -/
  xw : WX := fun _ _ _ _ => True
  xr : Value → List (Str × PyData) → Rho → Prop := fun _ _ _ => False
/-- the fields of an exception -/
inductive XDn (K : PySem.W.Frag) (G : Hp) : List (Str × V) → List (Str × PyData) → Prop
  | nil : XDn K G [] []
  | cons {x : Str} {v : V} {d : PyData} {vs : List (Str × V)} {fs : List (Str × PyData)} : Dn K G v d → XDn K G vs fs → XDn K G ((x, v) :: vs) ((x, d) :: fs)
def XD (K : PySem.W.Frag) (G H : Hp) (d : Option Addr) (fs : List (Str × PyData)) : Prop := (d = none ∧ fs = []) ∨ (fs ≠ [] ∧ ∃ dd vs, d = some dd ∧ G dd = some (.xd vs) ∧ XDn K G vs fs)
theorem XDn.mono {K : PySem.W.Frag} {G G' : Hp} (g : Same G G') : ∀ {vs : List (Str × V)} {fs : List (Str × PyData)}, XDn K G vs fs → XDn K G' vs fs
  | _, _, .nil => .nil
  | _, _, .cons h t => .cons (h.mono g) (XDn.mono g t)
theorem XD.mono {K : PySem.W.Frag} {G G' H H' : Hp} {d : Option Addr} {fs : List (Str × PyData)} (g : Same G G') (h : XD K G H d fs) : XD K G' H' d fs :=
  h.imp id fun ⟨n, dd, vs, e, q, x⟩ => ⟨n, dd, vs, e, g _ _ q, x.mono g⟩
theorem XDn.at {K : PySem.W.Frag} {G : Hp} {x : Str} {d : PyData} : ∀ {vs : List (Str × V)} {fs : List (Str × PyData)}, XDn K G vs fs → fs.lookup x = some d → ∃ v, vs.lookup x = some v ∧ Dn K G v d
  | _, _, .nil, e => nomatch e
  | _, _, .cons (x := y) (v := v) (d := z) h t, e => by
    rw [List.lookup_cons] at e ⊢
    cases q : (x == y) with
    | true => rw [q] at e; cases e; exact ⟨v, rfl, h⟩
    | false => rw [q] at e; exact XDn.at t e
def At (T : Addr → Prop) (K : PySem.W.Frag) (G0 H0 : Hp) (ρ : Rho) (σ : L2.St) (H : Hp) : Prop := ∃ G, Step T G0 H0 G H ∧ Den T K H0 G H σ ρ
def Rs (T : Addr → Prop) (K : PySem.W.Frag) (G0 H0 : Hp) (d : PyData) (v : V) (H : Hp) : Prop := ∃ G, Step T G0 H0 G H ∧ Dn K G v d
structure EdOk (T : Addr → Prop) (K : PySem.W.Frag) (G0 H0 : Hp) (E : Ed) (D : Ends) : Prop where
  nx : ∀ ρ σ H, E.nx ρ → At T K G0 H0 ρ σ H → D.nx σ H
  rt : ∀ d v H, E.rt d → Rs T K G0 H0 d v H → D.rt v H
  bk : ∀ ρ σ H, E.bk ρ → At T K G0 H0 ρ σ H → D.bk σ H
  ct : ∀ ρ σ H, E.ct ρ → At T K G0 H0 ρ σ H → D.ct σ H
  xx : ∀ cls fs d ρ σ G H, E.xr cls fs ρ → Step T G0 H0 G H → Den T K H0 G H σ ρ → XD K G H d fs → E.xw cls d σ H
def Ws (K : PySem.W.Frag) (t : TS) (ρ : Rho) (E : Ed) : Prop := ∀ (T : Addr → Prop) (G0 H0 : Hp) (σ : L2.St) (H : Hp) (D : Ends), At T K G0 H0 ρ σ H → EdOk T K G0 H0 E D → t D σ H
/-- less is known -/
def sle : Sl → Sl → Prop
  | _, .no => True
  | a, b => a = b
inductive Le : Rho → Rho → Prop
  | nil : Le [] []
  | cons {a b : Sl} {r s : Rho} : sle a b → Le r s → Le (a :: r) (b :: s)
theorem Le.len : ∀ {r s : Rho}, Le r s → r.length = s.length
  | _, _, .nil => rfl
  | _, _, .cons _ t => congrArg (· + 1) (Le.len t)
theorem Le.at : ∀ {r s : Rho} {i : Nat} {x : Sl}, Le r s → s[i]? = some x → x = .no ∨ r[i]? = some x
  | _, _, _, _, .nil, e => by simp at e
  | _, _, 0, x, .cons (b := b) h _, e => by
    have e := Option.some.inj e
    subst e
    cases b with
    | no => exact .inl rfl
    | d x => exact .inr (congrArg some h)
    | ml x => exact .inr (congrArg some h)
    | tp => exact .inr (congrArg some h)
    | rf x => exact .inr (congrArg some h)
    | rg lo hi => exact .inr (congrArg some h)
    | mx m => exact .inr (congrArg some h)
  | _, _, i + 1, x, .cons _ t, e => Le.at (i := i) t e
theorem Le.refl : ∀ (r : Rho), Le r r
  | [] => .nil
  | a :: r => .cons (by cases a <;> first | trivial | rfl) (Le.refl r)
section
variable {K : PySem.W.Frag} {ρ ρ' : Rho} {P P' : PyData → Prop} {T : Addr → Prop} {G0 H0 G H : Hp} {σ : L2.St} {te : TE} {t u : TS} {E : Ed}
theorem Den.le (h : Den T K H0 G H σ ρ) (l : Le ρ ρ') : Den T K H0 G H σ ρ' := by
  refine ⟨h.len.trans l.len, fun i s o e1 e2 => ?_, fun i j xs ys o u a hij e1 e2 e3 e4 f1 f2 => ?_⟩
  · rcases l.at e1 with rfl | q
    · trivial
    · exact h.ok i s o q e2
  · have q1 := (l.at e1).resolve_left (fun z => by rw [z] at f1; exact f1)
    have q2 := (l.at e2).resolve_left (fun z => by rw [z] at f2; exact f2)
    exact h.one i j xs ys o u a hij q1 q2 e3 e4 f1 f2
theorem At.le (h : At T K G0 H0 ρ σ H) (l : Le ρ ρ') : At T K G0 H0 ρ' σ H := let ⟨G, s, d⟩ := h; ⟨G, s, d.le l⟩
theorem Ws.le (h : Ws K t ρ' E) (l : Le ρ ρ') : Ws K t ρ E := fun T G0 H0 σ H D a e => h T G0 H0 σ H D (a.le l) e
theorem Ws.imp {E' : Ed} (h : Ws K t ρ E) (h1 : ∀ r, E.nx r → E'.nx r) (h2 : ∀ r, E.rt r → E'.rt r) (h3 : ∀ r, E.bk r → E'.bk r) (h4 : ∀ r, E.ct r → E'.ct r) (h5 : ∀ c f r, E.xr c f r → E'.xr c f r := by intro c f r z; exact z) (h6 : E.xw = E'.xw := by rfl) : Ws K t ρ E' := fun T G0 H0 σ H D a e =>
  h T G0 H0 σ H D a ⟨fun r σ H p => e.nx r σ H (h1 r p), fun r v H p => e.rt r v H (h2 r p), fun r σ H p => e.bk r σ H (h3 r p), fun r σ H p => e.ct r σ H (h4 r p), fun c f d r σ G H p s n x => h6 ▸ e.xx c f d r σ G H (h5 c f r p) s n x⟩
theorem At.eval (a : At T K G0 H0 ρ σ H) (h : Pe K te ρ P) {Q : VK} (k : ∀ d v G' H', P d → Step T G0 H0 G' H' → Den T K H0 G' H' σ ρ → Dn K G' v d → Q v H') : te σ H Q := by
  obtain ⟨G, s, D⟩ := a
  exact h.bind s.gh s.tp D fun d v G' H' p s' _ _ D' x => k d v G' H' p (s.trans s') D' x
theorem ws_seq (R : Rho → Prop) (h : Ws K t ρ { E with nx := R }) (k : ∀ r, R r → Ws K u r E) : Ws K (tSeq t u) ρ E := fun T G0 H0 σ H D a e =>
  h T G0 H0 σ H { D with nx := u D } a ⟨fun r σ' H' p a' => k r p T G0 H0 σ' H' D a' e, e.rt, e.bk, e.ct, e.xx⟩
/-- x = e; the rest -/
theorem ws_set {i : Nat} (h : Pe K te ρ P) (k : ∀ d, P d → E.nx (ρ.set i (.d d))) : Ws K (tAsg te (gName i)) ρ E := fun T G0 H0 σ H D a e =>
  a.eval h fun d v G' H' p s D' x => e.nx _ _ _ (k d p) ⟨G', s, D'.set (s := .d d) (o := some v) ⟨v, rfl, x⟩ fun _ z => nomatch z⟩
theorem wq_set {i : Nat} (h : Pe K te ρ P) (k : ∀ d, P d → Ws K u (ρ.set i (.d d)) E) : Ws K (tSeq (tAsg te (gName i)) u) ρ E := fun T G0 H0 σ H D a e =>
  a.eval h fun d v G' H' p s D' x => k d p T G0 H0 _ _ D ⟨G', s, D'.set (s := .d d) (o := some v) ⟨v, rfl, x⟩ fun _ z => nomatch z⟩ e
theorem wq_setd {i : Nat} {d : PyData} (h : Pd K te ρ d) (k : Ws K u (ρ.set i (.d d)) E) : Ws K (tSeq (tAsg te (gName i)) u) ρ E := wq_set h fun x e => e ▸ k
/-- x = e, e a new list that will be changed -/
theorem set_ml {i : Nat} {l : Addr} {vs : List V} {xs : List PyData} (s : Step T G0 H0 G H) (D : Den T K H0 G H σ ρ) (hl : H l = some (.lst vs)) (a : DnAll K G vs xs) (gl : G l = none) (h0 : H0 l = none) (nt : ¬ T l)
    (other : ∀ (j : Nat) (t : Sl) (o : Option V), j ≠ i → ρ[j]? = some t → σ[j]? = some o → ¬ t.fp o l) : Den T K H0 G H (σ.set i (some (.ref l))) (ρ.set i (.ml xs)) := by
  refine ⟨by rw [List.length_set, List.length_set]; exact D.len, fun j x u e1 e2 => ?_, fun j k ys zs o p m hjk e1 e2 e3 e4 f1 f2 => ?_⟩
  · by_cases q : i = j
    · subst q
      have hi : i < ρ.length := by
        have := (List.getElem?_eq_some_iff.mp e1).1
        rwa [List.length_set] at this
      rw [List.getElem?_set_self hi] at e1
      rw [List.getElem?_set_self (by rw [D.len]; exact hi)] at e2
      cases e1
      cases e2
      exact ⟨l, vs, rfl, hl, a, gl, h0, nt⟩
    · rw [List.getElem?_set_ne q] at e1 e2
      exact D.ok j x u e1 e2
  · have hl : ∀ {n : Nat} {w : Sl}, (ρ.set i (.ml xs))[n]? = some w → n < ρ.length := fun {n w} e => by
      have := (List.getElem?_eq_some_iff.mp e).1
      rwa [List.length_set] at this
    by_cases qj : i = j
    · subst qj
      rw [List.getElem?_set_self (by rw [D.len]; exact hl e1)] at e3
      rw [List.getElem?_set_self (hl e1)] at e1
      cases e1
      cases e3
      cases f1
      rw [List.getElem?_set_ne hjk] at e2 e4
      exact other k zs p (fun z => hjk z.symm) e2 e4 f2
    · rw [List.getElem?_set_ne qj] at e1 e3
      by_cases qk : i = k
      · subst qk
        rw [List.getElem?_set_self (by rw [D.len]; exact hl e2)] at e4
        rw [List.getElem?_set_self (hl e2)] at e2
        cases e2
        cases e4
        cases f2
        exact other j ys o (fun z => qj z.symm) e1 e3 f1
      · rw [List.getElem?_set_ne qk] at e2 e4
        exact D.one j k ys zs o p m hjk e1 e2 e3 e4 f1 f2
theorem wq_setm {i : Nat} {PL : List PyData → Prop} (h : Nl K te ρ PL) (k : ∀ xs, PL xs → Ws K u (ρ.set i (.ml xs)) E) : Ws K (tSeq (tAsg te (gName i)) u) ρ E := fun T G0 H0 σ H D a e => by
  obtain ⟨G, s, D0⟩ := a
  refine h T H0 G H σ s.gh s.tp D0 _ fun xs p vs G' H' px s' hp nt gp hl al => ?_
  have D1 := D0.mono s'
  refine k xs px T G0 H0 _ _ D ⟨G', s.trans s', set_ml (s.trans s') D1 hl al gp (s.no hp nt) nt fun j t o hj e1 e2 f => D0.live e1 e2 f hp⟩ e
theorem wq_setmd {i : Nat} {xs : List PyData} (h : Nld K te ρ xs) (k : Ws K u (ρ.set i (.ml xs)) E) : Ws K (tSeq (tAsg te (gName i)) u) ρ E := wq_setm h fun x e => e ▸ k
theorem ws_ret (h : Pe K te ρ P) (k : ∀ d, P d → E.rt d) : Ws K (tRet te) ρ E := fun T G0 H0 σ H D a e =>
  a.eval h fun d v G' H' p s D' x => e.rt d v H' (k d p) ⟨G', s, x⟩
theorem ws_retd {d : PyData} (h : Pd K te ρ d) (k : E.rt d) : Ws K (tRet te) ρ E := ws_ret h fun x e => e ▸ k
theorem ws_next (k : E.nx ρ) : Ws K tNext ρ E := fun T G0 H0 σ H D a e => e.nx _ _ _ k a
theorem ws_brk (k : E.bk ρ) : Ws K tBreak ρ E := fun T G0 H0 σ H D a e => e.bk _ _ _ k a
theorem ws_cont (k : E.ct ρ) : Ws K tCont ρ E := fun T G0 H0 σ H D a e => e.ct _ _ _ k a
theorem ws_if {c : TT} {Pb : Bool → Prop} (h : Pt K c ρ Pb) (h1 : Pb true → Ws K t ρ E) (h2 : Pb false → Ws K u ρ E) : Ws K (tIfS c t u) ρ E := fun T G0 H0 σ H D a e => by
  obtain ⟨G, s, D0⟩ := a
  refine h T H0 G H σ s.gh s.tp D0 _ fun b G1 H1 p s1 => ?_
  cases b with
  | true => exact h1 p T G0 H0 σ H1 D ⟨G1, s.trans s1, D0.mono s1⟩ e
  | false => exact h2 p T G0 H0 σ H1 D ⟨G1, s.trans s1, D0.mono s1⟩ e
theorem ws_ifd {c : TT} {b : Bool} (h : Ptd K c ρ b) (h1 : b = true → Ws K t ρ E) (h2 : b = false → Ws K u ρ E) : Ws K (tIfS c t u) ρ E := ws_if h (fun e => h1 e.symm) fun e => h2 e.symm
theorem ws_drop (h : Pe K te ρ P) (k : E.nx ρ) : Ws K (tDrop te) ρ E := fun T G0 H0 σ H D a e =>
  a.eval h fun d v G' H' p s D' x => e.nx _ _ _ k ⟨G', s, D'⟩
theorem wq_if {c : TT} {Pb : Bool → Prop} {v : TS} (h : Pt K c ρ Pb) (R : Rho → Prop) (h1 : Pb true → Ws K t ρ { E with nx := R }) (h2 : Pb false → Ws K u ρ { E with nx := R }) (k : ∀ r, R r → Ws K v r E) : Ws K (tSeq (tIfS c t u) v) ρ E := ws_seq R (ws_if h h1 h2) k
/-- an if whose branch leaves, then the rest -/
theorem wq_when {c : TT} {Pb : Bool → Prop} {v : TS} (h : Pt K c ρ Pb) (h1 : Pb true → Ws K t ρ { E with nx := fun _ => False }) (k : Pb false → Ws K v ρ E) : Ws K (tSeq (tIfS c t tNext) v) ρ E :=
  wq_if h (fun r => Pb false ∧ r = ρ) (fun p => (h1 p).imp (fun _ z => z.elim) (fun _ z => z) (fun _ z => z) fun _ z => z) (fun p => ws_next ⟨p, rfl⟩) fun r ⟨p, e⟩ => e ▸ k p
/-- a test that is false: its branch isn't taken -/
theorem wq_skip {c : TT} {v : TS} (h : Ptd K c ρ false) (k : Ws K v ρ E) : Ws K (tSeq (tIfS c t tNext) v) ρ E := wq_when h (fun e => Bool.noConfusion e) fun _ => k
/-- a changed list becomes data -/
theorem Den.freeze (D : Den T K H0 G H σ ρ) (s : Step T G0 H0 G H) {i : Nat} {xs : List PyData} (e : ρ[i]? = some (.ml xs)) : ∃ G', Step T G0 H0 G' H ∧ Den T K H0 G' H σ (ρ.set i (.d (.list xs))) := by
  obtain ⟨o, e1, l, vs, rfl, hl, a, gl, h0, nt⟩ := D.at e
  have up : Same G (upd G l (.lst vs)) := fun c w ec => by rw [upd_ne (ne_of_none ec gl)]; exact ec
  refine ⟨upd G l (.lst vs), s.join h0 nt gl hl, ⟨by rw [List.length_set]; exact D.len, fun j x u q1 q2 => ?_, fun j k ys zs o p m hjk q1 q2 q3 q4 f1 f2 => ?_⟩⟩
  · by_cases q : i = j
    · subst q
      have hi : i < ρ.length := (List.getElem?_eq_some_iff.mp e).1
      rw [List.getElem?_set_self hi] at q1
      cases q1
      rw [e1] at q2
      cases q2
      exact ⟨_, rfl, .lst upd_same (a.mono up)⟩
    · rw [List.getElem?_set_ne q] at q1
      have old := D.ok j x u q1 q2
      cases x with
      | no => trivial
      | d x => exact let ⟨v, e, d⟩ := old; ⟨v, e, d.mono up⟩
      | tp => exact old
      | rf a => exact old
      | rg lo hi => exact let ⟨a, e, g⟩ := old; ⟨a, e, up _ _ g⟩
      | mx w =>
        refine ⟨w.frame up (fun _ _ => rfl) old.1, fun a' ha => ?_⟩
        obtain ⟨p1, p2, p3, p4⟩ := old.2 a' ha
        have nml : a' ≠ l := fun z => by
          subst z
          exact D.one i j _ _ _ _ a' q e q1 e1 q2 rfl ha
        exact ⟨p1, by rw [upd_ne nml]; exact p2, p3, p4⟩
      | ml ys =>
        obtain ⟨m, ws, rfl, hm, am, gm, hm0, ntm⟩ := old
        refine ⟨m, ws, rfl, hm, am.mono up, ?_, hm0, ntm⟩
        have nml : m ≠ l := fun z => by
          subst z
          exact D.one i j _ _ _ _ m q e q1 e1 q2 rfl rfl
        rw [upd_ne nml]
        exact gm
  · have n1 : i ≠ j := fun z => by
      subst z
      rw [List.getElem?_set_self (List.getElem?_eq_some_iff.mp e).1] at q1
      cases q1
      exact f1
    have n2 : i ≠ k := fun z => by
      subst z
      rw [List.getElem?_set_self (List.getElem?_eq_some_iff.mp e).1] at q2
      cases q2
      exact f2
    rw [List.getElem?_set_ne n1] at q1
    rw [List.getElem?_set_ne n2] at q2
    exact D.one j k ys zs o p m hjk q1 q2 q3 q4 f1 f2
theorem ws_freeze (i : Nat) {xs : List PyData} (e : ρ[i]? = some (.ml xs)) (h : Ws K t (ρ.set i (.d (.list xs))) E) : Ws K t ρ E := fun T G0 H0 σ H D a ed => by
  obtain ⟨G, s, D0⟩ := a
  obtain ⟨G', s', D'⟩ := D0.freeze s e
  exact h T G0 H0 σ H D ⟨G', s', D'⟩ ed
end
end PD

/-! PDz: zip of two lists, of two tuples, enumerate of a list: the pairs have no dict of their own -/
namespace PD
open PySem PySem.Spec PyProof.Rows L2
theorem mem5 {c z t1 t2 i1 i2 : Addr} (h : c ∈ [z, t1, t2, i1, i2]) : c = z ∨ c = t1 ∨ c = t2 ∨ c = i1 ∨ c = i2 := by simpa using h
/-- the lists at a and b at each turn, the items in new pairs of no dict -/
def IzL (K : PySem.W.Frag) (a b : Addr) : It :=
  ⟨fun i H => ∃ (xs ys : List V) (x y : V), SqL K H a xs ∧ SqL K H b ys ∧ xs[i]? = some x ∧ ys[i]? = some y,
    fun i H v H' => ∃ (t : Addr) (ob : Obj) (x y : V), v = .ref t ∧ H t = none ∧ ob.dict = none ∧ H' = upd H t (.frz ob (.tup [x, y])) ∧ (∀ xs, SqL K H a xs → xs[i]? = some x) ∧ ∀ ys, SqL K H b ys → ys[i]? = some y,
    fun i H => ∃ xs ys : List V, SqL K H a xs ∧ SqL K H b ys ∧ (xs.length ≤ i ∨ ys.length ≤ i)⟩
theorem turn_zL {P : Program} {w : World} {K : PySem.W.Frag} {elts : List Expr} {kk : Nat} {tpos : Pos} {a b z TI TO i1 i2 : Addr} (D : ZipApart z TI TO i1 i2 a b) :
    Turn P w K (.Tuple elts kk tpos) (IzL K a b) [z, TI, TO, i1, i2] z (fun i h => IsZip h z TI TO .none ∧ IsPair h TI (.ref i1) (.ref i2) ∧ (∃ x y, IsPair h TO x y) ∧ h.IsListIter i1 a i ∧ h.IsListIter i2 b i) where
  mem := by simp
  obj := fun i h ⟨gz, gi, ⟨_, _, go⟩, ⟨o1, e1, _, d1⟩, ⟨o2, e2, _, d2⟩⟩ c hc => by
    rcases mem5 hc with rfl | rfl | rfl | rfl | rfl
    · exact ⟨_, gz, fun v q => nomatch q⟩
    · exact ⟨_, gi, fun v q => nomatch q⟩
    · exact ⟨_, go, fun v q => nomatch q⟩
    · exact ⟨o1, e1, fun v q => (by rw [d1] at q; cases q)⟩
    · exact ⟨o2, e2, fun v q => (by rw [d2] at q; cases q)⟩
  keep := fun i h h' ⟨gz, gi, ⟨x, y, go⟩, j1, j2⟩ k =>
    ⟨k z (by simp) _ gz, k TI (by simp) _ gi, ⟨x, y, k TO (by simp) _ go⟩, j1.at fun o => k i1 (by simp) o, j2.at fun o => k i2 (by simp) o⟩
  item := by
    intro X e1 e2 e3 hc i pins s σ H E I hf ⟨gz, gi, ⟨x0, y0, go⟩, j1, j2⟩ ⟨xs, ys, x, y, sx, sy, hx, hy⟩
    subst e1 e2 e3
    obtain ⟨us, rv, pa, _⟩ := I.list sx
    obtain ⟨ws, rw', pb, _⟩ := I.list sy
    obtain ⟨u, hu, ru⟩ := rv.get hx
    obtain ⟨u2, hu2, ru2⟩ := rw'.get hy
    have zl : z < s.heap.objs.size := Heap.lt_size gz
    refine wpAny_pyNext_zip_item D gz gi go j1 j2 pa.isList pb.isList (x := u) (y := u2) (by simpa using hu) (by simpa using hu2) fun h1 z1 t1 k1 k2 ht _ hk => ?_
    refine ⟨_, rfl, wpAny_letOwnedTupleGo_zip (s := { s with heap := h1 }) z1 fun h2 z2 sb => ?_⟩
    have up : ∀ c o, c ≠ z → h1.get? c = some o → h2.get? c = some o := fun c o n q => (sb.2 c n).trans q
    have pt := up _ _ (Nat.ne_of_gt zl) ht
    have out : ∀ {c}, c ∉ [z, TI, TO, i1, i2] → c ≠ z ∧ c ≠ TI ∧ c ≠ TO ∧ c ≠ i1 ∧ c ≠ i2 := fun {c} n => ⟨fun q => n (by simp [q]), fun q => n (by simp [q]), fun q => n (by simp [q]), fun q => n (by simp [q]), fun q => n (by simp [q])⟩
    have I1 := I.turnedNew (t' := s.toks) (ch := [z, TI, TO, i1, i2]) (h' := h2) (ob := .frz { cls := .type "tuple", data := .seq #[u, u2] } (.tup [x, y])) (fun c o hb q => let ⟨n0, n1, n2, n3, n4⟩ := out hb; up c o n0 (hk c o n0 n2 n3 n4 q)) hf (Nat.le_refl _) ⟨pt, by show 2 ≤ sizeLine; decide, [u, u2], .cons ru (.cons ru2 .nil), ⟨_, pt, rfl, _, rfl⟩⟩
    refine ⟨.ref s.heap.objs.size, _, I1, rfl, ⟨_, _, x, y, rfl, I.hok.fresh (Nat.le_refl _), rfl, rfl, fun l hl => I.list_inj hl sx ▸ hx, fun l hl => I.list_inj hl sy ▸ hy⟩, ⟨z2, up _ _ D.TIz (hk _ _ D.TIz D.TITO D.TIi1 D.TIi2 gi), ⟨u, u2, up _ _ D.TOz t1⟩, k1.at fun o => up _ o D.i1z, k2.at fun o => up _ o D.i2z⟩, fun c hcm => ?_⟩
    have lt : c < s.heap.objs.size := by
      obtain ⟨_, q1, _⟩ := j1
      obtain ⟨_, q2, _⟩ := j2
      rcases mem5 hcm with rfl | rfl | rfl | rfl | rfl
      · exact zl
      · exact Heap.lt_size gi
      · exact Heap.lt_size go
      · exact Heap.lt_size q1
      · exact Heap.lt_size q2
    rw [upd_ne (Nat.ne_of_lt lt)]
    exact (hf c hcm).1
  done := by
    intro X e1 e2 e3 hc i pins s σ H E I hf ⟨gz, gi, ⟨x0, y0, go⟩, j1, j2⟩ ⟨xs, ys, sx, sy, he⟩
    subst e1 e2 e3
    obtain ⟨us, rv, pa, _⟩ := I.list sx
    obtain ⟨ws, rw', pb, _⟩ := I.list sy
    have l1 := rv.length
    have l2 := rw'.length
    refine wpAny_pyNext_zip_end (I.ok.hd hc) D gz gi go j1 j2 pa.isList pb.isList (he.imp (fun q => by simp; omega) fun q => by simp; omega) fun h' hk => ⟨rfl, I.turnedL (t' := s.toks) (ch := [z, TI, TO, i1, i2]) (fun c o hb q => ?_) hf⟩
    exact hk c o (fun q => hb (by simp [q])) (fun q => hb (by simp [q])) (fun q => hb (by simp [q])) (fun q => hb (by simp [q])) q
  self := fun A i s Q E st h => wpAny_pyIter_zip st.1 h
/-- the tuples at a and b at each turn, the items in new pairs of no dict -/
def IzT (K : PySem.W.Frag) (a b : Addr) : It :=
  ⟨fun i H => ∃ (xs ys : List V) (x y : V), SqT K H a xs ∧ SqT K H b ys ∧ xs[i]? = some x ∧ ys[i]? = some y,
    fun i H v H' => ∃ (t : Addr) (ob : Obj) (x y : V), v = .ref t ∧ H t = none ∧ ob.dict = none ∧ H' = upd H t (.frz ob (.tup [x, y])) ∧ (∀ xs, SqT K H a xs → xs[i]? = some x) ∧ ∀ ys, SqT K H b ys → ys[i]? = some y,
    fun i H => ∃ xs ys : List V, SqT K H a xs ∧ SqT K H b ys ∧ (xs.length ≤ i ∨ ys.length ≤ i)⟩
theorem turn_zT {P : Program} {w : World} {K : PySem.W.Frag} {elts : List Expr} {kk : Nat} {tpos : Pos} {a b z TI TO i1 i2 : Addr} (D : ZipApart z TI TO i1 i2 a b) :
    Turn P w K (.Tuple elts kk tpos) (IzT K a b) [z, TI, TO, i1, i2] z (fun i h => IsZip h z TI TO .none ∧ IsPair h TI (.ref i1) (.ref i2) ∧ (∃ x y, IsPair h TO x y) ∧ h.IsTupleIter i1 a i ∧ h.IsTupleIter i2 b i) where
  mem := by simp
  obj := fun i h ⟨gz, gi, ⟨_, _, go⟩, ⟨o1, e1, _, d1⟩, ⟨o2, e2, _, d2⟩⟩ c hc => by
    rcases mem5 hc with rfl | rfl | rfl | rfl | rfl
    · exact ⟨_, gz, fun v q => nomatch q⟩
    · exact ⟨_, gi, fun v q => nomatch q⟩
    · exact ⟨_, go, fun v q => nomatch q⟩
    · exact ⟨o1, e1, fun v q => (by rw [d1] at q; cases q)⟩
    · exact ⟨o2, e2, fun v q => (by rw [d2] at q; cases q)⟩
  keep := fun i h h' ⟨gz, gi, ⟨x, y, go⟩, j1, j2⟩ k =>
    ⟨k z (by simp) _ gz, k TI (by simp) _ gi, ⟨x, y, k TO (by simp) _ go⟩, j1.at fun o => k i1 (by simp) o, j2.at fun o => k i2 (by simp) o⟩
  item := by
    intro X e1 e2 e3 hc i pins s σ H E I hf ⟨gz, gi, ⟨x0, y0, go⟩, j1, j2⟩ ⟨xs, ys, x, y, sx, sy, hx, hy⟩
    subst e1 e2 e3
    obtain ⟨us, rv, pa, _⟩ := I.tuple sx
    obtain ⟨ws, rw', pb, _⟩ := I.tuple sy
    obtain ⟨u, hu, ru⟩ := rv.get hx
    obtain ⟨u2, hu2, ru2⟩ := rw'.get hy
    have zl : z < s.heap.objs.size := Heap.lt_size gz
    refine RZ.pyNext_zipT_item D gz gi go j1 j2 pa pb (x := u) (y := u2) (by simpa using hu) (by simpa using hu2) fun h1 z1 t1 k1 k2 ht _ hk => ?_
    refine ⟨_, rfl, wpAny_letOwnedTupleGo_zip (s := { s with heap := h1 }) z1 fun h2 z2 sb => ?_⟩
    have up : ∀ c o, c ≠ z → h1.get? c = some o → h2.get? c = some o := fun c o n q => (sb.2 c n).trans q
    have pt := up _ _ (Nat.ne_of_gt zl) ht
    have out : ∀ {c}, c ∉ [z, TI, TO, i1, i2] → c ≠ z ∧ c ≠ TI ∧ c ≠ TO ∧ c ≠ i1 ∧ c ≠ i2 := fun {c} n => ⟨fun q => n (by simp [q]), fun q => n (by simp [q]), fun q => n (by simp [q]), fun q => n (by simp [q]), fun q => n (by simp [q])⟩
    have I1 := I.turnedNew (t' := s.toks) (ch := [z, TI, TO, i1, i2]) (h' := h2) (ob := .frz { cls := .type "tuple", data := .seq #[u, u2] } (.tup [x, y])) (fun c o hb q => let ⟨n0, n1, n2, n3, n4⟩ := out hb; up c o n0 (hk c o n0 n2 n3 n4 q)) hf (Nat.le_refl _) ⟨pt, by show 2 ≤ sizeLine; decide, [u, u2], .cons ru (.cons ru2 .nil), ⟨_, pt, rfl, _, rfl⟩⟩
    refine ⟨.ref s.heap.objs.size, _, I1, rfl, ⟨_, _, x, y, rfl, I.hok.fresh (Nat.le_refl _), rfl, rfl, fun l hl => I.tuple_inj hl sx ▸ hx, fun l hl => I.tuple_inj hl sy ▸ hy⟩, ⟨z2, up _ _ D.TIz (hk _ _ D.TIz D.TITO D.TIi1 D.TIi2 gi), ⟨u, u2, up _ _ D.TOz t1⟩, k1.at fun o => up _ o D.i1z, k2.at fun o => up _ o D.i2z⟩, fun c hcm => ?_⟩
    have lt : c < s.heap.objs.size := by
      obtain ⟨_, q1, _⟩ := j1
      obtain ⟨_, q2, _⟩ := j2
      rcases mem5 hcm with rfl | rfl | rfl | rfl | rfl
      · exact zl
      · exact Heap.lt_size gi
      · exact Heap.lt_size go
      · exact Heap.lt_size q1
      · exact Heap.lt_size q2
    rw [upd_ne (Nat.ne_of_lt lt)]
    exact (hf c hcm).1
  done := by
    intro X e1 e2 e3 hc i pins s σ H E I hf ⟨gz, gi, ⟨x0, y0, go⟩, j1, j2⟩ ⟨xs, ys, sx, sy, he⟩
    subst e1 e2 e3
    obtain ⟨us, rv, pa, _⟩ := I.tuple sx
    obtain ⟨ws, rw', pb, _⟩ := I.tuple sy
    have l1 := rv.length
    have l2 := rw'.length
    refine RZ.pyNext_zipT_end (I.ok.hd hc) D gz gi go j1 j2 pa pb (he.imp (fun q => by simp; omega) fun q => by simp; omega) fun h' hk => ⟨rfl, I.turnedL (t' := s.toks) (ch := [z, TI, TO, i1, i2]) (fun c o hb q => ?_) hf⟩
    exact hk c o (fun q => hb (by simp [q])) (fun q => hb (by simp [q])) (fun q => hb (by simp [q])) (fun q => hb (by simp [q])) q
  self := fun A i s Q E st h => wpAny_pyIter_zip st.1 h

def iZiq (K : PySem.W.Frag) (ta : TA) : TI := fun σ H R => ta σ H fun vs H1 => ∃ a b xs ys, vs = [.ref a, .ref b] ∧ ((SqL K H1 a xs ∧ SqL K H1 b ys ∧ R (IzL K a b) H1) ∨ (SqT K H1 a xs ∧ SqT K H1 b ys ∧ R (IzT K a b) H1))
theorem pi_ziq {X : Cx} {e e2 : Expr} {ta : TA} {p pos tpos : Pos} {elts : List Expr} {kk : Nat} (hg : Gl X "zip") (hm : X.mg "zip" = none) (ha : PA X [e, e2] ta)
    (hs : starEach [e, e2] X.env = (false, eval e X.env) :: starEach [e2] X.env := by rfl) (hpl : (backTo pos (starEach [e2] X.env)).any (·.1) = false := by rfl) : PI X (.Tuple elts kk tpos) (.Call (.Name "zip" p) [e, e2] [] pos) (iZiq X.K ta) := by
  refine ⟨fun pins s σ H R I h => ?_⟩
  refine Call_ (ld_blt I hg hm PyProof.Rows.boot_zip (PyProof.Rows.callWith_type1 (thn (ha.run pos pins s σ H _ I h) fun us s1 ⟨vs, H1, I1, r1, ⟨a, b, xs, ys, ex, q1⟩⟩ => ?_) hs hpl))
  subst ex
  obtain ⟨u1, u2, rfl, ra, rb⟩ : ∃ u1 u2, us = [u1, u2] ∧ RelV (.ref a) u1 ∧ RelV (.ref b) u2 := by
    cases r1 with
    | cons ra t =>
      cases t with
      | cons rb t =>
        cases t
        exact ⟨_, _, rfl, ra, rb⟩
  · cases ra
    cases rb
    have ne : ∀ c, c ∈ [s1.heap.objs.size + 4, s1.heap.objs.size + 2, s1.heap.objs.size + 3, s1.heap.objs.size, s1.heap.objs.size + 1] → FpOk X pins H1 c := fun c hcm => by
      have le : s1.heap.objs.size ≤ c := by rcases mem5 hcm with rfl | rfl | rfl | rfl | rfl <;> omega
      exact I1.fpOk le (I1.hok.fresh le)
    rcases q1 with ⟨sx, sy, q⟩ | ⟨sx, sy, q⟩
    · obtain ⟨us, _, p1, _⟩ := I1.list sx
      obtain ⟨ws, _, p2, _⟩ := I1.list sy
      exact call_zip_2 p1.isList p2.isList fun h' gz gi go j1 j2 _ hk => wpAny_pyIter_zip gz ⟨s1.heap.objs.size + 4, _, _, _, H1, rfl, I1.kept (t' := s1.toks) hk, turn_zL (PySem.W.ktu_apart s1.heap.objs.size a b p1.lt p2.lt), ⟨gz, gi, ⟨_, _, go⟩, j1, j2⟩, ne, q⟩
    · obtain ⟨us, _, p1, _⟩ := I1.tuple sx
      obtain ⟨ws, _, p2, _⟩ := I1.tuple sy
      obtain ⟨o1, z1, _⟩ := id p1
      obtain ⟨o2, z2, _⟩ := id p2
      refine RZ.call_zipT (show s1.heap.IsTuple a us.toArray from p1) (show s1.heap.IsTuple b ws.toArray from p2) fun h' gz gi go j1 j2 _ hk => wpAny_pyIter_zip gz ?_
      have I2 : Inv X pins σ H1 { s1 with heap := h' } := I1.kept (t' := s1.toks) hk
      exact ⟨s1.heap.objs.size + 4, [s1.heap.objs.size + 4, s1.heap.objs.size + 2, s1.heap.objs.size + 3, s1.heap.objs.size, s1.heap.objs.size + 1], _, _, H1, rfl, I2, turn_zT (PySem.W.ktu_apart s1.heap.objs.size a b (Heap.lt_size z1) (Heap.lt_size z2)), ⟨gz, gi, ⟨_, _, go⟩, j1, j2⟩, ne, q⟩
/-- the list at a at each turn, each item in a new pair with its place -/
def IeL (K : PySem.W.Frag) (a : Addr) : It :=
  ⟨fun i H => ∃ (xs : List V) (x : V), SqL K H a xs ∧ xs[i]? = some x, fun i H v H' => ∃ (t : Addr) (ob : Obj) (x : V), v = .ref t ∧ H t = none ∧ ob.dict = none ∧ H' = upd H t (.frz ob (.tup [.int (i : Nat), x])) ∧ ∀ xs, SqL K H a xs → xs[i]? = some x, fun i H => ∃ xs : List V, SqL K H a xs ∧ xs.length ≤ i⟩
theorem turn_eL {P : Program} {w : World} {K : PySem.W.Frag} {elts : List Expr} {kk : Nat} {tpos : Pos} (a e it : Addr) :
    Turn P w K (.Tuple elts kk tpos) (IeL K a) [e, it] e (fun i h => (∃ old, IsEnum h e it ((i : Nat) : Int) old) ∧ h.IsListIter it a i ∧ e ≠ it) where
  mem := by simp
  obj := fun i h ⟨⟨_, ge⟩, ⟨o, ho, _, hd⟩, _⟩ b hb => by
    rcases (show b = e ∨ b = it by simpa using hb) with rfl | rfl
    · exact ⟨_, ge, fun v q => nomatch q⟩
    · exact ⟨o, ho, fun v q => (by rw [hd] at q; cases q)⟩
  keep := fun i h h' ⟨⟨old, ge⟩, gi, ne⟩ k => ⟨⟨old, k e (by simp) _ ge⟩, gi.at fun o => k it (by simp) o, ne⟩
  item := by
    intro X e1 e2 e3 hc i pins s σ H E I hf ⟨⟨old, ge⟩, gi, ne⟩ ⟨xs, x, sx, hx⟩
    subst e1 e2 e3
    obtain ⟨us, rv, pa, _⟩ := I.list sx
    obtain ⟨u, hu, ru⟩ := rv.get hx
    have el : e < s.heap.objs.size := Heap.lt_size ge
    refine wpAny_pyNext_enum_item ge gi pa.isList (x := u) (by simpa using hu) ne fun h1 o1 g1 ht _ hk => ?_
    refine ⟨_, rfl, wpAny_letOwnedTupleGo_enum (s := { s with heap := h1, toks := s.toks + 1 }) o1 fun h2 ge2 sb => ?_⟩
    have pt := (sb.2 _ (Nat.ne_of_gt el)).trans ht
    have I1 := I.turnedNew (t' := s.toks + 1) (ch := [e, it]) (h' := h2) (ob := .frz { cls := .type "tuple", data := .seq #[.int i s.toks, u] } (.tup [.int (i : Nat), x])) (fun b ob hb q => (sb.2 b fun y => hb (by simp [y])).trans (hk b ob (fun y => hb (by simp [y])) (fun y => hb (by simp [y])) q)) hf (Nat.le_refl _) ⟨pt, by show 2 ≤ sizeLine; decide, [.int i s.toks, u], .cons ⟨_, rfl⟩ (.cons ru .nil), ⟨_, pt, rfl, _, rfl⟩⟩
    refine ⟨.ref s.heap.objs.size, _, I1, rfl, ⟨_, _, x, rfl, I.hok.fresh (Nat.le_refl _), rfl, rfl, fun l hl => I.list_inj hl sx ▸ hx⟩, ⟨⟨u, by rw [show ((i + 1 : Nat) : Int) = (i : Int) + 1 by omega]; exact ge2⟩, g1.at fun o => (sb.2 it (Ne.symm ne)).trans, ne⟩, fun b hb => ?_⟩
    obtain ⟨_, q, _⟩ := gi
    have lt : b < s.heap.objs.size := by
      rcases (show b = e ∨ b = it by simpa using hb) with rfl | rfl
      · exact el
      · exact Heap.lt_size q
    rw [upd_ne (Nat.ne_of_lt lt)]
    exact (hf b hb).1
  done := by
    intro X e1 e2 e3 hc i pins s σ H E I hf ⟨⟨old, ge⟩, gi, ne⟩ ⟨xs, sx, hx⟩
    subst e1 e2 e3
    obtain ⟨us, rv, pa, _⟩ := I.list sx
    obtain ⟨f0, f1, _, f3, f4, f5⟩ := hf it (by simp)
    have l := rv.length
    exact wpAny_pyNext_enum_end (I.ok.hd hc) ge gi pa.isList (by simp; omega) fun h' eb => ⟨rfl, I.turned (t' := s.toks) eb f0 f1 f3 f4 f5⟩
  self := fun A i s Q E ⟨⟨_, ge⟩, _⟩ h => wpAny_pyIter_enum ge h
def iEnq (K : PySem.W.Frag) (ta : TA) : TI := fun σ H R => ta σ H fun vs H1 => ∃ a xs, vs = [.ref a] ∧ SqL K H1 a xs ∧ R (IeL K a) H1
theorem pi_enq {X : Cx} {e : Expr} {ta : TA} {p pos tpos : Pos} {elts : List Expr} {kk : Nat} (hg : Gl X "enumerate") (hm : X.mg "enumerate" = none) (ha : PA X [e] ta) (hs : starEach [e] X.env = [(false, eval e X.env)] := by rfl) :
    PI X (.Tuple elts kk tpos) (.Call (.Name "enumerate" p) [e] [] pos) (iEnq X.K ta) := ⟨fun pins s σ H R I h => by
  refine Call_ (ld_blt I hg hm boot_enumerate (PyProof.Rows.callWith_type1 (thn (ha.run pos pins s σ H _ I h) fun us s1 ⟨vs, H1, I1, r1, ⟨a, xs, ex, sx, q⟩⟩ => ?_) hs rfl))
  subst ex
  match us, r1 with
  | _, .cons ra .nil =>
    cases ra
    obtain ⟨us, _, pa, _⟩ := I1.list sx
    refine call_enumerate_list pa.isList fun h' ge gi _ hk => wpAny_pyIter_enum ge ?_
    refine ⟨s1.heap.objs.size + 1, [s1.heap.objs.size + 1, s1.heap.objs.size], _, _, H1, rfl, I1.kept (t' := s1.toks) hk, turn_eL a (s1.heap.objs.size + 1) s1.heap.objs.size, ⟨⟨.none, ge⟩, gi, Nat.succ_ne_self _⟩, fun b hb => ?_, q⟩
    have le : s1.heap.objs.size ≤ b := by rcases (show b = s1.heap.objs.size + 1 ∨ b = s1.heap.objs.size by simpa using hb) with rfl | rfl <;> omega
    exact I1.fpOk le (I1.hok.fresh le)⟩
end PD

namespace PD
open PySem PySem.Spec PyProof.Rows L2 RZ

/-! ### iterables of either kind -/
def iSeq (K : PySem.W.Frag) (tl : TE) : TI := fun σ H R => tl σ H fun x H1 => ∃ a, x = .ref a ∧ (((∃ xs, SqL K H1 a xs) ∧ R (Itl K a) H1) ∨ ((∃ xs, SqT K H1 a xs) ∧ R (Itt K a) H1))
theorem pi_seq {X : Cx} {tg l : Expr} {tl : TE} (hl : PE X l tl) : PI X tg l (iSeq X.K tl) := by
  refine ⟨fun pins s σ H R I h => ?_⟩
  refine thn (hl.run pins s σ H _ I h) fun v s1 ⟨x, H1, I1, r1, q1⟩ => ?_
  obtain ⟨a, e, q⟩ := q1
  subst e
  cases r1
  rcases q with ⟨⟨xs, hq⟩, q⟩ | ⟨⟨xs, hq⟩, q⟩
  · obtain ⟨its, rv, p, hz⟩ := I1.list hq
    refine wpAny_pyIter_list p.isList ?_
    refine ⟨s1.heap.objs.size, [s1.heap.objs.size], _, _, H1, rfl, I1.kept (t' := s1.toks) fun b o e => Heap.get?_push_of_some _ e, turn_list a _, ⟨_, Heap.get?_push_size _ rfl, rfl, rfl⟩, fun b hb => ?_, q⟩
    have e : b = s1.heap.objs.size := by simpa using hb
    subst e
    exact I1.fpOk (Nat.le_refl _) (I1.hok.fresh (Nat.le_refl _))
  · obtain ⟨its, rv, p, hz⟩ := I1.tuple hq
    refine wpAny_pyIter_tuple (show s1.heap.IsTuple a its.toArray from p) ?_
    refine ⟨s1.heap.objs.size, [s1.heap.objs.size], _, _, H1, rfl, I1.kept (t' := s1.toks) fun b o e => Heap.get?_push_of_some _ e, turn_tuple a _, ⟨_, Heap.get?_push_size _ rfl, rfl, rfl⟩, fun b hb => ?_, q⟩
    have e : b = s1.heap.objs.size := by simpa using hb
    subst e
    exact I1.fpOk (Nat.le_refl _) (I1.hok.fresh (Nat.le_refl _))

/-- an iterator that yields these data -/
structure Itd (K : PySem.W.Frag) (J : It) (G1 : Hp) (xs : List PyData) : Prop where
  go : ∀ i H, Same G1 H → i < xs.length → J.go i H
  stop : ∀ i H, Same G1 H → xs.length ≤ i → J.stop i H
  yld : ∀ i (T : Addr → Prop) G H x H', Same G1 G → Same G H → (∀ a, T a → Tp G H a) → i < xs.length → J.yld i H x H' → ∃ G' d, xs[i]? = some d ∧ Step T G H G' H' ∧ Dn K G' x d
theorem sql_of {K : PySem.W.Frag} {H : Hp} {a : Addr} {xs : List V} (h : H a = some (.lst xs)) : SqL K H a xs := .inl (.inl h)
theorem itd_list {K : PySem.W.Frag} {G : Hp} {a : Addr} {vs : List V} {xs : List PyData} (h : G a = some (.lst vs)) (d : DnAll K G vs xs) : Itd K (Itl K a) G xs where
  go := fun i H g hi => by
    have hi : i < vs.length := by rw [d.length]; exact hi
    exact ⟨vs, vs[i], sql_of (g _ _ h), List.getElem?_eq_getElem hi⟩
  stop := fun i H g hi => ⟨vs, sql_of (g _ _ h), by rw [d.length]; exact hi⟩
  yld := fun i T G' H x H' g1 g2 tp hi y => by
    obtain ⟨rfl, y⟩ := y
    obtain ⟨e, h1, h2⟩ := (d.mono g1).get' (y vs (sql_of (g2 _ _ (g1 _ _ h))))
    exact ⟨G', e, h1, Step.refl g2 tp, h2⟩
theorem itd_tup {K : PySem.W.Frag} {G : Hp} {a : Addr} {vs : List V} {xs : List PyData} (h : SqT K G a vs) (d : DnAll K G vs xs) : Itd K (Itt K a) G xs where
  go := fun i H g hi => by
    have hi : i < vs.length := by rw [d.length]; exact hi
    exact ⟨vs, vs[i], sqt_mono g h, List.getElem?_eq_getElem hi⟩
  stop := fun i H g hi => ⟨vs, sqt_mono g h, by rw [d.length]; exact hi⟩
  yld := fun i T G' H x H' g1 g2 tp hi y => by
    obtain ⟨rfl, y⟩ := y
    obtain ⟨e, h1, h2⟩ := (d.mono g1).get' (y vs (sqt_mono g2 (sqt_mono g1 h)))
    exact ⟨G', e, h1, Step.refl g2 tp, h2⟩
theorem rg_at (a b : Int) (i : Nat) (h : i < (rgD a b).length) : (rgD a b)[i]? = some (.int (a + (i : Int))) := by
  unfold rgD at h ⊢
  rw [List.length_map, List.length_range] at h
  rw [List.getElem?_map, List.getElem?_range h]
  rfl
theorem rg_len (a b : Int) : (rgD a b).length = (b - a).toNat := by
  unfold rgD
  rw [List.length_map, List.length_range]
theorem itd_rg {K : PySem.W.Frag} {G : Hp} (a b : Int) : Itd K (Itr a (b - a).toNat) G (rgD a b) where
  go := fun i H g hi => by
    rw [rg_len] at hi
    exact hi
  stop := fun i H g hi => by
    rw [rg_len] at hi
    exact hi
  yld := fun i T G' H x H' g1 g2 tp hi y => by
    obtain ⟨rfl, rfl⟩ := y
    exact ⟨G', _, rg_at a b i hi, Step.refl g2 tp, .int _⟩
def zipD : List PyData → List PyData → List PyData
  | x :: xs, y :: ys => .tuple [x, y] :: zipD xs ys
  | _, _ => []
theorem zipD_len : ∀ (xs ys : List PyData), (zipD xs ys).length = min xs.length ys.length
  | [], _ => by simp [zipD]
  | _ :: _, [] => by simp [zipD]
  | x :: xs, y :: ys => by simp [zipD, zipD_len xs ys]
theorem zipD_at : ∀ (xs ys : List PyData) (i : Nat) (x y : PyData), xs[i]? = some x → ys[i]? = some y → (zipD xs ys)[i]? = some (.tuple [x, y])
  | [], _, _, _, _, h, _ => by simp at h
  | _ :: _, [], _, _, _, _, h => by simp at h
  | a :: xs, b :: ys, 0, x, y, h, h2 => by
    have e1 := Option.some.inj h
    have e2 := Option.some.inj h2
    rw [← e1, ← e2]
    rfl
  | a :: xs, b :: ys, i + 1, x, y, h, h2 => zipD_at xs ys i x y h h2
theorem itd_zip {K : PySem.W.Frag} {G : Hp} {a b : Addr} {vs us : List V} {xs ys : List PyData} (h : G a = some (.lst vs)) (d : DnAll K G vs xs) (h2 : G b = some (.lst us)) (d2 : DnAll K G us ys) : Itd K (IzL K a b) G (zipD xs ys) where
  go := fun i H g hi => by
    rw [zipD_len] at hi
    have h3 : i < vs.length := by rw [d.length]; omega
    have h4 : i < us.length := by rw [d2.length]; omega
    exact ⟨vs, us, vs[i], us[i], sql_of (g _ _ h), sql_of (g _ _ h2), List.getElem?_eq_getElem h3, List.getElem?_eq_getElem h4⟩
  stop := fun i H g hi => by
    rw [zipD_len] at hi
    refine ⟨vs, us, sql_of (g _ _ h), sql_of (g _ _ h2), ?_⟩
    rw [d.length, d2.length]
    by_cases q : xs.length ≤ ys.length
    · rw [Nat.min_eq_left q] at hi
      exact .inl hi
    · rw [Nat.min_eq_right (by omega)] at hi
      exact .inr hi
  yld := fun i T G' H x H' g1 g2 tp hi y => by
    obtain ⟨p, ob, x1, x2, rfl, hp, od, rfl, f1, f2⟩ := y
    obtain ⟨e1, q1, q2⟩ := (d.mono g1).get' (f1 vs (sql_of (g2 _ _ (g1 _ _ h))))
    obtain ⟨e2, q3, q4⟩ := (d2.mono g1).get' (f2 us (sql_of (g2 _ _ (g1 _ _ h2))))
    refine ⟨upd G' p (.frz ob (.tup [x1, x2])), .tuple [e1, e2], zipD_at _ _ _ _ _ q1 q3, Step.new g2 tp hp, .tup (p := .inl ⟨ob, _, upd_same, od⟩) (.inl (.inr ⟨ob, upd_same⟩)) ?_⟩
    exact DnAll.mono (fun c u e => by rw [upd_ne (ne_of_none e (g2.free hp))]; exact e) (.cons q2 (.cons q4 .nil))
theorem itd_zipT {K : PySem.W.Frag} {G : Hp} {a b : Addr} {vs us : List V} {xs ys : List PyData} (h : SqT K G a vs) (d : DnAll K G vs xs) (h2 : SqT K G b us) (d2 : DnAll K G us ys) : Itd K (IzT K a b) G (zipD xs ys) where
  go := fun i H g hi => by
    rw [zipD_len] at hi
    have h3 : i < vs.length := by rw [d.length]; omega
    have h4 : i < us.length := by rw [d2.length]; omega
    exact ⟨vs, us, vs[i], us[i], sqt_mono g h, sqt_mono g h2, List.getElem?_eq_getElem h3, List.getElem?_eq_getElem h4⟩
  stop := fun i H g hi => by
    rw [zipD_len] at hi
    refine ⟨vs, us, sqt_mono g h, sqt_mono g h2, ?_⟩
    rw [d.length, d2.length]
    by_cases q : xs.length ≤ ys.length
    · rw [Nat.min_eq_left q] at hi
      exact .inl hi
    · rw [Nat.min_eq_right (by omega)] at hi
      exact .inr hi
  yld := fun i T G' H x H' g1 g2 tp hi y => by
    obtain ⟨p, ob, x1, x2, rfl, hp, od, rfl, f1, f2⟩ := y
    obtain ⟨e1, q1, q2⟩ := (d.mono g1).get' (f1 vs (sqt_mono g2 (sqt_mono g1 h)))
    obtain ⟨e2, q3, q4⟩ := (d2.mono g1).get' (f2 us (sqt_mono g2 (sqt_mono g1 h2)))
    refine ⟨upd G' p (.frz ob (.tup [x1, x2])), .tuple [e1, e2], zipD_at _ _ _ _ _ q1 q3, Step.new g2 tp hp, .tup (p := .inl ⟨ob, _, upd_same, od⟩) (.inl (.inr ⟨ob, upd_same⟩)) ?_⟩
    exact DnAll.mono (fun c u e => by rw [upd_ne (ne_of_none e (g2.free hp))]; exact e) (.cons q2 (.cons q4 .nil))
def enumD : Nat → List PyData → List PyData
  | n, x :: xs => .tuple [.int (n : Nat), x] :: enumD (n + 1) xs
  | _, _ => []
theorem enumD_len : ∀ (n : Nat) (xs : List PyData), (enumD n xs).length = xs.length
  | _, [] => rfl
  | n, x :: xs => congrArg (· + 1) (enumD_len (n + 1) xs)
theorem enumD_at : ∀ (n : Nat) (xs : List PyData) (i : Nat) (x : PyData), xs[i]? = some x → (enumD n xs)[i]? = some (.tuple [.int ((n + i : Nat) : Int), x])
  | _, [], _, _, h => by simp at h
  | n, a :: xs, 0, x, h => by
    have e1 := Option.some.inj h
    rw [← e1]
    rfl
  | n, a :: xs, i + 1, x, h => by
    have := enumD_at (n + 1) xs i x h
    rw [show n + 1 + i = n + (i + 1) by omega] at this
    exact this
theorem itd_enum {K : PySem.W.Frag} {G : Hp} {a : Addr} {vs : List V} {xs : List PyData} (h : G a = some (.lst vs)) (d : DnAll K G vs xs) : Itd K (IeL K a) G (enumD 0 xs) where
  go := fun i H g hi => by
    rw [enumD_len] at hi
    have h3 : i < vs.length := by rw [d.length]; omega
    exact ⟨vs, vs[i], sql_of (g _ _ h), List.getElem?_eq_getElem h3⟩
  stop := fun i H g hi => by
    rw [enumD_len] at hi
    exact ⟨vs, sql_of (g _ _ h), by rw [d.length]; omega⟩
  yld := fun i T G' H x H' g1 g2 tp hi y => by
    obtain ⟨p, ob, x1, rfl, hp, od, rfl, f1⟩ := y
    obtain ⟨e1, q1, q2⟩ := (d.mono g1).get' (f1 vs (sql_of (g2 _ _ (g1 _ _ h))))
    refine ⟨upd G' p (.frz ob (.tup [.int (i : Nat), x1])), .tuple [.int (i : Nat), e1], ?_, Step.new g2 tp hp, .tup (p := .inl ⟨ob, _, upd_same, od⟩) (.inl (.inr ⟨ob, upd_same⟩)) ?_⟩
    · rw [enumD_at 0 xs i e1 q1, Nat.zero_add]
    · exact DnAll.mono (fun c u e => by rw [upd_ne (ne_of_none e (g2.free hp))]; exact e) (.cons (.int _) (.cons q2 .nil))

def Pit (K : PySem.W.Frag) (wi : TI) (ρ : Rho) (P : List PyData → Prop) : Prop := ∀ (T : Addr → Prop) (H0 G H : Hp) (σ : L2.St), Same G H → (∀ a, T a → Tp G H a) → Den T K H0 G H σ ρ →
  ∀ R : It → Hp → Prop, (∀ xs J G' H', P xs → Step T G H G' H' → Itd K J G' xs → R J H') → wi σ H R
abbrev Pitd (K : PySem.W.Frag) (wi : TI) (ρ : Rho) (xs : List PyData) : Prop := Pit K wi ρ (fun x => x = xs)
section
variable {K : PySem.W.Frag} {ρ ρ' : Rho} {te ta tb tc tl : TE} {P P' : PyData → Prop} {PL : List PyData → Prop}
theorem it_L {PA : PyData → Prop} (h : Pe K tl ρ PA) (k : ∀ x, PA x → ∃ xs, (x = .list xs ∨ x = .tuple xs) ∧ PL xs) : Pit K (iSeq K tl) ρ PL := fun T H0 G H σ gh tp D R q =>
  h.bind gh tp D fun x v G1 H1 p1 s1 gh1 tp1 D1 x1 => by
    obtain ⟨xs, e, p⟩ := k x p1
    rcases e with rfl | rfl
    · cases x1 with
      | @lst a vs _ e1 a1 => exact ⟨a, rfl, .inl ⟨⟨vs, sql_of (gh1 _ _ e1)⟩, q xs _ G1 H1 p s1 (itd_list e1 a1)⟩⟩
    · cases x1 with
      | @tup a vs _ pl e1 a1 => exact ⟨a, rfl, .inr ⟨⟨vs, sqt_mono gh1 e1⟩, q xs _ G1 H1 p s1 (itd_tup e1 a1)⟩⟩
theorem it_l {xs : List PyData} (h : Pd K tl ρ (.list xs)) : Pitd K (iSeq K tl) ρ xs := it_L h fun x e => ⟨xs, .inl e, rfl⟩
theorem it_t {xs : List PyData} (h : Pd K tl ρ (.tuple xs)) : Pitd K (iSeq K tl) ρ xs := it_L h fun x e => ⟨xs, .inr e, rfl⟩
theorem it_R1 {ta : TA} {PA : List Sl → Prop} (h : Pas K ta ρ PA) (k : ∀ ss, PA ss → ∃ n : Int, ss = [.d (.int n)] ∧ -(2 ^ 62) ≤ n ∧ n < 2 ^ 62 ∧ PL (rgD 0 n)) : Pit K (iRng1 ta) ρ PL := fun T H0 G H σ gh tp D R q =>
  h.bind gh tp D fun ss vs G1 H1 p1 s1 gh1 tp1 D1 x1 => by
    obtain ⟨n, rfl, h1, h2, p⟩ := k ss p1
    cases x1 with
    | cons r1 r2 =>
      cases r2
      cases r1
      refine ⟨n, rfl, h1, h2, q _ _ G1 H1 p s1 ?_⟩
      have := itd_rg (K := K) (G := G1) 0 n
      rw [Int.sub_zero] at this
      exact this
theorem it_r1 {ta : TE} {n : Int} (h : Pd K ta ρ (.int n)) (h1 : -(2 ^ 62) ≤ n) (h2 : n < 2 ^ 62) : Pitd K (iRng1 (tCons ta tNil)) ρ (rgD 0 n) := it_R1 (ya_d h ya_n) fun ss e => ⟨n, e, h1, h2, rfl⟩
theorem it_R2 {ta : TA} {PA : List Sl → Prop} (h : Pas K ta ρ PA) (k : ∀ ss, PA ss → ∃ a b : Int, ss = [.d (.int a), .d (.int b)] ∧ (-(2 ^ 62) ≤ a ∧ a < 2 ^ 62 ∧ -(2 ^ 62) ≤ b ∧ b < 2 ^ 62) ∧ PL (rgD a b)) : Pit K (iRng2 ta) ρ PL := fun T H0 G H σ gh tp D R q =>
  h.bind gh tp D fun ss vs G1 H1 p1 s1 gh1 tp1 D1 x1 => by
    obtain ⟨a, b, rfl, h1, p⟩ := k ss p1
    cases x1 with
    | cons r1 r2 =>
      cases r2 with
      | cons r2 r3 =>
        cases r3
        cases r1
        cases r2
        exact ⟨a, b, rfl, h1, q _ _ G1 H1 p s1 (itd_rg a b)⟩
theorem it_r2 {a b : Int} (h : Pd K ta ρ (.int a)) (h' : Pd K tb ρ (.int b)) (h1 : -(2 ^ 62) ≤ a ∧ a < 2 ^ 62 ∧ -(2 ^ 62) ≤ b ∧ b < 2 ^ 62) : Pitd K (iRng2 (tCons ta (tCons tb tNil))) ρ (rgD a b) := it_R2 (ya_d h (ya_d h' ya_n)) fun ss e => ⟨a, b, e, h1, rfl⟩
theorem it_zipL {ta tb : TE} {xs ys : List PyData} (h : Pd K ta ρ (.list xs)) (h' : Pd K tb ρ (.list ys)) : Pitd K (iZiq K (tCons ta (tCons tb tNil))) ρ (zipD xs ys) := fun T H0 G H σ gh tp D R q =>
  h.bind gh tp D fun x v G1 H1 p1 s1 gh1 tp1 D1 x1 => h'.bind gh1 tp1 D1 fun y u G2 H2 p2 s2 gh2 tp2 D2 x2 => by
    subst p1 p2
    have x1 := x1.mono s2.g
    cases x1 with
    | @lst a vs _ e1 a1 =>
      cases x2 with
      | @lst b us _ e2 a2 => exact ⟨a, b, vs, us, rfl, .inl ⟨sql_of (gh2 _ _ e1), sql_of (gh2 _ _ e2), q _ _ G2 H2 rfl (s1.trans s2) (itd_zip e1 a1 e2 a2)⟩⟩
theorem it_zipT {ta tb : TE} {xs ys : List PyData} (h : Pd K ta ρ (.tuple xs)) (h' : Pd K tb ρ (.tuple ys)) : Pitd K (iZiq K (tCons ta (tCons tb tNil))) ρ (zipD xs ys) := fun T H0 G H σ gh tp D R q =>
  h.bind gh tp D fun x v G1 H1 p1 s1 gh1 tp1 D1 x1 => h'.bind gh1 tp1 D1 fun y u G2 H2 p2 s2 gh2 tp2 D2 x2 => by
    subst p1 p2
    have x1 := x1.mono s2.g
    cases x1 with
    | @tup a vs _ pl e1 a1 =>
      cases x2 with
      | @tup b us _ pl2 e2 a2 => exact ⟨a, b, vs, us, rfl, .inr ⟨sqt_mono gh2 e1, sqt_mono gh2 e2, q _ _ G2 H2 rfl (s1.trans s2) (itd_zipT e1 a1 e2 a2)⟩⟩
theorem it_enum {ta : TE} {xs : List PyData} (h : Pd K ta ρ (.list xs)) : Pitd K (iEnq K (tCons ta tNil)) ρ (enumD 0 xs) := fun T H0 G H σ gh tp D R q =>
  h.bind gh tp D fun x v G1 H1 p1 s1 gh1 tp1 D1 x1 => by
    subst p1
    cases x1 with
    | @lst a vs _ e1 a1 => exact ⟨a, vs, rfl, sql_of (gh1 _ _ e1), q _ _ G1 H1 rfl s1 (itd_enum e1 a1)⟩

/-! ### targets -/
def Pg (K : PySem.W.Frag) (g : TG) (sl : List Nat) (x : PyData) (ρ ρ' : Rho) : Prop := ∀ (T : Addr → Prop) (H0 G H : Hp) (σ : L2.St) (v : V), Same G H → Den T K H0 G H σ ρ → Dn K G v x →
  ∀ Q : L2.St → Hp → Prop, (∀ σ', Den T K H0 G H σ' ρ' → σ'.length = σ.length → (∀ i, i ∉ sl → σ'[i]? = σ[i]?) → Q σ' H) → g v σ H Q
theorem yg_n {i : Nat} {x : PyData} : Pg K (gName i) [i] x ρ (ρ.set i (.d x)) := fun T H0 G H σ v gh D d Q q =>
  q _ (D.set (s := .d x) (o := some v) ⟨v, rfl, d⟩ fun _ z => nomatch z) (List.length_set) fun j hj => List.getElem?_set_ne fun z => hj (by simp [z])
def Pgs (K : PySem.W.Frag) (g : TGs) (sl : List Nat) (xs : List PyData) (ρ ρ' : Rho) : Prop := ∀ (T : Addr → Prop) (H0 G H : Hp) (σ : L2.St) (vs : List V), Same G H → Den T K H0 G H σ ρ → DnAll K G vs xs →
  ∀ Q : L2.St → Hp → Prop, (∀ σ', Den T K H0 G H σ' ρ' → σ'.length = σ.length → (∀ i, i ∉ sl → σ'[i]? = σ[i]?) → Q σ' H) → g vs σ H Q
theorem ygs_0 : Pgs K gNil [] [] ρ ρ := fun T H0 G H σ vs gh D d Q q => by
  cases d
  exact ⟨rfl, q σ D rfl fun _ _ => rfl⟩
theorem ygs_1 {g : TG} {gs : TGs} {s1 s2 : List Nat} {x : PyData} {xs : List PyData} {ρ1 : Rho} (h : Pg K g s1 x ρ ρ1) (hs : Pgs K gs s2 xs ρ1 ρ') : Pgs K (gCons g gs) (s1 ++ s2) (x :: xs) ρ ρ' := fun T H0 G H σ vs gh D d Q q => by
  cases d with
  | cons d1 d2 =>
    refine ⟨_, _, rfl, h T H0 G H σ _ gh D d1 _ fun σ1 D1 l1 f1 => hs T H0 G H σ1 _ gh D1 d2 _ fun σ2 D2 l2 f2 => q σ2 D2 (l2.trans l1) fun i hi => ?_⟩
    rw [List.mem_append, not_or] at hi
    exact (f2 i hi.2).trans (f1 i hi.1)
theorem yg_t {gs : TGs} {sl : List Nat} {xs : List PyData} {n : Nat} (h : Pgs K gs sl xs ρ ρ') (hn : xs.length = n := by rfl) : Pg K (gTup K n gs) sl (.tuple xs) ρ ρ' := fun T H0 G H σ v gh D d Q q => by
  cases d with
  | @tup a vs _ pl e1 a1 => exact ⟨a, vs, rfl, sqt_mono gh e1, a1.length.trans hn, h T H0 G H σ vs gh D a1 Q q⟩
theorem ws_asg {g : TG} {E : Ed} {sl : List Nat} {x : PyData} (h : Pd K te ρ x) (hg : Pg K g sl x ρ ρ') (k : E.nx ρ') : Ws K (tAsg te g) ρ E := fun T G0 H0 σ H D a e =>
  a.eval h fun d v G' H' p s D' y => by
    subst p
    exact hg T H0 G' H' σ v s.gh D' y _ fun σ' D'' _ _ => e.nx _ _ _ k ⟨G', s, D''⟩
theorem wq_asg {u : TS} {g : TG} {E : Ed} {sl : List Nat} {x : PyData} (h : Pd K te ρ x) (hg : Pg K g sl x ρ ρ') (k : Ws K u ρ' E) : Ws K (tSeq (tAsg te g) u) ρ E := ws_seq (fun r => r = ρ') (ws_asg h hg rfl) fun r e => e ▸ k

/-! ### for -/
/-- the entry moved to what is data by now -/
theorem Step.based {T : Addr → Prop} {G0 H0 G1 H1 G H : Hp} (a : Step T G0 H0 G1 H1) (b : Step T G0 H0 G H) (g : Same G1 G) : Step T G1 H0 G H := ⟨g, b.gh, b.h, fun p e n => b.fr p (a.g.free e) n, b.tp⟩
theorem Step.unbased {T : Addr → Prop} {G0 H0 G1 H1 G H : Hp} (a : Step T G0 H0 G1 H1) (b : Step T G1 H0 G H) : Step T G0 H0 G H := ⟨a.g.trans b.g, b.gh, b.h, fun p e n => b.fr p (a.fr p e n) n, b.tp⟩
theorem At.unbased {T : Addr → Prop} {G0 H0 G1 H1 H : Hp} {σ : L2.St} (a : Step T G0 H0 G1 H1) (h : At T K G1 H0 ρ σ H) : At T K G0 H0 ρ σ H := let ⟨G, s, d⟩ := h; ⟨G, a.unbased s, d⟩
theorem ws_for {wi : TI} {g : TG} {tb : TS} {E : Ed} (hi : Pit K wi ρ PL) (W : List PyData → Nat → Rho → Prop) (h0 : ∀ xs, PL xs → W xs 0 ρ)
    (hs : ∀ xs i x r, PL xs → xs[i]? = some x → W xs i r → ∃ sl r', Pg K g sl x r r' ∧ Ws K tb r' { nx := W xs (i + 1), ct := W xs (i + 1), bk := E.nx, rt := E.rt, xw := E.xw, xr := E.xr })
    (hd : ∀ xs r, PL xs → W xs xs.length r → E.nx r) : Ws K (tFor wi g tb) ρ E := fun T G0 H0 σ H D a e => by
  obtain ⟨G, s, D0⟩ := a
  refine hi T H0 G H σ s.gh s.tp D0 _ fun xs J G1 H1 hx s1 it => ?_
  have s01 := s.trans s1
  refine ⟨fun i m σ H => m = xs.length - i ∧ i ≤ xs.length ∧ ∃ r, W xs i r ∧ At T K G1 H0 r σ H, ⟨xs.length, by simp, Nat.zero_le _, ρ, h0 xs hx, G1, s01.based s01 (Same.refl _), D0.mono s1⟩, ?_⟩
  rintro i m σ H ⟨rfl, hil, r, w, G2, s2, D2⟩
  have g2 : Same G1 H := s2.g.trans s2.gh
  by_cases hlt : i < xs.length
  · refine .inr ⟨it.go i H g2 hlt, fun σ' H' => ∃ r, W xs (i + 1) r ∧ At T K G1 H0 r σ' H', fun σ' H' p => ⟨xs.length - (i + 1), by omega, rfl, hlt, p⟩, fun x H' y => ?_⟩
    obtain ⟨G3, d, ed, s3, dx⟩ := it.yld i T G2 H x H' s2.g s2.gh s2.tp hlt y
    obtain ⟨sl, r', hg, hb⟩ := hs xs i d r hx ed w
    refine hg T H0 G3 H' σ x s3.gh (D2.mono s3) dx _ fun σ' D' _ _ => ?_
    refine hb T G1 H0 σ' H' _ ⟨G3, s2.trans s3, D'⟩ ⟨fun r σ H p a => ⟨r, p, a⟩, fun d v H p a => e.rt d v H p ?_, fun r σ H p a => e.nx r σ H p (a.unbased s01), fun r σ H p a => ⟨r, p, a⟩, fun c f d r σ G H p s n x => e.xx c f d r σ G H p (s01.unbased s) n x⟩
    obtain ⟨G4, s4, x4⟩ := a
    exact ⟨G4, s01.unbased s4, x4⟩
  · have e1 : i = xs.length := by omega
    subst e1
    exact .inl ⟨it.stop _ H g2 (Nat.le_refl _), e.nx r σ H (hd xs r hx w) (At.unbased s01 ⟨G2, s2, D2⟩)⟩
/-- over known data: the state told by the turn -/
theorem ws_ford {wi : TI} {g : TG} {tb : TS} {E : Ed} {xs : List PyData} (hi : Pitd K wi ρ xs) (W : Nat → Rho → Prop) (h0 : W 0 ρ)
    (hs : ∀ i x r, xs[i]? = some x → W i r → ∃ sl r', Pg K g sl x r r' ∧ Ws K tb r' { nx := W (i + 1), ct := W (i + 1), bk := E.nx, rt := E.rt, xw := E.xw, xr := E.xr })
    (hd : ∀ r, W xs.length r → E.nx r) : Ws K (tFor wi g tb) ρ E :=
  ws_for hi (fun _ => W) (fun _ _ => h0) (fun ys i x r e => by subst e; exact hs i x r) fun ys r e => by subst e; exact hd r
/-- while: the states, a measure -/
theorem ws_while {α : Type} {c : TT} {tb : TS} {E : Ed} (W : α → Rho → Prop) (μ : α → Nat) (a0 : α) (h0 : W a0 ρ)
    (hs : ∀ a r, W a r → ∃ b, Ptd K c r b ∧ (b = true → Ws K tb r { nx := fun r' => ∃ a', μ a' < μ a ∧ W a' r', ct := fun r' => ∃ a', μ a' < μ a ∧ W a' r', bk := E.nx, rt := E.rt, xw := E.xw, xr := E.xr }) ∧ (b = false → E.nx r)) : Ws K (tWhile c tb) ρ E := fun T G0 H0 σ H D a e => by
  refine ⟨fun m σ H => ∃ a r, m = μ a ∧ W a r ∧ At T K G0 H0 r σ H, ⟨_, a0, ρ, rfl, h0, a⟩, ?_⟩
  rintro m σ H ⟨a1, r, rfl, w, G, s, D0⟩
  obtain ⟨b, hc, ht, hf⟩ := hs a1 r w
  refine hc T H0 G H σ s.gh s.tp D0 _ fun b' G1 H1 p1 s1 => ?_
  subst p1
  cases b' with
  | true =>
    refine ⟨fun σ' H' => ∃ a' r', μ a' < μ a1 ∧ W a' r' ∧ At T K G0 H0 r' σ' H', fun σ' H' ⟨a', r', l, w', z⟩ => ⟨μ a', l, a', r', rfl, w', z⟩, ?_⟩
    exact ht rfl T G0 H0 σ H1 _ ⟨G1, s.trans s1, D0.mono s1⟩ ⟨fun r σ H ⟨a', l, w'⟩ z => ⟨a', r, l, w', z⟩, e.rt, e.nx, fun r σ H ⟨a', l, w'⟩ z => ⟨a', r, l, w', z⟩, e.xx⟩
  | false => exact e.nx r σ H1 (hf rfl) ⟨G1, s.trans s1, D0.mono s1⟩

/-! ### comprehensions -/
def wipeR (ρ : Rho) : List Nat → Rho
  | [] => ρ
  | v :: vs => (wipeR ρ vs).set v .no
theorem Den.wipe {T : Addr → Prop} {H0 G H : Hp} {σ : L2.St} (D : Den T K H0 G H σ ρ) : ∀ vs : List Nat, Den T K H0 G H (L2.wipe σ vs) (wipeR ρ vs)
  | [] => D
  | v :: vs => (D.wipe vs).set (s := .no) (o := none) trivial fun _ z => nomatch z
theorem wipe_at {σ : L2.St} {i : Nat} : ∀ (vs : List Nat), (L2.wipe σ vs)[i]? = if i ∈ vs ∧ i < σ.length then some none else σ[i]?
  | [] => by rw [if_neg (by simp)]; rfl
  | v :: vs => by
    unfold L2.wipe
    by_cases h : v = i
    · subst h
      by_cases hl : v < σ.length
      · rw [List.getElem?_set_self (by rw [wipe_length]; exact hl), if_pos ⟨by simp, hl⟩]
      · rw [List.getElem?_eq_none (by rw [List.length_set, wipe_length]; omega), if_neg (by simp [hl]), List.getElem?_eq_none (by omega)]
    · rw [List.getElem?_set_ne h, wipe_at vs]
      have : (i ∈ v :: vs ∧ i < σ.length) ↔ (i ∈ vs ∧ i < σ.length) := by
        simp only [List.mem_cons]
        constructor
        · rintro ⟨a | a, b⟩
          · exact absurd a.symm h
          · exact ⟨a, b⟩
        · rintro ⟨a, b⟩
          exact ⟨.inr a, b⟩
      by_cases q : i ∈ vs ∧ i < σ.length
      · rw [if_pos q, if_pos (this.mpr q)]
      · rw [if_neg q, if_neg (fun z => q (this.mp z))]
theorem wipe_eq {σ σ2 : L2.St} {vs : List Nat} (hl : σ2.length = σ.length) (h : ∀ i, i ∉ vs → σ2[i]? = σ[i]?) : L2.wipe σ2 vs = L2.wipe σ vs := by
  refine List.ext_getElem? fun i => ?_
  rw [wipe_at, wipe_at, hl]
  by_cases q : i ∈ vs ∧ i < σ.length
  · rw [if_pos q, if_pos q]
  · rw [if_neg q, if_neg q]
    by_cases hi : i ∈ vs
    · have : ¬ i < σ.length := fun z => q ⟨hi, z⟩
      rw [List.getElem?_eq_none (by omega), List.getElem?_eq_none (by omega)]
    · exact h i hi
/-- [e for x in .. if t]: keep and R by the element; deterministic tests -/
theorem nl_lc {wi : TI} {g : TG} {tt : TT} {vs sl : List Nat} (hi : Pit K wi ρ PL) (keep : PyData → Bool) (R : PyData → PyData → Prop) (hsl : ∀ i ∈ sl, i ∈ vs)
    (hz : ∀ xs, PL xs → xs.length < sizeLine)
    (hb : ∀ xs x, PL xs → x ∈ xs → ∃ r', Pg K g sl x (wipeR ρ vs) r' ∧ Ptd K tt r' (keep x) ∧ (keep x = true → Pe K te r' (R x))) :
    Nl K (tLc wi g tt te vs) ρ (fun ys => ∃ xs, PL xs ∧ Paired R (xs.filter keep) ys) := fun T H0 G H σ gh tp D Q q => by
  refine hi T H0 G H σ gh tp D _ fun xs J G1 H1 hx s1 it Dl hD => ?_
  have Dn1 := (D.mono s1).wipe vs
  have nt : ¬ T Dl := tape_some s1.tp hD
  have gd : G1 Dl = none := s1.gh.free hD
  -- the state at a turn
  refine ⟨fun i m H => m = xs.length - i ∧ i ≤ xs.length ∧ ∃ G acc ys, Step T G1 H1 G H ∧ H Dl = some (.lst acc) ∧ G Dl = none ∧ DnAll K G acc ys ∧ Paired R ((xs.take i).filter keep) ys,
    ⟨xs.length, by simp, Nat.zero_le _, G1, [], [], Step.newM s1.gh s1.tp hD, upd_same, gd, .nil, .nil⟩, ?_⟩
  rintro i m H2 ⟨rfl, hil, G2, acc, ys, s2, hacc, g2d, da, pr⟩
  have g2 : Same G1 H2 := s2.g.trans s2.gh
  by_cases hlt : i < xs.length
  · refine .inr ⟨it.go i H2 g2 hlt, fun H' => ∃ G acc ys, Step T G1 H1 G H' ∧ H' Dl = some (.lst acc) ∧ G Dl = none ∧ DnAll K G acc ys ∧ Paired R ((xs.take (i + 1)).filter keep) ys, fun H' p => ⟨xs.length - (i + 1), by omega, rfl, hlt, p⟩, fun x H' y => ?_⟩
    obtain ⟨G3, d, ed, s3, dx⟩ := it.yld i T G2 H2 x H' s2.g s2.gh s2.tp hlt y
    obtain ⟨r', hg, ht, he⟩ := hb xs d hx (List.mem_of_getElem? ed)
    have s13 := s2.trans s3
    have et : (xs.take (i + 1)).filter keep = (xs.take i).filter keep ++ (if keep d = true then [d] else []) := by
      rw [List.take_add_one, ed, List.filter_append]
      congr 1
      show List.filter keep [d] = _
      cases hk : keep d with
      | true => simp [hk]
      | false => simp [hk]
    have lacc : ys.length ≤ i := by
      have h1 := pr.length
      have h2 := List.length_filter_le keep (xs.take i)
      rw [List.length_take] at h2
      omega
    refine hg T H0 G3 H' _ x s3.gh (Dn1.mono s13) dx _ fun σ' D' hl hf => ⟨?_, ?_⟩
    · refine (wipe_eq hl fun j hj => hf j fun z => hj (hsl j z)).trans ?_
      refine wipe_eq (wipe_length σ vs) fun j hj => ?_
      rw [wipe_at, if_neg (fun z => hj z.1)]
    refine ht T H0 G3 H' σ' s3.gh s3.tp D' _ fun b G4 H4 pb s4 => ?_
    subst pb
    have hD2 : H2 Dl ≠ none := by rw [hacc]; intro z; cases z
    have a4 : H4 Dl = some (.lst acc) := s4.h _ _ nt (s3.h _ _ nt hacc)
    have g4d : G4 Dl = none := s4.fr _ (s3.fr _ g2d hD2) (s3.so hD2)
    cases hk : keep d with
    | true =>
      rw [hk] at et
      rw [if_pos rfl]
      refine (he hk).bind s4.gh s4.tp (D'.mono s4) fun e v G5 H5 p5 s5 gh5 tp5 D5 x5 => ⟨acc, s5.h _ _ nt a4, ?_, G5, acc ++ [v], ys ++ [e], ?_, upd_same, s5.fr _ g4d (by rw [a4]; intro z; cases z), ?_, ?_⟩
      · rw [da.length]
        exact Nat.lt_of_le_of_lt lacc (Nat.lt_trans hlt (hz xs hx))
      · have s15 := (s13.trans s4).trans s5
        have g5d : G5 Dl = none := s5.fr _ g4d (by rw [a4]; intro z; cases z)
        refine ⟨s15.g, fun c u e => ?_, fun p o np ep => ?_, s15.fr, fun a t => ?_⟩
        · rw [upd_ne (ne_of_none e g5d)]
          exact gh5 _ _ e
        · rw [upd_ne (ne_of_none ep hD)]
          exact s15.h p o np ep
        · have z := tp5 a t
          obtain ⟨b, ns, x, y, m, e, eb, ea, r⟩ := id z
          exact z.mono (Same.refl _) (upd_ne (fun w => nt (w ▸ t))) ea
      · exact (((da.mono s3.g).mono s4.g).mono s5.g).append (.cons x5 .nil)
      · rw [et, if_pos rfl]
        have app : ∀ {as : List PyData} {bs : List PyData}, Paired R as bs → Paired R (as ++ [d]) (bs ++ [e]) := by
          intro as bs h
          induction h with
          | nil => exact .cons p5 .nil
          | cons r _ ih => exact .cons r ih
        exact app pr
    | false =>
      rw [hk] at et
      rw [if_neg Bool.false_ne_true]
      refine ⟨G4, acc, ys, s13.trans s4, a4, g4d, (da.mono s3.g).mono s4.g, ?_⟩
      rw [et, if_neg Bool.false_ne_true, List.append_nil]
      exact pr
  · have e1 : i = xs.length := by omega
    subst e1
    rw [List.take_of_length_le (Nat.le_refl _)] at pr
    have s12 := s2
    refine .inl ⟨it.stop _ H2 g2 (Nat.le_refl _), q ys Dl acc G2 H2 ⟨xs, hx, pr⟩ (s1.trans s2) ?_ nt g2d hacc da⟩
    exact s1.no hD nt
theorem yt_yes : Ptd K tYes ρ true := fun T H0 G H σ gh tp D Q q => q true G H rfl (Step.refl gh tp)
theorem filter_all (xs : List PyData) : xs.filter (fun _ => true) = xs := List.filter_eq_self.mpr fun _ _ => rfl
theorem paired_map {f : PyData → PyData} : ∀ {xs ys : List PyData}, Paired (fun a b => b = f a) xs ys → ys = xs.map f
  | _, _, .nil => rfl
  | _, _, .cons h t => by rw [h, paired_map t]; rfl
/-- without a test, a function of the element -/
theorem nd_lcf {wi : TI} {g : TG} {vs sl : List Nat} {xs : List PyData} (f : PyData → PyData) (hi : Pitd K wi ρ xs) (hsl : ∀ i ∈ sl, i ∈ vs) (hz : xs.length < sizeLine)
    (hb : ∀ x, x ∈ xs → ∃ r', Pg K g sl x (wipeR ρ vs) r' ∧ Pd K te r' (f x)) : Nld K (tLc wi g tYes te vs) ρ (xs.map f) :=
  (nl_lc hi (fun _ => true) (fun a b => b = f a) hsl (fun _ e => e ▸ hz) fun ys x e hx => by
    subst e
    obtain ⟨r', h1, h2⟩ := hb x hx
    exact ⟨r', h1, yt_yes, fun _ => h2⟩).imp fun ys ⟨zs, e, p⟩ => by
      subst e
      rw [filter_all] at p
      exact paired_map p
/-- with a test -/
theorem nd_lcff {wi : TI} {g : TG} {tt : TT} {vs sl : List Nat} {xs : List PyData} (keep : PyData → Bool) (f : PyData → PyData) (hi : Pitd K wi ρ xs) (hsl : ∀ i ∈ sl, i ∈ vs) (hz : xs.length < sizeLine)
    (hb : ∀ x, x ∈ xs → ∃ r', Pg K g sl x (wipeR ρ vs) r' ∧ Ptd K tt r' (keep x) ∧ (keep x = true → Pd K te r' (f x))) : Nld K (tLc wi g tt te vs) ρ ((xs.filter keep).map f) :=
  (nl_lc hi keep (fun a b => b = f a) hsl (fun _ e => e ▸ hz) fun ys x e hx => by
    subst e
    exact hb x hx).imp fun ys ⟨zs, e, p⟩ => by
      subst e
      exact paired_map p

/-! ### lists that change -/
variable {T : Addr → Prop} {G0 H0 G H : Hp} {σ : L2.St} {E : Ed} {u : TS}
/-- the list in slot i is changed -/
theorem Den.mut (D : Den T K H0 G H σ ρ) (s : Step T G0 H0 G H) {i : Nat} {xs ys : List PyData} {l : Addr} {ws : List V} (e : ρ[i]? = some (.ml xs)) (el : σ[i]? = some (some (.ref l))) (a : DnAll K G ws ys) :
    Step T G0 H0 G (upd H l (.lst ws)) ∧ Den T K H0 G (upd H l (.lst ws)) σ (ρ.set i (.ml ys)) := by
  obtain ⟨o, e1, l', vs, rfl, hl, d, gl, h0, nt⟩ := D.at e
  rw [el] at e1
  cases e1
  refine ⟨⟨s.g, fun c w ec => ?_, fun p o np ep => ?_, s.fr, fun b t => ?_⟩, by rw [List.length_set]; exact D.len, fun j x o q1 q2 => ?_, fun j k ys' zs o p m hjk q1 q2 q3 q4 f1 f2 => ?_⟩
  · rw [upd_ne (ne_of_none ec gl)]
    exact s.gh _ _ ec
  · rw [upd_ne (ne_of_none ep h0)]
    exact s.h p o np ep
  · have z := s.tp b t
    obtain ⟨b', ns, x, y, m, e', eb, ea, r⟩ := id z
    exact z.mono (Same.refl _) (upd_ne (fun w => nt (w ▸ t))) ea
  · by_cases q : i = j
    · subst q
      rw [List.getElem?_set_self (List.getElem?_eq_some_iff.mp e).1] at q1
      cases q1
      rw [el] at q2
      cases q2
      exact ⟨l, ws, rfl, upd_same, a, gl, h0, nt⟩
    · rw [List.getElem?_set_ne q] at q1
      have old := D.ok j x o q1 q2
      cases x with
      | no => trivial
      | d x => exact old
      | tp => exact old
      | rf a => exact old
      | rg lo hi => exact old
      | mx w =>
        have ne : ∀ a', a' ∈ w.fp → a' ≠ l := fun a' ha z => by
          subst z
          exact D.one i j _ _ _ _ a' q e q1 el q2 rfl ha
        refine ⟨w.frame (Same.refl _) (fun a' ha => upd_ne (ne a' ha)) old.1, fun a' ha => ?_⟩
        obtain ⟨p1, p2, p3, p4⟩ := old.2 a' ha
        exact ⟨by rw [upd_ne (ne a' ha)]; exact p1, p2, p3, p4⟩
      | ml ys =>
        obtain ⟨m, us, rfl, hm, am, gm, hm0, ntm⟩ := old
        refine ⟨m, us, rfl, ?_, am, gm, hm0, ntm⟩
        have nml : m ≠ l := fun z => by
          subst z
          exact D.one i j _ _ _ _ m q e q1 el q2 rfl rfl
        rw [upd_ne nml]
        exact hm
  · have back : ∀ {n : Nat} {w : Sl} {o : Option V}, (ρ.set i (.ml ys))[n]? = some w → σ[n]? = some o → w.fp o m → ∃ w', ρ[n]? = some w' ∧ w'.fp o m := fun {n w o} q q' mm => by
      by_cases z : i = n
      · subst z
        rw [List.getElem?_set_self (List.getElem?_eq_some_iff.mp e).1] at q
        cases q
        exact ⟨.ml xs, e, mm⟩
      · rw [List.getElem?_set_ne z] at q
        exact ⟨w, q, mm⟩
    obtain ⟨w1, r1, k1⟩ := back q1 q3 f1
    obtain ⟨w2, r2, k2⟩ := back q2 q4 f2
    exact D.one j k w1 w2 o p m hjk r1 r2 q3 q4 k1 k2
/-- xs.append(e) -/
theorem ws_app {i : Nat} {xs : List PyData} (e : ρ[i]? = some (.ml xs)) (h : Pe K te ρ P) (hz : xs.length < sizeLine) (k : ∀ d, P d → E.nx (ρ.set i (.ml (xs ++ [d])))) : Ws K (tDrop (tBM K "list" rAppend (tVar i) (tCons te tNil))) ρ E := fun T G0 H0 σ H D a ed => by
  obtain ⟨G, s, D0⟩ := a
  obtain ⟨o, e1, l, vs, rfl, hl, x, gl, h0, nt⟩ := D0.at e
  refine ⟨_, e1, .inl ⟨rfl, vs, sql_of hl⟩, h.bind s.gh s.tp D0 fun d v G' H' p s' gh' tp' D' y => ?_⟩
  obtain ⟨s2, D2⟩ := D'.mut (s.trans s') e e1 ((x.mono s'.g).append (.cons y .nil))
  exact ⟨l, vs, v, rfl, rfl, s'.h _ _ nt hl, by rw [x.length]; exact hz, ed.nx _ _ _ (k d p) ⟨G', s2, D2⟩⟩
theorem wq_app {i : Nat} {xs : List PyData} (e : ρ[i]? = some (.ml xs)) (h : Pe K te ρ P) (hz : xs.length < sizeLine) (k : ∀ d, P d → Ws K u (ρ.set i (.ml (xs ++ [d]))) E) : Ws K (tSeq (tDrop (tBM K "list" rAppend (tVar i) (tCons te tNil))) u) ρ E :=
  ws_seq (fun r => ∃ d, P d ∧ r = ρ.set i (.ml (xs ++ [d]))) (ws_app e h hz fun d p => ⟨d, p, rfl⟩) fun r ⟨d, p, e⟩ => e ▸ k d p
/-- xs.extend(ys) -/
theorem ws_ext {i : Nat} {xs : List PyData} (e : ρ[i]? = some (.ml xs)) (h : Rl K te ρ PL) (hz : ∀ ys, PL ys → xs.length + ys.length ≤ sizeLine) (k : ∀ ys, PL ys → E.nx (ρ.set i (.ml (xs ++ ys)))) : Ws K (tDrop (tBM K "list" rExtend (tVar i) (tCons te tNil))) ρ E := fun T G0 H0 σ H D a ed => by
  obtain ⟨G, s, D0⟩ := a
  obtain ⟨o, e1, l, vs, rfl, hl, x, gl, h0, nt⟩ := D0.at e
  refine ⟨_, e1, .inl ⟨rfl, vs, sql_of hl⟩, h.bind s.gh s.tp D0 fun ys p ws G' H' py s' gh' tp' D' rd y => ?_⟩
  obtain ⟨s2, D2⟩ := D'.mut (s.trans s') e e1 ((x.mono s'.g).append y)
  exact ⟨l, p, vs, ws, rfl, rfl, s'.h _ _ nt hl, rd.at gh', by rw [x.length, y.length]; exact hz ys py, ed.nx _ _ _ (k ys py) ⟨G', s2, D2⟩⟩
/-- xs.pop(), the value unused -/
theorem ws_pop {i : Nat} {xs : List PyData} (e : ρ[i]? = some (.ml xs)) (hne : xs ≠ []) (k : E.nx (ρ.set i (.ml xs.dropLast))) : Ws K (tDrop (tBM0 K "list" rPop (tVar i))) ρ E := fun T G0 H0 σ H D a ed => by
  obtain ⟨G, s, D0⟩ := a
  obtain ⟨o, e1, l, vs, rfl, hl, x, gl, h0, nt⟩ := D0.at e
  have hv : 0 < vs.length := by
    rw [x.length]
    exact List.length_pos_iff.mpr hne
  obtain ⟨s2, D2⟩ := D0.mut s e e1 x.dropLast
  exact ⟨_, e1, .inl ⟨rfl, vs, sql_of hl⟩, l, vs, vs[vs.length - 1], rfl, rfl, hl, List.getElem?_eq_getElem (by omega), ed.nx _ _ _ k ⟨G, s2, D2⟩⟩
/-- xs[j] = e -/
theorem ws_seti {i : Nat} {xs : List PyData} {j : Int} {n : Nat} (e : ρ[i]? = some (.ml xs)) (h : Pe K te ρ P) (hj : Pd K tb ρ (.int j)) (hn : ixN xs.length j = some n) (k : ∀ d, P d → E.nx (ρ.set i (.ml (xs.set n d)))) : Ws K (tAsg te (gSub (tVar i) tb rSetL)) ρ E := fun T G0 H0 σ H D a ed => by
  obtain ⟨G, s, D0⟩ := a
  refine h.bind s.gh s.tp D0 fun d v G' H' p s' gh' tp' D' y => ?_
  obtain ⟨o, e1, l, vs, rfl, hl, x, gl, h0, nt⟩ := D'.at e
  refine ⟨_, e1, hj.bind gh' tp' D' fun z w G2 H2 p2 s2 gh2 tp2 D2 y2 => ?_⟩
  subst p2
  cases y2
  obtain ⟨s3, D3⟩ := D2.mut ((s.trans s').trans s2) e e1 ((x.mono s2.g).set n (y.mono s2.g))
  exact ⟨l, vs, j, n, rfl, rfl, s2.h _ _ nt hl, by rw [x.length]; exact hn, ed.nx _ _ _ (k d p) ⟨G2, s3, D3⟩⟩
/-- x op= e -/
theorem ws_aug {i : Nat} {f : Int → Int → Int} {a b : Int} (e : ρ[i]? = some (.d (.int a))) (h : Pd K te ρ (.int b)) (k : E.nx (ρ.set i (.d (.int (f a b))))) {ti : TIp} (ht : ∀ H Q, Q (.int (f a b)) H → ti (.int a) (.int b) H Q) : Ws K (tAug i te ti) ρ E := fun T G0 H0 σ H D at' ed => by
  obtain ⟨G, s, D0⟩ := at'
  obtain ⟨o, e1, v, rfl, x⟩ := D0.at e
  refine ⟨v, e1, h.bind s.gh s.tp D0 fun d w G' H' p s' gh' tp' D' y => ?_⟩
  subst p
  cases x
  cases y
  exact ht _ _ (ed.nx _ _ _ k ⟨G', s.trans s', D'.set (s := .d _) (o := some _) ⟨_, rfl, .int _⟩ fun _ z => nomatch z⟩)
/-- a, b = e, f -/
theorem ws_par {i j : Nat} {x y : PyData} {ta : TA} (h : Pasd K ta ρ [.d x, .d y]) (k : E.nx ((ρ.set i (.d x)).set j (.d y))) : Ws K (tPar i j ta) ρ E := fun T G0 H0 σ H D at' ed => by
  obtain ⟨G, s, D0⟩ := at'
  refine h.bind s.gh s.tp D0 fun ss vs G' H' p s' gh' tp' D' a => ?_
  subst p
  cases a with
  | cons a1 a2 =>
    cases a2 with
    | cons a2 a3 =>
      cases a3
      refine ⟨_, _, rfl, ed.nx _ _ _ k ⟨G', s.trans s', ?_⟩⟩
      exact (D'.set (s := .d x) (o := some _) ⟨_, rfl, a1⟩ fun _ z => nomatch z).set (s := .d y) (o := some _) ⟨_, rfl, a2⟩ fun _ z => nomatch z
theorem ws_par3 {i j l : Nat} {x y z : PyData} {ta : TA} (h : Pasd K ta ρ [.d x, .d y, .d z]) (k : E.nx (((ρ.set i (.d x)).set j (.d y)).set l (.d z))) : Ws K (tPar3 i j l ta) ρ E := fun T G0 H0 σ H D at' ed => by
  obtain ⟨G, s, D0⟩ := at'
  refine h.bind s.gh s.tp D0 fun ss vs G' H' p s' gh' tp' D' a => ?_
  subst p
  cases a with
  | cons a1 a2 =>
    cases a2 with
    | cons a2 a3 =>
      cases a3 with
      | cons a3 a4 =>
        cases a4
        refine ⟨_, _, _, rfl, ed.nx _ _ _ k ⟨G', s.trans s', ?_⟩⟩
        exact ((D'.set (s := .d x) (o := some _) ⟨_, rfl, a1⟩ fun _ z => nomatch z).set (s := .d y) (o := some _) ⟨_, rfl, a2⟩ fun _ z => nomatch z).set (s := .d z) (o := some _) ⟨_, rfl, a3⟩ fun _ z => nomatch z

/-! ### a def's body -/
theorem den_start {N : List Str} {ss : List Sl} {vs : List V} (h : ArgsOk T K G ss vs) (hn : ss.length ≤ N.length) : Den T K H0 G H (L2.start N vs) (ss ++ List.replicate (N.length - ss.length) .no) := by
  have hl : ss.length = vs.length := Paired.length h
  refine ⟨?_, fun i s o e1 e2 => ?_, fun i j xs ys o p l hij e1 e2 e3 e4 f1 => ?_⟩
  · unfold L2.start
    simp only [List.length_append, List.length_map, List.length_replicate]
    omega
  · by_cases hi : i < ss.length
    · rw [List.getElem?_append_left hi] at e1
      unfold L2.start at e2
      rw [List.getElem?_append_left (by rw [List.length_map]; omega), List.getElem?_map] at e2
      have get : ∀ {ss : List Sl} {vs : List V} {i : Nat} {s : Sl}, ArgsOk T K G ss vs → ss[i]? = some s → ∃ v, vs[i]? = some v ∧ ArgOk T K G s v := by
        intro ss vs i s h
        induction h generalizing i with
        | nil => intro e; simp at e
        | cons r t ih =>
          intro e
          cases i with
          | zero =>
            have e := Option.some.inj e
            subst e
            exact ⟨_, rfl, r⟩
          | succ i => exact ih e
      obtain ⟨v, ev, av⟩ := get h e1
      rw [ev] at e2
      cases e2
      cases s with
      | no => exact av.elim
      | ml xs => exact av.elim
      | d x => exact ⟨v, rfl, av⟩
      | tp => exact let ⟨a, e, t⟩ := av; ⟨a, by rw [e], t⟩
      | rf a => exact av.elim
      | rg lo hi => exact av.elim
      | mx m => exact av.elim
    · rw [List.getElem?_append_right (by omega), List.getElem?_replicate] at e1
      split at e1
      · cases e1
        trivial
      · cases e1
  · by_cases hi : i < ss.length
    · rw [List.getElem?_append_left hi] at e1
      have no : ∀ {ss : List Sl} {vs : List V} {i : Nat} {x : Sl}, ArgsOk T K G ss vs → ss[i]? = some x → x.fp o l → False := by
        intro ss vs i x h
        induction h generalizing i with
        | nil => intro e; simp at e
        | cons r t ih =>
          intro e mm
          cases i with
          | zero =>
            have e := Option.some.inj e
            subst e
            rename_i a _ _ _
            cases a with
            | ml xs => exact r.elim
            | mx m => exact r.elim
            | _ => exact mm
          | succ i => exact ih e mm
      exact (no h e1 f1).elim
    · rw [List.getElem?_append_right (by omega), List.getElem?_replicate] at e1
      split at e1
      · cases e1
        exact f1.elim
      · cases e1
/-- THE RULE for a def: its body by data -/
theorem fn_ok {Pg' : Program} {w : World} {mg : Str → Option Value} {base : Heap} {x qual : Str} {st : Stmt} {f : Addr} {fd : FuncData} {N ps : List Str} {k n : Nat} {R : Pr} (F : Fun K x qual st f fd) (S : FnScope N ps (defScope st)) (hp : ps.length = n) (hN : n ≤ N.length)
    (hb : ∀ (cdv : Value) (A : Around) (outer : List Env) (s : Shared) (H : Hp) (E : XK), Room k (A.deeper (envOfC qual (defScope st) s.heap.objs.size f cdv)) →
      ∃ t, PSs (cxOf CX0 Pg' w K mg base N qual (defScope st) f cdv A outer s H E).nox (defBody st) t ∧ ∀ ss P, ss.length = n → R ss P → Ws K t (ss ++ List.replicate (N.length - n) .no) { nx := fun _ => P .none, rt := P }) :
    FnOk Pg' w K mg base CX0 (k + 1) f fd ps (spR K n R) := by
  refine F.ok S (fun vs H Q E h => ?_) (fun cdv A outer s H vs Q E hr h => ?_)
  · obtain ⟨T, G, ss, P, gh, tp, a, hl, _⟩ := h
    rw [← Paired.length a, hl, hp]
  · obtain ⟨t, ht, hw⟩ := hb cdv A outer s H E hr
    obtain ⟨T, G, ss, P, gh, tp, a, hl, hR, q⟩ := h
    refine ⟨t, ht, ?_⟩
    have D0 : Den T K H G H (L2.start N vs) (ss ++ List.replicate (N.length - n) .no) := by
      have := den_start (H0 := H) (H := H) (N := N) a (by omega)
      rw [hl] at this
      exact this
    refine hw ss P hl hR T G H _ H _ ⟨G, Step.refl gh tp, D0⟩ ⟨fun ρ σ H' p a => ?_, fun d v H' p a => ?_, fun _ _ _ z => z.elim, fun _ _ _ z => z.elim, fun _ _ _ _ _ _ _ z => z.elim⟩
    · obtain ⟨G', s', _⟩ := a
      exact q _ _ G' H' p s' .non
    · obtain ⟨G', s', x⟩ := a
      exact q d v G' H' p s' x
end
end PD

namespace PD
open PySem PySem.Spec PyProof.Rows L2 RZ

/-! ### calls of the text's defs -/
structure Cal (Pg : Program) (w : World) (K : PySem.W.Frag) (mg : Str → Option Value) (base : Heap) (k : Nat) (x : Str) (ps : List Str) (sp : Sp) : Prop where
  ex : ∃ (f : Addr) (fd : FuncData), FnOk Pg w K mg base CX0 k f fd ps sp ∧ mg x = some (.ref f) ∧ PySem.W.keepIn K (.ref f) = true ∧ Binds K fd ps []
section
variable {X : Cx}
theorem pe_cal {k j : Nat} {x : Str} {ps : List Str} {sp : Sp} {e : Expr} {es : List Expr} {t : TA} {p pos : Pos} (C : Cal X.prog X.w X.K X.mg X.base k x ps sp) (hr : Room j X.A) (ha : PA X (e :: es) t) (hk : k ≤ j := by decide) (hg : Gl X x := by rfl) (hdb : (x == ("__debug__" : Str)) = false := by decide)
    (he : starEach (e :: es) X.env = (false, eval e X.env) :: starEach es X.env := by rfl) (hpl : (backTo pos (starEach es X.env)).any (·.1) = false := by rfl) : PE X (.Call (.Name x p) (e :: es) [] pos) (tCall sp [] E0 t) := by
  obtain ⟨f, fd, G, gm, gk, b⟩ := C.ex
  exact L2.pe_call G (hr.mono hk) hg gm gk b .nil pass0 ha hdb he hpl
/-- a module's number -/
theorem pe_gi {x : Str} {i : Int} {pos : Pos} (h : ∃ t, X.mg x = some (.int i t)) (hg : Gl X x := by rfl) (hd : (x == ("__debug__" : Str)) = false := by decide) : PE X (.Name x pos) (tC (.int i)) := by
  obtain ⟨t, e⟩ := h
  exact pe_glob hg e ⟨t, rfl⟩ hd
end

/-! ### the tape's making -/
def spTape (K : PySem.W.Frag) : Sp := fun vs H Q _ => ∃ (a : Addr) (ns : List Int), vs = [.ref a] ∧ SqL K H a (ns.map V.int) ∧
  ∀ (p b : Addr) (H' : Hp) (mixed : Int), H p = none → H b = none → p ≠ b → Same H H' → H' p = some (.lst [.ref b, .int 0, .int 0, .int mixed]) → H' b = some (.lst (ns.map V.int)) → 0 ≤ mixed → mixed < 2147483647 → Q (.ref p) H'
def spLaw (K : PySem.W.Frag) : Sp := fun vs H Q _ => ∃ (a : Addr) (ns : List Int), vs = [.ref a] ∧ SqL K H a (ns.map V.int) ∧ ns.length ≤ 63 ∧ ∀ H', Q (.bl true) H'
theorem dnall_ints {K : PySem.W.Frag} {G : Hp} (ns : List Int) : DnAll K G (ns.map V.int) (ns.map PyData.int) := DnAll.of_ints ns
theorem law_go {K : PySem.W.Frag} {u : TS} {N : List Str} {m : Nat} {Q : VK} {E : XK} {H : Hp} {a : Addr} {ns : List Int} (hS : SqL K H a (ns.map V.int)) (q : ∀ H', Q (.bl true) H') (hN : N.length = m + 2)
    (hw : Ws K u (.no :: .tp :: List.replicate m .no) { rt := fun d => d = .bool true }) :
    tSeq (tAsg (tCall (spTape K) [] E (tCons (tVar 0) tNil)) (gName 1)) u { nx := fun _ H' => Q .non H', rt := Q } (L2.start N [.ref a]) H := by
  refine ⟨.ref a, rfl, a, ns, rfl, hS, fun p b H' mixed hp hb hpb sm ep eb m0 m1 => ?_⟩
  have st : (L2.start N [.ref a]).set 1 (some (V.ref p)) = some (.ref a) :: some (.ref p) :: List.replicate m none := by
    unfold L2.start
    rw [hN]
    show (some (V.ref a) :: List.replicate (m + 2 - 1) none).set 1 (some (V.ref p)) = _
    rw [show m + 2 - 1 = m + 1 by omega, List.replicate_succ]
    rfl
  show u _ ((L2.start N [.ref a]).set 1 (some (V.ref p))) H'
  rw [st]
  have gb : ∀ c o, (fun x => if x = b then some (HO.lst (ns.map V.int)) else none : Hp) c = some o → H' c = some o := fun c o e => by
    by_cases z : c = b
    · have e : (if c = b then some (HO.lst (ns.map V.int)) else none) = some o := e
      rw [if_pos z] at e
      cases e
      rw [z]
      exact eb
    · have e : (if c = b then some (HO.lst (ns.map V.int)) else none) = some o := e
      rw [if_neg z] at e
      cases e
  have tp : ∀ c, c = p → Tp (fun x => if x = b then some (HO.lst (ns.map V.int)) else none) H' c := fun c e => by
    subst e
    exact ⟨b, ns, 0, 0, mixed, ep, if_pos rfl, if_neg hpb, Int.le_refl _, Int.le_refl _, m0, m1⟩
  refine hw (fun x => x = p) _ H' _ H' _ ⟨_, Step.refl gb tp, ⟨by simp, fun i s o e1 e2 => ?_, fun i j xs ys o p l hij e1 _ _ _ mm => ?_⟩⟩ ⟨fun _ _ _ z => z.elim, fun d v H2 e r => ?_, fun _ _ _ z => z.elim, fun _ _ _ z => z.elim, fun _ _ _ _ _ _ _ z => z.elim⟩
  · match i with
    | 0 => cases e1; trivial
    | 1 =>
      cases e1
      cases e2
      exact ⟨p, rfl, rfl⟩
    | i + 2 =>
      have e1 : (List.replicate m Sl.no)[i]? = some s := e1
      rw [List.getElem?_replicate] at e1
      split at e1
      · cases e1; trivial
      · cases e1
  · match i with
    | 0 => cases e1; exact mm.elim
    | 1 => cases e1; exact mm.elim
    | i + 2 =>
      have e1 : (List.replicate m Sl.no)[i]? = some xs := e1
      rw [List.getElem?_replicate] at e1
      split at e1
      · cases e1
        exact mm.elim
      · cases e1
  · subst e
    obtain ⟨G, _, x⟩ := r
    cases x
    exact q H2

/-! ### the tape read and written (by hand) -/
/-- a def on the tape, by hand: the heap with the tape's four -/
theorem tape_step {T : Addr → Prop} {G H G1 H1 : Hp} {p b : Addr} {ns : List Int} {place rest mixed : Int} (s : Step T G H G1 H1) (gb : G1 b = some (.lst (ns.map V.int))) (ga : G1 p = none) (hp : H1 p ≠ none) (t : T p) (p0 : 0 ≤ place) (r0 : 0 ≤ rest) (m0 : 0 ≤ mixed) (m1 : mixed < 2147483647) :
    Step T G H G1 (upd H1 p (.lst [.ref b, .int place, .int rest, .int mixed])) := by
  refine ⟨s.g, fun a o e => ?_, fun a o nt e => ?_, s.fr, fun a ta => ?_⟩
  · rw [upd_ne (ne_of_none e ga)]
    exact s.gh _ _ e
  · rw [upd_ne (fun z => nt (by rw [z]; exact t))]
    exact s.h a o nt e
  · by_cases z : a = p
    · rw [z]
      exact ⟨b, ns, place, rest, mixed, upd_same, gb, ga, p0, r0, m0, m1⟩
    · obtain ⟨b', ns', x, y, m, e, eb, ea, r⟩ := s.tp a ta
      exact ⟨b', ns', x, y, m, by rw [upd_ne z]; exact e, eb, ea, r⟩
end PD

namespace PD
open PySem PySem.Spec PyProof.Rows L2 RZ
section
variable {K : PySem.W.Frag} {ρ : Rho} {te ta tb tc td : TE} {P Q : PyData → Prop} {a b c d : PyData}
theorem yd_t1 (h1 : Pd K ta ρ a) : Pd K (tTuq (tCons ta tNil)) ρ (.tuple [a]) := yd_tup (ds := [a]) (ya_d h1 ya_n)
theorem yd_t2 (h1 : Pd K ta ρ a) (h2 : Pd K tb ρ b) : Pd K (tTuq (tCons ta (tCons tb tNil))) ρ (.tuple [a, b]) := yd_tup (ds := [a, b]) (ya_d h1 (ya_d h2 ya_n))
theorem yd_t3 (h1 : Pd K ta ρ a) (h2 : Pd K tb ρ b) (h3 : Pd K tc ρ c) : Pd K (tTuq (tCons ta (tCons tb (tCons tc tNil)))) ρ (.tuple [a, b, c]) := yd_tup (ds := [a, b, c]) (ya_d h1 (ya_d h2 (ya_d h3 ya_n)))
theorem nd_l0 : Nld K (tLst tNil) ρ [] := nd_lst (ds := []) ya_n
theorem nd_l1 (h1 : Pd K ta ρ a) : Nld K (tLst (tCons ta tNil)) ρ [a] := nd_lst (ds := [a]) (ya_d h1 ya_n)
theorem nd_l2 (h1 : Pd K ta ρ a) (h2 : Pd K tb ρ b) : Nld K (tLst (tCons ta (tCons tb tNil))) ρ [a, b] := nd_lst (ds := [a, b]) (ya_d h1 (ya_d h2 ya_n))
theorem nd_l3 (h1 : Pd K ta ρ a) (h2 : Pd K tb ρ b) (h3 : Pd K tc ρ c) : Nld K (tLst (tCons ta (tCons tb (tCons tc tNil)))) ρ [a, b, c] := nd_lst (ds := [a, b, c]) (ya_d h1 (ya_d h2 (ya_d h3 ya_n)))
theorem nd_l4 (h1 : Pd K ta ρ a) (h2 : Pd K tb ρ b) (h3 : Pd K tc ρ c) (h4 : Pd K td ρ d) : Nld K (tLst (tCons ta (tCons tb (tCons tc (tCons td tNil))))) ρ [a, b, c, d] := nd_lst (ds := [a, b, c, d]) (ya_d h1 (ya_d h2 (ya_d h3 (ya_d h4 ya_n))))
/-- arguments that all have a property -/
def AllA (n : Nat) (Q : PyData → Prop) : List Sl → Prop := fun ss => ss.length = n ∧ ∀ s ∈ ss, ∃ d, s = .d d ∧ Q d
theorem ya_0 : Pas K tNil ρ (AllA 0 Q) := fun T H0 G H σ gh tp D R q => ya_n T H0 G H σ gh tp D R fun ss vs G' H' e => by
  subst e
  exact q [] vs G' H' ⟨rfl, fun s h => by cases h⟩
theorem ya_1 {tr : TA} {n : Nat} (h : Pe K te ρ Q) (hr : Pas K tr ρ (AllA n Q)) : Pas K (tCons te tr) ρ (AllA (n + 1) Q) := ya_c h hr fun d ss p ⟨e, a⟩ => ⟨congrArg (· + 1) e, fun s hs => by
  rcases List.mem_cons.mp hs with rfl | hs
  · exact ⟨d, rfl, p⟩
  · exact a s hs⟩
theorem all_data : ∀ {ss : List Sl} {n : Nat}, AllA n Q ss → ∃ ds : List PyData, ss = ds.map Sl.d ∧ ds.length = n ∧ ∀ x ∈ ds, Q x
  | [], _, ⟨e, _⟩ => ⟨[], rfl, e, fun x h => by cases h⟩
  | s :: ss, n, ⟨e, a⟩ => by
    obtain ⟨d, e1, q⟩ := a s List.mem_cons_self
    obtain ⟨ds, e2, e3, q2⟩ := all_data (n := ss.length) (ss := ss) ⟨rfl, fun s hs => a s (List.mem_cons_of_mem _ hs)⟩
    refine ⟨d :: ds, by rw [e1, e2]; rfl, by rw [← e, List.length_cons, e3]; rfl, fun x hx => ?_⟩
    rcases List.mem_cons.mp hx with rfl | hx
    · exact q
    · exact q2 x hx
theorem nl_all {tr : TA} {n : Nat} (h : Pas K tr ρ (AllA n Q)) (hn : n ≤ 1000 := by decide) : Nl K (tLst tr) ρ (fun xs => xs.length = n ∧ ∀ x ∈ xs, Q x) := nl_lst h fun ss p => by
  obtain ⟨ds, e, e2, q⟩ := all_data p
  exact ⟨ds, e, by rw [e2]; exact Nat.le_trans hn (by show 1000 ≤ (16777216 : Nat); decide), e2, q⟩
/-- [a, b, ..][draw] -/
theorem ye_menu {tr : TA} {n : Nat} (h : Pas K tr ρ (AllA n Q)) (hb : Pe K tb ρ (fun d => ∃ r : Int, d = .int r ∧ 0 ≤ r ∧ r < (n : Int))) (hn : n ≤ 1000 := by decide) : Pe K (tOp (rIx K) (tLst tr) tb) ρ Q := ye_ixR (nl_all h hn).rl hb fun xs y ⟨hl, ha⟩ ⟨r, e, r0, r1⟩ => by
  obtain ⟨j, rfl⟩ : ∃ j : Nat, r = (j : Int) := ⟨r.toNat, by omega⟩
  have hj : j < xs.length := by omega
  exact ⟨_, xs[j], e, atI_nat (List.getElem?_eq_getElem hj), ha _ (List.getElem_mem hj)⟩
/-- [a, b, ..][i], all places told -/
theorem yd_menu {xs : List PyData} {i : Int} (h : Nld K ta ρ xs) (hb : Pd K tb ρ (.int i)) (e : atI xs i = some d) : Pd K (tOp (rIx K) ta tb) ρ d := yd_ixR h.rl hb e
def isI (C : Int → Prop) : PyData → Prop := fun d => ∃ r : Int, d = .int r ∧ C r
theorem isI_of {C : Int → Prop} {i : Int} (h : Pd K te ρ (.int i)) (c : C i) : Pe K te ρ (isI C) := h.imp fun d e => ⟨i, e, c⟩
theorem isI_imp {C D : Int → Prop} (h : Pe K te ρ (isI C)) (i : ∀ r, C r → D r) : Pe K te ρ (isI D) := h.imp fun d ⟨r, e, c⟩ => ⟨r, e, i r c⟩
end
theorem sle_refl : ∀ (a : Sl), sle a a
  | .no => trivial
  | .d _ => rfl
  | .ml _ => rfl
  | .tp => rfl
  | .rf _ => rfl
  | .rg _ _ => rfl
  | .mx _ => rfl
theorem sle_trans : ∀ {a b c : Sl}, sle a b → sle b c → sle a c
  | _, _, .no, _, _ => trivial
  | _, .d _, .d _, h, e => by rw [h]; exact e
  | _, .ml _, .ml _, h, e => by rw [h]; exact e
  | _, .tp, .tp, h, e => by rw [h]; exact e
  | _, .rf _, .rf _, h, e => by rw [h]; exact e
  | _, .rg _ _, .rg _ _, h, e => by rw [h]; exact e
  | _, .mx _, .mx _, h, e => by rw [h]; exact e
  | _, .no, .d _, _, e => nomatch e
  | _, .no, .ml _, _, e => nomatch e
  | _, .no, .tp, _, e => nomatch e
  | _, .no, .rf _, _, e => nomatch e
  | _, .no, .rg _ _, _, e => nomatch e
  | _, .no, .mx _, _, e => nomatch e
theorem Le.trans : ∀ {r s t : Rho}, Le r s → Le s t → Le r t
  | _, _, _, .nil, .nil => .nil
  | _, _, _, .cons a b, .cons c d => .cons (sle_trans a c) (Le.trans b d)
/-- a slot of which nothing is said may be stored -/
theorem Le.setn : ∀ {r s : Rho} {j : Nat} {x : Sl}, Le r s → s[j]? = some .no → Le (r.set j x) s
  | _, _, _, _, .nil, e => by simp at e
  | _, _, 0, x, .cons (b := b) _ t, e => by
    have e := Option.some.inj e
    subst e
    exact .cons trivial t
  | _, _, j + 1, x, .cons a t, e => .cons a (Le.setn (j := j) t e)
/-- two data of a tuple -/
theorem ye_t2 {K : PySem.W.Frag} {ρ : Rho} {ta tb : TE} {A B P : PyData → Prop} (h1 : Pe K ta ρ A) (h2 : Pe K tb ρ B) (k : ∀ a b, A a → B b → P (.tuple [a, b])) : Pe K (tTuq (tCons ta (tCons tb tNil))) ρ P :=
  ye_tup (PA := fun ss => ∃ a b, ss = [.d a, .d b] ∧ A a ∧ B b) (ya_c h1 (ya_c (PR := fun ss => ∃ b, ss = [.d b] ∧ B b) h2 ya_n fun d ss p e => ⟨d, by rw [e], p⟩) fun d ss p ⟨b, e, q⟩ => ⟨d, b, by rw [e], p, q⟩) fun ss ⟨a, b, e, p, q⟩ => ⟨[a, b], e, Nat.le_of_ble_eq_true rfl, k a b p q⟩
theorem ye_t3 {K : PySem.W.Frag} {ρ : Rho} {ta tb tc : TE} {A B C P : PyData → Prop} (h1 : Pe K ta ρ A) (h2 : Pe K tb ρ B) (h3 : Pe K tc ρ C) (k : ∀ a b c, A a → B b → C c → P (.tuple [a, b, c])) : Pe K (tTuq (tCons ta (tCons tb (tCons tc tNil)))) ρ P :=
  ye_tup (PA := fun ss => ∃ a b c, ss = [.d a, .d b, .d c] ∧ A a ∧ B b ∧ C c) (ya_c h1 (ya_c (PR := fun ss => ∃ b c, ss = [.d b, .d c] ∧ B b ∧ C c) h2 (ya_c (PR := fun ss => ∃ c, ss = [.d c] ∧ C c) h3 ya_n fun d ss p e => ⟨d, by rw [e], p⟩) fun d ss p ⟨c, e, q⟩ => ⟨d, c, by rw [e], p, q⟩) fun d ss p ⟨b, c, e, q⟩ => ⟨d, b, c, by rw [e], p, q⟩) fun ss ⟨a, b, c, e, p, q, r⟩ => ⟨[a, b, c], e, Nat.le_of_ble_eq_true rfl, k a b c p q r⟩
theorem paired_isI {C : Int → Prop} : ∀ {xs ys : List PyData}, Paired (fun _ d => isI C d) xs ys → ∃ ns : List Int, ys = ns.map .int ∧ ns.length = xs.length ∧ ∀ x ∈ ns, C x
  | _, _, .nil => ⟨[], rfl, rfl, fun _ h => by cases h⟩
  | _, _, .cons ⟨r, e, c⟩ t => by
    obtain ⟨ns, e1, e2, e3⟩ := paired_isI t
    refine ⟨r :: ns, by rw [e, e1]; rfl, congrArg (· + 1) e2, fun x hx => ?_⟩
    rcases List.mem_cons.mp hx with rfl | hx
    · exact c
    · exact e3 x hx
/-- a comprehension of drawn numbers -/
theorem nl_lcI {K : PySem.W.Frag} {ρ : Rho} {te : TE} {PL : List PyData → Prop} {wi : TI} {g : TG} {vs sl : List Nat} {C : Int → Prop} (hi : Pit K wi ρ PL) (hsl : ∀ i ∈ sl, i ∈ vs) (hz : ∀ xs, PL xs → xs.length < sizeLine)
    (hb : ∀ xs x, PL xs → x ∈ xs → ∃ r', Pg K g sl x (wipeR ρ vs) r' ∧ Pe K te r' (isI C)) : Nl K (tLc wi g tYes te vs) ρ (fun ys => ∃ (xs : List PyData) (ns : List Int), PL xs ∧ ys = ns.map .int ∧ ns.length = xs.length ∧ ∀ x ∈ ns, C x) :=
  (nl_lc hi (fun _ => true) (fun _ d => isI C d) hsl hz fun xs x p m => let ⟨r', h1, h2⟩ := hb xs x p m; ⟨r', h1, yt_yes, fun _ => h2⟩).imp fun ys ⟨xs, p, q⟩ => by
    rw [filter_all] at q
    obtain ⟨ns, a, b, c⟩ := paired_isI q
    exact ⟨xs, ns, p, a, b, c⟩
/-- range of a drawn number -/
theorem it_rD {K : PySem.W.Frag} {ρ : Rho} {te : TE} {C : Int → Prop} (h : Pe K te ρ (isI C)) (hc : ∀ r, C r → 0 ≤ r ∧ r ≤ 1000000) : Pit K (iRng1 (tCons te tNil)) ρ (fun xs => ∃ n : Nat, C (n : Int) ∧ xs = rgD 0 (n : Int)) :=
  it_R1 (PA := fun ss => ∃ n : Int, ss = [.d (.int n)] ∧ C n) (ya_c h ya_n fun d ss ⟨r, e, c⟩ e2 => ⟨r, by rw [e, e2], c⟩) fun ss ⟨n, e, c⟩ => by
    obtain ⟨a, b⟩ := hc n c
    obtain ⟨m, rfl⟩ : ∃ m : Nat, n = (m : Int) := ⟨n.toNat, by omega⟩
    exact ⟨(m : Int), e, by omega, by omega, m, c, rfl⟩
theorem Le.seta : ∀ {r s : Rho} {j : Nat} {x : Sl}, Le r s → Le (r.set j x) (s.set j x)
  | _, _, _, _, .nil => .nil
  | _, _, 0, x, .cons _ t => .cons (sle_refl x) t
  | _, _, j + 1, x, .cons a t => .cons a (Le.seta (j := j) t)
section
variable {K : PySem.W.Frag} {ρ ρ' : Rho} {te : TE} {t : TT}
theorem Pt.le {P : Bool → Prop} (h : Pt K t ρ' P) (l : Le ρ ρ') : Pt K t ρ P := fun T H0 G H σ gh tp D => h T H0 G H σ gh tp (D.le l)
theorem Pe.le {P : PyData → Prop} (h : Pe K te ρ' P) (l : Le ρ ρ') : Pe K te ρ P := fun T H0 G H σ gh tp D => h T H0 G H σ gh tp (D.le l)
end
theorem ws_asgP {K : PySem.W.Frag} {ρ : Rho} {te : TE} {g : TG} {E : Ed} {P : PyData → Prop} (h : Pe K te ρ P) (k : ∀ x, P x → ∃ sl ρ', Pg K g sl x ρ ρ' ∧ E.nx ρ') : Ws K (tAsg te g) ρ E := fun T G0 H0 σ H D a e =>
  a.eval h fun d v G' H' p s D' y => by
    obtain ⟨sl, ρ', hg, hk⟩ := k d p
    exact hg T H0 G' H' σ v s.gh D' y _ fun σ' D'' _ _ => e.nx _ _ _ hk ⟨G', s, D''⟩
theorem wq_asgP {K : PySem.W.Frag} {ρ : Rho} {te : TE} {u : TS} {g : TG} {E : Ed} {P : PyData → Prop} (h : Pe K te ρ P) (k : ∀ x, P x → ∃ sl ρ', Pg K g sl x ρ ρ' ∧ Ws K u ρ' E) : Ws K (tSeq (tAsg te g) u) ρ E :=
  ws_seq (fun r => Ws K u r E) (ws_asgP h k) fun r w => w
/-- within a comprehension: the fragment told -/
theorem opx_mulK {X : Cx} {K : PySem.W.Frag} (h : X.K = K) : OpR X (binaryOp .Mult) (rTimes K) := h ▸ opx_mul
theorem opx_addK {X : Cx} {K : PySem.W.Frag} (h : X.K = K) : OpR X (binaryOp .Add) (rPlus K) := h ▸ opx_add
theorem eqK {X : Cx} {K : PySem.W.Frag} {k : Nat} (h : X.K = K) (hr : Room k X.A) : OpR X (compareOp .Eq) (rEqX K) := h ▸ opx_eq hr
theorem neK {X : Cx} {K : PySem.W.Frag} {k : Nat} (h : X.K = K) (hr : Room k X.A) : OpR X (compareOp .NotEq) (rNeX K) := h ▸ opx_ne hr
theorem ix_seqK {X : Cx} {K : PySem.W.Frag} (h : X.K = K) : IxR X (rIx K) := h ▸ ix_seq
theorem slxK {X : Cx} {K : PySem.W.Frag} (h : X.K = K) : SlR X (rSlX K) := h ▸ slx
theorem lenK {X : Cx} {K : PySem.W.Frag} (h : X.K = K) : CallR X (.builtin "len") (rLen K) := h ▸ call_len_seq
theorem sumK {X : Cx} {K : PySem.W.Frag} (h : X.K = K) (hc : X.calm = true) : CallR X (.builtin "sum") (rSumX K) := h ▸ callx_sum hc
theorem maxK {X : Cx} {K : PySem.W.Frag} (h : X.K = K) (hc : X.calm = true) : CallR X (.builtin "max") (rMaxX K) := h ▸ callx_max hc
theorem minK {X : Cx} {K : PySem.W.Frag} (h : X.K = K) (hc : X.calm = true) : CallR X (.builtin "min") (rMinX K) := h ▸ callx_min hc
theorem listK {X : Cx} {K : PySem.W.Frag} (h : X.K = K) : CallR X (.type "list") (rListOf K) := h ▸ call_list_of
theorem tupleK {X : Cx} {K : PySem.W.Frag} (h : X.K = K) : CallR X (.type "tuple") (rTupOf K) := h ▸ call_tupQ
theorem isiK {X : Cx} {K : PySem.W.Frag} (h : X.K = K) : CallR X (.builtin "isinstance") (rIsi K) := h ▸ call_isi
end PD

set_option maxHeartbeats 2000000
/-! list(accumulate(xs)) of ints -/
namespace Accu
open PySem PySem.Spec PyProof.Rows
theorem own_ac : Manifest.owners.lookup (String.ofList ['e', 't', 'a', 'l', 'u', 'm', 'u', 'c', 'c', 'a', '.', 's', 'l', 'o', 'o', 't', 'r', 'e', 't', 'i'].reverse) = some Manifest.sig_itertools_accumulate := by kernel_rfl
theorem sub_ac : isSubtype (.type "itertools.accumulate") (.type "itertools.accumulate") = pure true := by rw [isSubtype_type]; kernel_rfl
theorem slot_ac_next : Slot "itertools.accumulate" "__next__" "itertools.accumulate.__next__" :=
  .of (owner := "itertools.accumulate") (n := "__next__") (by rw [typeLookup_type, builtinLookup_eq_fast]; kernel_rfl) (by decide +kernel) (by decide +kernel) (by decide +kernel)
    (by first | exact .inl (by decide +kernel) | exact .inr (by decide +kernel)) sub_ac
theorem ent_ac_next : entryFor table "itertools.accumulate.__next__" = some Builtin.«itertools.accumulate.__next__» := entryFor_of_tree (by kernel_rfl)
theorem arg_ac_next (a : Value) : argsOk "itertools.accumulate.__next__" ⟨[a], []⟩ := by
  unfold argsOk; rw [signature?_of (id := "itertools.accumulate.__next__") (n := ['_', '_', 't', 'x', 'e', 'n', '_', '_']) (o := ['e', 't', 'a', 'l', 'u', 'm', 'u', 'c', 'c', 'a', '.', 's', 'l', 'o', 'o', 't', 'r', 'e', 't', 'i']) (by kernel_rfl) own_ac]; kernel_rfl
theorem slot_ac_iter : Slot "itertools.accumulate" "__iter__" "itertools.accumulate.__iter__" :=
  .of (owner := "itertools.accumulate") (n := "__iter__") (by rw [typeLookup_type, builtinLookup_eq_fast]; kernel_rfl) (by decide +kernel) (by decide +kernel) (by decide +kernel)
    (by first | exact .inl (by decide +kernel) | exact .inr (by decide +kernel)) sub_ac
theorem arg_ac_iter (a : Value) : argsOk "itertools.accumulate.__iter__" ⟨[a], []⟩ := by
  unfold argsOk; rw [signature?_of (id := "itertools.accumulate.__iter__") (n := ['_', '_', 'r', 'e', 't', 'i', '_', '_']) (o := ['e', 't', 'a', 'l', 'u', 'm', 'u', 'c', 'c', 'a', '.', 's', 'l', 'o', 'o', 't', 'r', 'e', 't', 'i']) (by kernel_rfl) own_ac]; kernel_rfl
theorem ent_ac_iter : entryFor table "itertools.accumulate.__iter__" = some Builtin.«dict_keyiterator.__iter__» :=
  entryFor_alias (id' := "dict_keyiterator.__iter__") (by kernel_rfl) (by first | rfl | decide +kernel | (unfold String.splitOn; simp +decide [String.splitOnAux])) (by decide +kernel) (by kernel_rfl)
theorem slot_ac_init : Slot "itertools.accumulate" "__init__" "object.__init__" :=
  .of (owner := "object") (n := "__init__") (by rw [typeLookup_type, builtinLookup_eq_fast]; kernel_rfl) (by decide +kernel) (by decide +kernel) (by decide +kernel)
    (by first | exact .inl (by decide +kernel) | exact .inr (by decide +kernel)) (by rw [isSubtype_type]; kernel_rfl)
theorem mro_ac : mroOf (.type "itertools.accumulate") = pure [.type "itertools.accumulate", .type "object"] := by rw [mroOf_type]; kernel_rfl
theorem new_ac_at : typeLookup (.type "itertools.accumulate") "__new__" = pure (some (.builtin "itertools.accumulate.__new__")) := by rw [typeLookup_type, builtinLookup_eq_fast]; kernel_rfl
theorem called_ac : TypeCalled "itertools.accumulate" "itertools.accumulate.__new__" "object.__init__" :=
  ⟨by decide +kernel, by decide +kernel, ⟨_, _, mro_ac⟩, madeBy_type mro_ac new_ac_at (by decide +kernel), by decide +kernel, sub_ac, slot_ac_init⟩
theorem tcall_ac (a : Value) : checkTypeCall "itertools.accumulate" ⟨[a], []⟩ = pure () := by kernel_rfl
theorem ncall_ac (a : Value) : checkBuiltinCall "itertools.accumulate.__new__" ⟨[.type "itertools.accumulate", a], []⟩ = pure () := by kernel_rfl
theorem ent_ac_new : entryFor table "itertools.accumulate.__new__" = some Builtin.«itertools.accumulate.__new__» := entryFor_of_tree (by kernel_rfl)
theorem nolen_ac : typeLookup (.type "itertools.accumulate") "__len__" = pure none := by rw [typeLookup_type, builtinLookup_eq_fast]; kernel_rfl
theorem nohint_ac : typeLookup (.type "itertools.accumulate") "__length_hint__" = pure none := by rw [typeLookup_type, builtinLookup_eq_fast]; kernel_rfl
theorem nodict_ac : typeHasDict (.type "itertools.accumulate") = false := by decide +kernel
/-- the object: the iterator it draws from, what it has added so far -/
abbrev IsAc (h : Heap) (m it : Addr) (tot : Value) : Prop := h.get? m = some { cls := .type "itertools.accumulate", dict := none, data := .fields #[.ref it, .none, tot, .none], slots := #[] }
end Accu

set_option maxHeartbeats 2000000
namespace Accu
open PySem PySem.Spec PyProof.Rows PySem.Builtin PySem.Builtin.Itertools
section
variable {prog : Program} {w : World} {A : Around} {E : Value → Shared → Prop} {s : Shared}
theorem cls_ac (x : Value) : itClassAndRest "accumulate" ⟨[.type "itertools.accumulate", x], []⟩ = pure (.type "itertools.accumulate", [x]) := by
  unfold itClassAndRest
  simp only [isType, pure_bind, Bool.not_true, Bool.false_eq_true, if_false]
  rw [show ("itertools." ++ "accumulate" : String) = "itertools.accumulate" from by decide, sub_ac]
  rfl
theorem bind_ac (x : Value) : itBindNamed "accumulate" ["iterable", "func", "initial"] 1 2 [x] [] = pure [some x, none, none] := by
  first
  | rfl
  | kernel_rfl
  | (unfold itBindNamed; rfl)
/-- made over the source's iterator -/
theorem new_ac (x : Value) : MeetsIn prog w (Builtin.«itertools.accumulate.__new__» ⟨[.type "itertools.accumulate", x], []⟩)
    (fun B R s => wpAny (model prog w) B.in1 (pyIter x) (fun itv s1 => R (.ok (.ret (.ref s1.heap.objs.size))) { s1 with heap := s1.heap.push { cls := .type "itertools.accumulate", data := .fields #[itv, .none, itNothing, .none] } }) (fun e s1 => R (.error e) s1) s) :=
  .of_wp fun B R s h => by
    unfold Builtin.«itertools.accumulate.__new__»
    refine wpAny_bind (wpAny_of_eq (cls_ac x) ?_)
    dsimp only
    refine wpAny_bind (wpAny_of_eq (bind_ac x) ?_)
    dsimp only
    refine wpAny_bind (wpAny_mono h (fun itv s1 hR => ?_) fun _ _ z => z)
    dsimp only [Option.getD]
    unfold itNewRecord
    simp only [nodict_ac, Bool.not_false, if_true]
    refine wpAny_bind (wpAny_newObj_type ?_)
    exact wpAny_pure ⟨_, rfl, hR⟩
theorem call_ac {x : Value} {Q : Value → Shared → Prop}
    (hx : wpAny (model prog w) A.in1.in1 (pyIter x) (fun itv s1 => Q (.ref s1.heap.objs.size) { s1 with heap := s1.heap.push { cls := .type "itertools.accumulate", data := .fields #[itv, .none, itNothing, .none] } }) E s) :
    wpAny (model prog w) A (call (.type "itertools.accumulate") [x]) Q E s := by
  refine callType_newIn called_ac (by decide) (tcall_ac _) (ncall_ac _) (fun obj => F.args_object_init_2 obj _) ent_ac_new (new_ac x) ?_
  show wpAny (model prog w) A.in1.in1 (pyIter x) _ _ _
  exact wpAny_mono hx (fun itv s1 hq => ⟨⟨_, Heap.get?_push_size _ rfl, rfl⟩, hq⟩) fun _ _ z => z
/-- one item of a list by its iterator, as itertools asks it -/
theorem raw_item {it l : Addr} {i : Nat} {xs : Array Value} {v : Value} {Q : Value → Shared → Prop} (hI : s.heap.IsListIter it l i) (hL : s.heap.IsList l xs) (hv : xs[i]? = some v)
    (k : ∀ h', h'.IsListIter it l (i + 1) → Heap.SameBut it s.heap h' → Q v { s with heap := h' }) : wpAny (model prog w) A (itRawNext (.ref it)) Q E s := by
  obtain ⟨oI, gI, cI, dI⟩ := id hI
  obtain ⟨oL, gL, _, nL, dL⟩ := hL
  unfold itRawNext
  refine wpAny_bind (wpAny_callSpecial?_slot (name := Str.ofString "__next__") hI.typeIs slot_listiter_next (wpAny_call_entry slot_listiter_next hI.typeIs entry_listiter_next ?_ (args_listiter_next _)))
  show wpAny _ _ (field (.ref it) 0 >>= fun q => _) _ _ s
  refine wpAny_bind (wpAny_field gI dI (x := .ref l) rfl ?_)
  show wpAny _ _ (if (Value.ref l == Value.none) = true then _ else (_ : Sem PySem.Fin)) _ _ s
  rw [if_neg (show ¬ ((Value.ref l == Value.none) = true) from fun q => Bool.false_ne_true q)]
  show wpAny _ _ (field (.ref it) 1 >>= fun q => _) _ _ s
  refine wpAny_bind (wpAny_field gI dI (x := .int i 0) rfl ?_)
  show wpAny _ _ (seqItems? (.ref l) >>= fun q => _) _ _ s
  refine wpAny_bind (wpAny_seqItems gL dL ?_)
  simp only [Int.toNat_natCast, hv]
  refine wpAny_bind (wpAny_setField gI dI (by simp) (wpAny_pure ⟨v, rfl, wpAny_pure (k _ ?_ (Heap.SameBut.update ..))⟩))
  exact ⟨_, Heap.get?_update_self _ gI (Obj.isFreed_of_fields (Obj.data_mapFields dI _)), (Obj.cls_mapFields ..).trans cI, (Obj.data_mapFields dI _).trans (by simp [rawInt])⟩
theorem raw_end {it l : Addr} {i : Nat} {xs : Array Value} {Q : Value → Shared → Prop} (hh : A.handled = none) (hI : s.heap.IsListIter it l i) (hL : s.heap.IsList l xs) (hv : xs[i]? = none)
    (k : ∀ h' e, Heap.ExtBut it s.heap h' → (∃ o, h'.get? e = some o ∧ o.cls = .type "StopIteration") → E (.ref e) { s with heap := h' }) : wpAny (model prog w) A (itRawNext (.ref it)) Q E s := by
  obtain ⟨oI, gI, cI, dI⟩ := id hI
  obtain ⟨oL, gL, _, nL, dL⟩ := hL
  unfold itRawNext
  refine wpAny_bind (wpAny_callSpecial?_slot (name := Str.ofString "__next__") hI.typeIs slot_listiter_next (wpAny_call_entry slot_listiter_next hI.typeIs entry_listiter_next ?_ (args_listiter_next _)))
  show wpAny _ _ (field (.ref it) 0 >>= fun q => _) _ _ s
  refine wpAny_bind (wpAny_field gI dI (x := .ref l) rfl ?_)
  show wpAny _ _ (if (Value.ref l == Value.none) = true then _ else (_ : Sem PySem.Fin)) _ _ s
  rw [if_neg (show ¬ ((Value.ref l == Value.none) = true) from fun q => Bool.false_ne_true q)]
  show wpAny _ _ (field (.ref it) 1 >>= fun q => _) _ _ s
  refine wpAny_bind (wpAny_field gI dI (x := .int i 0) rfl ?_)
  show wpAny _ _ (seqItems? (.ref l) >>= fun q => _) _ _ s
  refine wpAny_bind (wpAny_seqItems gL dL ?_)
  simp only [Int.toNat_natCast, hv]
  refine wpAny_bind (wpAny_rule (wpAny_bind (wpAny_setField gI dI (by simp) ?_)))
  show wpAny _ _ (newExc (.type "StopIteration") [] >>= fun q => _) _ _ _
  refine wpAny_bind ?_
  simp only [newExc, newTuple]
  refine wpAny_bind (wpAny_newObj_type ?_ (by size_fits))
  refine wpAny_bind (m := firstArgMember _ _) (wpAny_of_eq (a := Value.none) (by first | rfl | (unfold firstArgMember; rfl)) ?_)
  refine wpAny_newObj_type ?_ (by size_fits)
  simp only [raiseNew]
  refine wpAny_bind (wpAny_handled ?_)
  rw [show A.in1.handled = none from hh]
  refine wpAny_bind (wpAny_pure (wpAny_throw (k _ _ (((Heap.SameBut.update ..).extBut.push _).push _) ⟨_, Heap.get?_push_size _ rfl, rfl⟩)))
/-- what has been added: nothing yet, or a number -/
def Tot (i : Nat) (f : Nat → Int) (v : Value) : Prop := (i = 0 ∧ v = itNothing) ∨ (0 < i ∧ ∃ t, v = .int (preSum f i) t)
theorem ac_next {m it l : Addr} {i : Nat} {xs : Array Value} {f : Nat → Int} {tot : Value} {Q : Value → Shared → Prop} (hf : ∀ (j : Nat) (v : Value), xs[j]? = some v → ∃ t, v = .int (f j) t)
    (hm : IsAc s.heap m it tot) (ht : Tot i f tot) (hI : s.heap.IsListIter it l i) (hL : s.heap.IsList l xs) (hi : i < xs.size) (hmi : m ≠ it) (hli : l ≠ it) (hlm : l ≠ m)
    (k : ∀ (v : Value) (s' : Shared) (tot' : Value), (∃ t, v = .int (preSum f (i + 1)) t) → IsAc s'.heap m it tot' → Tot (i + 1) f tot' → s'.heap.IsListIter it l (i + 1) → s'.heap.IsList l xs → (∀ b o, b ≠ it → b ≠ m → s.heap.get? b = some o → s'.heap.get? b = some o) →
      s'.gens = s.gens → s'.drawn = s.drawn → s'.os = s.os → s.toks ≤ s'.toks → Q v s') :
    wpAny (model prog w) A (Builtin.«itertools.accumulate.__next__» ⟨[.ref m], []⟩) (fun fin s' => ∃ v, fin = .done (.ret v) ∧ Q v s') E s := by
  obtain ⟨v, hv⟩ : ∃ v, xs[i]? = some v := ⟨xs[i], by simp [hi]⟩
  obtain ⟨tv, rfl⟩ := hf i v hv
  show wpAny _ _ (field (.ref m) 3 >>= fun q => _) _ _ s
  refine wpAny_bind (wpAny_field hm rfl (x := .none) rfl ?_)
  show wpAny _ _ (if (Value.none != Value.none) = true then _ else (_ : Sem PySem.Fin)) _ _ s
  rw [if_neg (show ¬ ((Value.none != Value.none) = true) from fun q => Bool.false_ne_true q)]
  refine wpAny_bind (wpAny_field hm rfl (x := .ref it) rfl ?_)
  refine wpAny_bind (raw_item hI hL hv fun h1 hI1 sb => ?_)
  have hm1 : IsAc h1 m it tot := sb.extBut _ _ hmi hm
  have hL1 : h1.IsList l xs := hL.extBut sb.extBut hli
  show wpAny _ _ (field (.ref m) 2 >>= fun q => _) _ _ _
  refine wpAny_bind (wpAny_field hm1 rfl (x := tot) rfl ?_)
  have fin : ∀ (nv : Value) (tk : Nat), (∃ t, nv = .int (preSum f (i + 1)) t) → s.toks ≤ tk → Q nv { s with heap := h1.update m (Obj.mapFields fun q => q.setIfInBounds 2 nv), toks := tk } := fun nv tk hn htk => by
    have hm2 : IsAc (h1.update m (Obj.mapFields fun q => q.setIfInBounds 2 nv)) m it nv := Heap.get?_update_self _ hm1 rfl
    have oth : ∀ b o, b ≠ m → h1.get? b = some o → (h1.update m (Obj.mapFields fun q => q.setIfInBounds 2 nv)).get? b = some o := fun b o hb e => (Heap.get?_update_other _ _ (Ne.symm hb)).trans e
    refine k nv _ nv hn hm2 (.inr ⟨Nat.succ_pos i, hn⟩) (hI1.at fun o e => oth it o hmi.symm e) (hL1.at fun o e => oth l o hlm e) (fun b o h1' h2' e => oth b o h2' (sb.extBut b o h1' e)) rfl rfl rfl htk
  by_cases hz : (tot == itNothing) = true
  · -- nothing so far, or a raw nought
    rw [if_pos hz]
    refine wpAny_bind (wpAny_rule ?_)
    refine wpAny_bind (wpAny_setField hm1 rfl (by simp) ?_)
    refine wpAny_pure ⟨_, rfl, fin _ s.toks ⟨tv, ?_⟩ (Nat.le_refl _)⟩
    have e : tot = itNothing := eq_of_beq hz
    rcases ht with ⟨rfl, _⟩ | ⟨_, t, et⟩
    · show Value.int (f 0) tv = Value.int (0 + f 0) tv
      rw [Int.zero_add]
    · rw [et] at e
      have e0 : preSum f i = 0 := by injection e
      show Value.int (f i) tv = Value.int (preSum f i + f i) tv
      rw [e0, Int.zero_add]
  · rw [if_neg hz]
    obtain ⟨t, rfl⟩ : ∃ t, tot = .int (preSum f i) t := by
      rcases ht with ⟨_, e⟩ | ⟨_, e⟩
      · exact absurd (by rw [e]; exact beq_self_eq_true _) hz
      · exact e
    refine wpAny_bind (wpAny_field hm1 rfl (x := .none) rfl ?_)
    refine wpAny_bind (wpAny_holding ?_)
    rw [if_pos (show (Value.none == Value.none) = true from rfl)]
    refine add_int ?_
    refine wpAny_bind (wpAny_setField hm1 rfl (by simp) ?_)
    refine wpAny_bind (wpAny_letGo ?_)
    exact wpAny_pure ⟨_, rfl, fin _ _ ⟨_, rfl⟩ (Nat.le_succ _)⟩
def AcSt (m it l : Addr) (xs : Array Value) (f : Nat → Int) (i : Nat) (s : Shared) : Prop := ∃ tot, IsAc s.heap m it tot ∧ Tot i f tot ∧ s.heap.IsListIter it l i ∧ s.heap.IsList l xs
theorem ac_item {m it l : Addr} {i : Nat} {xs : Array Value} {f : Nat → Int} {Q : Option Value → Shared → Prop} (hf : ∀ (j : Nat) (v : Value), xs[j]? = some v → ∃ t, v = .int (f j) t) (st : AcSt m it l xs f i s) (hi : i < xs.size) (hmi : m ≠ it) (hli : l ≠ it) (hlm : l ≠ m)
    (k : ∀ (v : Value) (s' : Shared), (∃ t, v = .int (preSum f (i + 1)) t) → AcSt m it l xs f (i + 1) s' → Moved [m, it] (fun a b => b = a) s s' → Q (some v) s') : wpAny (model prog w) A (pyNext (.ref m)) Q E s := by
  obtain ⟨tot, hm, ht, hI, hL⟩ := st
  have ty : s.TypeIs (.ref m) "itertools.accumulate" := ⟨_, hm, rfl⟩
  unfold pyNext
  refine wpAny_bind (wpAny_attempt (wpAny_callSpecial?_slot (name := Str.ofString "__next__") ty slot_ac_next (wpAny_call_entry slot_ac_next ty ent_ac_next
    (ac_next hf hm ht hI hL hi hmi hli hlm fun v s' tot' hv a1 a2 a3 a4 a5 g1 g2 g3 g4 => wpAny_pure (k v s' hv ⟨tot', a1, a2, a3, a4⟩ ⟨fun b o hb e => a5 b o (fun z => hb (by simp [z])) (fun z => hb (by simp [z])) e, g1, g2, g3, g4⟩)) (arg_ac_next _))))
theorem ac_end {m it l : Addr} {xs : Array Value} {f : Nat → Int} {Q : Option Value → Shared → Prop} (hh : A.handled = none) (st : AcSt m it l xs f xs.size s)
    (k : ∀ s', Moved [m, it] (fun a b => b = a) s s' → Q none s') : wpAny (model prog w) A (pyNext (.ref m)) Q E s := by
  obtain ⟨tot, hm, ht, hI, hL⟩ := st
  have ty : s.TypeIs (.ref m) "itertools.accumulate" := ⟨_, hm, rfl⟩
  unfold pyNext
  refine wpAny_bind (wpAny_attempt (wpAny_callSpecial?_slot (name := Str.ofString "__next__") ty slot_ac_next (wpAny_call_entry slot_ac_next ty ent_ac_next ?_ (arg_ac_next _))))
  show wpAny _ _ (field (.ref m) 3 >>= fun q => _) _ _ s
  refine wpAny_bind (wpAny_field hm rfl (x := .none) rfl ?_)
  show wpAny _ _ (if (Value.none != Value.none) = true then _ else (_ : Sem PySem.Fin)) _ _ s
  rw [if_neg (show ¬ ((Value.none != Value.none) = true) from fun q => Bool.false_ne_true q)]
  refine wpAny_bind (wpAny_field hm rfl (x := .ref it) rfl ?_)
  refine wpAny_bind (raw_end (by exact hh) hI hL (by simp) fun h1 e hx hs => ?_)
  obtain ⟨oS, gS, cS⟩ := hs
  refine wpAny_bind (wpAny_isInstance (T := "StopIteration") (b := true) ⟨oS, gS, cS⟩ isSubtype_stop ?_)
  exact wpAny_pure (k _ ⟨fun b o hb q => hx b o (fun z => hb (by simp [z])) q, rfl, rfl, rfl, Nat.le_refl _⟩)
theorem walks_ac {m it l : Addr} {xs : Array Value} {f : Nat → Int} (hh : A.handled = none) (hf : ∀ (j : Nat) (v : Value), xs[j]? = some v → ∃ t, v = .int (f j) t) (hmi : m ≠ it) (hli : l ≠ it) (hlm : l ≠ m) :
    WalksS prog w A m [m, it, l] [m, it] (fun a b => b = a) xs.size (fun i v => ∃ t, v = .int (preSum f (i + 1)) t) (AcSt m it l xs f) where
  sub := fun b hb => by
    rcases List.mem_cons.mp hb with rfl | hb
    · simp
    · rw [List.mem_singleton.mp hb]; simp
  grefl := fun _ => rfl
  gtrans := fun _ _ _ h1 h2 => h2.trans h1
  frame := fun i s h' tk ⟨tot, a1, a2, a3, a4⟩ _ hk => ⟨tot, hk m (by simp) _ a1, a2, a3.at fun o e => hk it (by simp) o e, a4.at fun o e => hk l (by simp) o e⟩
  item := fun i s Q E hi st hQ => ac_item hf st hi hmi hli hlm hQ
  done := fun s Q E st hQ => ac_end hh st hQ
  self := fun i s Q E st hQ => by
    obtain ⟨tot, hm, _⟩ := st
    have ty : s.TypeIs (.ref m) "itertools.accumulate" := ⟨_, hm, rfl⟩
    refine wpAny_pyIter_slot ty slot_ac_iter (wpAny_call_entry slot_ac_iter ty ent_ac_iter ?_ (arg_ac_iter _))
    show wpAny _ _ (ret (.ref m)) _ _ s
    exact wpAny_pure ⟨_, rfl, "itertools.accumulate", _, ty, slot_ac_next.lookup, hQ⟩
/-! ### list(..) of it -/
variable {I : Addr} {fp wr : List Addr} {Gn : Array GenState → Array GenState → Prop} {n : Nat} {P : Nat → Value → Prop} {St : Nat → Shared → Prop} {R : Result → Shared → Prop}
theorem ext_ac (W : WalksS prog w A.in1 I fp wr Gn n P St) (hT : ∀ i s, St i s → s.TypeIs (.ref I) "itertools.accumulate") (S : Addr) (res : Value) (c : Nat) (hst : St 0 s) (hSf : S ∉ fp) (hI : I ∈ fp) (hS : s.heap.get? S = some { cls := .type "list", dict := none, data := .seq #[] c, slots := #[] })
    (hR : ∀ s' acc' c', Moved (S :: wr) Gn s s' → s'.heap.get? S = some { cls := .type "list", dict := none, data := .seq acc' c', slots := #[] } → ItemsOf P acc' n → R (.ok (.ret res)) s') (hn : n ≤ sizeLine) :
    wpAny (model prog w) A.in1 (Builtin.List.listExtendWith (.ref S) (.ref I) res)
      (fun fin s' => match fin with | .done f => R (.ok f) s' | .again c' => c'.quiet = true ∧ codeAny (model prog w) A c' R s') (fun e s' => R (.error e) s') s := by
  have hSI : S ≠ I := fun e => hSf (e ▸ hI)
  unfold Builtin.List.listExtendWith
  refine wpAny_bind (wpAny_typeOf (hT 0 _ hst) ?_)
  have q1 : Builtin.List.listSameRef (.ref S) (.ref I) = false := by simp [Builtin.List.listSameRef, hSI]
  have q2 : (Value.type "itertools.accumulate" == Value.type "list") = false := by decide
  have q3 : (Value.type "itertools.accumulate" == Value.type "tuple") = false := by decide
  simp only [q1, q2, q3, Bool.or_false, Bool.false_eq_true, if_false]
  refine wpAny_bind (W.self 0 _ _ _ hst (wpAny_bind (wpAny_holding ?_)))
  unfold Builtin.List.listLengthHint
  refine wpAny_bind (wpAny_specialOf (hT 0 _ hst) nolen_ac ?_)
  show wpAny _ A.in1 (specialOf (Value.ref I) (Str.ofString "__length_hint__") >>= fun q => _) _ _ _
  refine wpAny_bind (wpAny_specialOf (hT 0 _ hst) nohint_ac (wpAny_pure ?_))
  show wpAny _ A.in1 (rule "list.extend.makes-room" >>= fun _ => Builtin.List.listTouch (.ref S) >>= fun _ => again (.builtin "list.extend.loop" ⟨[.ref S, .ref I, res], []⟩)) _ _ _
  refine wpAny_bind (wpAny_rule (wpAny_bind ?_))
  show wpAny _ A.in1 (updateSeq S (·.push .none) >>= fun _ => updateSeq S (·.pop)) _ _ _
  refine wpAny_bind (wpAny_updateSeq hS rfl ?_)
  have g2 := Heap.get?_update_self (Obj.mapSeq (·.push Value.none)) hS rfl
  refine wpAny_updateSeq (hz := by seq_fits) g2 rfl ?_
  have g3 := Heap.get?_update_self (Obj.mapSeq (·.pop)) g2 rfl
  have oth : ∀ b o, b ≠ S → s.heap.get? b = some o → ((s.heap.update S (Obj.mapSeq (·.push Value.none))).update S (Obj.mapSeq (·.pop))).get? b = some o := fun b o hb e =>
    (Heap.get?_update_other _ _ (Ne.symm hb)).trans ((Heap.get?_update_other _ _ (Ne.symm hb)).trans e)
  refine wpAny_pure ⟨plainId_quiet F.plain_extend_loop _, codeAny_extend_loopS W hn _ hSf _ n 0 _ _ _ rfl (Nat.zero_le _) (W.frame 0 s _ s.toks hst (Nat.le_refl _) fun b hb o e => oth b o (fun h => hSf (h ▸ hb)) e) g3 (ItemsOf.nil P) fun s' acc' c' hm hS' hacc => ?_⟩
  exact hR s' acc' c' (Moved.trans W.gtrans ((Moved.refl W.grefl).then_heap (Nat.le_refl _) fun b o hb e => oth b o (fun h => hb (h ▸ List.mem_cons_self)) e) hm) hS' hacc
theorem init_ac (W : WalksS prog w A.in1 I fp wr Gn n P St) (hT : ∀ i s, St i s → s.TypeIs (.ref I) "itertools.accumulate") (S : Addr) (hst : St 0 s) (hSf : S ∉ fp) (hI : I ∈ fp) (hS : s.heap.get? S = some { cls := .type "list", data := .seq #[] })
    (hR : ∀ s' acc' c', Moved (S :: wr) Gn s s' → s'.heap.get? S = some { cls := .type "list", dict := none, data := .seq acc' c', slots := #[] } → ItemsOf P acc' n → R (.ok (.ret .none)) s') (hn : n ≤ sizeLine) :
    wpAny (model prog w) A.in1 (Builtin.«list.__init__» ⟨[.ref S, .ref I], []⟩)
      (fun fin s' => match fin with | .done f => R (.ok f) s' | .again c' => c'.quiet = true ∧ codeAny (model prog w) A c' R s') (fun e s' => R (.error e) s') s := by
  show wpAny _ A.in1 (do let was ← Builtin.List.listItems (.ref S); Builtin.List.listUpdate (.ref S) (fun _ => #[]); letGo was.toList.reverse; Builtin.List.listExtendWith (.ref S) (.ref I) .none) _ _ s
  refine wpAny_bind ?_
  unfold Builtin.List.listItems
  refine wpAny_bind (wpAny_seqItems hS rfl (wpAny_pure ?_))
  show wpAny _ A.in1 (updateSeq S (fun _ => #[]) >>= fun _ => letGo (#[] : Array Value).toList.reverse >>= fun _ => Builtin.List.listExtendWith (.ref S) (.ref I) .none) _ _ s
  refine wpAny_bind (wpAny_updateSeq hS rfl ?_)
  have g2 := Heap.get?_update_self (Obj.mapSeq (fun _ => (#[] : Array Value))) hS rfl
  have oth : ∀ b o, b ≠ S → s.heap.get? b = some o → (s.heap.update S (Obj.mapSeq (fun _ => (#[] : Array Value)))).get? b = some o := fun b o hb e => (Heap.get?_update_other _ _ (Ne.symm hb)).trans e
  refine wpAny_bind (wpAny_letGo (ext_ac W hT S .none _ (W.frame 0 s _ s.toks hst (Nat.le_refl _) fun b hb o e => oth b o (fun h => hSf (h ▸ hb)) e) hSf hI g2 (fun s' acc' c' hm hS' hacc => ?_) hn))
  exact hR s' acc' c' (Moved.trans W.gtrans ((Moved.refl W.grefl).then_heap (Nat.le_refl _) fun b o hb e => oth b o (fun h => hb (h ▸ List.mem_cons_self)) e) hm) hS' hacc
theorem list_ac {Q : Value → Shared → Prop} (W : WalksS prog w A.in1.in1 I fp wr Gn n P St) (hT : ∀ i s, St i s → s.TypeIs (.ref I) "itertools.accumulate") (hst : St 0 s) (hfp : ∀ b ∈ fp, b < s.heap.objs.size) (hI : I ∈ fp)
    (k : ∀ s' acc' c', Moved (s.heap.objs.size :: wr) Gn { s with heap := s.heap.push { cls := .type "list", data := .seq #[] } } s' → s'.heap.get? s.heap.objs.size = some { cls := .type "list", dict := none, data := .seq acc' c', slots := #[] } → ItemsOf P acc' n → Q (.ref s.heap.objs.size) s') (hn : n ≤ sizeLine) :
    wpAny (model prog w) A (call (.type "list") [.ref I]) Q E s := by
  have hSf : s.heap.objs.size ∉ fp := fun hm => Nat.lt_irrefl _ (hfp _ hm)
  refine callType_codes (Q₁ := fun obj s₁ => obj = .ref s.heap.objs.size ∧ s₁ = { s with heap := s.heap.push { cls := .type "list", data := .seq #[] } }) F.called_list (F.typeCall_list_1 _) F.entry_list_init (code_list_new _ ⟨rfl, rfl⟩) fun obj s₁ h₁ => ?_
  obtain ⟨rfl, rfl⟩ := h₁
  have hS : (s.heap.push { cls := .type "list", data := .seq #[] }).get? s.heap.objs.size = some { cls := .type "list", data := .seq #[] } := Heap.get?_push_size _ rfl
  exact ⟨⟨_, hS, rfl⟩, F.args_list_init_2 _ _, init_ac W hT _ (W.frame 0 s _ s.toks hst (Nat.le_refl _) fun b _ o e => Heap.get?_push_of_some _ e) hSf hI hS (fun s' acc' c' hm hS' hacc => ⟨rfl, k s' acc' c' hm hS' hacc⟩) hn⟩
end
end Accu

set_option maxHeartbeats 2000000
namespace PD
open PySem PySem.Spec PyProof.Rows L2
/-- running sums -/
def runs : Int → List Int → List Int
  | _, [] => []
  | a, n :: ns => (a + n) :: runs (a + n) ns
theorem runs_length : ∀ (ns : List Int) (a : Int), (runs a ns).length = ns.length
  | [], _ => rfl
  | n :: ns, a => by rw [runs, List.length_cons, List.length_cons, runs_length ns]
theorem runs_get : ∀ (ns : List Int) (a : Int) (i : Nat), i < ns.length → (runs a ns)[i]? = some (a + (ns.take (i + 1)).sum)
  | [], _, _, h => by simp at h
  | n :: ns, a, 0, _ => by simp [runs]
  | n :: ns, a, i + 1, h => by
    rw [runs, List.getElem?_cons_succ, runs_get ns (a + n) i (by simpa using h)]
    simp only [List.take_succ_cons, List.sum_cons]
    congr 1
    omega
theorem preSum_take (ns : List Int) : ∀ i, i ≤ ns.length → preSum (fun j => ns.getD j 0) i = (ns.take i).sum
  | 0, _ => by simp [preSum]
  | i + 1, h => by
    rw [preSum, preSum_take ns i (by omega), List.take_succ, List.sum_append, List.getD_eq_getElem?_getD]
    have : i < ns.length := by omega
    simp [List.getElem?_eq_getElem this]
def tAccu (K : PySem.W.Frag) (te : TE) : TE := fun σ H Q => te σ H fun v H1 => ∃ p ns, v = .ref p ∧ SqL K H1 p (ns.map V.int) ∧ ∀ q, H1 q = none → Q (.ref q) (upd H1 q (.lst ((runs 0 ns).map V.int)))
theorem vals_runs {ns : List Int} {acc : Array Value} (h : ItemsOf (fun i v => ∃ t, v = .int (preSum (fun j => ns.getD j 0) (i + 1)) t) acc ns.length) : Vals ((runs 0 ns).map V.int) acc.toList := by
  have e : acc.toList.length = ns.length := by rw [Array.length_toList]; exact h.1
  refine vals_of_at (by rw [List.length_map, runs_length, e]) fun j x u h1 h2 => ?_
  obtain ⟨t, rfl⟩ := h.2 j u (by rw [← Array.getElem?_toList]; exact h2)
  have hj : j < ns.length := by
    have := (List.getElem?_eq_some_iff.mp h2).1
    omega
  rw [List.getElem?_map, runs_get ns 0 j hj] at h1
  cases h1
  rw [preSum_take ns (j + 1) (by omega)]
  exact ⟨t, by rw [Int.zero_add]⟩
theorem vals_get' : ∀ {xs : List V} {us : List Value} {i : Nat} {u : Value}, Vals xs us → us[i]? = some u → ∃ x, xs[i]? = some x ∧ RelV x u
  | _, _, _, _, .nil, e => by simp at e
  | _, _, 0, _, .cons r _, e => by
    have e := Option.some.inj e
    subst e
    exact ⟨_, rfl, r⟩
  | _, _, i + 1, u, .cons _ t, e => vals_get' (i := i) t e
section
variable {X : Cx} {e : Expr} {te : TE}
theorem pe_accu {p p2 pos pos2 : Pos} (hc : X.calm = true) (hg : Gl X "list") (hm : X.mg "list" = none) (hg2 : Gl X "accumulate") (hm2 : X.mg "accumulate" = some (.type "itertools.accumulate")) (he : PE X e te)
    (na : starEach [.Call (.Name "accumulate" p2) [e] [] pos2] X.env = (false, eval (.Call (.Name "accumulate" p2) [e] [] pos2) X.env) :: starEach [] X.env := by rfl) (na2 : starEach [e] X.env = (false, eval e X.env) :: starEach [] X.env := by rfl) :
    PE X (.Call (.Name "list" p) [.Call (.Name "accumulate" p2) [e] [] pos2] [] pos) (tAccu X.K te) := by
  refine ⟨fun pins s σ H Q I h => ?_⟩
  refine Call_ (ld_blt I hg hm boot_list (PyProof.Rows.callWith_type1 (args_cons (Call_ (ld_glob I hg2 hm2 (PyProof.Rows.callWith_type1 (args_cons (thn (he.run pins s σ H _ I h) fun x s1 ⟨v, H1, I1, r, pp, ns, ev, sq, q⟩ => args_nil ?_) na2) na2))) na) na))
  subst ev
  obtain rfl : x = Value.ref pp := r
  obtain ⟨its, hv, hl, hz⟩ := I1.list sq
  have hlen : its.length = ns.length := by rw [← hv.length, List.length_map]
  have hf : ∀ (j : Nat) (v : Value), its.toArray[j]? = some v → ∃ t, v = .int (ns.getD j 0) t := fun j v ej => by
    rw [List.getElem?_toArray] at ej
    obtain ⟨y, ey, ry⟩ := vals_get' hv ej
    rw [List.getElem?_map] at ey
    cases en : ns[j]? with
    | none => rw [en] at ey; cases ey
    | some n =>
      rw [en] at ey
      cases ey
      rw [List.getD_eq_getElem?_getD, en]
      exact ry
  have hpl := hl.lt
  refine Accu.call_ac (wpAny_pyIter_list hl.isList (args_nil ?_))
  have k0 : ∀ b o, s1.heap.get? b = some o → ((s1.heap.push { cls := .type "list_iterator", data := .fields #[.ref pp, .int 0 0] }).push { cls := .type "itertools.accumulate", data := .fields #[.ref s1.heap.objs.size, .none, Builtin.Itertools.itNothing, .none] }).get? b = some o := fun b o q =>
    Heap.get?_push_of_some _ (Heap.get?_push_of_some _ q)
  have kit : (s1.heap.push { cls := .type "list_iterator", data := .fields #[.ref pp, .int 0 0] }).get? s1.heap.objs.size = some { cls := .type "list_iterator", data := .fields #[.ref pp, .int 0 0] } := Heap.get?_push_size _ rfl
  have sz1 : (s1.heap.push { cls := .type "list_iterator", data := .fields #[.ref pp, .int 0 0] }).objs.size = s1.heap.objs.size + 1 := Heap.size_push ..
  have hm : (s1.heap.push { cls := .type "list_iterator", data := .fields #[.ref pp, .int 0 0] }).objs.size ≠ s1.heap.objs.size := by rw [sz1]; exact Nat.succ_ne_self _
  have hli : pp ≠ s1.heap.objs.size := Nat.ne_of_lt hpl
  have hlm : pp ≠ (s1.heap.push { cls := .type "list_iterator", data := .fields #[.ref pp, .int 0 0] }).objs.size := by rw [sz1]; exact Nat.ne_of_lt (Nat.lt_succ_of_lt hpl)
  have hn : its.toArray.size ≤ sizeLine := by
    rw [List.size_toArray, ← hv.length]
    exact hz
  refine Accu.list_ac (Accu.walks_ac (f := fun j => ns.getD j 0) (I1.ok.hd hc) hf hm hli hlm) (fun i s ⟨tot, a, _⟩ => ⟨_, a, rfl⟩)
    ⟨Builtin.Itertools.itNothing, Heap.get?_push_size _ rfl, .inl ⟨rfl, rfl⟩, ⟨_, Heap.get?_push_of_some _ kit, rfl, rfl⟩, hl.isList.at fun o q => k0 _ o q⟩
    (fun b hb => ?_) (by simp) (fun s' acc c' hmv hS hacc => ?_) hn
  · have z : ((s1.heap.push { cls := .type "list_iterator", data := .fields #[.ref pp, .int 0 0] }).push { cls := .type "itertools.accumulate", data := .fields #[.ref s1.heap.objs.size, .none, Builtin.Itertools.itNothing, .none] }).objs.size = s1.heap.objs.size + 2 := by rw [Heap.size_push, sz1]
    show b < ((s1.heap.push _).push _).objs.size
    rw [z]
    simp only [List.mem_cons, List.not_mem_nil, or_false] at hb
    rcases hb with rfl | rfl | rfl
    · rw [sz1]; exact Nat.lt_succ_self _
    · exact Nat.lt_succ_of_lt (Nat.lt_succ_self _)
    · exact Nat.lt_succ_of_lt (Nat.lt_succ_of_lt hpl)
  · have es := Moved.eq_with hmv
    rw [es]
    have zS : s1.heap.objs.size ≤ ((s1.heap.push { cls := .type "list_iterator", data := .fields #[.ref pp, .int 0 0] }).push { cls := .type "itertools.accumulate", data := .fields #[.ref s1.heap.objs.size, .none, Builtin.Itertools.itNothing, .none] }).objs.size := by
      rw [Heap.size_push, sz1]
      exact Nat.le_add_right _ 2
    have nH := I1.hok.fresh zS
    have kp : ∀ b u, s1.heap.get? b = some u → s'.heap.get? b = some u := fun b u q => by
      have lt : b < s1.heap.objs.size := Heap.lt_size q
      refine hmv.heap b u (fun hb => ?_) (Heap.get?_push_of_some _ (k0 b u q))
      simp only [List.mem_cons, List.not_mem_nil, or_false] at hb
      rcases hb with rfl | rfl | rfl
      · exact absurd lt (Nat.not_lt_of_le zS)
      · rw [sz1] at lt; exact absurd lt (Nat.not_lt_of_le (Nat.le_succ _))
      · exact absurd lt (Nat.lt_irrefl _)
    refine ⟨.ref _, upd H1 _ (.lst ((runs 0 ns).map V.int)), I1.laid kp zS (show ObjOk X.prog X.w _ _ _ (.lst _) from ⟨?_, acc.toList, c', ?_, ?_⟩), rfl, q _ nH⟩
    · rw [List.length_map, runs_length, ← List.length_map (f := V.int)]
      exact hz
    · refine vals_runs ?_
      rw [← hlen]
      exact hacc
    · rw [Array.toArray_toList]
      exact hS
end
/-! ### as data -/
variable {K : PySem.W.Frag} {ρ : Rho} {te : TE}
theorem nd_accu {ns : List Int} (h : Rl K te ρ (fun x => x = ns.map .int)) : Nld K (tAccu K te) ρ ((runs 0 ns).map .int) := fun T H0 G H σ gh tp D Q q =>
  h.bind gh tp D fun xs p vs G1 H1 p1 s1 gh1 tp1 D1 rd a => by
    subst p1
    have := a.ints
    subst this
    exact ⟨p, ns, rfl, rd.sq gh1, new_end gh1 tp1 (DnAll.of_ints _) fun p' G' H' s hp nt gp e a' => q _ p' _ G' H' rfl (s1.trans s) (s1.no hp nt) nt gp e a'⟩
end PD

set_option maxHeartbeats 4000000
namespace PD
open PySem PySem.Spec PyProof.Rows L2
theorem tuple_mul0 (l : Addr) (items : Array Value) (n : Nat) (dd : Option Addr) (sl : Array (Option Value)) (x : Int) (u : Tok) (c0 : (decide (x < -(2 ^ 63)) || decide (x ≥ 2 ^ 63)) = false) (c1 : (items.isEmpty || x == 1) = false) (c2 : (decide (x ≤ 0) || items.isEmpty) = true) :
    Meets (Builtin.«tuple.__mul__» ⟨[.ref l, .int x u], []⟩) (fun _ R s => s.heap.get? l = some { cls := .type "tuple", dict := dd, data := .seq items n, slots := sl } ∧
      R (.ok (.ret (Value.ref s.heap.objs.size))) { s with heap := s.heap.push { cls := Value.type "tuple", data := Data.seq #[] }, toks := s.toks }) :=
  .of_wp fun prog w A R s h => by
    obtain ⟨hp, g, d, tk, os⟩ := s
    obtain ⟨hl, h⟩ := h
    have f1 := AutoSeq1.idx_int
    wp_walk using wpAny_loadPart' hl
    repeat (first
      | (refine wpAny_ite_false (decide_eq_false (by rw [c0]; exact Bool.false_ne_true)) ?_; wp_walk using wpAny_loadPart' hl)
      | (refine wpAny_ite_false (decide_eq_false (by rw [c1]; exact Bool.false_ne_true)) ?_; wp_walk using wpAny_loadPart' hl)
      | (refine wpAny_ite_true (decide_eq_true (by rw [c2])) ?_; wp_walk using wpAny_loadPart' hl))
    exact ⟨_, rfl, h⟩
theorem tuple_mul1 (l : Addr) (items : Array Value) (n : Nat) (dd : Option Addr) (sl : Array (Option Value)) (u : Tok) :
    Meets (Builtin.«tuple.__mul__» ⟨[.ref l, .int 1 u], []⟩) (fun _ R s => s.heap.get? l = some { cls := .type "tuple", dict := dd, data := .seq items n, slots := sl } ∧ R (.ok (.ret (Value.ref l))) s) :=
  .of_wp fun prog w A R s h => by
    obtain ⟨hp, g, d, tk, os⟩ := s
    obtain ⟨hl, h⟩ := h
    have f1 := AutoSeq1.idx_int
    wp_walk using wpAny_loadPart' hl
    exact ⟨_, rfl, h⟩
section
variable {X : Cx}
def rRepS (K : PySem.W.Frag) : R2 := fun x y H Q => ∃ l k xs, x = .ref l ∧ y = .int k ∧ SqT K H l xs ∧ xs ≠ [] ∧ ((k = 0 ∧ NewT H [] Q) ∨ (k = 1 ∧ Q (.ref l) H))
theorem op_repS : OpR X (binaryOp .Mult) (rRepS X.K) := by
  intro pins s σ H x y v u Q I rx ry h
  obtain ⟨l, k, xs, rfl, rfl, hT, hne, h⟩ := h
  cases rx
  obtain ⟨t, rfl⟩ := ry
  obtain ⟨its, r, ⟨⟨cls, dd, data, sl⟩, ho, hc, n, hd⟩, hs⟩ := I.tuple hT
  simp only at hc hd
  subst hc hd
  have hle : its.length = xs.length := r.length.symm
  have hn : its ≠ [] := fun e => hne (by
    rw [e] at hle
    exact List.eq_nil_of_length_eq_zero hle.symm)
  have hi : its.toArray.isEmpty = false := by
    cases its with
    | nil => exact absurd rfl hn
    | cons a b => rfl
  refine wpAny_binaryOp_repeat_ref (T := "tuple") (U := "int") (by decide) ⟨_, ho, rfl⟩ (fun s' => typeIs_int s' k t) noFill_tuple_mul F.fills_int_mul F.slot_int_rmul repeat_tuple F.slot_int_index.lookup
    (call_meets F.slot_int_rmul (typeIs_int s k t) F.entry_int_rmul (F.args_int_rmul_2 _ _) (int_rmul_tuple k t l its.toArray n dd sl)
      ⟨ho, rfl, ⟨_, ho, rfl⟩, ?_⟩)
  rcases h with ⟨rfl, q⟩ | ⟨rfl, q⟩
  · refine call_meets F.slot_tuple_mul ⟨_, ho, rfl⟩ F.entry_tuple_mul (F.args_tuple_mul_2 _ _) (tuple_mul0 l its.toArray n dd sl 0 t (by decide) (by rw [hi]; rfl) (by simp)) ⟨ho, ?_⟩
    exact fin_tup (its := []) I .nil (Nat.zero_le _) q
  · exact call_meets F.slot_tuple_mul ⟨_, ho, rfl⟩ F.entry_tuple_mul (F.args_tuple_mul_2 _ _) (tuple_mul1 l its.toArray n dd sl t) ⟨ho, .ref l, H, I, rfl, q⟩
abbrev rMulT (K : PySem.W.Frag) : R2 := fun x y H Q => rRepQ K x y H Q ∨ rRepS K x y H Q
theorem opx_mulT {K : PySem.W.Frag} (h : X.K = K) : OpR X (binaryOp .Mult) (rMulT K) := h ▸ op_repQ.or op_repS
/-! ### math.lcm -/
def rLcm : List V → Hp → VK → Prop := fun xs H Q => ∃ a b, xs = [.int a, .int b] ∧ a.natAbs < 2 ^ 64 ∧ b.natAbs < 2 ^ 64 ∧ Q (.int ((a.natAbs.lcm b.natAbs : Nat) : Int)) H
theorem cr_lcm : CallR X (.builtin "math.lcm") rLcm := by
  intro pins s σ H vs us Q I r h
  obtain ⟨a, b, rfl, ha, hb, q⟩ := h
  obtain ⟨t, u, rfl⟩ := Vals.int2 r
  refine PySem.W.mg_lcm ha hb ?_ ?_
  · rw [Nat.lcm_one_left]
    have h1 : a.natAbs.lcm b.natAbs ≤ a.natAbs * b.natAbs := Nat.div_le_self _ _
    have h2 : a.natAbs * b.natAbs < 2 ^ 128 := by
      have : a.natAbs * b.natAbs ≤ (2 ^ 64 - 1) * (2 ^ 64 - 1) := Nat.mul_le_mul (by omega) (by omega)
      omega
    have h3 : (a.natAbs.lcm b.natAbs).log2 < 128 := by
      by_cases z : a.natAbs.lcm b.natAbs = 0
      · rw [z]; decide
      · exact (Nat.log2_lt z).mpr (by omega)
    show (a.natAbs.lcm b.natAbs).log2 < bitsLine
    exact Nat.lt_trans h3 (by decide)
  · rw [Nat.lcm_one_left]
    exact ⟨.int _, H, I.tok _, ⟨_, rfl⟩, q⟩
end
section
variable {K : PySem.W.Frag} {ρ : Rho} {ta tb : TE}
/-- (a,) * k -/
theorem yd_repA {xs : List PyData} {k : Nat} (ha : Pd K ta ρ (.tuple xs)) (hb : Pd K tb ρ (.int (k : Int))) (hne : xs ≠ []) (h3 : k ≤ 1000) (hl : xs.length ≤ 1000) : Pd K (tOp (rMulT K) ta tb) ρ (.tuple (List.replicate k xs).flatten) := fun T H0 G H σ gh tp D Q q =>
  ha.bind gh tp D fun x v G1 H1 p1 s1 gh1 tp1 D1 x1 => hb.bind gh1 tp1 D1 fun y u G2 H2 p2 s2 gh2 tp2 D2 x2 => by
    subst p1 p2
    have x1 := x1.mono s2.g
    cases x2
    cases x1 with
    | @tup a vs _ pl e1 a1 =>
      have hv : vs ≠ [] := fun z => by subst z; cases a1; exact hne rfl
      by_cases h2 : 2 ≤ k
      · refine .inl ⟨a, (k : Int), vs, rfl, rfl, sqt_mono gh2 e1, hv, by omega, by omega, by rw [a1.length]; exact hl, ?_⟩
        rw [Int.toNat_natCast]
        exact new_tup gh2 tp2 (a1.rep k) fun v G' H' s' x => q _ v G' H' rfl ((s1.trans s2).trans s') x
      · refine .inr ⟨a, (k : Int), vs, rfl, rfl, sqt_mono gh2 e1, hv, ?_⟩
        by_cases h0 : k = 0
        · subst h0
          exact .inl ⟨rfl, new_tup gh2 tp2 .nil fun v G' H' s' x => q _ v G' H' rfl ((s1.trans s2).trans s') x⟩
        · obtain rfl : k = 1 := by omega
          refine .inr ⟨rfl, q _ _ G2 H2 ?_ (s1.trans s2) (.tup (p := pl) e1 a1)⟩
          simp
theorem yd_lcm {i j : Nat} (ha : Pd K ta ρ (.int (i : Int))) (hb : Pd K tb ρ (.int (j : Int))) (h1 : i < 2 ^ 64) (h2 : j < 2 ^ 64) : Pd K (tCB rLcm (tCons ta (tCons tb tNil))) ρ (.int ((i.lcm j : Nat) : Int)) := ye_cb2 ha hb fun x y p1 p2 T G H v u gh tp x1 x2 Q q => by
  subst p1 p2
  cases x1
  cases x2
  exact ⟨_, _, rfl, by simpa using h1, by simpa using h2, q _ _ G H rfl (Step.refl gh tp) (by simp only [Int.natAbs_natCast]; exact .int _)⟩
end
end PD

set_option maxHeartbeats 4000000
/-! pairs = zip(xs, ys), walked later -/
namespace ZV
open PySem PySem.Spec PyProof.Rows L2 ItX
abbrev XO (c : Addr) (o : Obj) : HO := .ext fun h => h.get? c = some o
theorem xo_ok {P : Program} {w : World} {H : Hp} {h : Heap} {c : Addr} {o : Obj} (e : h.get? c = some o) : ObjOk P w H h c (XO c o) := ⟨e, ⟨_, e⟩, fun h1 h2 q k => k _ q⟩
structure ZF (z TI TO i1 i2 a b : Addr) (oz oT oO o1 o2 : Obj) : Prop where
  zip : oz = { cls := .type "zip", dict := none, data := .fields #[.none, .bool false, .bool false, .ref TI, .ref TO], slots := #[] }
  pT : oT = { cls := .type "tuple", data := .seq #[.ref i1, .ref i2] }
  pO : ∃ x y, oO = { cls := .type "tuple", data := .seq #[x, y] }
  l1 : o1.cls = .type "list_iterator" ∧ o1.data = .fields #[.ref a, .int ((0 : Nat) : Int) 0]
  l2 : o2.cls = .type "list_iterator" ∧ o2.data = .fields #[.ref b, .int ((0 : Nat) : Int) 0]
  apart : ZipApart z TI TO i1 i2 a b
def up5 (H : Hp) (z TI TO i1 i2 : Addr) (oz oT oO o1 o2 : Obj) : Hp := upd (upd (upd (upd (upd H i1 (XO i1 o1)) i2 (XO i2 o2)) TI (XO TI oT)) TO (XO TO oO)) z (XO z oz)
def drop5 (H : Hp) (z TI TO i1 i2 : Addr) : Hp := dropH (dropH (dropH (dropH (dropH H z) TO) TI) i2) i1
theorem drop_up {H : Hp} {z TI TO i1 i2 a b : Addr} {oz oT oO o1 o2 : Obj} (A : ZipApart z TI TO i1 i2 a b) (hz : H z = none) (hT : H TI = none) (hO : H TO = none) (h1 : H i1 = none) (h2 : H i2 = none) : drop5 (up5 H z TI TO i1 i2 oz oT oO o1 o2) z TI TO i1 i2 = H := by
  unfold drop5 up5
  rw [dropH_upd (by rw [upd_ne A.TOz.symm, upd_ne A.TIz.symm, upd_ne A.i2z.symm, upd_ne A.i1z.symm]; exact hz),
    dropH_upd (by rw [upd_ne A.TITO.symm, upd_ne A.TOi2, upd_ne A.TOi1]; exact hO), dropH_upd (by rw [upd_ne A.TIi2, upd_ne A.TIi1]; exact hT), dropH_upd (by rw [upd_ne A.i12.symm]; exact h2), dropH_upd h1]
section
variable {X : Cx} {e e2 : Expr} {ta : TA}
def tZipV (K : PySem.W.Frag) (n : Nat) (ta : TA) : TE := fun σ H Q => ta σ H fun vs H1 => ∃ a b xs ys, vs = [.ref a, .ref b] ∧ SqL K H1 a xs ∧ SqL K H1 b ys ∧
  ∀ (z TI TO i1 i2 : Addr) (oz oT oO o1 o2 : Obj), ZF z TI TO i1 i2 a b oz oT oO o1 o2 → (∀ c ∈ [z, TI, TO, i1, i2], H1 c = none ∧ n ≤ c) → Q (.ref z) (up5 H1 z TI TO i1 i2 oz oT oO o1 o2)
theorem pe_zipV {p pos : Pos} (hg : Gl X "zip") (hm : X.mg "zip" = none) (ha : PA X [e, e2] ta)
    (hs : starEach [e, e2] X.env = (false, eval e X.env) :: starEach [e2] X.env := by rfl) (hpl : (backTo pos (starEach [e2] X.env)).any (·.1) = false := by rfl) :
    PE X (.Call (.Name "zip" p) [e, e2] [] pos) (tZipV X.K X.s_0.heap.objs.size ta) := by
  refine ⟨fun pins s σ H Q I h => ?_⟩
  refine Call_ (ld_blt I hg hm PyProof.Rows.boot_zip (PyProof.Rows.callWith_type1 (thn (ha.run pos pins s σ H _ I h) fun us s1 ⟨vs, H1, I1, r1, q1⟩ => ?_) hs hpl))
  obtain ⟨a, b, xs, ys, ex, hqx, hqy, q⟩ := q1
  subst ex
  cases r1 with
  | cons r rr =>
    cases rr with
    | cons r' rr =>
      cases rr
      cases r
      cases r'
      obtain ⟨its, rv, p1, _⟩ := I1.list hqx
      obtain ⟨its2, rv2, p2, _⟩ := I1.list hqy
      refine call_zip_2 p1.isList p2.isList fun h' hz hTI hTO h1 h2 hsz hk => ?_
      obtain ⟨o1, e1, c1, d1⟩ := h1
      obtain ⟨o2, e2, c2, d2⟩ := h2
      have ap := PySem.W.ktu_apart s1.heap.objs.size a b p1.lt p2.lt
      have sz := I1.sz
      have fr : ∀ c, s1.heap.objs.size ≤ c → H1 c = none := fun c hc => I1.hok.fresh hc
      obtain ⟨n, hn⟩ : ∃ n, n = s1.heap.objs.size := ⟨_, rfl⟩
      -- one after another
      have f1 := Obj.isFreed_of_fields d1
      have f2 := Obj.isFreed_of_fields d2
      have A1 : (s1.heap.push o1).get? s1.heap.objs.size = some o1 := Heap.get?_push_size _ f1
      have z1 : (s1.heap.push o1).objs.size = s1.heap.objs.size + 1 := Heap.size_push ..
      have J1 : Inv X pins σ (upd H1 s1.heap.objs.size (XO s1.heap.objs.size o1)) { s1 with heap := s1.heap.push o1 } := I1.laid (t' := s1.toks) (fun b u q => Heap.get?_push_of_some _ q) (Nat.le_refl _) (xo_ok A1)
      have A2 : ((s1.heap.push o1).push o2).get? (s1.heap.objs.size + 1) = some o2 := by rw [← z1]; exact Heap.get?_push_size _ f2
      have z2 : ((s1.heap.push o1).push o2).objs.size = s1.heap.objs.size + 2 := by rw [Heap.size_push, z1]
      have J2 := J1.laid (t' := s1.toks) (h' := (s1.heap.push o1).push o2) (o := XO (s1.heap.objs.size + 1) o2) (fun b u q => Heap.get?_push_of_some _ q) (show (s1.heap.push o1).objs.size ≤ s1.heap.objs.size + 1 by rw [z1]; exact Nat.le_refl _) (xo_ok A2)
      obtain ⟨oT, hoT⟩ : ∃ oT : Obj, oT = { cls := .type "tuple", data := .seq #[.ref s1.heap.objs.size, .ref (s1.heap.objs.size + 1)] } := ⟨_, rfl⟩
      obtain ⟨oO, hoO⟩ : ∃ oO : Obj, oO = { cls := .type "tuple", data := .seq #[.none, .none] } := ⟨_, rfl⟩
      obtain ⟨oz, hoz⟩ : ∃ oz : Obj, oz = { cls := .type "zip", dict := none, data := .fields #[.none, .bool false, .bool false, .ref (s1.heap.objs.size + 2), .ref (s1.heap.objs.size + 3)], slots := #[] } := ⟨_, rfl⟩
      have A3 : (((s1.heap.push o1).push o2).push oT).get? (s1.heap.objs.size + 2) = some oT := by rw [← z2]; exact Heap.get?_push_size _ (by rw [hoT]; rfl)
      have z3 : (((s1.heap.push o1).push o2).push oT).objs.size = s1.heap.objs.size + 3 := by rw [Heap.size_push, z2]
      have J3 := J2.laid (t' := s1.toks) (h' := ((s1.heap.push o1).push o2).push oT) (o := XO (s1.heap.objs.size + 2) oT) (fun b u q => Heap.get?_push_of_some _ q) (show ((s1.heap.push o1).push o2).objs.size ≤ s1.heap.objs.size + 2 by rw [z2]; exact Nat.le_refl _) (xo_ok A3)
      have A4 : ((((s1.heap.push o1).push o2).push oT).push oO).get? (s1.heap.objs.size + 3) = some oO := by rw [← z3]; exact Heap.get?_push_size _ (by rw [hoO]; rfl)
      have z4 : ((((s1.heap.push o1).push o2).push oT).push oO).objs.size = s1.heap.objs.size + 4 := by rw [Heap.size_push, z3]
      have J4 := J3.laid (t' := s1.toks) (h' := (((s1.heap.push o1).push o2).push oT).push oO) (o := XO (s1.heap.objs.size + 3) oO) (fun b u q => Heap.get?_push_of_some _ q) (show (((s1.heap.push o1).push o2).push oT).objs.size ≤ s1.heap.objs.size + 3 by rw [z3]; exact Nat.le_refl _) (xo_ok A4)
      have A5 : (((((s1.heap.push o1).push o2).push oT).push oO).push oz).get? (s1.heap.objs.size + 4) = some oz := by rw [← z4]; exact Heap.get?_push_size _ (by rw [hoz]; rfl)
      have J5 := J4.laid (t' := s1.toks) (h' := ((((s1.heap.push o1).push o2).push oT).push oO).push oz) (o := XO (s1.heap.objs.size + 4) oz) (fun b u q => Heap.get?_push_of_some _ q) (show ((((s1.heap.push o1).push o2).push oT).push oO).objs.size ≤ s1.heap.objs.size + 4 by rw [z4]; exact Nat.le_refl _) (xo_ok A5)
      have J6 := J5.kept (t' := s1.toks) (h' := h') fun c o q => by
        rcases Heap.get?_push_cases q with ⟨rfl, rfl⟩ | q
        · rw [z4, hoz]; exact hz
        rcases Heap.get?_push_cases q with ⟨rfl, rfl⟩ | q
        · rw [z3, hoO]; exact hTO
        rcases Heap.get?_push_cases q with ⟨rfl, rfl⟩ | q
        · rw [z2, hoT]; exact hTI
        rcases Heap.get?_push_cases q with ⟨rfl, rfl⟩ | q
        · rw [z1]; exact e2
        rcases Heap.get?_push_cases q with ⟨rfl, rfl⟩ | q
        · exact e1
        exact hk c o q
      refine ⟨.ref (s1.heap.objs.size + 4), _, J6, rfl, q _ _ _ _ _ oz oT oO o1 o2 ⟨hoz, hoT, ⟨_, _, hoO⟩, ⟨c1, d1⟩, ⟨c2, d2⟩, ap⟩ fun c hc => ?_⟩
      have hle : s1.heap.objs.size ≤ c := by
        have e' : c = s1.heap.objs.size + 4 ∨ c = s1.heap.objs.size + 2 ∨ c = s1.heap.objs.size + 3 ∨ c = s1.heap.objs.size ∨ c = s1.heap.objs.size + 1 := by simpa using hc
        rcases e' with z | z | z | z | z
        · rw [z]; exact Nat.le_add_right _ _
        · rw [z]; exact Nat.le_add_right _ _
        · rw [z]; exact Nat.le_add_right _ _
        · rw [z]; exact Nat.le_refl _
        · rw [z]; exact Nat.le_add_right _ _
      exact ⟨fr c hle, Nat.le_trans sz hle⟩
def iZipV (K : PySem.W.Frag) (n : Nat) (k : Nat) : TI := fun σ H R => ∃ (z TI TO i1 i2 a b : Addr) (oz oT oO o1 o2 : Obj), ZF z TI TO i1 i2 a b oz oT oO o1 o2 ∧ (∀ c ∈ [z, TI, TO, i1, i2], n ≤ c) ∧ σ[k]? = some (some (.ref z)) ∧
  H z = some (XO z oz) ∧ H TI = some (XO TI oT) ∧ H TO = some (XO TO oO) ∧ H i1 = some (XO i1 o1) ∧ H i2 = some (XO i2 o2) ∧ R (PD.IzL K a b) (drop5 H z TI TO i1 i2)
variable {k : Nat} {x : Str} {p : Pos}
theorem pi_zipV {tpos : Pos} {elts : List Expr} {kk : Nat} (hN : X.N[k]? = some x) (hv : Vis X.env.scope x) (hd : (x == ("__debug__" : Str)) = false := by decide) (hcd : (x == ("__classdict__" : Str)) = false := by decide) : PI X (.Tuple elts kk tpos) (.Name x p) (iZipV X.K X.s_0.heap.objs.size k) := by
  refine ⟨fun pins s σ H R I h => ?_⟩
  obtain ⟨z, TI, TO, i1, i2, a, b, oz, oT, oO, o1, o2, F, hn, hs, hz, hT, hO, h1, h2, q⟩ := h
  refine thn ((pe_var (pos := p) (i := k) hN hv hd hcd).run pins s σ H (fun v H1 => v = .ref z ∧ H1 = H) I ⟨.ref z, hs, rfl, rfl⟩) fun u s1 ⟨v, H1, I1, r1, ev, eH⟩ => ?_
  subst ev
  rw [eH] at I1
  cases r1
  have A := F.apart
  have gz : s1.heap.get? z = some oz := (I1.hok z _ hz).1
  have gT : s1.heap.get? TI = some oT := (I1.hok TI _ hT).1
  have gO : s1.heap.get? TO = some oO := (I1.hok TO _ hO).1
  have g1 : s1.heap.get? i1 = some o1 := (I1.hok i1 _ h1).1
  have g2 : s1.heap.get? i2 = some o2 := (I1.hok i2 _ h2).1
  have D1 := inv_drop I1 hz
  have hO' : dropH H z TO = some (XO TO oO) := by rw [dropH_ne A.TOz]; exact hO
  have D2 := inv_drop D1 hO'
  have hT' : dropH (dropH H z) TO TI = some (XO TI oT) := by rw [dropH_ne A.TITO, dropH_ne A.TIz]; exact hT
  have D3 := inv_drop D2 hT'
  have h2' : dropH (dropH (dropH H z) TO) TI i2 = some (XO i2 o2) := by rw [dropH_ne A.TIi2.symm, dropH_ne A.TOi2.symm, dropH_ne A.i2z]; exact h2
  have D4 := inv_drop D3 h2'
  have h1' : dropH (dropH (dropH (dropH H z) TO) TI) i2 i1 = some (XO i1 o1) := by rw [dropH_ne A.i12, dropH_ne A.TIi1.symm, dropH_ne A.TOi1.symm, dropH_ne A.i1z]; exact h1
  have D5 := inv_drop D4 h1'
  obtain ⟨x0, y0, pO⟩ := F.pO
  have hzip : IsZip s1.heap z TI TO .none := gz.trans (congrArg some F.zip)
  have hpT : IsPair s1.heap TI (.ref i1) (.ref i2) := gT.trans (congrArg some F.pT)
  have hpO : IsPair s1.heap TO x0 y0 := gO.trans (congrArg some pO)
  refine wpAny_pyIter_zip hzip ?_
  refine ⟨z, [z, TI, TO, i1, i2], _, _, drop5 H z TI TO i1 i2, rfl, D5, PD.turn_zL A, ⟨hzip, hpT, ⟨x0, y0, hpO⟩, ⟨o1, g1, F.l1.1, F.l1.2⟩, ⟨o2, g2, F.l2.1, F.l2.2⟩⟩, fun c hc => ?_, q⟩
  have nn : ∀ c ∈ [z, TI, TO, i1, i2], drop5 H z TI TO i1 i2 c = none ∧ ∃ u, H c = some u := fun c hc => by
    have e' : c = z ∨ c = TI ∨ c = TO ∨ c = i1 ∨ c = i2 := by simpa using hc
    unfold drop5
    rcases e' with rfl | rfl | rfl | rfl | rfl
    · exact ⟨by rw [dropH_ne A.i1z.symm, dropH_ne A.i2z.symm, dropH_ne A.TIz.symm, dropH_ne A.TOz.symm, dropH_same], _, hz⟩
    · exact ⟨by rw [dropH_ne A.TIi1, dropH_ne A.TIi2, dropH_same], _, hT⟩
    · exact ⟨by rw [dropH_ne A.TOi1, dropH_ne A.TOi2, dropH_ne A.TITO.symm, dropH_same], _, hO⟩
    · exact ⟨by rw [dropH_same], _, h1⟩
    · exact ⟨by rw [dropH_ne A.i12.symm, dropH_same], _, h2⟩
  obtain ⟨n0, u, hu⟩ := nn c hc
  have hc2 := hn c hc
  refine ⟨n0, fun z' => ?_, fun z' => ?_, .inr hc2, fun x c' e z' => ?_, fun p hp z' => ?_⟩
  · rw [z', I1.free] at hu
    cases hu
  · obtain ⟨_, o, ho, _⟩ := I1.ok.funs.mem z'
    exact absurd (Nat.lt_of_lt_of_le (Heap.lt_size ho) hc2) (Nat.lt_irrefl _)
  · have q := I1.freeC x c' e
    rw [z', hu] at q
    cases q
  · have q := (I1.pin p hp).2.1
    rw [z', hu] at q
    cases q
end
end ZV

set_option maxHeartbeats 4000000
namespace PD
open PySem PySem.Spec PyProof.Rows L2 ZV
section
variable {K : PySem.W.Frag} {ρ ρ' : Rho} {te ta tb tc tl : TE} {P P' : PyData → Prop} {PL : List PyData → Prop}
theorem lc_at {T : Addr → Prop} {H0 G H : Hp} {σ : L2.St} (gh : Same G H) (tp : ∀ a, T a → Tp G H a) (D : Den T K H0 G H σ ρ) {wi : TI} {g : TG} {tt : TT} {vs sl : List Nat} (hi : ∀ R : It → Hp → Prop, (∀ xs J G' H', PL xs → Step T G H G' H' → Itd K J G' xs → R J H') → wi σ H R) (keep : PyData → Bool) (R : PyData → PyData → Prop) (hsl : ∀ i ∈ sl, i ∈ vs)
    (hz : ∀ xs, PL xs → xs.length < sizeLine)
    (hb : ∀ xs x, PL xs → x ∈ xs → ∃ r', PD.Pg K g sl x (wipeR ρ vs) r' ∧ Ptd K tt r' (keep x) ∧ (keep x = true → Pe K te r' (R x)))
    (Q : VK) (q : ∀ ys p vs' G' H', (∃ xs, PL xs ∧ Paired R (xs.filter keep) ys) → Step T G H G' H' → H p = none → ¬ T p → G' p = none → H' p = some (.lst vs') → DnAll K G' vs' ys → Q (.ref p) H') : tLc wi g tt te vs σ H Q := by
  refine hi _ fun xs J G1 H1 hx s1 it Dl hD => ?_
  have Dn1 := (D.mono s1).wipe vs
  have nt : ¬ T Dl := tape_some s1.tp hD
  have gd : G1 Dl = none := s1.gh.free hD
  -- the state at a turn
  refine ⟨fun i m H => m = xs.length - i ∧ i ≤ xs.length ∧ ∃ G acc ys, Step T G1 H1 G H ∧ H Dl = some (.lst acc) ∧ G Dl = none ∧ DnAll K G acc ys ∧ Paired R ((xs.take i).filter keep) ys,
    ⟨xs.length, by simp, Nat.zero_le _, G1, [], [], Step.newM s1.gh s1.tp hD, upd_same, gd, .nil, .nil⟩, ?_⟩
  rintro i m H2 ⟨rfl, hil, G2, acc, ys, s2, hacc, g2d, da, pr⟩
  have g2 : Same G1 H2 := s2.g.trans s2.gh
  by_cases hlt : i < xs.length
  · refine .inr ⟨it.go i H2 g2 hlt, fun H' => ∃ G acc ys, Step T G1 H1 G H' ∧ H' Dl = some (.lst acc) ∧ G Dl = none ∧ DnAll K G acc ys ∧ Paired R ((xs.take (i + 1)).filter keep) ys, fun H' p => ⟨xs.length - (i + 1), by omega, rfl, hlt, p⟩, fun x H' y => ?_⟩
    obtain ⟨G3, d, ed, s3, dx⟩ := it.yld i T G2 H2 x H' s2.g s2.gh s2.tp hlt y
    obtain ⟨r', hg, ht, he⟩ := hb xs d hx (List.mem_of_getElem? ed)
    have s13 := s2.trans s3
    have et : (xs.take (i + 1)).filter keep = (xs.take i).filter keep ++ (if keep d = true then [d] else []) := by
      rw [List.take_add_one, ed, List.filter_append]
      congr 1
      show List.filter keep [d] = _
      cases hk : keep d with
      | true => simp [hk]
      | false => simp [hk]
    have lacc : ys.length ≤ i := by
      have h1 := pr.length
      have h2 := List.length_filter_le keep (xs.take i)
      rw [List.length_take] at h2
      omega
    refine hg T H0 G3 H' _ x s3.gh (Dn1.mono s13) dx _ fun σ' D' hl hf => ⟨?_, ?_⟩
    · refine (wipe_eq hl fun j hj => hf j fun z => hj (hsl j z)).trans ?_
      refine wipe_eq (wipe_length σ vs) fun j hj => ?_
      rw [wipe_at, if_neg (fun z => hj z.1)]
    refine ht T H0 G3 H' σ' s3.gh s3.tp D' _ fun b G4 H4 pb s4 => ?_
    subst pb
    have hD2 : H2 Dl ≠ none := by rw [hacc]; intro z; cases z
    have a4 : H4 Dl = some (.lst acc) := s4.h _ _ nt (s3.h _ _ nt hacc)
    have g4d : G4 Dl = none := s4.fr _ (s3.fr _ g2d hD2) (s3.so hD2)
    cases hk : keep d with
    | true =>
      rw [hk] at et
      rw [if_pos rfl]
      refine (he hk).bind s4.gh s4.tp (D'.mono s4) fun e v G5 H5 p5 s5 gh5 tp5 D5 x5 => ⟨acc, s5.h _ _ nt a4, ?_, G5, acc ++ [v], ys ++ [e], ?_, upd_same, s5.fr _ g4d (by rw [a4]; intro z; cases z), ?_, ?_⟩
      · rw [da.length]
        exact Nat.lt_of_le_of_lt lacc (Nat.lt_trans hlt (hz xs hx))
      · have s15 := (s13.trans s4).trans s5
        have g5d : G5 Dl = none := s5.fr _ g4d (by rw [a4]; intro z; cases z)
        refine ⟨s15.g, fun c u e => ?_, fun p o np ep => ?_, s15.fr, fun a t => ?_⟩
        · rw [upd_ne (ne_of_none e g5d)]
          exact gh5 _ _ e
        · rw [upd_ne (ne_of_none ep hD)]
          exact s15.h p o np ep
        · have z := tp5 a t
          obtain ⟨b, ns, x, y, m, e, eb, ea, r⟩ := id z
          exact z.mono (Same.refl _) (upd_ne (fun w => nt (w ▸ t))) ea
      · exact (((da.mono s3.g).mono s4.g).mono s5.g).append (.cons x5 .nil)
      · rw [et, if_pos rfl]
        have app : ∀ {as : List PyData} {bs : List PyData}, Paired R as bs → Paired R (as ++ [d]) (bs ++ [e]) := by
          intro as bs h
          induction h with
          | nil => exact .cons p5 .nil
          | cons r _ ih => exact .cons r ih
        exact app pr
    | false =>
      rw [hk] at et
      rw [if_neg Bool.false_ne_true]
      refine ⟨G4, acc, ys, s13.trans s4, a4, g4d, (da.mono s3.g).mono s4.g, ?_⟩
      rw [et, if_neg Bool.false_ne_true, List.append_nil]
      exact pr
  · have e1 : i = xs.length := by omega
    subst e1
    rw [List.take_of_length_le (Nat.le_refl _)] at pr
    have s12 := s2
    refine .inl ⟨it.stop _ H2 g2 (Nat.le_refl _), q ys Dl acc G2 H2 ⟨xs, hx, pr⟩ (s1.trans s2) ?_ nt g2d hacc da⟩
    exact s1.no hD nt

theorem Itd.mono {J : It} {G G' : Hp} {zs : List PyData} (h : Itd K J G zs) (g : Same G G') : Itd K J G' zs where
  go := fun i H s hi => h.go i H (g.trans s) hi
  stop := fun i H s hi => h.stop i H (g.trans s) hi
  yld := fun i T G1 H x H' s => h.yld i T G1 H x H' (g.trans s)
abbrev wiJ (J : It) : TI := fun σ H R => R J H
/-- where the iterator walks what is told -/
def PeJ (K : PySem.W.Frag) (J : It) (zs : List PyData) (te : TE) (ρ : Rho) (P : PyData → Prop) : Prop := ∀ (T : Addr → Prop) (H0 G H : Hp) (σ : L2.St), Same G H → (∀ a, T a → Tp G H a) → Den T K H0 G H σ ρ → Itd K J G zs →
  ∀ Q : VK, (∀ d v G' H', P d → Step T G H G' H' → Dn K G' v d → Q v H') → te σ H Q
theorem pj_lc {J : It} {zs : List PyData} {g : TG} {vs sl : List Nat} (f : PyData → PyData) (hsl : ∀ i ∈ sl, i ∈ vs) (hz : zs.length < sizeLine)
    (hb : ∀ x, x ∈ zs → ∃ r', PD.Pg K g sl x (wipeR ρ vs) r' ∧ Pd K te r' (f x)) : PeJ K J zs (tLc (wiJ J) g tYes te vs) ρ (fun d => d = .list (zs.map f)) := fun T H0 G H σ gh tp D it Q q =>
  lc_at gh tp D (PL := fun xs => xs = zs) (fun R k => k zs J G H rfl (Step.refl gh tp) it) (fun _ => true) (fun a b => b = f a) hsl (fun _ e => e ▸ hz) (fun ys x e hx => by
    subst e
    obtain ⟨r', h1, h2⟩ := hb x hx
    exact ⟨r', h1, yt_yes, fun _ => h2⟩) Q fun ys p vs' G' H' ⟨xs, e, pr⟩ s hp nt gp hl a => by
      subst e
      rw [PD.filter_all] at pr
      exact q (.list ys) (.ref p) (upd G' p (.lst vs')) H' (by rw [paired_map pr]) (s.join hp nt gp hl) (.lst upd_same (a.mono fun c u e => by rw [upd_ne (ne_of_none e gp)]; exact e))
theorem pj_call {J : It} {zs : List PyData} {n : Nat} {R : Pr} {tr : TA} {d : PyData} {ss : List Sl} {E : XK} (h : PeJ K J zs te ρ (fun x => x = d)) (hr : Pasd K tr ρ ss) (hl : (.d d :: ss : List Sl).length = n) (hR : R (.d d :: ss) P) : PeJ K J zs (tCall (spR K n R) [] E (tCons te tr)) ρ P := fun T H0 G H σ gh tp D it Q q =>
  h T H0 G H σ gh tp D it _ fun x v G1 H1 p1 s1 x1 => hr.bind s1.gh s1.tp (D.mono s1) fun ss' vs G2 H2 p2 s2 gh2 tp2 D2 x2 => by
    subst p1 p2
    show spR K n R ((v :: vs) ++ []) H2 Q E
    rw [List.append_nil]
    exact ⟨T, G2, _, P, gh2, tp2, .cons (show ArgOk T K G2 (.d _) v from x1.mono s2.g) x2, hl, hR, fun d v G' H' p s x => q d v G' H' p ((s1.trans s2).trans s) x⟩
theorem zip_mid {i n : Nat} {xs ys : List PyData} {E : Ed} {te' : It → TE} (ha : Pd K ta ρ (.list xs)) (hb : Pd K tb ρ (.list ys)) (h : ∀ J, PeJ K J (zipD xs ys) (te' J) (ρ.set i .no) P) (hu : ∀ σ H Q, te σ H Q = iZipV K n i σ H (fun J H1 => te' J σ H1 Q)) (hi : i < ρ.length) (kk : ∀ d, P d → E.rt d) :
    Ws K (tSeq (tAsg (tZipV K n (tCons ta (tCons tb tNil))) (gName i)) (tRet te)) ρ E := fun T G0 H0 σ H D a e => by
  obtain ⟨G, s, D0⟩ := a
  refine ha.bind s.gh s.tp D0 fun x v G1 H1 p1 s1 gh1 tp1 D1 x1 => hb.bind gh1 tp1 D1 fun y u G2 H2 p2 s2 gh2 tp2 D2 x2 => ?_
  subst p1 p2
  have x1 := x1.mono s2.g
  have st := (s.trans s1).trans s2
  cases x1 with
  | @lst a vs _ e1 a1 =>
    cases x2 with
    | @lst b us _ e2 a2 =>
      refine ⟨a, b, vs, us, rfl, sql_of (gh2 _ _ e1), sql_of (gh2 _ _ e2), fun z TI TO i1 i2 oz oT oO o1 o2 F hf => ?_⟩
      show te (σ.set i (some (.ref z))) (up5 H2 z TI TO i1 i2 oz oT oO o1 o2) D.rt
      rw [hu]
      have A := F.apart
      have fz := (hf z (by simp)).1
      have fT := (hf TI (by simp)).1
      have fO := (hf TO (by simp)).1
      have f1 := (hf i1 (by simp)).1
      have f2 := (hf i2 (by simp)).1
      refine ⟨z, TI, TO, i1, i2, a, b, oz, oT, oO, o1, o2, F, fun c hc => (hf c hc).2, List.getElem?_set_self (by rw [D0.len]; exact hi), ?_, ?_, ?_, ?_, ?_, ?_⟩
      · exact upd_same
      · unfold up5; rw [upd_ne A.TIz, upd_ne A.TITO]; exact upd_same
      · unfold up5; rw [upd_ne A.TOz]; exact upd_same
      · unfold up5; rw [upd_ne A.i1z, upd_ne A.TOi1.symm, upd_ne A.TIi1.symm, upd_ne A.i12]; exact upd_same
      · unfold up5; rw [upd_ne A.i2z, upd_ne A.TOi2.symm, upd_ne A.TIi2.symm]; exact upd_same
      · rw [drop_up A fz fT fO f1 f2]
        exact h _ T H0 G2 H2 _ gh2 tp2 (D2.set (s := .no) (o := some (.ref z)) trivial fun _ q => nomatch q) (itd_zip e1 a1 e2 a2) D.rt fun d v G' H' p s' x => e.rt d v H' (kk d p) ⟨G', st.trans s', x⟩
theorem wq_zip_lc {i n : Nat} {xs ys : List PyData} {E : Ed} {g : TG} {vs sl : List Nat} (f : PyData → PyData) (ha : Pd K ta ρ (.list xs)) (hb : Pd K tb ρ (.list ys)) (hi : i < ρ.length) (hsl : ∀ i ∈ sl, i ∈ vs) (hz : (zipD xs ys).length < sizeLine)
    (hf : ∀ x, x ∈ zipD xs ys → ∃ r', PD.Pg K g sl x (wipeR (ρ.set i .no) vs) r' ∧ Pd K te r' (f x)) (kk : E.rt (.list ((zipD xs ys).map f))) :
    Ws K (tSeq (tAsg (tZipV K n (tCons ta (tCons tb tNil))) (gName i)) (tRet (tLc (iZipV K n i) g tYes te vs))) ρ E :=
  zip_mid (te' := fun J => tLc (wiJ J) g tYes te vs) ha hb (fun J => pj_lc f hsl hz hf) (fun _ _ _ => rfl) hi fun d e => e ▸ kk
theorem wq_zip_call {i n : Nat} {xs ys : List PyData} {E : Ed} {g : TG} {vs sl : List Nat} {m : Nat} {R : Pr} {tr : TA} {ss : List Sl} {X : XK} (f : PyData → PyData) (ha : Pd K ta ρ (.list xs)) (hb : Pd K tb ρ (.list ys)) (hi : i < ρ.length) (hsl : ∀ i ∈ sl, i ∈ vs) (hz : (zipD xs ys).length < sizeLine)
    (hf : ∀ x, x ∈ zipD xs ys → ∃ r', PD.Pg K g sl x (wipeR (ρ.set i .no) vs) r' ∧ Pd K te r' (f x)) (hr : Pasd K tr (ρ.set i .no) ss) (hl : (.d (.list ((zipD xs ys).map f)) :: ss : List Sl).length = m) (hR : R (.d (.list ((zipD xs ys).map f)) :: ss) P) (kk : ∀ d, P d → E.rt d) :
    Ws K (tSeq (tAsg (tZipV K n (tCons ta (tCons tb tNil))) (gName i)) (tRet (tCall (spR K m R) [] X (tCons (tLc (iZipV K n i) g tYes te vs) tr)))) ρ E :=
  zip_mid (te' := fun J => tCall (spR K m R) [] X (tCons (tLc (wiJ J) g tYes te vs) tr)) ha hb (fun J => pj_call (pj_lc f hsl hz hf) hr hl hR) (fun _ _ _ => rfl) hi kk
end
end PD

set_option maxHeartbeats 4000000
namespace PD
open PySem PySem.Spec PyProof.Rows L2 RZ
def tTupRq (te : L2.St → Hp → (Int → Int → Hp → Prop) → Prop) : TE := fun σ H Q => te σ H fun a b H1 => RgOk a b ∧ NewT H1 (rgV a b) Q
theorem pe_tupRq {X : Cx} {e : Expr} {te : L2.St → Hp → (Int → Int → Hp → Prop) → Prop} {p pos : Pos} (hc : X.calm = true) (hg : Gl X "tuple") (hm : X.mg "tuple" = none) (he : PRg X e te) (na : starEach [e] X.env = (false, eval e X.env) :: starEach [] X.env := by rfl) :
    PE X (.Call (.Name "tuple" p) [e] [] pos) (tTupRq te) := ⟨fun pins s σ H Q I h => by
  refine Call_ (ld_blt I hg hm boot_tuple (PyProof.Rows.callWith_type1 (args_cons (thn (he pins s σ H _ I h) fun x s1 ⟨r, a, b, t, u, v, H1, ex, hr, I1, ⟨b1, b2, b3, b4, b5⟩, q⟩ => args_nil ?_) na) na))
  subst ex
  refine call_tuple_range (n := (b - a).toNat) (I1.ok.hd hc) hr (small_one b1 b2 b3 b4) (rangeSize_nat a b) b5 fun h' tk acc hk hi => ?_
  have fin := fin_tup (s := { s1 with heap := h', toks := tk }) (I1.kept hk) (vals_rg hi) (by rw [rgV_length, sizeLine_eq]; omega) q
  rw [Array.toArray_toList] at fin
  exact fin⟩
section
variable {K : PySem.W.Frag} {ρ ρ' : Rho} {te ta tb tc td tl : TE} {P P' : PyData → Prop}
/-- xs[j] = e, j drawn -/
theorem ws_setiP {i : Nat} {xs : List PyData} {C : Int → Prop} {E : Ed} (e : ρ[i]? = some (.ml xs)) (h : Pe K te ρ P) (hj : Pe K tb ρ (isI C)) (hn : ∀ j, C j → ∃ n, ixN xs.length j = some n) (k : ∀ d n, P d → n < xs.length → E.nx (ρ.set i (.ml (xs.set n d)))) : Ws K (tAsg te (gSub (tVar i) tb rSetL)) ρ E := fun T G0 H0 σ H D a ed => by
  obtain ⟨G, s, D0⟩ := a
  refine h.bind s.gh s.tp D0 fun d v G' H' p s' gh' tp' D' y => ?_
  obtain ⟨o, e1, l, vs, rfl, hl, x, gl, h0, nt⟩ := D'.at e
  refine ⟨_, e1, hj.bind gh' tp' D' fun z w G2 H2 p2 s2 gh2 tp2 D2 y2 => ?_⟩
  obtain ⟨j, rfl, cj⟩ := p2
  obtain ⟨n, en⟩ := hn j cj
  cases y2
  have ln : n < xs.length := (ixN_seq en).2.1
  obtain ⟨s3, D3⟩ := D2.mut ((s.trans s').trans s2) e e1 ((x.mono s2.g).set n (y.mono s2.g))
  exact ⟨l, vs, j, n, rfl, rfl, s2.h _ _ nt hl, by rw [x.length]; exact en, ed.nx _ _ _ (k d n p ln) ⟨G2, s3, D3⟩⟩
/-- min of a list -/
theorem ye_minR {PL : List PyData → Prop} (ha : Rl K ta ρ PL) (h : ∀ xs, PL xs → ∃ ns : List Int, xs = ns.map .int ∧ 0 < ns.length ∧ ∀ m, m ∈ ns → (∀ y, y ∈ ns → m ≤ y) → P (.int m)) : Pe K (tCB (rMinX K) (tCons ta tNil)) ρ P := fun T H0 G H σ gh tp D Q q =>
  ha.bind gh tp D fun xs p vs G1 H1 p1 s1 gh1 tp1 D1 rd a => by
    obtain ⟨ns, rfl, hl, hP⟩ := h xs p1
    have := a.ints
    subst this
    exact .inr ⟨p, ns, rfl, rd.sq gh1, hl, fun m h1 h2 => q _ _ G1 H1 (hP m h1 h2) s1 (.int _)⟩
/-- return xs, a list that was changed -/
theorem ws_retm {i : Nat} {xs : List PyData} {E : Ed} (e : ρ[i]? = some (.ml xs)) (k : E.rt (.list xs)) : Ws K (tRet (tVar i)) ρ E := fun T G0 H0 σ H D a ed => by
  obtain ⟨G, s, D0⟩ := a
  obtain ⟨o, e1, l, vs, rfl, hl, x, gl, h0, nt⟩ := D0.at e
  exact ⟨_, e1, ed.rt _ _ _ k ⟨upd G l (.lst vs), s.join h0 nt gl hl, .lst upd_same (x.mono fun c u e => by rw [upd_ne (ne_of_none e gl)]; exact e)⟩⟩
/-- a list that was changed is data from here on -/
theorem At.freeze {T : Addr → Prop} {G0 H0 H : Hp} {σ : L2.St} {i : Nat} {xs : List PyData} (e : ρ[i]? = some (.ml xs)) (a : At T K G0 H0 ρ σ H) : At T K G0 H0 (ρ.set i (.d (.list xs))) σ H := by
  obtain ⟨G, s, D⟩ := a
  obtain ⟨o, e1, l, vs, rfl, hl, x, gl, h0, nt⟩ := D.at e
  have gm : Same G (upd G l (.lst vs)) := fun c u e => by rw [upd_ne (ne_of_none e gl)]; exact e
  refine ⟨upd G l (.lst vs), s.join h0 nt gl hl, by rw [List.length_set]; exact D.len, fun j y o q1 q2 => ?_, fun j k ys zs o p m hjk q1 q2 q3 q4 f1 f2 => ?_⟩
  · by_cases q : i = j
    · subst q
      rw [List.getElem?_set_self (List.getElem?_eq_some_iff.mp e).1] at q1
      cases q1
      rw [e1] at q2
      cases q2
      exact ⟨_, rfl, .lst upd_same (x.mono gm)⟩
    · rw [List.getElem?_set_ne q] at q1
      have old := D.ok j y o q1 q2
      cases y with
      | no => trivial
      | tp => exact old
      | rf a => exact old
      | rg lo hi => exact let ⟨a, e, g⟩ := old; ⟨a, e, gm _ _ g⟩
      | mx w =>
        refine ⟨w.frame gm (fun _ _ => rfl) old.1, fun a' ha => ?_⟩
        obtain ⟨p1, p2, p3, p4⟩ := old.2 a' ha
        have nml : a' ≠ l := fun z => by
          subst z
          exact D.one i j _ _ _ _ a' q e q1 e1 q2 rfl ha
        exact ⟨p1, by rw [upd_ne nml]; exact p2, p3, p4⟩
      | d z => exact let ⟨v, ev, dv⟩ := old; ⟨v, ev, dv.mono gm⟩
      | ml ys =>
        obtain ⟨m, us, rfl, hm, am, gk, hm0, ntm⟩ := old
        refine ⟨m, us, rfl, hm, am.mono gm, ?_, hm0, ntm⟩
        have nml : m ≠ l := fun z => by
          subst z
          exact D.one i j _ _ _ _ m q e q1 e1 q2 rfl rfl
        rw [upd_ne nml]
        exact gk
  · have nj : i ≠ j := fun z => by
      subst z
      rw [List.getElem?_set_self (List.getElem?_eq_some_iff.mp e).1] at q1
      cases q1
      exact f1
    have nk : i ≠ k := fun z => by
      subst z
      rw [List.getElem?_set_self (List.getElem?_eq_some_iff.mp e).1] at q2
      cases q2
      exact f2
    rw [List.getElem?_set_ne nj] at q1
    rw [List.getElem?_set_ne nk] at q2
    exact D.one j k ys zs o p m hjk q1 q2 q3 q4 f1 f2
theorem Ws.freeze {i : Nat} {xs : List PyData} {t : TS} {E : Ed} (e : ρ[i]? = some (.ml xs)) (h : Ws K t (ρ.set i (.d (.list xs))) E) : Ws K t ρ E := fun T G0 H0 σ H D a ed => h T G0 H0 σ H D (At.freeze e a) ed
/-- tuple(range(..)) -/
theorem yd_trg2 {n m : Int} (ha : Pd K ta ρ (.int n)) (hb : Pd K tb ρ (.int m)) (h : RgOk n m) : Pd K (tTupRq (tRg2 ta tb)) ρ (.tuple (rgD n m)) := fun T H0 G H σ gh tp D Q q =>
  ha.bind gh tp D fun x v G1 H1 p1 s1 gh1 tp1 D1 x1 => hb.bind gh1 tp1 D1 fun y u G2 H2 p2 s2 gh2 tp2 D2 x2 => by
    subst p1 p2
    cases x1
    cases x2
    exact ⟨n, m, rfl, rfl, h, new_tup gh2 tp2 (dn_rg G2 n m) fun v G' H' s' x => q _ v G' H' rfl ((s1.trans s2).trans s') x⟩
theorem yd_trg1 {n : Int} (ha : Pd K ta ρ (.int n)) (h : RgOk 0 n) : Pd K (tTupRq (tRg1 ta)) ρ (.tuple (rgD 0 n)) := fun T H0 G H σ gh tp D Q q =>
  ha.bind gh tp D fun x v G1 H1 p1 s1 gh1 tp1 D1 x1 => by
    subst p1
    cases x1
    exact ⟨n, rfl, h, new_tup gh1 tp1 (dn_rg G1 0 n) fun v G' H' s' x => q _ v G' H' rfl (s1.trans s') x⟩
theorem yd_t0 : Pd K (tTuq tNil) ρ (.tuple []) := yd_tup (ds := []) ya_n
end
theorem yd_t4 {K : PySem.W.Frag} {ρ : Rho} {ta tb tc td : TE} {a b c d : PyData} (h1 : Pd K ta ρ a) (h2 : Pd K tb ρ b) (h3 : Pd K tc ρ c) (h4 : Pd K td ρ d) : Pd K (tTuq (tCons ta (tCons tb (tCons tc (tCons td tNil))))) ρ (.tuple [a, b, c, d]) := yd_tup (ds := [a, b, c, d]) (ya_d h1 (ya_d h2 (ya_d h3 (ya_d h4 ya_n))))
theorem ye_t4 {K : PySem.W.Frag} {ρ : Rho} {ta tb tc td : TE} {A B C D P : PyData → Prop} (h1 : Pe K ta ρ A) (h2 : Pe K tb ρ B) (h3 : Pe K tc ρ C) (h4 : Pe K td ρ D) (k : ∀ a b c d, A a → B b → C c → D d → P (.tuple [a, b, c, d])) : Pe K (tTuq (tCons ta (tCons tb (tCons tc (tCons td tNil))))) ρ P :=
  ye_tup (PA := fun ss => ∃ a b c d, ss = [.d a, .d b, .d c, .d d] ∧ A a ∧ B b ∧ C c ∧ D d) (ya_c h1 (ya_c (PR := fun ss => ∃ b c d, ss = [.d b, .d c, .d d] ∧ B b ∧ C c ∧ D d) h2 (ya_c (PR := fun ss => ∃ c d, ss = [.d c, .d d] ∧ C c ∧ D d) h3 (ya_c (PR := fun ss => ∃ d, ss = [.d d] ∧ D d) h4 ya_n fun d ss p e => ⟨d, by rw [e], p⟩) fun d ss p ⟨c, e, q⟩ => ⟨d, c, by rw [e], p, q⟩) fun d ss p ⟨b, c, e, q⟩ => ⟨d, b, c, by rw [e], p, q⟩) fun d ss p ⟨b, c, c', e, q⟩ => ⟨d, b, c, c', by rw [e], p, q⟩) fun ss ⟨a, b, c, d, e, p, q, r, t⟩ => ⟨[a, b, c, d], e, Nat.le_of_ble_eq_true rfl, k a b c d p q r t⟩
end PD

set_option maxHeartbeats 4000000
/-! enumerate(xs, start=k) -/
namespace EnS
open PySem PySem.Spec PyProof.Rows L2
section
variable {M : Model} {A : Around} {E : Value → Shared → Prop} {s : Shared} {env : Env}
theorem callWith_type_kwB {pos : Pos} {T : String} {first : List Value} {args : List (Bool × Sem Value)} {keywords : List (Option Str × Sem Value)} {Q : Value → Shared → Prop}
    (hplain : args.any (·.1) = false) (hkw : keywords.any (·.1.isNone) = false)
    (h : wpAny M A (evalArgs (.type T) true args keywords) (fun a s₁ => wpAny M A (call (.type T) (first ++ a.pos) a.kw) Q E s₁) E s) :
    wpAny M A (callWith pos (.type T) first args keywords) Q E s := by
  unfold callWith
  refine wpAny_bind (wpAny_holding (wpAny_mono h (fun a s₁ h₁ => wpAny_bind (wpAny_standAt ?_)) fun _ _ x => x))
  simp only [hplain, hkw, Bool.or_false]
  refine wpAny_bind (wpAny_pure ?_)
  exact wpAny_bind (wpAny_mono h₁ (fun r s₂ hr => wpAny_bind (wpAny_holding (wpAny_point (wpAny_pure hr)))) fun _ _ x => x)
theorem callWith_tkw {pos : Pos} {T : String} {e : Expr} {rest : List Expr} {kws : List Keyword} {Q : Value → Shared → Prop}
    (h : wpAny M A (spliced (backTo pos (starEach (e :: rest) env))) (fun vs s₁ => wpAny M A (evalAll ((backToKw pos (keywordEach kws env)).map (·.2)))
      (fun kvs s₂ => wpAny M A (call (.type T) vs (((backToKw pos (keywordEach kws env)).filterMap (·.1)).zip kvs)) Q E s₂) E s₁) E s)
    (he : backTo pos (starEach (e :: rest) env) = (false, eval e env) :: backTo pos (starEach rest env) := by rfl)
    (hplain : (backTo pos (starEach (e :: rest) env)).any (·.1) = false := by rfl)
    (hall : (backToKw pos (keywordEach kws env)).all (·.1.isSome) = true := by rfl)
    (hkw : (backToKw pos (keywordEach kws env)).any (·.1.isNone) = false := by rfl) :
    wpAny M A (callWith pos (.type T) [] (backTo pos (starEach (e :: rest) env)) (backToKw pos (keywordEach kws env))) Q E s := by
  refine callWith_type_kwB hplain hkw ?_
  rw [he] at h ⊢
  exact evalArgs_kwB hall h
end
theorem pyNext_enum_endC {prog : Program} {w : World} {A : Around} {E : Value → Shared → Prop} {s : Shared} {e it l : Addr} {i : Nat} {c : Int} {items : Array Value} {old : Value} {Q : Option Value → Shared → Prop} (hh : A.handled = none)
    (he : IsEnum s.heap e it c old) (hit : s.heap.IsListIter it l i) (hl : s.heap.IsList l items) (hx : items[i]? = none)
    (hQ : ∀ h', Heap.ExtBut it s.heap h' → Q none { s with heap := h' }) : wpAny (model prog w) A (pyNext (.ref e)) Q E s := by
  have hT : s.TypeIs (.ref e) "enumerate" := ⟨_, he, rfl⟩
  unfold pyNext
  refine wpAny_bind (wpAny_attempt (wpAny_callSpecial?_slot (name := Str.ofString "__next__") hT F.slot_enumerate_next
    (wpAny_call_entry F.slot_enumerate_next hT F.entry_enumerate_next ?_ (F.args_enumerate_next_1 _))))
  show wpAny _ _ (field (.ref e) 2 >>= _) _ _ _
  refine wpAny_bind (wpAny_field he rfl (x := .ref it) rfl ?_)
  refine wpAny_bind (wpAny_nextOf_list_end hh hit hl hx fun h' x he' hx' => ?_)
  obtain ⟨o, ho, hc⟩ := hx'
  refine wpAny_bind (wpAny_isInstance (T := "StopIteration") (b := true) ⟨o, ho, hc⟩ isSubtype_stop ?_)
  exact wpAny_pure (hQ _ he')
/-- the list at a as it stands at each turn, each item in a new pair, counted from c -/
def Ites (K : PySem.W.Frag) (a : Addr) (c : Int) : It :=
  ⟨fun i H => ∃ (xs : List V) (x : V), SqL K H a xs ∧ xs[i]? = some x, fun i H v H' => ∃ (T : Addr) (ob : Obj) (x : V), v = .ref T ∧ H T = none ∧ ob.dict = none ∧ H' = upd H T (.frz ob (.tup [.int (c + (i : Nat)), x])) ∧ ∀ xs, SqL K H a xs → xs[i]? = some x, fun i H => ∃ xs : List V, SqL K H a xs ∧ xs.length ≤ i⟩
theorem turn_enums {P : Program} {w : World} {K : PySem.W.Frag} {elts : List Expr} {kk : Nat} {tpos : Pos} (a e it : Addr) (c : Int) (ha : a ≠ it) (hea : e ≠ a) :
    Turn P w K (.Tuple elts kk tpos) (Ites K a c) [e, it] e (fun i h => (∃ old, IsEnum h e it (c + ((i : Nat) : Int)) old) ∧ h.IsListIter it a i ∧ e ≠ it) where
  mem := by simp
  obj := fun i h st b hb => by
    obtain ⟨⟨old, he⟩, ⟨o, ho, hc, hd⟩, _⟩ := st
    have e' : b = e ∨ b = it := by simpa using hb
    rcases e' with z | z
    · rw [z]; exact ⟨_, he, fun v q => nomatch q⟩
    · rw [z]; exact ⟨o, ho, fun v q => by rw [hd] at q; cases q⟩
  keep := fun i h h' st k => let ⟨⟨old, he⟩, hi, hne⟩ := st; ⟨⟨old, k e (by simp) _ he⟩, hi.at fun o q => k it (by simp) o q, hne⟩
  item := by
    intro X hP hw hK hc i pins s σ H E I hf st hg
    subst hP hw hK
    obtain ⟨⟨old, he⟩, hit, hne⟩ := st
    obtain ⟨xs, x, hq, hx⟩ := hg
    obtain ⟨its, rv, p, hz⟩ := I.list hq
    obtain ⟨u, hu, ru⟩ := rv.get hx
    have hel : e < s.heap.objs.size := Heap.lt_size he
    have hil : it < s.heap.objs.size := by obtain ⟨_, q, _⟩ := hit; exact Heap.lt_size q
    have hlt : i < its.toArray.size := by
      have := (List.getElem?_eq_some_iff.mp hu).1
      simpa using this
    refine wpAny_pyNext_enum_itemC (Draws.list (A := X.A.in1) (show X.A.in1.handled = none from I.ok.hd hc) it a ha its.toArray) he ⟨hit, p.isList⟩ hlt hne (by simp; exact ⟨hne, hea⟩) fun u' h' tk hP ho hst hT hsz hk => ?_
    obtain rfl : u' = u := by
      have e1 : its.toArray[i]? = some u := by simpa using hu
      rw [e1] at hP
      exact (Option.some.inj hP).symm
    refine ⟨_, rfl, wpAny_letOwnedTupleGo_enum (s := { s with heap := h', toks := tk + 1 }) ho fun h'' he' sb => ?_⟩
    have hT2 : h''.get? s.heap.objs.size = some { cls := .type "tuple", data := .seq #[.int (c + (i : Int)) tk, u'] } := (sb.2 _ (Nat.ne_of_gt hel)).trans hT
    have new : ObjOk X.prog X.w (upd H s.heap.objs.size (.frz { cls := .type "tuple", data := .seq #[.int (c + (i : Int)) tk, u'] } (.tup [.int (c + (i : Nat)), x]))) h'' s.heap.objs.size (.frz { cls := .type "tuple", data := .seq #[.int (c + (i : Int)) tk, u'] } (.tup [.int (c + (i : Nat)), x])) :=
      ⟨hT2, by show 2 ≤ sizeLine; decide, [.int (c + (i : Int)) tk, u'], .cons ⟨_, rfl⟩ (.cons ru .nil), ⟨_, hT2, rfl, _, rfl⟩⟩
    have I1 : Inv X pins σ (upd H s.heap.objs.size (.frz { cls := .type "tuple", data := .seq #[.int (c + (i : Int)) tk, u'] } (.tup [.int (c + (i : Nat)), x]))) { s with heap := h'', toks := tk + 1 } :=
      I.turnedNew (ch := [e, it]) (fun b ob hb q => (sb.2 b (fun z => hb (by simp [z]))).trans (hk b ob (fun z => hb (by simp [z])) (fun z => hb (by simp [z])) q)) hf (Nat.le_refl _) new
    refine ⟨.ref s.heap.objs.size, _, I1, rfl, ⟨_, _, x, rfl, I.hok.fresh (Nat.le_refl _), rfl, rfl, fun ys hy => by rw [I.list_inj hy hq]; exact hx⟩, ⟨⟨u', ?_⟩, hst.1.at fun o q => (sb.2 it (Ne.symm hne)).trans q, hne⟩, fun b hb => ?_⟩
    · have e1 : c + ((i + 1 : Nat) : Int) = c + (i : Int) + 1 := by omega
      rw [e1]; exact he'
    · have hb' : b < s.heap.objs.size := by
        have e' : b = e ∨ b = it := by simpa using hb
        rcases e' with z | z
        · rw [z]; exact hel
        · rw [z]; exact hil
      rw [upd_ne (Nat.ne_of_lt hb')]
      exact (hf b hb).1
  done := by
    intro X hP hw hK hc i pins s σ H E I hf st hg
    subst hP hw hK
    obtain ⟨⟨old, he⟩, hit, hne⟩ := st
    obtain ⟨xs, hq, hx⟩ := hg
    obtain ⟨its, rv, p, hz⟩ := I.list hq
    obtain ⟨f0, f1, f2, f3, f4, f5⟩ := hf it (by simp)
    have hl := rv.length
    exact pyNext_enum_endC (I.ok.hd hc) he hit p.isList (by simp; omega) fun h' eb => ⟨rfl, I.turned (t' := s.toks) (fun b o hb q => eb b o hb q) f0 f1 f3 f4 f5⟩
  self := fun A i s Q E st h => let ⟨⟨_, he⟩, _⟩ := st; wpAny_pyIter_enum he h
def iEnumS (K : PySem.W.Frag) (ta tk : TA) : TI := fun σ H R => ta σ H fun vs H1 => tk σ H1 fun ks H2 => ∃ a xs c, vs = [.ref a] ∧ ks = [.int c] ∧ -(2 ^ 62) ≤ c ∧ c < 2 ^ 62 ∧ SqL K H2 a xs ∧ R (Ites K a c) H2
theorem pi_enumS {X : Cx} {e k : Expr} {ta tk : TA} {p pos tpos kpos : Pos} {elts : List Expr} {kk : Nat} (hg : Gl X "enumerate") (hm : X.mg "enumerate" = none) (ha : PA X [e] ta) (hk : PK X [⟨some "start", k, kpos⟩] tk)
    (he : backTo pos (starEach [e] X.env) = (false, eval e X.env) :: backTo pos (starEach [] X.env) := by rfl) (hpl : (backTo pos (starEach [e] X.env)).any (·.1) = false := by rfl)
    (hall : (backToKw pos (keywordEach [⟨some "start", k, kpos⟩] X.env)).all (·.1.isSome) = true := by rfl) (hnone : (backToKw pos (keywordEach [⟨some "start", k, kpos⟩] X.env)).any (·.1.isNone) = false := by rfl) (hks : (backToKw pos (keywordEach [⟨some "start", k, kpos⟩] X.env)).filterMap (·.1) = [Str.ofString "start"] := by rfl) :
    PI X (.Tuple elts kk tpos) (.Call (.Name "enumerate" p) [e] [⟨some "start", k, kpos⟩] pos) (iEnumS X.K ta tk) := by
  refine ⟨fun pins s σ H R I h => ?_⟩
  refine wpAny_Call_Name_kw (ld_blt I hg hm boot_enumerate ?_)
  refine callWith_tkw (thn (ha.run pos pins s σ H _ I h) fun us s1 ⟨vs, H1, I1, r1, q1⟩ => thn (hk.run pos pins s1 σ H1 _ I1 q1) fun ws s2 ⟨zs, H2, I2, r2, q2⟩ => ?_) he hpl hall hnone
  rw [hks]
  obtain ⟨a, xs, c, rfl, rfl, c0, c1, hq, q⟩ := q2
  cases r1 with
  | cons r rr =>
    cases rr
    cases r
    cases r2 with
    | cons k1 k2 =>
      cases k2
      obtain ⟨t, rfl⟩ := k1
      obtain ⟨its, rv, p', hz⟩ := I2.list hq
      show wpAny _ _ (call (.type "enumerate") [.ref a] [(Str.ofString "start", .int c t)]) _ _ s2
      refine enum_begins_start (begins_list a its.toArray) p'.isList (by omega) (by omega) fun h' he hit hsz hk => wpAny_pyIter_enum he ?_
      have I3 : Inv X pins σ H2 { s2 with heap := h' } := I2.kept (t' := s2.toks) hk
      have hlt := p'.lt
      refine ⟨s2.heap.objs.size + 1, [s2.heap.objs.size + 1, s2.heap.objs.size], _, _, H2, rfl, I3, turn_enums a (s2.heap.objs.size + 1) s2.heap.objs.size c (Nat.ne_of_lt hlt) (Nat.ne_of_gt (Nat.lt_succ_of_lt hlt)), ⟨⟨.none, ?_⟩, ⟨_, hit, rfl, rfl⟩, Nat.succ_ne_self _⟩, fun b hb => ?_, q⟩
      · rw [show c + ((0 : Nat) : Int) = c by omega]
        exact he
      have e' : b = s2.heap.objs.size + 1 ∨ b = s2.heap.objs.size := by simpa using hb
      have hle : s2.heap.objs.size ≤ b := by
        rcases e' with z | z
        · rw [z]; exact Nat.le_add_right _ _
        · rw [z]; exact Nat.le_refl _
      exact I2.fpOk hle (I2.hok.fresh hle)
end EnS
namespace PD
open PySem PySem.Spec PyProof.Rows L2 RZ EnS
def enumS : Int → List PyData → List PyData
  | n, x :: xs => .tuple [.int n, x] :: enumS (n + 1) xs
  | _, _ => []
theorem enumS_len : ∀ (n : Int) (xs : List PyData), (enumS n xs).length = xs.length
  | _, [] => rfl
  | n, x :: xs => congrArg (· + 1) (enumS_len (n + 1) xs)
theorem enumS_at : ∀ (n : Int) (xs : List PyData) (i : Nat) (x : PyData), xs[i]? = some x → (enumS n xs)[i]? = some (.tuple [.int (n + (i : Nat)), x])
  | _, [], _, _, h => by simp at h
  | n, a :: xs, 0, x, h => by
    have e1 := Option.some.inj h
    rw [← e1]
    show some (PyData.tuple [.int n, a]) = some (.tuple [.int (n + ((0 : Nat) : Int)), a])
    simp
  | n, a :: xs, i + 1, x, h => by
    have := enumS_at (n + 1) xs i x h
    rw [show n + 1 + (i : Int) = n + ((i + 1 : Nat) : Int) by omega] at this
    exact this
theorem itd_enumS {K : PySem.W.Frag} {G : Hp} {a : Addr} {c : Int} {vs : List V} {xs : List PyData} (h : G a = some (.lst vs)) (d : DnAll K G vs xs) : Itd K (Ites K a c) G (enumS c xs) where
  go := fun i H g hi => by
    rw [enumS_len] at hi
    have h3 : i < vs.length := by rw [d.length]; omega
    exact ⟨vs, vs[i], sql_of (g _ _ h), List.getElem?_eq_getElem h3⟩
  stop := fun i H g hi => by
    rw [enumS_len] at hi
    exact ⟨vs, sql_of (g _ _ h), by rw [d.length]; omega⟩
  yld := fun i T G' H x H' g1 g2 tp hi y => by
    obtain ⟨p, ob, x1, rfl, hp, od, rfl, f1⟩ := y
    obtain ⟨e1, q1, q2⟩ := (d.mono g1).get' (f1 vs (sql_of (g2 _ _ (g1 _ _ h))))
    refine ⟨upd G' p (.frz ob (.tup [.int (c + (i : Nat)), x1])), .tuple [.int (c + (i : Nat)), e1], enumS_at c xs i e1 q1, Step.new g2 tp hp, .tup (p := .inl ⟨ob, _, upd_same, od⟩) (.inl (.inr ⟨ob, upd_same⟩)) ?_⟩
    exact DnAll.mono (fun c u e => by rw [upd_ne (ne_of_none e (g2.free hp))]; exact e) (.cons (.int _) (.cons q2 .nil))
theorem it_enumS {K : PySem.W.Frag} {ρ : Rho} {ta tb : TE} {xs : List PyData} {c : Int} (h : Pd K ta ρ (.list xs)) (hb : Pd K tb ρ (.int c)) (c0 : -(2 ^ 62) ≤ c) (c1 : c < 2 ^ 62) : Pitd K (iEnumS K (tCons ta tNil) (tCons tb tNil)) ρ (enumS c xs) := fun T H0 G H σ gh tp D R q =>
  h.bind gh tp D fun x v G1 H1 p1 s1 gh1 tp1 D1 x1 => hb.bind gh1 tp1 D1 fun y u G2 H2 p2 s2 gh2 tp2 D2 x2 => by
    subst p1 p2
    have x1 := x1.mono s2.g
    cases x2
    cases x1 with
    | @lst a vs _ e1 a1 => exact ⟨a, vs, c, rfl, rfl, c0, c1, sql_of (gh2 _ _ e1), q _ _ G2 H2 rfl (s1.trans s2) (itd_enumS e1 a1)⟩
/-! ### any(list), xs.index(x) -/
section
variable {K : PySem.W.Frag} {ρ : Rho} {ta tb : TE}
theorem yd_anyR {bs : List Bool} (ha : Rl K ta ρ (fun x => x = bs.map .bool)) : Pd K (tCB (rAny K) (tCons ta tNil)) ρ (.bool (bs.any id)) := fun T H0 G H σ gh tp D Q q =>
  ha.bind gh tp D fun xs p vs G1 H1 p1 s1 gh1 tp1 D1 rd a => by
    subst p1
    have := a.bools
    subst this
    exact ⟨p, bs, rfl, rd.sq gh1, q _ _ G1 H1 rfl s1 (.bl _)⟩
theorem yd_idx {ns : List Int} {x : Int} {j : Nat} (ha : Rl K ta ρ (fun y => y = ns.map .int)) (hb : Pd K tb ρ (.int x)) (hj : ns[j]? = some x) (hf : ∀ m, m < j → ns[m]? ≠ some x) : Pd K (tBM K "list" (rIndex K) ta (tCons tb tNil)) ρ (.int (j : Int)) := fun T H0 G H σ gh tp D Q q =>
  ha.bind gh tp D fun xs p vs G1 H1 p1 s1 gh1 tp1 D1 rd a => ⟨.inl ⟨rfl, vs, rd.sq gh1⟩, hb.bind gh1 tp1 D1 fun y u G2 H2 p2 s2 gh2 tp2 D2 x2 => by
    subst p1 p2
    cases x2
    have := a.ints
    subst this
    refine ⟨p, ns.map V.int, .int x, j, .int x, rfl, rfl, (rd.mono s2).sq gh2, rfl, ?_, ?_, ?_, fun m z' hm hz => ?_, q _ _ G2 H2 rfl (s1.trans s2) (.int _)⟩
    · rw [List.all_eq_true]
      intro v hv
      obtain ⟨n, _, rfl⟩ := List.mem_map.mp hv
      rfl
    · rw [List.getElem?_map, hj]
      rfl
    · show (x == x) = true
      simp
    · rw [List.getElem?_map] at hz
      cases e : ns[m]? with
      | none =>
        rw [e] at hz
        cases hz
      | some n =>
        rw [e] at hz
        cases hz
        show (n == x) = false
        have := hf m hm
        rw [e] at this
        simp
        intro z
        exact this (by rw [z])⟩
/-- a tuple that the module holds -/
theorem pe_gt {X : Cx} {x : Str} {d : PyData} {pos : Pos} (h : ∃ a, X.mg x = some (.ref a) ∧ ∀ G, Dn X.K G (.ref a) d) (hg : Gl X x := by rfl) (hd : (x == ("__debug__" : Str)) = false := by decide) : PE X (.Name x pos) (tC (.ref (Classical.choose h))) :=
  pe_glob hg (Classical.choose_spec h).1 rfl hd
theorem ye_K {a : Addr} {d : PyData} (h : ∀ G, Dn K G (.ref a) d) : Pd K (tC (.ref a)) ρ d := fun T H0 G H σ gh tp D Q q => q _ _ G H rfl (Step.refl gh tp) (h G)
theorem dn_ktup {G : Hp} {a : Addr} {its : Array Value} {n : Nat} {sl : Array (Option Value)} {vs : List V} {ds : List PyData} (lk : K.lookup a = some ⟨.type "tuple", none, .seq its n, sl⟩) (hv : Vals vs its.toList) (hs : its.size ≤ sizeLine) (hd : DnAll K G vs ds) : Dn K G (.ref a) (.tuple ds) :=
  .tup (p := .inr ⟨_, lk, rfl⟩) (.inr ⟨_, its, n, lk, rfl, rfl, hs, hv⟩) hd
end
end PD

set_option maxHeartbeats 4000000
namespace PD
open PySem PySem.Spec PyProof.Rows L2 RZ
section
variable {K : PySem.W.Frag} {ρ ρ' : Rho} {te ta tb tc td tl : TE} {P P' : PyData → Prop}
theorem DnAll.eraseIdx {G : Hp} : ∀ {vs : List V} {ds : List PyData} (n : Nat), DnAll K G vs ds → DnAll K G (vs.eraseIdx n) (ds.eraseIdx n)
  | _, _, _, .nil => .nil
  | _, _, 0, .cons _ t => t
  | _, _, n + 1, .cons r t => .cons r (DnAll.eraseIdx n t)
/-- ys.append(xs.pop(j)), j drawn -/
theorem ws_appPop {i j : Nat} {xs ys : List PyData} {C : Int → Prop} {E : Ed} (ei : ρ[i]? = some (.ml ys)) (ej : ρ[j]? = some (.ml xs)) (hij : i ≠ j) (hb : Pe K tb ρ (isI C)) (hC : ∀ z, C z → 0 ≤ z ∧ z < xs.length) (hx : xs.length < 2 ^ 62) (hz : ys.length < sizeLine) (k : ∀ n (h : n < xs.length), E.nx ((ρ.set j (.ml (xs.eraseIdx n))).set i (.ml (ys ++ [xs[n]])))) :
    Ws K (tDrop (tBM K "list" rAppend (tVar i) (tCons (tBM K "list" rPopAt (tVar j) (tCons tb tNil)) tNil))) ρ E := fun T G0 H0 σ H D a ed => by
  obtain ⟨G, s, D0⟩ := a
  obtain ⟨o, e1, l, vs, rfl, hl, x, gl, h0, nt⟩ := D0.at ei
  obtain ⟨o', e1', l', us, rfl, hl', x', gl', h0', nt'⟩ := D0.at ej
  refine ⟨_, e1, .inl ⟨rfl, vs, sql_of hl⟩, _, e1', .inl ⟨rfl, us, sql_of hl'⟩, hb.bind s.gh s.tp D0 fun d v G' H' p s' gh' tp' D' y => ?_⟩
  obtain ⟨z, rfl, cz⟩ := p
  cases y
  obtain ⟨z0, z1⟩ := hC z cz
  obtain ⟨n, rfl⟩ : ∃ n : Nat, z = (n : Int) := ⟨z.toNat, by omega⟩
  have hn : n < xs.length := by omega
  have hu : n < us.length := by rw [x'.length]; omega
  have hl2' := s'.h _ _ nt' hl'
  have hl2 := s'.h _ _ nt hl
  obtain ⟨s2, D2⟩ := D'.mut (s.trans s') ej e1' (DnAll.eraseIdx n (x'.mono s'.g))
  have hne : l ≠ l' := fun q => by
    subst q
    exact D0.one i j _ _ _ _ l hij ei ej e1 e1' rfl rfl
  have ei2 : (ρ.set j (.ml (xs.eraseIdx n)))[i]? = some (.ml ys) := by rw [List.getElem?_set_ne (fun q => hij q.symm)]; exact ei
  obtain ⟨w, hw, dw⟩ := (x'.mono s'.g).get (List.getElem?_eq_getElem hn)
  obtain ⟨s3, D3⟩ := D2.mut s2 ei2 e1 ((x.mono s'.g).append (.cons dw .nil))
  exact ⟨l', us, (n : Int), n, w, rfl, rfl, hl2', by omega, by omega, by unfold seqIndex?; rw [x'.length]; simp; omega, hw, l, vs, w, rfl, rfl, by rw [upd_ne hne]; exact hl2, by rw [x.length]; exact hz, ed.nx _ _ _ (k n hn) ⟨G', s3, D3⟩⟩
end
end PD

set_option maxHeartbeats 4000000
namespace PD
open PySem PySem.Spec PyProof.Rows L2 RZ
section
variable {prog : Program} {w : World} {A : Around} {E : Value → Shared → Prop} {s : Shared} {l : Addr} {xs : Array (Int × Tok)}
theorem max_intTuple {Q : Value → Shared → Prop} (hh : A.handled = none) (hl : s.heap.IsTuple l (intItems xs)) (hne : 0 < xs.size)
    (h : ∀ v h' tk, (intItems xs)[argBest (fun i j => decide (numAt xs i > numAt xs j)) (xs.size - 1)]? = some v → (∀ b o, s.heap.get? b = some o → h'.get? b = some o) → Q v { s with heap := h', toks := tk }) :
    wpAny (model prog w) A (call (.builtin "max") [.ref l]) Q E s := by
  have hlt : l < s.heap.objs.size := by obtain ⟨_, e, _⟩ := hl; exact Heap.lt_size e
  refine call_max_walk (wpAny_pyIter_tuple hl ⟨s.heap.objs.size, _, _, _, _, _, _, rfl, Walks.tuple (A := A.in1) hh _ l (Nat.ne_of_lt hlt) (intItems xs), ⟨⟨_, Heap.get?_push_size _ rfl, rfl, rfl⟩, hl.push _⟩, fun b hb => ?_, by simpa [intItems] using hne, CmpOf.ints_gt (numAt xs) (fun _ _ => intItems_at), fun v h' tk hP hk => h v h' tk (by simpa [intItems] using hP) fun b o e => ?_⟩)
  · show b < (s.heap.push _).objs.size
    rw [Heap.size_push]
    simp only [List.mem_cons, List.not_mem_nil, or_false] at hb
    rcases hb with rfl | rfl
    · exact Nat.lt_succ_self _
    · exact Nat.lt_succ_of_lt hlt
  · refine hk b o (fun hm => ?_) (Heap.get?_push_of_some _ e)
    simp only [List.mem_cons, List.not_mem_nil, or_false] at hm
    exact absurd (hm ▸ Heap.lt_size e) (Nat.lt_irrefl _)
end
section
variable {X : Cx}
def rMaxT (K : PySem.W.Frag) : List V → Hp → VK → Prop := fun vs H Q => ∃ (a : Addr) (ns : List Int), vs = [V.ref a] ∧ SqT K H a (ns.map V.int) ∧ 0 < ns.length ∧ ∀ m, m ∈ ns → (∀ y, y ∈ ns → y ≤ m) → Q (.int m) H
theorem cr_maxT (hc : X.calm = true) : CallR X (.builtin "max") (rMaxT X.K) := by
  intro pins s σ H vs us Q I r h
  obtain ⟨a, ns, rfl, hs, hne, q⟩ := h
  obtain ⟨its, rv, ht, _⟩ := I.tuple hs
  rw [Vals.ref1 r]
  have hi := rv.ints
  obtain ⟨xs, e⟩ := hi.allInts.items
  have hn : numsOf (intItems xs).toList = ns := by rw [← e]; exact hi.numsOf
  rw [nums_intItems] at hn
  subst hn
  have hl : s.heap.IsTuple a its.toArray := ht
  rw [e] at hl
  have hsz : 0 < xs.size := by simpa using hne
  refine max_intTuple (I.ok.hd hc) hl hsz fun v h' tk hv hk => ?_
  obtain ⟨t, rfl⟩ := intItems_at hv
  obtain ⟨h1, h2⟩ := argBest_gt (numAt xs) (xs.size - 1)
  refine ⟨.int _, H, I.kept hk, ⟨_, rfl⟩, q _ ?_ fun a ha => ?_⟩
  · rw [numAt_eq]; exact PySem.getD_mem (by rw [List.length_map, Array.length_toList]; omega)
  · obtain ⟨j, hj, rfl⟩ := mem_getD ha
    rw [List.length_map, Array.length_toList] at hj
    rw [← numAt_eq]; exact h2 j (by omega)
end
section
variable {K : PySem.W.Frag} {ρ : Rho} {ta : TE} {P : PyData → Prop}
theorem yd_maxT {ns : List Int} {m : Int} (ha : Pd K ta ρ (.tuple (ns.map .int))) (h : m ∈ ns) (h2 : ∀ y, y ∈ ns → y ≤ m) : Pd K (tCB (rMaxT K) (tCons ta tNil)) ρ (.int m) := ye_cb1 ha fun x p1 T G H v gh tp x1 Q q => by
  subst p1
  cases x1 with
  | @tup a vs _ pl e1 a1 =>
    have := a1.ints
    subst this
    refine ⟨a, ns, rfl, sqt_mono gh e1, List.length_pos_of_mem h, fun k hk hk2 => ?_⟩
    have a := h2 k hk
    have b := hk2 m h
    rw [show k = m by omega]
    exact q _ _ G H rfl (Step.refl gh tp) (.int _)
end
end PD

namespace PD
open PySem PySem.Spec PyProof.Rows L2

/-! ### range(a, b, -1) -/
def dnD (a : Int) (n : Nat) : List PyData := (List.range n).map fun i => PyData.int (a - (i : Nat))
theorem dn_len (a : Int) (n : Nat) : (dnD a n).length = n := by
  unfold dnD
  rw [List.length_map, List.length_range]
theorem dn_at (a : Int) (n i : Nat) (h : i < n) : (dnD a n)[i]? = some (.int (a - (i : Int))) := by
  unfold dnD
  rw [List.getElem?_map, List.getElem?_range h]
  rfl
theorem itd_dn {K : PySem.W.Frag} {G : Hp} (a : Int) (n : Nat) : Itd K (Itc a (-1) n) G (dnD a n) where
  go := fun i H g hi => by
    rw [dn_len] at hi
    exact hi
  stop := fun i H g hi => by
    rw [dn_len] at hi
    exact hi
  yld := fun i T G' H x H' g1 g2 tp hi y => by
    rw [dn_len] at hi
    obtain ⟨rfl, rfl⟩ := y
    refine ⟨G', _, dn_at a n i hi, Step.refl g2 tp, ?_⟩
    rw [show a + (i : Int) * -1 = a - (i : Int) by omega]
    exact .int _
section
variable {K : PySem.W.Frag} {ρ : Rho} {ta tb tc : TE}
theorem it_dn {a b : Int} (h : Pd K ta ρ (.int a)) (h' : Pd K tb ρ (.int b)) (h'' : Pd K tc ρ (.int (-1))) (h1 : -(2 ^ 62) ≤ a ∧ a < 2 ^ 62 ∧ -(2 ^ 62) ≤ b ∧ b < 2 ^ 62) : Pitd K (iRng3 (tCons ta (tCons tb (tCons tc tNil)))) ρ (dnD a (a - b).toNat) := fun T H0 G H σ gh tp D R q =>
  (ya_d h (ya_d h' (ya_d h'' ya_n))).bind gh tp D fun ss vs G1 H1 p s gh1 tp1 D1 ar => by
    subst p
    cases ar with
    | cons r1 ar =>
      cases ar with
      | cons r2 ar =>
        cases ar with
        | cons r3 ar =>
          cases ar
          cases r1
          cases r2
          cases r3
          exact ⟨a, b, -1, (a - b).toNat, rfl, RgC.neg h1.1 h1.2.1 h1.2.2.1 h1.2.2.2, q _ _ G1 H1 rfl s (itd_dn a (a - b).toNat)⟩
end
end PD
namespace PD
open PySem PySem.Spec PyProof.Rows L2
theorem Pit.to {K : PySem.W.Frag} {wi : TI} {ρ : Rho} {xs ys : List PyData} (h : Pitd K wi ρ xs) (e : xs = ys) : Pitd K wi ρ ys := e ▸ h
end PD

/-! PD17: defs that may raise, try .. except X -/
namespace PD
open PySem PySem.Spec PyProof.Rows L2

def clsV (mg : Str → Option Value) (x : Str) : Value := (mg x).getD .none
theorem clsV_of {mg : Str → Option Value} {x : Str} {C : Addr} (h : mg x = some (.ref C)) : clsV mg x = .ref C := by
  unfold clsV
  rw [h]
  rfl
/-- what a def promises that may raise: of its arguments, its answer, its error -/
abbrev Px := List Sl → (PyData → Prop) → (Str → List (Str × PyData) → Prop) → Prop
def spX (K : PySem.W.Frag) (mg : Str → Option Value) (n : Nat) (R : Px) : Sp := fun vs H Q E => ∃ (T : Addr → Prop) (G : Hp) (ss : List Sl) (P : PyData → Prop) (B : Str → List (Str × PyData) → Prop), Same G H ∧ (∀ a, T a → Tp G H a) ∧ ArgsOk T K G ss vs ∧ ss.length = n ∧ R ss P B ∧
  (∀ d v G' H', P d → Step T G H G' H' → Dn K G' v d → Q v H') ∧ ∀ x fs d G' H', B x fs → Step T G H G' H' → XD K G' H' d fs → E (clsV mg x) d H'
/-- the one error that may leave -/
def oneErr (x : Str) (fs : List (Str × PyData)) : Str → List (Str × PyData) → Prop := fun y gs => y = x ∧ gs = fs
section
variable {K : PySem.W.Frag}
theorem fn_okX {Pg' : Program} {w : World} {mg : Str → Option Value} {base : Heap} {x qual : Str} {st : Stmt} {f : Addr} {fd : FuncData} {N ps : List Str} {k n : Nat} {R : Px} (F : Fun K x qual st f fd) (S : FnScope N ps (defScope st)) (hp : ps.length = n) (hN : n ≤ N.length)
    (hb : ∀ (cdv : Value) (A : Around) (outer : List Env) (s : Shared) (H : Hp) (E : XK), Room k (A.deeper (envOfC qual (defScope st) s.heap.objs.size f cdv)) →
      ∃ t, PSs (cxOf (L2.CX Pg' w) Pg' w K mg base N qual (defScope st) f cdv A outer s H E) (defBody st) t ∧ ∀ ss P B, ss.length = n → R ss P B → Ws K t (ss ++ List.replicate (N.length - n) .no) { nx := fun _ => P .none, rt := P, xw := fun c d _ H => E c d H, xr := fun c fs _ => ∃ x, c = clsV mg x ∧ B x fs }) :
    FnOk Pg' w K mg base (L2.CX Pg' w) (k + 1) f fd ps (spX K mg n R) := by
  refine F.okX S (fun vs H Q E h => ?_) (fun cdv A outer s H vs Q E hr h => ?_)
  · obtain ⟨T, G, ss, P, B, gh, tp, a, hl, _⟩ := h
    rw [← Paired.length a, hl, hp]
  · obtain ⟨t, ht, hw⟩ := hb cdv A outer s H E hr
    obtain ⟨T, G, ss, P, B, gh, tp, a, hl, hR, q, qx⟩ := h
    refine ⟨t, ht, ?_⟩
    have D0 : Den T K H G H (L2.start N vs) (ss ++ List.replicate (N.length - n) .no) := by
      have := den_start (H0 := H) (H := H) (N := N) a (by omega)
      rw [hl] at this
      exact this
    refine hw ss P B hl hR T G H _ H _ ⟨G, Step.refl gh tp, D0⟩ ⟨fun ρ σ H' p a => ?_, fun d v H' p a => ?_, fun _ _ _ z => z.elim, fun _ _ _ z => z.elim, fun cls fs d ρ σ G' H' p s' n x => ?_⟩
    · obtain ⟨G', s', _⟩ := a
      exact q _ _ G' H' p s' .non
    · obtain ⟨G', s', x⟩ := a
      exact q d v G' H' p s' x
    · obtain ⟨y, rfl, b⟩ := p
      exact qx y fs d G' H' b s' x
/-- an expression that may raise -/
def PeX (K : PySem.W.Frag) (te : TE) (ρ : Rho) (P : PyData → Prop) (E : Ed) : Prop := ∀ (T : Addr → Prop) (G0 H0 : Hp) (σ : L2.St) (H : Hp) (D : Ends), At T K G0 H0 ρ σ H → EdOk T K G0 H0 E D →
  ∀ Q : VK, (∀ d v G' H', P d → Step T G0 H0 G' H' → Den T K H0 G' H' σ ρ → Dn K G' v d → Q v H') → te σ H Q
variable {ρ : Rho} {te : TE} {P P' : PyData → Prop} {E : Ed} {u : TS}
theorem Pe.x (h : Pe K te ρ P) : PeX K te ρ P E := fun T G0 H0 σ H D a e Q q => a.eval h fun d v G' H' p s D' x => q d v G' H' p s D' x
theorem PeX.imp (h : PeX K te ρ P E) (i : ∀ d, P d → P' d) : PeX K te ρ P' E := fun T G0 H0 σ H D a e Q q => h T G0 H0 σ H D a e Q fun d v G' H' p => q d v G' H' (i d p)
/-- a call that may raise, where what is raised is wished for -/
theorem ex_call {mg : Str → Option Value} {n : Nat} {R : Px} {ta : TA} {PA : List Sl → Prop} {W : WX} (hW : E.xw = W) (h : Pas K ta ρ PA) (hR : ∀ ss, PA ss → ss.length = n ∧ ∃ B, R ss P B ∧ ∀ x fs, B x fs → E.xr (clsV mg x) fs ρ) :
    PeX K (tCallS (spX K mg n R) (WE W) ta) ρ P E := fun T G0 H0 σ H D a e Q q => by
  obtain ⟨G, s, D0⟩ := a
  refine h.bind s.gh s.tp D0 fun ss vs G1 H1 p1 s1 gh1 tp1 D1 x1 => ?_
  obtain ⟨hl, B, hr, hB⟩ := hR ss p1
  subst hW
  exact ⟨T, G1, ss, P, B, gh1, tp1, x1, hl, hr, fun d v G' H' p s2 x => q d v G' H' p ((s.trans s1).trans s2) (D1.mono s2) x, fun y fs d G' H' b s2 x => e.xx _ fs d ρ σ G' H' (hB y fs b) ((s.trans s1).trans s2) (D1.mono s2) x⟩
theorem ex_cl {mg : Str → Option Value} {n : Nat} {R : Px} {ta : TA} {ss : List Sl} {W : WX} (B : Str → List (Str × PyData) → Prop) (h : Pasd K ta ρ ss) (hl : ss.length = n) (hR : R ss P B) (hB : ∀ x fs, B x fs → E.xr (clsV mg x) fs ρ) (hW : E.xw = W := by rfl) :
    PeX K (tCallS (spX K mg n R) (WE W) ta) ρ P E := ex_call hW h fun x e => by rw [e]; exact ⟨hl, B, hR, hB⟩
/-- a call that does not raise, by what it is given -/
theorem ye_callX {mg : Str → Option Value} {n : Nat} {R : Px} {ta : TA} {PA : List Sl → Prop} {W : L2.St → XK} (h : Pas K ta ρ PA) (hR : ∀ ss, PA ss → ss.length = n ∧ R ss P fun _ _ => False) : Pe K (tCallS (spX K mg n R) W ta) ρ P := fun T H0 G H σ gh tp D Q q =>
  h.bind gh tp D fun ss vs G1 H1 p1 s1 gh1 tp1 D1 x1 => by
    obtain ⟨hl, hr⟩ := hR ss p1
    exact ⟨T, G1, ss, P, _, gh1, tp1, x1, hl, hr, fun d v G' H' p s x => q d v G' H' p (s1.trans s) x, fun _ _ _ _ _ z => z.elim⟩
theorem ye_clX {mg : Str → Option Value} {n : Nat} {R : Px} {ta : TA} {ss : List Sl} {W : L2.St → XK} (h : Pasd K ta ρ ss) (hl : ss.length = n) (hR : R ss P fun _ _ => False) : Pe K (tCallS (spX K mg n R) W ta) ρ P := ye_callX h fun x e => by rw [e]; exact ⟨hl, hR⟩
/-! statements -/
theorem ws_setX {i : Nat} (h : PeX K te ρ P E) (k : ∀ d, P d → E.nx (ρ.set i (.d d))) : Ws K (tAsg te (gName i)) ρ E := fun T G0 H0 σ H D a e =>
  h T G0 H0 σ H D a e _ fun d v G' H' p s D' x => e.nx _ _ _ (k d p) ⟨G', s, D'.set (s := .d d) (o := some v) ⟨v, rfl, x⟩ fun _ z => nomatch z⟩
theorem wq_setX {i : Nat} (h : PeX K te ρ P E) (k : ∀ d, P d → Ws K u (ρ.set i (.d d)) E) : Ws K (tSeq (tAsg te (gName i)) u) ρ E := fun T G0 H0 σ H D a e =>
  h T G0 H0 σ H D a e _ fun d v G' H' p s D' x => k d p T G0 H0 _ _ D ⟨G', s, D'.set (s := .d d) (o := some v) ⟨v, rfl, x⟩ fun _ z => nomatch z⟩ e
theorem ws_retX (h : PeX K te ρ P E) (k : ∀ d, P d → E.rt d) : Ws K (tRet te) ρ E := fun T G0 H0 σ H D a e =>
  h T G0 H0 σ H D a e _ fun d v G' H' p s D' x => e.rt d v H' (k d p) ⟨G', s, x⟩
theorem ws_dropX (h : PeX K te ρ P E) (k : ∀ d, P d → E.nx ρ) : Ws K (tDrop te) ρ E := fun T G0 H0 σ H D a e =>
  h T G0 H0 σ H D a e _ fun d v G' H' p s D' x => e.nx _ _ _ (k d p) ⟨G', s, D'⟩
theorem ws_asgX {g : TG} (h : PeX K te ρ P E) (k : ∀ x, P x → ∃ sl ρ', Pg K g sl x ρ ρ' ∧ E.nx ρ') : Ws K (tAsg te g) ρ E := fun T G0 H0 σ H D a e =>
  h T G0 H0 σ H D a e _ fun d v G' H' p s D' y => by
    obtain ⟨sl, ρ', hg, hk⟩ := k d p
    exact hg T H0 G' H' σ v s.gh D' y _ fun σ' D'' _ _ => e.nx _ _ _ hk ⟨G', s, D''⟩
/-- raise X('..') -/
theorem ws_raise0 {C : Addr} {W : WX} (hW : E.xw = W) (h : E.xr (.ref C) [] ρ) : Ws K (fun _ σ H => W (.ref C) none σ H) ρ E := fun T G0 H0 σ H D a e => by
  obtain ⟨G, s, D0⟩ := a
  subst hW
  exact e.xx _ [] none ρ σ G H h s D0 (.inl ⟨rfl, rfl⟩)
/-- try: .. except X: .. -/
def tTry (K : PySem.W.Frag) (c : Value) (tb : WX → TS) (ts : Addr → Value → Option Addr → TS) (Wout : WX) : TS := fun D σ H => tb (wOnly K c ts Wout D) D σ H
theorem ws_try {tb : WX → TS} {ts : Addr → Value → Option Addr → TS} {Wout : WX} {c : Value} (XR : Value → List (Str × PyData) → Rho → Prop)
    (hb : ∀ W, Ws K (tb W) ρ { nx := E.nx, rt := E.rt, bk := E.bk, ct := E.ct, xw := W, xr := XR })
    (hh : ∀ c' fs r, XR c' fs r → ∃ b, PySem.W.exmOne K c' c = some b ∧ (b = true → ∀ a d, Ws K (ts a c' d) r E) ∧ (b = false → E.xr c' fs r ∧ E.xw = Wout)) : Ws K (tTry K c tb ts Wout) ρ E := fun T G0 H0 σ H D a e => by
  refine hb (wOnly K c ts Wout D) T G0 H0 σ H D a ⟨e.nx, e.rt, e.bk, e.ct, fun cls fs d r σ' G' H' x s D' xd => ?_⟩
  obtain ⟨b, h1, h2, h3⟩ := hh cls fs r x
  refine ⟨b, h1, fun hb a _ => ?_, fun hb => ?_⟩
  · exact h2 hb a d T G0 H0 σ' H' D ⟨G', s, D'⟩ e
  · obtain ⟨h4, h5⟩ := h3 hb
    subst h5
    exact e.xx cls fs d r σ' G' H' h4 s D' xd
end
/-! ### the calls, as terms -/
structure CalX (Pg : Program) (w : World) (K : PySem.W.Frag) (mg : Str → Option Value) (base : Heap) (k : Nat) (x : Str) (ps : List Str) (sp : Sp) : Prop where
  ex : ∃ f fd, FnOk Pg w K mg base (L2.CX Pg w) k f fd ps sp ∧ mg x = some (.ref f) ∧ PySem.W.keepIn K (.ref f) = true ∧ Binds K fd ps []
theorem ps_tryT {X : Cx} {x : Str} {c : Value} {body suite : List Stmt} {b₀ : Stmt} {np pos pos' : Pos} {tb : WX → TS} {ts : Addr → Value → Option Addr → TS} {Wout : WX} (hs : X.stack = X.env :: X.outer) (hf : X.env.frame = some X.env.locals) (hc : Names X x c) (tk : Takes X Wout)
    (hb : ∀ (W : WX) (pn : List (Addr × Obj)) (xe : Value → Shared → Prop), Takes (X.tr pn xe) W → PassesOwn (model X.prog X.w) X.A X.env xe → PSs (X.tr pn xe) body (tb W))
    (hsu : ∀ (a : Addr) (oe : Obj) (cls : Value) (d : Option Addr) (pn : List (Addr × Obj)), Zc cls d oe → (∃ vs, oe.data = .fields vs) → PSs (X.suite a ((a, oe) :: pn)) (b₀ :: suite) (ts a cls d)) :
    PS X (.Try body [.ExceptHandler (some (.Name x np)) none (b₀ :: suite) pos'] [] [] pos) (tTry X.K c tb ts Wout) := ps_try_only hs hf hc tk hb hsu
section
variable {X : Cx}
theorem pe_calX {W : WX} {k j : Nat} {x : Str} {ps : List Str} {sp : Sp} {e : Expr} {es : List Expr} {t : TA} {p pos : Pos} (C : CalX X.prog X.w X.K X.mg X.base k x ps sp) (tk : Takes X W) (hr : Room j X.A) (ha : PA X (e :: es) t) (hk : k ≤ j := by decide) (hg : Gl X x := by rfl) (hdb : (x == ("__debug__" : Str)) = false := by decide)
    (he : starEach (e :: es) X.env = (false, eval e X.env) :: starEach es X.env := by rfl) (hpl : (backTo pos (starEach es X.env)).any (·.1) = false := by rfl) : PE X (.Call (.Name x p) (e :: es) [] pos) (tCallS sp (WE W) t) := by
  obtain ⟨f, fd, F, hm, kp, hb⟩ := C.ex
  exact pe_callS F (hr.mono hk) hg hm kp hb (fun σ => passAt tk σ) ha hdb he hpl
end
section
variable {K : PySem.W.Frag} {ρ : Rho} {ta tb : TE} {i j : Int}
theorem yd_eqI (ha : Pd K ta ρ (.int i)) (hb : Pd K tb ρ (.int j)) : Pd K (tOp (rEqX K) ta tb) ρ (.bool (decide (i = j))) := yd_eqS (x := .int i) (y := .int j) ha hb rfl
theorem yd_neI (ha : Pd K ta ρ (.int i)) (hb : Pd K tb ρ (.int j)) : Pd K (tOp (rNeX K) ta tb) ρ (.bool (!decide (i = j))) := yd_neS (x := .int i) (y := .int j) ha hb rfl
end
/-! a good way and a raising way -/
section
variable {P : Program} {w : World} {K : PySem.W.Frag} {mg : Str → Option Value} {base : Heap} {k j : Nat} {f : Addr} {fd : FuncData} {ps : List Str} {n : Nat}
theorem fnok_x {R : Pr} (F : FnOk P w K mg base CX0 j f fd ps (spR K n R)) (h : j ≤ k) : FnOk P w K mg base (L2.CX P w) k f fd ps (spX K mg n fun ss Q _ => R ss Q) := by
  refine ⟨fun vs H Q E ⟨T, G, ss, P', B, gh, tp, a, hl, hR, q, _⟩ => F.len vs H Q E ⟨T, G, ss, P', gh, tp, a, hl, hR, q⟩, fun A outer s H args us vs Q E hr he hb hv ⟨T, G, ss, P', B, gh, tp, a, hl, hR, q, _⟩ => ?_⟩
  refine codeAny_mono ((F.mono h).run A outer s H args us vs Q E hr he hb hv ⟨T, G, ss, P', gh, tp, a, hl, hR, q⟩) fun r s' hq => ?_
  cases r with
  | error e => exact hq.elim
  | ok fl =>
    cases fl with
    | ret u => exact hq
    | next => exact hq
    | brk => exact hq
    | cont => exact hq
theorem fnok_both {R : Pr} {RB : List Sl → (Str → List (Str × PyData) → Prop) → Prop} (F : FnOk P w K mg base CX0 j f fd ps (spR K n R)) (h : j ≤ k) (F2 : FnOk P w K mg base (L2.CX P w) k f fd ps (spX K mg n fun ss _ B => RB ss B)) :
    FnOk P w K mg base (L2.CX P w) k f fd ps (spX K mg n fun ss Q B => R ss Q ∨ RB ss B) := by
  have F1 := fnok_x F h
  refine ⟨fun vs H Q E ⟨T, G, ss, P', B, gh, tp, a, hl, hR, q, qx⟩ => ?_, fun A outer s H args us vs Q E hr he hb hv ⟨T, G, ss, P', B, gh, tp, a, hl, hR, q, qx⟩ => ?_⟩
  · rcases hR with hR | hR
    · exact F1.len vs H Q E ⟨T, G, ss, P', B, gh, tp, a, hl, hR, q, qx⟩
    · exact F2.len vs H Q E ⟨T, G, ss, P', B, gh, tp, a, hl, hR, q, qx⟩
  · rcases hR with hR | hR
    · exact F1.run A outer s H args us vs Q E hr he hb hv ⟨T, G, ss, P', B, gh, tp, a, hl, hR, q, qx⟩
    · exact F2.run A outer s H args us vs Q E hr he hb hv ⟨T, G, ss, P', B, gh, tp, a, hl, hR, q, qx⟩
end
/-- a first statement that raises -/
theorem ws_stop {K : PySem.W.Frag} {t u : TS} {ρ : Rho} {E : Ed} (h : Ws K t ρ { E with nx := fun _ => False }) : Ws K (tSeq t u) ρ E := ws_seq (fun _ => False) h fun _ z => z.elim
end PD

/-! PD18: zip kept in a name, walked in an assignment -/
namespace PD
open PySem PySem.Spec PyProof.Rows L2 ZV
section
variable {K : PySem.W.Frag} {ρ : Rho} {te ta tb : TE} {P : PyData → Prop}
theorem pj_tup {J : It} {zs : List PyData} {xs : List PyData} (h : PeJ K J zs te ρ (fun d => d = .list xs)) : PeJ K J zs (tCB (rTupOf K) (tCons te tNil)) ρ (fun d => d = .tuple xs) := fun T H0 G H σ gh tp D it Q q =>
  h T H0 G H σ gh tp D it _ fun d v G1 H1 p1 s1 x1 => by
    subst p1
    cases x1 with
    | @lst a vs _ e1 a1 => exact ⟨a, vs, rfl, .inl ⟨.inl (.inl (s1.gh _ _ e1)), new_tup s1.gh s1.tp a1 fun v G' H' s' x => q _ v G' H' rfl (s1.trans s') x⟩⟩
theorem zip_midA {i k n : Nat} {xs ys : List PyData} {E : Ed} {te' : It → TE} {u : TS} (ha : Pd K ta ρ (.list xs)) (hb : Pd K tb ρ (.list ys)) (h : ∀ J, PeJ K J (zipD xs ys) (te' J) (ρ.set i .no) P) (hu : ∀ σ H Q, te σ H Q = iZipV K n i σ H (fun J H1 => te' J σ H1 Q)) (hi : i < ρ.length) (kk : ∀ d, P d → Ws K u ((ρ.set i .no).set k (.d d)) E) :
    Ws K (tSeq (tAsg (tZipV K n (tCons ta (tCons tb tNil))) (gName i)) (tSeq (tAsg te (gName k)) u)) ρ E := fun T G0 H0 σ H D a e => by
  obtain ⟨G, s, D0⟩ := a
  refine ha.bind s.gh s.tp D0 fun x v G1 H1 p1 s1 gh1 tp1 D1 x1 => hb.bind gh1 tp1 D1 fun y w G2 H2 p2 s2 gh2 tp2 D2 x2 => ?_
  subst p1 p2
  have x1 := x1.mono s2.g
  have st := (s.trans s1).trans s2
  cases x1 with
  | @lst a vs _ e1 a1 =>
    cases x2 with
    | @lst b us _ e2 a2 =>
      refine ⟨a, b, vs, us, rfl, sql_of (gh2 _ _ e1), sql_of (gh2 _ _ e2), fun z TI TO i1 i2 oz oT oO o1 o2 F hf => ?_⟩
      show te (σ.set i (some (.ref z))) (up5 H2 z TI TO i1 i2 oz oT oO o1 o2) fun v H' => u D ((σ.set i (some (.ref z))).set k (some v)) H'
      rw [hu]
      have A := F.apart
      have fz := (hf z (by simp)).1
      have fT := (hf TI (by simp)).1
      have fO := (hf TO (by simp)).1
      have f1 := (hf i1 (by simp)).1
      have f2 := (hf i2 (by simp)).1
      refine ⟨z, TI, TO, i1, i2, a, b, oz, oT, oO, o1, o2, F, fun c hc => (hf c hc).2, List.getElem?_set_self (by rw [D0.len]; exact hi), ?_, ?_, ?_, ?_, ?_, ?_⟩
      · exact upd_same
      · unfold up5; rw [upd_ne A.TIz, upd_ne A.TITO]; exact upd_same
      · unfold up5; rw [upd_ne A.TOz]; exact upd_same
      · unfold up5; rw [upd_ne A.i1z, upd_ne A.TOi1.symm, upd_ne A.TIi1.symm, upd_ne A.i12]; exact upd_same
      · unfold up5; rw [upd_ne A.i2z, upd_ne A.TOi2.symm, upd_ne A.TIi2.symm]; exact upd_same
      · rw [drop_up A fz fT fO f1 f2]
        have D3 : Den T K H0 G2 H2 (σ.set i (some (.ref z))) (ρ.set i .no) := D2.set (s := .no) (o := some (.ref z)) trivial fun _ q => nomatch q
        exact h _ T H0 G2 H2 _ gh2 tp2 D3 (itd_zip e1 a1 e2 a2) _ fun d v G' H' p s' x => kk d p T G0 H0 _ _ D ⟨G', st.trans s', (D3.mono s').set (s := .d d) (o := some v) ⟨v, rfl, x⟩ fun _ z => nomatch z⟩ e
/-- pairs = zip(a, b); x = tuple([.. for .. in pairs]) -/
theorem wq_zip_tup {i k n : Nat} {xs ys : List PyData} {E : Ed} {g : TG} {vs sl : List Nat} {u : TS} (f : PyData → PyData) (ha : Pd K ta ρ (.list xs)) (hb : Pd K tb ρ (.list ys)) (hi : i < ρ.length) (hsl : ∀ i ∈ sl, i ∈ vs) (hz : (zipD xs ys).length < sizeLine)
    (hf : ∀ x, x ∈ zipD xs ys → ∃ r', PD.Pg K g sl x (wipeR (ρ.set i .no) vs) r' ∧ Pd K te r' (f x)) (kk : Ws K u ((ρ.set i .no).set k (.d (.tuple ((zipD xs ys).map f)))) E) :
    Ws K (tSeq (tAsg (tZipV K n (tCons ta (tCons tb tNil))) (gName i)) (tSeq (tAsg (tCB (rTupOf K) (tCons (tLc (iZipV K n i) g tYes te vs) tNil)) (gName k)) u)) ρ E :=
  zip_midA (te' := fun J => tCB (rTupOf K) (tCons (tLc (wiJ J) g tYes te vs) tNil)) ha hb (fun J => pj_tup (pj_lc f hsl hz hf)) (fun _ _ _ => rfl) hi fun d e => e ▸ kk
end
end PD

set_option maxHeartbeats 4000000
namespace PD
open PySem PySem.Spec PyProof.Rows L2 RZ
/-! ### expressions that change lists kept in names: the value and the slots after -/
def Pm (K : PySem.W.Frag) (te : TE) (ρ : Rho) (Q : PyData → Rho → Prop) : Prop := ∀ (T : Addr → Prop) (G0 H0 G H : Hp) (σ : L2.St), Step T G0 H0 G H → Den T K H0 G H σ ρ →
  ∀ R : VK, (∀ d ρ' v G' H', Q d ρ' → Step T G0 H0 G' H' → Same G G' → Den T K H0 G' H' σ ρ' → Dn K G' v d → R v H') → te σ H R
def Pms (K : PySem.W.Frag) (ta : TA) (ρ : Rho) (Q : List Sl → Rho → Prop) : Prop := ∀ (T : Addr → Prop) (G0 H0 G H : Hp) (σ : L2.St), Step T G0 H0 G H → Den T K H0 G H σ ρ →
  ∀ R : List V → Hp → Prop, (∀ ss ρ' vs G' H', Q ss ρ' → Step T G0 H0 G' H' → Same G G' → Den T K H0 G' H' σ ρ' → ArgsOk T K G' ss vs → R vs H') → ta σ H R
section
variable {K : PySem.W.Frag} {ρ ρ' : Rho} {te ta tb tc td tl : TE} {tr tt : TA} {P P' : PyData → Prop} {Q Q' : PyData → Rho → Prop} {QA : List Sl → Rho → Prop} {u : TS}
theorem Pm.imp (h : Pm K te ρ Q) (i : ∀ d r, Q d r → Q' d r) : Pm K te ρ Q' := fun T G0 H0 G H σ s D R r => h T G0 H0 G H σ s D R fun d ρ' v G' H' q => r d ρ' v G' H' (i d ρ' q)
theorem pm_e (h : Pe K te ρ P) (k : ∀ d, P d → Q d ρ) : Pm K te ρ Q := fun T G0 H0 G H σ s D R r =>
  h T H0 G H σ s.gh s.tp D R fun d v G' H' p s' x => r d ρ v G' H' (k d p) (s.trans s') s'.g (D.mono s') x
theorem pm_d {d : PyData} (h : Pd K te ρ d) (k : Q d ρ) : Pm K te ρ Q := pm_e h fun x e => e ▸ k
/-- xs.pop() -/
theorem pm_pop {j : Nat} {xs : List PyData} (ej : ρ[j]? = some (.ml xs)) (hx : xs ≠ []) (k : ∀ x, xs[xs.length - 1]? = some x → Q x (ρ.set j (.ml xs.dropLast))) : Pm K (tBM0 K "list" rPop (tVar j)) ρ Q := fun T G0 H0 G H σ s D R r => by
  obtain ⟨o, e1, l, vs, rfl, hl, x, gl, h0, nt⟩ := D.at ej
  have hv : 0 < vs.length := by
    rw [x.length]
    exact List.length_pos_iff.mpr hx
  have hx' : 0 < xs.length := List.length_pos_iff.mpr hx
  obtain ⟨s2, D2⟩ := D.mut s ej e1 x.dropLast
  obtain ⟨w, hw, dw⟩ := x.get (List.getElem?_eq_getElem (show xs.length - 1 < xs.length by omega))
  exact ⟨_, e1, .inl ⟨rfl, vs, sql_of hl⟩, l, vs, w, rfl, rfl, hl, by rw [x.length]; exact hw, r _ _ w G _ (k _ (List.getElem?_eq_getElem _)) s2 (Same.refl _) D2 dw⟩
/-- xs.pop(i) -/
theorem pm_popAt {j : Nat} {xs : List PyData} {C : Int → Prop} (ej : ρ[j]? = some (.ml xs)) (hb : Pe K tb ρ (isI C)) (hC : ∀ z, C z → 0 ≤ z ∧ z < xs.length) (hx : xs.length < 2 ^ 62) (k : ∀ n (h : n < xs.length), Q xs[n] (ρ.set j (.ml (xs.eraseIdx n)))) : Pm K (tBM K "list" rPopAt (tVar j) (tCons tb tNil)) ρ Q := fun T G0 H0 G H σ s D R r => by
  obtain ⟨o, e1, l, vs, rfl, hl, x, gl, h0, nt⟩ := D.at ej
  refine ⟨_, e1, .inl ⟨rfl, vs, sql_of hl⟩, hb.bind s.gh s.tp D fun d v G' H' p s' gh' tp' D' y => ?_⟩
  obtain ⟨z, rfl, cz⟩ := p
  cases y
  obtain ⟨z0, z1⟩ := hC z cz
  obtain ⟨n, rfl⟩ : ∃ n : Nat, z = (n : Int) := ⟨z.toNat, by omega⟩
  have hn : n < xs.length := by omega
  have hl2 := s'.h _ _ nt hl
  obtain ⟨s2, D2⟩ := D'.mut (s.trans s') ej e1 (DnAll.eraseIdx n (x.mono s'.g))
  obtain ⟨w, hw, dw⟩ := (x.mono s'.g).get (List.getElem?_eq_getElem hn)
  exact ⟨l, vs, (n : Int), n, w, rfl, rfl, hl2, by omega, by omega, by unfold seqIndex?; rw [x.length]; simp; omega, hw, r _ _ w G' _ (k n hn) s2 s'.g D2 dw⟩
theorem pms_n (k : QA [] ρ) : Pms K tNil ρ QA := fun T G0 H0 G H σ s D R r => r [] ρ [] G H k s (Same.refl _) D .nil
theorem pms_c (h : Pm K te ρ Q) (hr : ∀ d r, Q d r → Pms K tr r fun ss r' => QA (.d d :: ss) r') : Pms K (tCons te tr) ρ QA := fun T G0 H0 G H σ s D R r =>
  h T G0 H0 G H σ s D _ fun d ρ1 v G1 H1 q s1 g1 D1 x => hr d ρ1 q T G0 H0 G1 H1 σ s1 D1 _ fun ss ρ2 vs G2 H2 q2 s2 g2 D2 xs => r _ ρ2 _ G2 H2 q2 s2 (g1.trans g2) D2 (.cons (x.mono g2) xs)
theorem pms_t {i : Nat} (e : ρ[i]? = some .tp) (hr : Pms K tr ρ fun ss r' => QA (.tp :: ss) r') : Pms K (tCons (tVar i) tr) ρ QA := fun T G0 H0 G H σ s D R r => by
  obtain ⟨o, e1, a, rfl, t⟩ := D.at e
  exact ⟨_, e1, hr T G0 H0 G H σ s D _ fun ss ρ2 vs G2 H2 q2 s2 g2 D2 xs => r _ ρ2 _ G2 H2 q2 s2 g2 D2 (.cons ⟨a, rfl, t⟩ xs)⟩
theorem pm_call {n : Nat} {R : Pr} {E : XK} (h : Pms K tr ρ fun ss r => ss.length = n ∧ R ss fun d => Q d r) : Pm K (tCall (spR K n R) [] E tr) ρ Q := fun T G0 H0 G H σ s D R r =>
  h T G0 H0 G H σ s D _ fun ss ρ1 vs G1 H1 q s1 g1 D1 x1 => by
    show spR K n _ (vs ++ []) H1 _ E
    rw [List.append_nil]
    exact ⟨T, G1, ss, _, s1.gh, s1.tp, x1, q.1, q.2, fun d v G' H' p s' x => r d ρ1 v G' H' p (s1.trans s') (g1.trans s'.g) (D1.mono s') x⟩
theorem pm_tup (h : Pms K tr ρ fun ss r => ∃ ds, ss = ds.map .d ∧ ds.length ≤ sizeLine ∧ Q (.tuple ds) r) : Pm K (tTuq tr) ρ Q := fun T G0 H0 G H σ s D R r =>
  h T G0 H0 G H σ s D _ fun ss ρ1 vs G1 H1 q s1 g1 D1 x1 => by
    obtain ⟨ds, rfl, hl, hq⟩ := q
    have a := dnall_of x1
    exact ⟨by rw [a.length]; exact hl, new_tup s1.gh s1.tp a fun v G' H' s' x => r _ ρ1 v G' H' hq (s1.trans s') (g1.trans s'.g) (D1.mono s') x⟩
/-- x = e -/
theorem ws_setM {i : Nat} {E : Ed} (h : Pm K te ρ fun d r => E.nx (r.set i (.d d))) : Ws K (tAsg te (gName i)) ρ E := fun T G0 H0 σ H D a e => by
  obtain ⟨G, s, D0⟩ := a
  exact h T G0 H0 G H σ s D0 _ fun d ρ' v G' H' p s' g D' x => e.nx _ _ _ p ⟨G', s', D'.set (s := .d d) (o := some v) ⟨v, rfl, x⟩ fun _ z => nomatch z⟩
theorem wq_setM {i : Nat} {E : Ed} (h : Pm K te ρ fun d r => Ws K u (r.set i (.d d)) E) : Ws K (tSeq (tAsg te (gName i)) u) ρ E := fun T G0 H0 σ H D a e => by
  obtain ⟨G, s, D0⟩ := a
  exact h T G0 H0 G H σ s D0 _ fun d ρ' v G' H' p s' g D' x => p T G0 H0 _ _ D ⟨G', s', D'.set (s := .d d) (o := some v) ⟨v, rfl, x⟩ fun _ z => nomatch z⟩ e
/-- x = a new list -/
theorem ws_setm {i : Nat} {PL : List PyData → Prop} {E : Ed} (h : Nl K te ρ PL) (k : ∀ xs, PL xs → E.nx (ρ.set i (.ml xs))) : Ws K (tAsg te (gName i)) ρ E := fun T G0 H0 σ H D a e => by
  obtain ⟨G, s, D0⟩ := a
  refine h T H0 G H σ s.gh s.tp D0 _ fun xs p vs G' H' px s' hp nt gp hl al => ?_
  have D1 := D0.mono s'
  refine e.nx _ _ _ (k xs px) ⟨G', s.trans s', set_ml (s.trans s') D1 hl al gp (s.no hp nt) nt fun j t o hj e1 e2 f => D0.live e1 e2 f hp⟩
/-- ys.append(e) -/
theorem ws_appM {i : Nat} {ys : List PyData} {E : Ed} (ei : ρ[i]? = some (.ml ys)) (h : Pm K te ρ fun d r => ∃ zs, r[i]? = some (.ml zs) ∧ zs.length < sizeLine ∧ E.nx (r.set i (.ml (zs ++ [d])))) : Ws K (tDrop (tBM K "list" rAppend (tVar i) (tCons te tNil))) ρ E := fun T G0 H0 σ H D a ed => by
  obtain ⟨G, s, D0⟩ := a
  obtain ⟨o, e1, l, vs, rfl, hl, x, gl, h0, nt⟩ := D0.at ei
  refine ⟨_, e1, .inl ⟨rfl, vs, sql_of hl⟩, h T G0 H0 G H σ s D0 _ fun d ρ' v G' H' p s' g D' y => ?_⟩
  obtain ⟨zs, ez, hz, q⟩ := p
  obtain ⟨o', e1', l', us, q1, hl', x', gl', h0', nt'⟩ := D'.at ez
  rw [e1] at e1'
  cases e1'
  cases q1
  obtain ⟨s2, D2⟩ := D'.mut s' ez e1 (x'.append (.cons y .nil))
  exact ⟨l, us, v, rfl, rfl, hl', by rw [x'.length]; exact hz, ed.nx _ _ _ q ⟨G', s2, D2⟩⟩
theorem wq_appM {i : Nat} {ys : List PyData} {E : Ed} (ei : ρ[i]? = some (.ml ys)) (h : Pm K te ρ fun d r => ∃ zs, r[i]? = some (.ml zs) ∧ zs.length < sizeLine ∧ Ws K u (r.set i (.ml (zs ++ [d]))) E) : Ws K (tSeq (tDrop (tBM K "list" rAppend (tVar i) (tCons te tNil))) u) ρ E :=
  ws_seq (fun r => ∃ d r' zs, r = r'.set i (.ml (zs ++ [d])) ∧ Ws K u r E) (ws_appM ei (h.imp fun d r ⟨zs, a, b, c⟩ => ⟨zs, a, b, d, r, zs, rfl, c⟩)) fun r ⟨d, r', zs, e, k⟩ => k
end
end PD

set_option maxHeartbeats 2000000
/-! accumulate over a tuple, walked -/
namespace Accu
open PySem PySem.Spec PyProof.Rows PySem.Builtin PySem.Builtin.Itertools
section
variable {prog : Program} {w : World} {A : Around} {E : Value → Shared → Prop} {s : Shared}
/-- one item of a tuple by its iterator, as itertools asks it -/
theorem raw_itemT {it l : Addr} {i : Nat} {xs : Array Value} {v : Value} {Q : Value → Shared → Prop} (hI : s.heap.IsTupleIter it l i) (hL : s.heap.IsTuple l xs) (hv : xs[i]? = some v)
    (k : ∀ h', h'.IsTupleIter it l (i + 1) → Heap.SameBut it s.heap h' → Q v { s with heap := h' }) : wpAny (model prog w) A (itRawNext (.ref it)) Q E s := by
  obtain ⟨oI, gI, cI, dI⟩ := id hI
  obtain ⟨oL, gL, _, nL, dL⟩ := hL
  unfold itRawNext
  refine wpAny_bind (wpAny_callSpecial?_slot (name := Str.ofString "__next__") hI.typeIs F.slot_tuple_iterator_next (wpAny_call_entry F.slot_tuple_iterator_next hI.typeIs F.entry_tuple_iterator_next ?_ (F.args_tuple_iterator_next_1 _)))
  show wpAny _ _ (field (.ref it) 0 >>= fun q => _) _ _ s
  refine wpAny_bind (wpAny_field gI dI (x := .ref l) rfl ?_)
  show wpAny _ _ (if (Value.ref l == Value.none) = true then _ else (_ : Sem PySem.Fin)) _ _ s
  rw [if_neg (show ¬ ((Value.ref l == Value.none) = true) from fun q => Bool.false_ne_true q)]
  show wpAny _ _ (field (.ref it) 1 >>= fun q => _) _ _ s
  refine wpAny_bind (wpAny_field gI dI (x := .int i 0) rfl ?_)
  show wpAny _ _ (seqItems? (.ref l) >>= fun q => _) _ _ s
  refine wpAny_bind (wpAny_seqItems gL dL ?_)
  simp only [Int.toNat_natCast, hv]
  refine wpAny_bind (wpAny_setField gI dI (by simp) (wpAny_pure ⟨v, rfl, wpAny_pure (k _ ?_ (Heap.SameBut.update ..))⟩))
  exact ⟨_, Heap.get?_update_self _ gI (Obj.isFreed_of_fields (Obj.data_mapFields dI _)), (Obj.cls_mapFields ..).trans cI, (Obj.data_mapFields dI _).trans (by simp [rawInt])⟩
theorem raw_endT {it l : Addr} {i : Nat} {xs : Array Value} {Q : Value → Shared → Prop} (hh : A.handled = none) (hI : s.heap.IsTupleIter it l i) (hL : s.heap.IsTuple l xs) (hv : xs[i]? = none)
    (k : ∀ h' e, Heap.ExtBut it s.heap h' → (∃ o, h'.get? e = some o ∧ o.cls = .type "StopIteration") → E (.ref e) { s with heap := h' }) : wpAny (model prog w) A (itRawNext (.ref it)) Q E s := by
  obtain ⟨oI, gI, cI, dI⟩ := id hI
  obtain ⟨oL, gL, _, nL, dL⟩ := hL
  unfold itRawNext
  refine wpAny_bind (wpAny_callSpecial?_slot (name := Str.ofString "__next__") hI.typeIs F.slot_tuple_iterator_next (wpAny_call_entry F.slot_tuple_iterator_next hI.typeIs F.entry_tuple_iterator_next ?_ (F.args_tuple_iterator_next_1 _)))
  show wpAny _ _ (field (.ref it) 0 >>= fun q => _) _ _ s
  refine wpAny_bind (wpAny_field gI dI (x := .ref l) rfl ?_)
  show wpAny _ _ (if (Value.ref l == Value.none) = true then _ else (_ : Sem PySem.Fin)) _ _ s
  rw [if_neg (show ¬ ((Value.ref l == Value.none) = true) from fun q => Bool.false_ne_true q)]
  show wpAny _ _ (field (.ref it) 1 >>= fun q => _) _ _ s
  refine wpAny_bind (wpAny_field gI dI (x := .int i 0) rfl ?_)
  show wpAny _ _ (seqItems? (.ref l) >>= fun q => _) _ _ s
  refine wpAny_bind (wpAny_seqItems gL dL ?_)
  simp only [Int.toNat_natCast, hv]
  refine wpAny_bind (wpAny_rule (wpAny_bind (wpAny_setField gI dI (by simp) ?_)))
  show wpAny _ _ (newExc (.type "StopIteration") [] >>= fun q => _) _ _ _
  refine wpAny_bind ?_
  simp only [newExc, newTuple]
  refine wpAny_bind (wpAny_newObj_type ?_ (by size_fits))
  refine wpAny_bind (m := firstArgMember _ _) (wpAny_of_eq (a := Value.none) (by first | rfl | (unfold firstArgMember; rfl)) ?_)
  refine wpAny_newObj_type ?_ (by size_fits)
  simp only [raiseNew]
  refine wpAny_bind (wpAny_handled ?_)
  rw [show A.in1.handled = none from hh]
  refine wpAny_bind (wpAny_pure (wpAny_throw (k _ _ (((Heap.SameBut.update ..).extBut.push _).push _) ⟨_, Heap.get?_push_size _ rfl, rfl⟩)))
theorem ac_nextT {m it l : Addr} {i : Nat} {xs : Array Value} {f : Nat → Int} {tot : Value} {Q : Value → Shared → Prop} (hf : ∀ (j : Nat) (v : Value), xs[j]? = some v → ∃ t, v = .int (f j) t)
    (hm : IsAc s.heap m it tot) (ht : Tot i f tot) (hI : s.heap.IsTupleIter it l i) (hL : s.heap.IsTuple l xs) (hi : i < xs.size) (hmi : m ≠ it) (hli : l ≠ it) (hlm : l ≠ m)
    (k : ∀ (v : Value) (s' : Shared) (tot' : Value), (∃ t, v = .int (preSum f (i + 1)) t) → IsAc s'.heap m it tot' → Tot (i + 1) f tot' → s'.heap.IsTupleIter it l (i + 1) → s'.heap.IsTuple l xs → (∀ b o, b ≠ it → b ≠ m → s.heap.get? b = some o → s'.heap.get? b = some o) →
      s'.gens = s.gens → s'.drawn = s.drawn → s'.os = s.os → s.toks ≤ s'.toks → Q v s') :
    wpAny (model prog w) A (Builtin.«itertools.accumulate.__next__» ⟨[.ref m], []⟩) (fun fin s' => ∃ v, fin = .done (.ret v) ∧ Q v s') E s := by
  obtain ⟨v, hv⟩ : ∃ v, xs[i]? = some v := ⟨xs[i], by simp [hi]⟩
  obtain ⟨tv, rfl⟩ := hf i v hv
  show wpAny _ _ (field (.ref m) 3 >>= fun q => _) _ _ s
  refine wpAny_bind (wpAny_field hm rfl (x := .none) rfl ?_)
  show wpAny _ _ (if (Value.none != Value.none) = true then _ else (_ : Sem PySem.Fin)) _ _ s
  rw [if_neg (show ¬ ((Value.none != Value.none) = true) from fun q => Bool.false_ne_true q)]
  refine wpAny_bind (wpAny_field hm rfl (x := .ref it) rfl ?_)
  refine wpAny_bind (raw_itemT hI hL hv fun h1 hI1 sb => ?_)
  have hm1 : IsAc h1 m it tot := sb.extBut _ _ hmi hm
  have hL1 : h1.IsTuple l xs := hL.extBut sb.extBut hli
  show wpAny _ _ (field (.ref m) 2 >>= fun q => _) _ _ _
  refine wpAny_bind (wpAny_field hm1 rfl (x := tot) rfl ?_)
  have fin : ∀ (nv : Value) (tk : Nat), (∃ t, nv = .int (preSum f (i + 1)) t) → s.toks ≤ tk → Q nv { s with heap := h1.update m (Obj.mapFields fun q => q.setIfInBounds 2 nv), toks := tk } := fun nv tk hn htk => by
    have hm2 : IsAc (h1.update m (Obj.mapFields fun q => q.setIfInBounds 2 nv)) m it nv := Heap.get?_update_self _ hm1 rfl
    have oth : ∀ b o, b ≠ m → h1.get? b = some o → (h1.update m (Obj.mapFields fun q => q.setIfInBounds 2 nv)).get? b = some o := fun b o hb e => (Heap.get?_update_other _ _ (Ne.symm hb)).trans e
    refine k nv _ nv hn hm2 (.inr ⟨Nat.succ_pos i, hn⟩) (hI1.at fun o e => oth it o hmi.symm e) (hL1.at fun o e => oth l o hlm e) (fun b o h1' h2' e => oth b o h2' (sb.extBut b o h1' e)) rfl rfl rfl htk
  by_cases hz : (tot == itNothing) = true
  · -- nothing so far, or a raw nought
    rw [if_pos hz]
    refine wpAny_bind (wpAny_rule ?_)
    refine wpAny_bind (wpAny_setField hm1 rfl (by simp) ?_)
    refine wpAny_pure ⟨_, rfl, fin _ s.toks ⟨tv, ?_⟩ (Nat.le_refl _)⟩
    have e : tot = itNothing := eq_of_beq hz
    rcases ht with ⟨rfl, _⟩ | ⟨_, t, et⟩
    · show Value.int (f 0) tv = Value.int (0 + f 0) tv
      rw [Int.zero_add]
    · rw [et] at e
      have e0 : preSum f i = 0 := by injection e
      show Value.int (f i) tv = Value.int (preSum f i + f i) tv
      rw [e0, Int.zero_add]
  · rw [if_neg hz]
    obtain ⟨t, rfl⟩ : ∃ t, tot = .int (preSum f i) t := by
      rcases ht with ⟨_, e⟩ | ⟨_, e⟩
      · exact absurd (by rw [e]; exact beq_self_eq_true _) hz
      · exact e
    refine wpAny_bind (wpAny_field hm1 rfl (x := .none) rfl ?_)
    refine wpAny_bind (wpAny_holding ?_)
    rw [if_pos (show (Value.none == Value.none) = true from rfl)]
    refine add_int ?_
    refine wpAny_bind (wpAny_setField hm1 rfl (by simp) ?_)
    refine wpAny_bind (wpAny_letGo ?_)
    exact wpAny_pure ⟨_, rfl, fin _ _ ⟨_, rfl⟩ (Nat.le_succ _)⟩
def AcStT (m it l : Addr) (xs : Array Value) (f : Nat → Int) (i : Nat) (s : Shared) : Prop := ∃ tot, IsAc s.heap m it tot ∧ Tot i f tot ∧ s.heap.IsTupleIter it l i ∧ s.heap.IsTuple l xs
theorem ac_itemT {m it l : Addr} {i : Nat} {xs : Array Value} {f : Nat → Int} {Q : Option Value → Shared → Prop} (hf : ∀ (j : Nat) (v : Value), xs[j]? = some v → ∃ t, v = .int (f j) t) (st : AcStT m it l xs f i s) (hi : i < xs.size) (hmi : m ≠ it) (hli : l ≠ it) (hlm : l ≠ m)
    (k : ∀ (v : Value) (s' : Shared), (∃ t, v = .int (preSum f (i + 1)) t) → AcStT m it l xs f (i + 1) s' → Moved [m, it] (fun a b => b = a) s s' → Q (some v) s') : wpAny (model prog w) A (pyNext (.ref m)) Q E s := by
  obtain ⟨tot, hm, ht, hI, hL⟩ := st
  have ty : s.TypeIs (.ref m) "itertools.accumulate" := ⟨_, hm, rfl⟩
  unfold pyNext
  refine wpAny_bind (wpAny_attempt (wpAny_callSpecial?_slot (name := Str.ofString "__next__") ty slot_ac_next (wpAny_call_entry slot_ac_next ty ent_ac_next
    (ac_nextT hf hm ht hI hL hi hmi hli hlm fun v s' tot' hv a1 a2 a3 a4 a5 g1 g2 g3 g4 => wpAny_pure (k v s' hv ⟨tot', a1, a2, a3, a4⟩ ⟨fun b o hb e => a5 b o (fun z => hb (by simp [z])) (fun z => hb (by simp [z])) e, g1, g2, g3, g4⟩)) (arg_ac_next _))))
theorem ac_endT {m it l : Addr} {xs : Array Value} {f : Nat → Int} {Q : Option Value → Shared → Prop} (hh : A.handled = none) {i : Nat} (st : AcStT m it l xs f i s) (hi : xs.size ≤ i)
    (k : ∀ s', Moved [m, it] (fun a b => b = a) s s' → Q none s') : wpAny (model prog w) A (pyNext (.ref m)) Q E s := by
  obtain ⟨tot, hm, ht, hI, hL⟩ := st
  have ty : s.TypeIs (.ref m) "itertools.accumulate" := ⟨_, hm, rfl⟩
  unfold pyNext
  refine wpAny_bind (wpAny_attempt (wpAny_callSpecial?_slot (name := Str.ofString "__next__") ty slot_ac_next (wpAny_call_entry slot_ac_next ty ent_ac_next ?_ (arg_ac_next _))))
  show wpAny _ _ (field (.ref m) 3 >>= fun q => _) _ _ s
  refine wpAny_bind (wpAny_field hm rfl (x := .none) rfl ?_)
  show wpAny _ _ (if (Value.none != Value.none) = true then _ else (_ : Sem PySem.Fin)) _ _ s
  rw [if_neg (show ¬ ((Value.none != Value.none) = true) from fun q => Bool.false_ne_true q)]
  refine wpAny_bind (wpAny_field hm rfl (x := .ref it) rfl ?_)
  refine wpAny_bind (raw_endT (by exact hh) hI hL (by simp; omega) fun h1 e hx hs => ?_)
  obtain ⟨oS, gS, cS⟩ := hs
  refine wpAny_bind (wpAny_isInstance (T := "StopIteration") (b := true) ⟨oS, gS, cS⟩ isSubtype_stop ?_)
  exact wpAny_pure (k _ ⟨fun b o hb q => hx b o (fun z => hb (by simp [z])) q, rfl, rfl, rfl, Nat.le_refl _⟩)
end
end Accu
namespace PD
open PySem PySem.Spec PyProof.Rows L2 Accu
def ItaT (K : PySem.W.Frag) (a : Addr) (ns : List Int) : It := ⟨fun i H => SqT K H a (ns.map V.int) ∧ i < ns.length, fun i H x H' => H' = H ∧ x = .int ((ns.take (i + 1)).sum), fun i H => SqT K H a (ns.map V.int) ∧ ns.length ≤ i⟩
theorem preSum_getD (ns : List Int) (i : Nat) (h : i ≤ ns.length) : preSum (fun j => ns.getD j 0) i = (ns.take i).sum := preSum_take ns i h
theorem turn_accuT {P : Program} {w : World} {K : PySem.W.Frag} {tg : Expr} {a m it : Addr} {ns : List Int} (hmi : m ≠ it) (hli : a ≠ it) (hlm : a ≠ m) :
    Turn P w K tg (ItaT K a ns) [m, it] m (fun i h => ∃ tot, IsAc h m it tot ∧ Tot i (fun j => ns.getD j 0) tot ∧ h.IsTupleIter it a i) where
  mem := by simp
  obj := fun i h st b hb => by
    obtain ⟨tot, h1, _, o, e, c, d⟩ := st
    have e' : b = m ∨ b = it := by simpa using hb
    rcases e' with q | q
    · rw [q]; exact ⟨_, h1, fun v z => nomatch z⟩
    · rw [q]; exact ⟨o, e, fun v z => by rw [d] at z; cases z⟩
  keep := fun i h h' st k => by
    obtain ⟨tot, h1, t, h2⟩ := st
    exact ⟨tot, k m (by simp) _ h1, t, h2.at fun o q => k it (by simp) o q⟩
  item := by
    intro X hP hw hK hc i pins s σ H E I hf st hg
    subst hP hw hK
    obtain ⟨hq, hi⟩ := hg
    obtain ⟨its, rv, p, _⟩ := I.tuple hq
    have hlen : its.length = ns.length := by rw [← rv.length, List.length_map]
    have hff : ∀ (j : Nat) (v : Value), its.toArray[j]? = some v → ∃ t, v = .int (ns.getD j 0) t := fun j v ej => by
      rw [List.getElem?_toArray] at ej
      obtain ⟨y, ey, ry⟩ := vals_get' rv ej
      rw [List.getElem?_map] at ey
      cases en : ns[j]? with
      | none => rw [en] at ey; cases ey
      | some n =>
        rw [en] at ey
        cases ey
        rw [List.getD_eq_getElem?_getD, en]
        exact ry
    obtain ⟨tot, h1, t, h2⟩ := st
    refine ac_itemT (f := fun j => ns.getD j 0) (xs := its.toArray) hff ⟨tot, h1, t, h2, p⟩ (by rw [List.size_toArray]; omega) hmi hli hlm fun v s' hv st' mv => ?_
    obtain ⟨u, rfl⟩ := hv
    have es := Moved.eq_with mv
    obtain ⟨tot', k1, k2, k3, _⟩ := st'
    rw [es]
    have I1 : Inv X pins σ H { s with heap := s'.heap, toks := s'.toks } := I.turnedL (ch := [m, it]) (fun b o hb e => mv.heap b o hb e) hf
    have eo : ({ s with heap := s'.heap, toks := s'.toks } : Shared).heap.get? m = _ := k1
    refine ⟨_, rfl, go_of (n := "itertools.accumulate") eo rfl rfl (by decide) ⟨.int (preSum (fun j => ns.getD j 0) (i + 1)), H, I1, ⟨u, rfl⟩, ⟨rfl, ?_⟩, ⟨tot', k1, k2, k3⟩, fun b hb => (hf b hb).1⟩⟩
    rw [preSum_getD ns (i + 1) (by omega)]
  done := by
    intro X hP hw hK hc i pins s σ H E I hf st hg
    subst hP hw hK
    obtain ⟨hq, hi⟩ := hg
    obtain ⟨its, rv, p, _⟩ := I.tuple hq
    have hlen : its.length = ns.length := by rw [← rv.length, List.length_map]
    obtain ⟨tot, h1, t, h2⟩ := st
    refine ac_endT (f := fun j => ns.getD j 0) (xs := its.toArray) (I.ok.hd hc) ⟨tot, h1, t, h2, p⟩ (by rw [List.size_toArray]; omega) fun s' mv => ?_
    have es := Moved.eq_with mv
    rw [es]
    exact ⟨rfl, I.turnedL (ch := [m, it]) (fun b o hb e => mv.heap b o hb e) hf⟩
  self := fun A i s Q E st hQ => by
    obtain ⟨tot, hm, _⟩ := st
    have ty : s.TypeIs (.ref m) "itertools.accumulate" := ⟨_, hm, rfl⟩
    refine wpAny_pyIter_slot ty slot_ac_iter (wpAny_call_entry slot_ac_iter ty ent_ac_iter ?_ (arg_ac_iter _))
    show wpAny _ _ (ret (.ref m)) _ _ s
    exact wpAny_pure ⟨_, rfl, "itertools.accumulate", _, ty, slot_ac_next.lookup, hQ⟩
def iAccuT (K : PySem.W.Frag) (ta : TA) : TI := fun σ H R => ta σ H fun vs H1 => ∃ a ns, vs = [.ref a] ∧ SqT K H1 a (ns.map V.int) ∧ R (ItaT K a ns) H1
theorem pi_accuT {X : Cx} {tg e : Expr} {ta : TA} {p pos : Pos} (hg : Gl X "accumulate") (hm : X.mg "accumulate" = some (.type "itertools.accumulate")) (ha : PA X [e] ta)
    (hs : starEach [e] X.env = (false, eval e X.env) :: starEach [] X.env := by rfl) : PI X tg (.Call (.Name "accumulate" p) [e] [] pos) (iAccuT X.K ta) := by
  refine ⟨fun pins s σ H R I h => ?_⟩
  refine Call_ (ld_glob I hg hm (PyProof.Rows.callWith_type1 (thn (ha.run pos pins s σ H _ I h) fun us s1 ⟨vs, H1, I1, r1, q1⟩ => ?_) hs rfl))
  obtain ⟨a, ns, ex, sq, q⟩ := q1
  subst ex
  cases r1 with
  | cons r rr =>
    cases rr
    cases r
    obtain ⟨its, rv, pt, _⟩ := I1.tuple sq
    obtain ⟨o1, ho1, _⟩ := id pt
    have hal : a < s1.heap.objs.size := Heap.lt_size ho1
    refine Accu.call_ac (wpAny_pyIter_tuple (show s1.heap.IsTuple a its.toArray from pt) ?_)
    have k0 : ∀ b o, s1.heap.get? b = some o → ((s1.heap.push { cls := .type "tuple_iterator", data := .fields #[.ref a, .int 0 0] }).push { cls := .type "itertools.accumulate", data := .fields #[.ref s1.heap.objs.size, .none, Builtin.Itertools.itNothing, .none] }).get? b = some o := fun b o q =>
      Heap.get?_push_of_some _ (Heap.get?_push_of_some _ q)
    have kit : (s1.heap.push { cls := .type "tuple_iterator", data := .fields #[.ref a, .int 0 0] }).get? s1.heap.objs.size = some { cls := .type "tuple_iterator", data := .fields #[.ref a, .int 0 0] } := Heap.get?_push_size _ rfl
    have sz1 : (s1.heap.push { cls := .type "tuple_iterator", data := .fields #[.ref a, .int 0 0] }).objs.size = s1.heap.objs.size + 1 := Heap.size_push ..
    have I2 : Inv X pins σ H1 { s1 with heap := (s1.heap.push { cls := .type "tuple_iterator", data := .fields #[.ref a, .int 0 0] }).push { cls := .type "itertools.accumulate", data := .fields #[.ref s1.heap.objs.size, .none, Builtin.Itertools.itNothing, .none] } } := I1.kept (t' := s1.toks) k0
    have hm : (s1.heap.push { cls := .type "tuple_iterator", data := .fields #[.ref a, .int 0 0] }).objs.size ≠ s1.heap.objs.size := by rw [sz1]; exact Nat.succ_ne_self _
    have T := turn_accuT (P := X.prog) (w := X.w) (K := X.K) (tg := tg) (ns := ns) hm (Nat.ne_of_lt hal) (show a ≠ (s1.heap.push { cls := .type "tuple_iterator", data := .fields #[.ref a, .int 0 0] }).objs.size by rw [sz1]; exact Nat.ne_of_lt (Nat.lt_succ_of_lt hal))
    have st0 : ∃ tot, IsAc ((s1.heap.push { cls := .type "tuple_iterator", data := .fields #[.ref a, .int 0 0] }).push { cls := .type "itertools.accumulate", data := .fields #[.ref s1.heap.objs.size, .none, Builtin.Itertools.itNothing, .none] }) (s1.heap.push { cls := .type "tuple_iterator", data := .fields #[.ref a, .int 0 0] }).objs.size s1.heap.objs.size tot ∧ Tot 0 (fun j => ns.getD j 0) tot ∧ ((s1.heap.push { cls := .type "tuple_iterator", data := .fields #[.ref a, .int 0 0] }).push { cls := .type "itertools.accumulate", data := .fields #[.ref s1.heap.objs.size, .none, Builtin.Itertools.itNothing, .none] }).IsTupleIter s1.heap.objs.size a 0 :=
      ⟨Builtin.Itertools.itNothing, Heap.get?_push_size _ rfl, .inl ⟨rfl, rfl⟩, ⟨_, Heap.get?_push_of_some _ kit, rfl, rfl⟩⟩
    obtain ⟨tot, z1, z2, z3⟩ := st0
    have ty : ({ s1 with heap := (s1.heap.push { cls := .type "tuple_iterator", data := .fields #[.ref a, .int 0 0] }).push { cls := .type "itertools.accumulate", data := .fields #[.ref s1.heap.objs.size, .none, Builtin.Itertools.itNothing, .none] } } : Shared).TypeIs (.ref (s1.heap.push { cls := .type "tuple_iterator", data := .fields #[.ref a, .int 0 0] }).objs.size) "itertools.accumulate" := ⟨_, z1, rfl⟩
    refine T.self _ 0 _ _ _ ⟨tot, z1, z2, z3⟩ ?_
    refine ⟨_, [(s1.heap.push { cls := .type "tuple_iterator", data := .fields #[.ref a, .int 0 0] }).objs.size, s1.heap.objs.size], _, _, H1, rfl, I2, T, ⟨tot, z1, z2, z3⟩, fun b hb => ?_, q⟩
    have e' : b = (s1.heap.push { cls := .type "tuple_iterator", data := .fields #[.ref a, .int 0 0] }).objs.size ∨ b = s1.heap.objs.size := by simpa using hb
    have hle : s1.heap.objs.size ≤ b := by
      rcases e' with z | z
      · rw [z, sz1]; exact Nat.le_succ _
      · rw [z]; exact Nat.le_refl _
    exact I1.fpOk hle (I1.hok.fresh hle)
/-! ### as data -/
theorem itd_accuT {K : PySem.W.Frag} {G : Hp} {a : Addr} {ns : List Int} (h : SqT K G a (ns.map V.int)) : Itd K (ItaT K a ns) G ((runs 0 ns).map .int) where
  go := fun i H g hi => by
    rw [List.length_map, runs_length] at hi
    exact ⟨sqt_mono g h, hi⟩
  stop := fun i H g hi => by
    rw [List.length_map, runs_length] at hi
    exact ⟨sqt_mono g h, hi⟩
  yld := fun i T G' H x H' g1 g2 tp hi y => by
    rw [List.length_map, runs_length] at hi
    obtain ⟨rfl, rfl⟩ := y
    refine ⟨G', .int ((ns.take (i + 1)).sum), ?_, Step.refl g2 tp, .int _⟩
    rw [List.getElem?_map, runs_get ns 0 i hi, Int.zero_add]
    rfl
section
variable {K : PySem.W.Frag} {ρ : Rho} {ta : TE}
theorem it_accuT {ns : List Int} (h : Pd K ta ρ (.tuple (ns.map .int))) : Pitd K (iAccuT K (tCons ta tNil)) ρ ((runs 0 ns).map .int) := fun T H0 G H σ gh tp D R q =>
  (ya_d h ya_n).bind gh tp D fun ss vs G1 H1 p s gh1 tp1 D1 ar => by
    subst p
    cases ar with
    | cons r1 ar =>
      cases ar
      cases r1 with
      | @tup a us _ pl e1 a1 =>
        have := a1.ints
        subst this
        exact ⟨a, ns, rfl, sqt_mono gh1 e1, q _ _ G1 H1 rfl s (itd_accuT e1)⟩
end
end PD

set_option maxHeartbeats 4000000
namespace PD
open PySem PySem.Spec PyProof.Rows L2
/-! ### truth of a list, membership, sorted, set -/
def tTru (K : PySem.W.Frag) (ta : TE) : TT := fun σ H Q => ta σ H fun x H' => ∃ k, TruV K x H' k ∧ Q k H'
section
variable {X : Cx} {a : Expr} {ta : TE}
theorem pt_tru (ha : PE X a ta) (he : ∀ whole, isTrue a X.env whole = (do let v ← whole; standAt a.pos; holding [v] (truthy v))) : PT X a (tTru X.K ta) := pt_truth ha he
theorem op_in_seqK {K : PySem.W.Frag} (h : X.K = K) : OpR X (compareOp .In) (rIn K false) := h ▸ op_in_seq
theorem op_notIn_seqK {K : PySem.W.Frag} (h : X.K = K) : OpR X (compareOp .NotIn) (rIn K true) := h ▸ op_notIn_seq
/-- set(t), t a tuple of ints -/
def rSetI (K : PySem.W.Frag) (w : World) : List V → Hp → VK → Prop := fun xs H Q => ∃ (p0 : Addr) (ns : List Int), xs = [V.ref p0] ∧ SqT K H p0 (ns.map V.int) ∧ ns.length ≤ 1000 ∧ ∀ p c, H p = none → c ≤ ns.length → Q (.ref p) (upd H p (SetO w p (fun j => decide (j ∈ ns)) c))
theorem cr_setI (hc : X.calm = true) : CallR X (.type "set") (rSetI X.K X.w) := by
  intro pins s σ H xs us Q I r h
  obtain ⟨p0, ns, rfl, hq, hl, q⟩ := h
  rw [Vals.ref1 r]
  obtain ⟨its, rv, pt, hz⟩ := I.tuple hq
  have hi : IntsAre its.toArray.toList ns := ints_of_vals rv
  refine call_set_tupI ns (I.ok.hd hc) (show s.heap.IsTuple p0 its.toArray from pt) hi (by unfold scanBound; omega) fun h' tk c R1 hcn k => ?_
  exact ⟨.ref _, upd H s.heap.objs.size (SetO X.w s.heap.objs.size (fun j => decide (j ∈ ns)) c), I.laid (t' := tk) k (Nat.le_refl _) (setO_new R1), rfl, q _ c (I.hok.fresh (Nat.le_refl _)) hcn⟩
end
section
variable {K : PySem.W.Frag} {ρ : Rho} {ta tb : TE} {P : PyData → Prop}
theorem yt_truR {xs : List PyData} (h : Rl K ta ρ (fun x => x = xs)) : Ptd K (tTru K ta) ρ (!xs.isEmpty) := fun T H0 G H σ gh tp D Q q =>
  h.bind gh tp D fun ys p vs G1 H1 e s gh1 tp1 D1 rd a => by
    subst e
    refine ⟨!ys.isEmpty, .inl ⟨vs, rd.sq gh1, ?_⟩, q _ G1 H1 rfl s⟩
    cases a <;> rfl
theorem yt_truT {xs : List PyData} (h : Pd K ta ρ (.tuple xs)) : Ptd K (tTru K ta) ρ (!xs.isEmpty) := fun T H0 G H σ gh tp D Q q =>
  h.bind gh tp D fun y v G1 H1 e s gh1 tp1 D1 a => by
    subst e
    cases a with
    | @tup p vs _ pl e1 a1 =>
      refine ⟨!xs.isEmpty, .inr (.inl ⟨vs, sqt_mono gh1 e1, ?_⟩), q _ G1 H1 rfl s⟩
      cases a1 <;> rfl
theorem inV_ints (x : Int) : ∀ ns : List Int, inV (.int x) (ns.map V.int) = decide (x ∈ ns)
  | [] => rfl
  | n :: ns => by
    show (eqV (.int n) (.int x) || inV (.int x) (ns.map V.int)) = _
    rw [inV_ints x ns]
    show ((n == x) || decide (x ∈ ns)) = decide (x ∈ n :: ns)
    by_cases h : x = n
    · subst h
      simp
    · simp [h, Ne.symm h]
theorem flat_ints (ns : List Int) : (ns.map V.int).all flatV = true := by
  rw [List.all_eq_true]
  intro v hv
  obtain ⟨n, _, rfl⟩ := List.mem_map.mp hv
  rfl
theorem yd_inR {neg : Bool} {x : Int} {ns : List Int} (ha : Pd K ta ρ (.int x)) (hb : Rl K tb ρ (fun y => y = ns.map .int)) : Pd K (tOp (rIn K neg) ta tb) ρ (.bool (if neg then !decide (x ∈ ns) else decide (x ∈ ns))) := fun T H0 G H σ gh tp D Q q =>
  ha.bind gh tp D fun y v G1 H1 p1 s1 gh1 tp1 D1 x1 => hb.bind gh1 tp1 D1 fun ys p vs G2 H2 e s2 gh2 tp2 D2 rd a => by
    subst p1 e
    cases x1
    have := a.ints
    subst this
    refine ⟨p, _, rfl, .inl (rd.sq gh2), rfl, flat_ints ns, ?_⟩
    rw [inV_ints]
    exact q _ _ G2 H2 rfl (s1.trans s2) (.bl _)
theorem yd_inT {neg : Bool} {x : Int} {ns : List Int} (ha : Pd K ta ρ (.int x)) (hb : Pd K tb ρ (.tuple (ns.map .int))) : Pd K (tOp (rIn K neg) ta tb) ρ (.bool (if neg then !decide (x ∈ ns) else decide (x ∈ ns))) := fun T H0 G H σ gh tp D Q q =>
  ha.bind gh tp D fun y v G1 H1 p1 s1 gh1 tp1 D1 x1 => hb.bind gh1 tp1 D1 fun y2 u G2 H2 e s2 gh2 tp2 D2 x2 => by
    subst p1 e
    cases x1
    cases x2 with
    | @tup p vs _ pl e1 a1 =>
      have := a1.ints
      subst this
      refine ⟨p, _, rfl, .inr (sqt_mono gh2 e1), rfl, flat_ints ns, ?_⟩
      rw [inV_ints]
      exact q _ _ G2 H2 rfl (s1.trans s2) (.bl _)
/-- sorted(xs), ints -/
theorem nl_sorted {ns : List Int} (ha : Rl K ta ρ (fun x => x = ns.map .int)) : Nl K (tCB (rSortedI K) (tCons ta tNil)) ρ (fun ys => ∃ ns' : List Int, ys = ns'.map .int ∧ ns'.Perm ns ∧ ns'.Pairwise (· ≤ ·)) := fun T H0 G H σ gh tp D Q q =>
  ha.bind gh tp D fun xs p vs G1 H1 e s1 gh1 tp1 D1 rd a => by
    subst e
    have := a.ints
    subst this
    refine ⟨p, ns, rfl, rd.sq gh1, fun ns' p' hp hs hn => ?_⟩
    exact q (ns'.map .int) p' (ns'.map V.int) G1 _ ⟨ns', rfl, hp, hs⟩ (s1.trans (Step.newM gh1 tp1 hn)) (s1.no hn (tape_some tp1 hn)) (tape_some tp1 hn) (gh1.free hn) upd_same (DnAll.of_ints ns')
/-- sorted(set(t)) -/
theorem nl_sortedSet {w : World} {ns : List Int} (ha : Pd K ta ρ (.tuple (ns.map .int))) (hl : ns.length < 64) : Nl K (tCB (rSortedSet w) (tCons (tCB (rSetI K w) (tCons ta tNil)) tNil)) ρ (fun ys => ∃ ns' : List Int, ys = ns'.map .int ∧ ns'.Pairwise (· < ·) ∧ ∀ k, k ∈ ns' ↔ k ∈ ns) := fun T H0 G H σ gh tp D Q q =>
  ha.bind gh tp D fun y v G1 H1 e s1 gh1 tp1 D1 x => by
    subst e
    cases x with
    | @tup p vs _ pl e1 a1 =>
      have := a1.ints
      subst this
      refine ⟨p, ns, rfl, sqt_mono gh1 e1, by omega, fun p1 c hn hc => ?_⟩
      have s2 := Step.newM (o := SetO w p1 (fun j => decide (j ∈ ns)) c) gh1 tp1 hn
      refine ⟨p1, _, c, rfl, upd_same, by omega, fun ns' p2 hs hm hlen hn2 => ?_⟩
      have nt2 := tape_some s2.tp hn2
      exact q (ns'.map .int) p2 (ns'.map V.int) G1 _ ⟨ns', rfl, hs, fun k => (hm k).trans decide_eq_true_iff⟩ ((s1.trans s2).trans (Step.newM s2.gh s2.tp hn2)) ((s1.trans s2).no hn2 nt2) nt2 (s2.gh.free hn2) upd_same (DnAll.of_ints ns')
end
end PD
namespace PD
open PySem PySem.Spec PyProof.Rows L2
/-! ### comprehensions of two clauses -/
/-- a step but for one object -/
structure StepX (D : Addr) (T : Addr → Prop) (G H G' H' : Hp) : Prop where
  g : Same G G'
  h : ∀ p o, ¬ T p → p ≠ D → H p = some o → H' p = some o
  fr : ∀ p, p ≠ D → G p = none → H p ≠ none → G' p = none
theorem StepX.refl {D : Addr} {T : Addr → Prop} {G H : Hp} : StepX D T G H G H := ⟨Same.refl _, fun _ _ _ _ e => e, fun _ _ e _ => e⟩
theorem StepX.step {D : Addr} {T : Addr → Prop} {G H G1 H1 G2 H2 : Hp} (a : StepX D T G H G1 H1) (s : Step T G1 H1 G2 H2) : StepX D T G H G2 H2 where
  g := a.g.trans s.g
  h := fun p o nt ne e => s.h p o nt (a.h p o nt ne e)
  fr := fun p ne e n => by
    by_cases t : T p
    · obtain ⟨b, ns, x, y, m, _, _, ea, _⟩ := s.tp p t
      exact ea
    · refine s.fr p (a.fr p ne e n) fun z => ?_
      cases q : H p with
      | none => exact n q
      | some o =>
        rw [a.h p o t ne q] at z
        cases z
theorem StepX.upd {D : Addr} {T : Addr → Prop} {G H G1 H1 : Hp} {o : HO} (a : StepX D T G H G1 H1) : StepX D T G H G1 (L2.upd H1 D o) := ⟨a.g, fun p u nt ne e => by rw [upd_ne ne]; exact a.h p u nt ne e, a.fr⟩
theorem Den.skip {D : Addr} {T : Addr → Prop} {K : PySem.W.Frag} {H0 G H G' H' : Hp} {σ : L2.St} {ρ : Rho} (h : Den T K H0 G H σ ρ) (hD : H0 D ≠ none) (s : StepX D T G H G' H') : Den T K H0 G' H' σ ρ := by
  refine ⟨h.len, fun i x o e1 e2 => ?_, h.one⟩
  have old := h.ok i x o e1 e2
  cases x with
  | no => trivial
  | d x => exact let ⟨v, e, d⟩ := old; ⟨v, e, d.mono s.g⟩
  | tp => exact old
  | rf a => exact old
  | rg lo hi => exact let ⟨a, e, g⟩ := old; ⟨a, e, s.g _ _ g⟩
  | mx w =>
    have at' : ∀ a, a ∈ w.fp → H' a = H a := fun a ha => by
      obtain ⟨hl, gl, h0, nt⟩ := old.2 a ha
      have ne : a ≠ D := fun z => hD (z ▸ h0)
      cases q : H a with
      | none => exact absurd q hl
      | some u => exact s.h a u nt ne q
    exact ⟨w.frame s.g at' old.1, fun a ha => by
      obtain ⟨hl, gl, h0, nt⟩ := old.2 a ha
      have ne : a ≠ D := fun z => hD (z ▸ h0)
      exact ⟨by rw [at' a ha]; exact hl, s.fr a ne gl hl, h0, nt⟩⟩
  | ml xs =>
    obtain ⟨l, vs, e, hl, d, gl, h0, nt⟩ := old
    have ne : l ≠ D := fun z => hD (z ▸ h0)
    exact ⟨l, vs, e, s.h l _ nt ne hl, d.mono s.g, s.fr l ne gl (by rw [hl]; intro z; cases z), h0, nt⟩
/-- one address more is taken -/
theorem Den.taken {D : Addr} {T : Addr → Prop} {K : PySem.W.Frag} {H0 G H : Hp} {σ : L2.St} {ρ : Rho} {o : HO} (h : Den T K H0 G H σ ρ) (hD : H D = none) : Den T K (upd H0 D o) G H σ ρ := by
  refine ⟨h.len, fun i x u e1 e2 => ?_, h.one⟩
  have old := h.ok i x u e1 e2
  cases x with
  | no => trivial
  | d x => exact old
  | tp => exact old
  | rf a => exact old
  | rg lo hi => exact old
  | mx w => exact ⟨old.1, fun a ha => by
      obtain ⟨hl, gl, h0, nt⟩ := old.2 a ha
      exact ⟨hl, gl, by rw [upd_ne (fun z => hl (by rw [z]; exact hD))]; exact h0, nt⟩⟩
  | ml xs =>
    obtain ⟨l, vs, e, hl, d, gl, h0, nt⟩ := old
    exact ⟨l, vs, e, hl, d, gl, by rw [upd_ne (ne_of_none hl hD)]; exact h0, nt⟩
theorem flat_len {F inner : PyData → List PyData} (h : ∀ x, (F x).length ≤ (inner x).length) : ∀ xs : List PyData, (xs.flatMap F).length ≤ (xs.flatMap inner).length
  | [] => Nat.le_refl _
  | x :: xs => by
    rw [List.flatMap_cons, List.flatMap_cons, List.length_append, List.length_append]
    have := h x
    have := flat_len h xs
    omega
theorem flat_take {inner : PyData → List PyData} {xs : List PyData} {i : Nat} {d : PyData} (e : xs[i]? = some d) : ((xs.take i).flatMap inner).length + (inner d).length ≤ (xs.flatMap inner).length := by
  have hi := (List.getElem?_eq_some_iff.mp e).1
  have q : xs.flatMap inner = (xs.take (i + 1)).flatMap inner ++ (xs.drop (i + 1)).flatMap inner := by rw [← List.flatMap_append, List.take_append_drop]
  rw [q, List.take_add_one, e, List.flatMap_append, List.length_append, List.length_append]
  simp
theorem wipe_twice {σ σ' : L2.St} {vs sl : List Nat} (hsl : ∀ i ∈ sl, i ∈ vs) (hl : σ'.length = (L2.wipe σ vs).length) (hf : ∀ i, i ∉ sl → σ'[i]? = (L2.wipe σ vs)[i]?) : L2.wipe σ' vs = L2.wipe σ vs := by
  refine (wipe_eq hl fun j hj => hf j fun z => hj (hsl j z)).trans ?_
  refine wipe_eq (wipe_length σ vs) fun j hj => ?_
  rw [wipe_at, if_neg (fun z => hj z.1)]
theorem tYes_go {σ : L2.St} {H : Hp} {A B : Hp → Prop} (h : A H) : tYes σ H (fun b H3 => if b = true then A H3 else B H3) := by
  show (if true = true then A H else B H)
  rw [if_pos rfl]
  exact h
section
variable {K : PySem.W.Frag} {ρ : Rho} {te : TE}
theorem nd_lc2k {wi wi1 : TI} {g g1 : TG} {tt1 : TT} {vs vs1 sl sl1 : List Nat} {xs : List PyData} (inner : PyData → List PyData) (keep : PyData → PyData → Bool) (f : PyData → PyData → PyData) (hi : Pitd K wi ρ xs) (hsl : ∀ i ∈ sl, i ∈ vs) (hsl1 : ∀ i ∈ sl1, i ∈ vs1)
    (hz : (xs.flatMap inner).length ≤ sizeLine)
    (hb : ∀ x, x ∈ xs → ∃ r', Pg K g sl x (wipeR ρ vs) r' ∧ Pitd K wi1 r' (inner x) ∧ ∀ y, y ∈ inner x → ∃ r2, Pg K g1 sl1 y (wipeR r' vs1) r2 ∧ Ptd K tt1 r2 (keep x y) ∧ (keep x y = true → Pd K te r2 (f x y))) :
    Nld K (tLc2 wi g tYes wi1 g1 tt1 te vs vs1) ρ (xs.flatMap fun x => ((inner x).filter (keep x)).map (f x)) := fun T H0 G H σ gh tp D Q q => by
  have flen : ∀ x, (((inner x).filter (keep x)).map (f x)).length ≤ (inner x).length := fun x => by rw [List.length_map]; exact List.length_filter_le ..
  refine hi T H0 G H σ gh tp D _ fun xs' J G1 H1 hx s1 it Dl hD => ?_
  subst hx
  have nt : ¬ T Dl := tape_some s1.tp hD
  have gd : G1 Dl = none := s1.gh.free hD
  have hD0 : (upd H0 Dl (.lst [])) Dl ≠ none := by rw [upd_same]; intro z; cases z
  have Dn1 := ((D.mono s1).taken (o := .lst []) hD).wipe vs
  refine ⟨fun i m H => m = xs'.length - i ∧ i ≤ xs'.length ∧ ∃ G acc, Step T G1 H1 G H ∧ H Dl = some (.lst acc) ∧ G Dl = none ∧ DnAll K G acc ((xs'.take i).flatMap fun x => ((inner x).filter (keep x)).map (f x)),
    ⟨xs'.length, by simp, Nat.zero_le _, G1, [], Step.newM s1.gh s1.tp hD, upd_same, gd, .nil⟩, ?_⟩
  rintro i m H2 ⟨rfl, hil, G2, acc, s2, hacc, g2d, da⟩
  have g2 : Same G1 H2 := s2.g.trans s2.gh
  by_cases hlt : i < xs'.length
  · refine .inr ⟨it.go i H2 g2 hlt, fun H' => ∃ G acc, Step T G1 H1 G H' ∧ H' Dl = some (.lst acc) ∧ G Dl = none ∧ DnAll K G acc ((xs'.take (i + 1)).flatMap fun x => ((inner x).filter (keep x)).map (f x)), fun H' p => ⟨xs'.length - (i + 1), by omega, rfl, hlt, p⟩, fun x H' y => ?_⟩
    obtain ⟨G3, d, ed, s3, dx⟩ := it.yld i T G2 H2 x H' s2.g s2.gh s2.tp hlt y
    obtain ⟨r', hg, hi1, he⟩ := hb d (List.mem_of_getElem? ed)
    have s13 := s2.trans s3
    have hD2 : H2 Dl ≠ none := by rw [hacc]; intro z; cases z
    refine hg T (upd H0 Dl (.lst [])) G3 H' _ x s3.gh (Dn1.mono s13) dx _ fun σ2 D' hl hf => ⟨wipe_twice hsl hl hf, ?_⟩
    refine tYes_go ?_
    refine hi1 T _ G3 H' σ2 s3.gh s3.tp D' _ fun ys J1 G4 H4 hys s4 it1 => ?_
    subst hys
    have s14 := s13.trans s4
    have a4 : H4 Dl = some (.lst acc) := s4.h _ _ nt (s3.h _ _ nt hacc)
    have g4d : G4 Dl = none := s4.fr _ (s3.fr _ g2d hD2) (s3.so hD2)
    have da4 := (da.mono s3.g).mono s4.g
    have D4 := D'.mono s4
    refine ⟨fun j k H => k = (inner d).length - j ∧ j ≤ (inner d).length ∧ ∃ G acc, Step T G1 H1 G H ∧ StepX Dl T G4 H4 G H ∧ H Dl = some (.lst acc) ∧ G Dl = none ∧ DnAll K G acc ((xs'.take i).flatMap (fun x => ((inner x).filter (keep x)).map (f x)) ++ (((inner d).take j).filter (keep d)).map (f d)),
      ⟨(inner d).length, by simp, Nat.zero_le _, G4, acc, s14, .refl, a4, g4d, by simpa using da4⟩, ?_⟩
    rintro j k H5 ⟨rfl, hjl, G5, acc5, s15, x45, a5, g5d, da5⟩
    have g45 : Same G4 H5 := x45.g.trans s15.gh
    have Dw := (D4.skip hD0 x45).wipe vs1
    by_cases hlt1 : j < (inner d).length
    · refine .inr ⟨it1.go j H5 g45 hlt1, fun H => ∃ G acc, Step T G1 H1 G H ∧ StepX Dl T G4 H4 G H ∧ H Dl = some (.lst acc) ∧ G Dl = none ∧ DnAll K G acc ((xs'.take i).flatMap (fun x => ((inner x).filter (keep x)).map (f x)) ++ (((inner d).take (j + 1)).filter (keep d)).map (f d)), fun H' p => ⟨(inner d).length - (j + 1), by omega, rfl, hlt1, p⟩, fun z H6 y1 => ?_⟩
      obtain ⟨G6, e, ee, s6, dz⟩ := it1.yld j T G5 H5 z H6 x45.g s15.gh s15.tp hlt1 y1
      obtain ⟨r2, hg1, ht1, he1⟩ := he e (List.mem_of_getElem? ee)
      have hD5 : H5 Dl ≠ none := by rw [a5]; intro z; cases z
      have s16 := s15.trans s6
      refine hg1 T _ G6 H6 _ z s6.gh (Dw.mono s6) dz _ fun σ3 D6 hl1 hf1 => ⟨wipe_twice hsl1 hl1 hf1, ?_⟩
      refine ht1 T _ G6 H6 σ3 s6.gh s6.tp D6 _ fun b G7 H7 pb s7 => ?_
      subst pb
      have s17 := s16.trans s7
      have x47 := (x45.step s6).step s7
      have a7 : H7 Dl = some (.lst acc5) := s7.h _ _ nt (s6.h _ _ nt a5)
      have g7d : G7 Dl = none := s7.fr _ (s6.fr _ g5d hD5) (s6.so hD5)
      have da7 := (da5.mono s6.g).mono s7.g
      have et : (((inner d).take (j + 1)).filter (keep d)).map (f d) = (((inner d).take j).filter (keep d)).map (f d) ++ (if keep d e = true then [f d e] else []) := by
        rw [List.take_add_one, ee, List.filter_append, List.map_append]
        congr 1
        show (List.filter (keep d) [e]).map (f d) = _
        cases hk : keep d e with
        | true => simp [hk]
        | false => simp [hk]
      cases hk : keep d e with
      | true =>
        rw [hk] at et
        rw [if_pos rfl] at et
        rw [if_pos rfl]
        have D7 := D6.mono s7
        refine (he1 hk).bind s7.gh s7.tp D7 fun w v G8 H8 p8 s8 gh8 tp8 D8 x8 => ?_
        subst p8
        have a8 : H8 Dl = some (.lst acc5) := s8.h _ _ nt a7
        have g8d : G8 Dl = none := s8.fr _ g7d (by rw [a7]; intro z; cases z)
        have s18 := s17.trans s8
        refine ⟨acc5, a8, ?_, G8, acc5 ++ [v], ?_, (x47.step s8).upd, upd_same, g8d, ?_⟩
        · have l5 := da5.length
          rw [List.length_append, List.length_map] at l5
          have f1 := flat_len flen (xs'.take i)
          have f2 := flat_take (inner := inner) ed
          have f3 := List.length_filter_le (keep d) ((inner d).take j)
          rw [List.length_take] at f3
          omega
        · refine ⟨s18.g, fun c u e => ?_, fun p o np ep => ?_, s18.fr, fun a t => ?_⟩
          · rw [upd_ne (ne_of_none e g8d)]
            exact gh8 _ _ e
          · rw [upd_ne (ne_of_none ep hD)]
            exact s18.h p o np ep
          · have z := tp8 a t
            obtain ⟨b, ns, x, y, m, e, eb, ea, r⟩ := id z
            exact z.mono (Same.refl _) (upd_ne (fun w => nt (w ▸ t))) ea
        · rw [et, ← List.append_assoc]
          exact (da7.mono s8.g).append (.cons x8 .nil)
      | false =>
        rw [hk] at et
        rw [if_neg Bool.false_ne_true, List.append_nil] at et
        rw [if_neg Bool.false_ne_true]
        refine ⟨G7, acc5, s17, x47, a7, g7d, ?_⟩
        rw [et]
        exact da7
    · have e1 : j = (inner d).length := by omega
      subst e1
      rw [List.take_of_length_le (Nat.le_refl _)] at da5
      refine .inl ⟨it1.stop _ H5 g45 (Nat.le_refl _), G5, acc5, s15, a5, g5d, ?_⟩
      rw [List.take_add_one, ed, List.flatMap_append]
      simpa using da5
  · have e1 : i = xs'.length := by omega
    subst e1
    rw [List.take_of_length_le (Nat.le_refl _)] at da
    refine .inl ⟨it.stop _ H2 g2 (Nat.le_refl _), q _ Dl acc G2 H2 rfl (s1.trans s2) ?_ nt g2d hacc da⟩
    exact s1.no hD nt
theorem nd_lc2 {wi wi1 : TI} {g g1 : TG} {vs vs1 sl sl1 : List Nat} {xs : List PyData} (inner : PyData → List PyData) (f : PyData → PyData → PyData) (hi : Pitd K wi ρ xs) (hsl : ∀ i ∈ sl, i ∈ vs) (hsl1 : ∀ i ∈ sl1, i ∈ vs1)
    (hz : (xs.flatMap inner).length ≤ sizeLine)
    (hb : ∀ x, x ∈ xs → ∃ r', Pg K g sl x (wipeR ρ vs) r' ∧ Pitd K wi1 r' (inner x) ∧ ∀ y, y ∈ inner x → ∃ r2, Pg K g1 sl1 y (wipeR r' vs1) r2 ∧ Pd K te r2 (f x y)) :
    Nld K (tLc2 wi g tYes wi1 g1 tYes te vs vs1) ρ (xs.flatMap fun x => (inner x).map (f x)) := by
  have h := nd_lc2k inner (fun _ _ => true) f hi hsl hsl1 hz fun x hx => let ⟨r', a, b, c⟩ := hb x hx; ⟨r', a, b, fun y hy => let ⟨r2, a2, b2⟩ := c y hy; ⟨r2, a2, yt_yes, fun _ => b2⟩⟩
  have e : (xs.flatMap fun x => ((inner x).filter fun _ => true).map (f x)) = xs.flatMap fun x => (inner x).map (f x) := by
    congr 1
    funext x
    rw [filter_all]
  rw [e] at h
  exact h
end
end PD
namespace PD
open PySem PySem.Spec PyProof.Rows L2
theorem nl_slR {K : PySem.W.Frag} {ρ : Rho} {ta : TE} {PL PM : List PyData → Prop} {tl th : TO} {lo hi : Option Int} (ha : Rl K ta ρ PL) (hl : Pod K tl ρ lo) (hh : Pod K th ρ hi) (h : ∀ xs, PL xs → PM (cut xs lo hi)) : Nl K (tSl (rSlX K) ta tl th) ρ PM := fun T H0 G H σ gh tp D Q q =>
  ha.bind gh tp D fun x p vs G1 H1 p1 s1 gh1 tp1 D1 rd a1 => hl.bind gh1 tp1 D1 fun o1 G2 H2 p2 s2 gh2 tp2 D2 => hh.bind gh2 tp2 D2 fun o2 G3 H3 p3 s3 gh3 tp3 D3 => by
    subst p2 p3
    have s := (s1.trans s2).trans s3
    exact .inl ⟨p, vs, rfl, ((rd.mono s2).mono s3).sq gh3, new_end gh3 tp3 (((a1.mono s2.g).mono s3.g).cut o1 o2) fun p G' H' s' hp nt gp e a' => q _ p _ G' H' (h x p1) (s.trans s') (s.no hp nt) nt gp e a'⟩
end PD

set_option maxHeartbeats 4000000
/-! zip of any number of lists and tuples -/
namespace ZN
open PySem PySem.Spec PyProof.Rows PySem.Builtin
section
variable {prog : Program} {w : World} {A : Around} {E : Value → Shared → Prop} {s : Shared}
abbrev IsZr (h : Heap) (z TI TO : Addr) (v : Value) (f : Bool) : Prop :=
  h.get? z = some { cls := .type "zip", dict := none, data := .fields #[v, .bool f, .bool false, .ref TI, .ref TO], slots := #[] }
abbrev IsTu (h : Heap) (T : Addr) (xs : Array Value) : Prop := h.get? T = some { cls := .type "tuple", data := .seq xs }
/-- kd tells which of the sources are tuples -/
def IsIt (kd : Addr → Bool) (h : Heap) (a l : Addr) (i : Nat) : Prop := if kd l = true then h.IsTupleIter a l i else h.IsListIter a l i
def IsSq (kd : Addr → Bool) (h : Heap) (l : Addr) (xs : Array Value) : Prop := if kd l = true then h.IsTuple l xs else h.IsList l xs
theorem IsIt.extBut {kd : Addr → Bool} {h h' : Heap} {a b l : Addr} {i : Nat} (x : IsIt kd h a l i) (hs : Heap.ExtBut b h h') (hab : a ≠ b) : IsIt kd h' a l i := by
  unfold IsIt at x ⊢
  split
  · rename_i q; rw [if_pos q] at x; exact x.extBut hs hab
  · rename_i q; rw [if_neg q] at x; exact x.extBut hs hab
theorem IsIt.at {kd : Addr → Bool} {h h' : Heap} {a l : Addr} {i : Nat} (x : IsIt kd h a l i) (e : ∀ o, h.get? a = some o → h'.get? a = some o) : IsIt kd h' a l i := by
  unfold IsIt at x ⊢
  split
  · rename_i q; rw [if_pos q] at x; exact x.at e
  · rename_i q; rw [if_neg q] at x; exact x.at e
theorem IsIt.obj {kd : Addr → Bool} {h : Heap} {a l : Addr} {i : Nat} (x : IsIt kd h a l i) : ∃ o, h.get? a = some o ∧ ∃ vs, o.data = .fields vs := by
  unfold IsIt at x
  split at x
  · obtain ⟨o, e, _, d⟩ := x; exact ⟨o, e, _, d⟩
  · obtain ⟨o, e, _, d⟩ := x; exact ⟨o, e, _, d⟩
theorem IsSq.at {kd : Addr → Bool} {h h' : Heap} {l : Addr} {xs : Array Value} (x : IsSq kd h l xs) (e : ∀ o, h.get? l = some o → h'.get? l = some o) : IsSq kd h' l xs := by
  unfold IsSq at x ⊢
  split
  · rename_i q; rw [if_pos q] at x; exact x.at e
  · rename_i q; rw [if_neg q] at x; exact x.at e
theorem IsSq.extBut {kd : Addr → Bool} {h h' : Heap} {l b : Addr} {xs : Array Value} (x : IsSq kd h l xs) (hs : Heap.ExtBut b h h') (hab : l ≠ b) : IsSq kd h' l xs := by
  unfold IsSq at x ⊢
  split
  · rename_i q; rw [if_pos q] at x; exact x.extBut hs hab
  · rename_i q; rw [if_neg q] at x; exact x.extBut hs hab
theorem IsSq.obj {kd : Addr → Bool} {h : Heap} {l : Addr} {xs : Array Value} (x : IsSq kd h l xs) : ∃ o, h.get? l = some o := by
  unfold IsSq at x
  split at x
  · obtain ⟨o, e, _⟩ := x; exact ⟨o, e⟩
  · obtain ⟨o, e, _⟩ := x; exact ⟨o, e⟩
theorem nextOf_item {kd : Addr → Bool} {it l : Addr} {i : Nat} {items : Array Value} {x : Value} {Q : Value → Shared → Prop} (hit : IsIt kd s.heap it l i) (hl : IsSq kd s.heap l items) (hx : items[i]? = some x)
    (hQ : ∀ h', IsIt kd h' it l (i + 1) → Heap.SameBut it s.heap h' → Q x { s with heap := h' }) : wpAny (model prog w) A (Builtin.SmallTypes.nextOf (.ref it)) Q E s := by
  unfold IsIt at hit hQ
  unfold IsSq at hl
  by_cases q : kd l = true
  · rw [if_pos q] at hit hl
    exact wpAny_nextOf_tuple_item hit hl hx fun h' a b => hQ h' (by rw [if_pos q]; exact a) b
  · rw [if_neg q] at hit hl
    exact wpAny_nextOf_list_item hit hl hx fun h' a b => hQ h' (by rw [if_neg q]; exact a) b
theorem nextOf_end {kd : Addr → Bool} {it l : Addr} {i : Nat} {items : Array Value} {Q : Value → Shared → Prop} (hh : A.handled = none) (hit : IsIt kd s.heap it l i) (hl : IsSq kd s.heap l items) (hx : items[i]? = none)
    (hE : ∀ h' e, Heap.ExtBut it s.heap h' → (∃ o, h'.get? e = some o ∧ o.cls = .type "StopIteration") → E (.ref e) { s with heap := h' }) : wpAny (model prog w) A (Builtin.SmallTypes.nextOf (.ref it)) Q E s := by
  unfold IsIt at hit
  unfold IsSq at hl
  by_cases q : kd l = true
  · rw [if_pos q] at hit hl
    exact wpAny_nextOf_tuple_end hh hit hl hx hE
  · rw [if_neg q] at hit hl
    exact wpAny_nextOf_list_end hh hit hl hx hE
theorem iter_sq {kd : Addr → Bool} {l : Addr} {xs : Array Value} {Q : Value → Shared → Prop} (hl : IsSq kd s.heap l xs)
    (hQ : ∀ o, (∃ vs, o.data = .fields vs) → (∀ h : Heap, h.get? s.heap.objs.size = some o → IsIt kd h s.heap.objs.size l 0) → (s.heap.push o).get? s.heap.objs.size = some o → Q (.ref s.heap.objs.size) { s with heap := s.heap.push o }) : wpAny (model prog w) A (pyIter (.ref l)) Q E s := by
  unfold IsSq at hl
  unfold IsIt at hQ
  by_cases q : kd l = true
  · rw [if_pos q] at hl
    exact wpAny_pyIter_tuple hl (hQ _ ⟨_, rfl⟩ (fun h e => by rw [if_pos q]; exact ⟨_, e, rfl, rfl⟩) (Heap.get?_push_size _ rfl))
  · rw [if_neg q] at hl
    exact wpAny_pyIter_list hl (hQ _ ⟨_, rfl⟩ (fun h e => by rw [if_neg q]; exact ⟨_, e, rfl, rfl⟩) (Heap.get?_push_size _ rfl))
def VOk (v : Value) : Prop := v = .none ∨ ∃ T : Addr, v = rawInt T
theorem loop_gen {M : Model} {α β : Type} {body : α → β → Sem (ForInStep β)} (I : List α → β → Shared → Prop) {Q : β → Shared → Prop}
    (step : ∀ it rest b s, I (it :: rest) b s → wpAny M A (body it b) (fun r s' => ∃ b', r = .yield b' ∧ I rest b' s') E s) (fin : ∀ b s, I [] b s → Q b s) :
    ∀ (L : List α) (b : β) (s : Shared), I L b s → wpAny M A (forIn L b body) Q E s
  | [], b, s, h => by
    rw [List.forIn_nil]
    exact wpAny_pure (fin b s h)
  | it :: L, b, s, h => by
    rw [List.forIn_cons]
    refine wpAny_bind (wpAny_mono (step it L b s h) (fun r s' ⟨b', e, h'⟩ => ?_) fun _ _ z => z)
    subst e
    exact loop_gen I step fin L b' s' h'
theorem alive_any {a : Addr} {Q : Option Obj → Shared → Prop} (h : Q (s.heap.get? a) s) : wpAny (model prog w) A (loadIfAlive a) Q E s := fun _ _ _ => h
theorem free_or_held {z TI TO : Addr} {v : Value} {f : Bool} {Q : Bool → Shared → Prop} (hz : IsZr s.heap z TI TO v f) (hv : VOk v) (hfree : Q true s)
    (hheld : ∀ h', IsZr h' z TI TO v true → Heap.SameBut z s.heap h' → Q false { s with heap := h' }) : wpAny (model prog w) A (Builtin.SmallTypes.ownedTupleIsFree (.ref z)) Q E s := by
  unfold Builtin.SmallTypes.ownedTupleIsFree
  refine wpAny_bind (wpAny_field hz rfl (x := v) rfl ?_)
  rcases hv with rfl | ⟨T, rfl⟩
  · exact wpAny_pure hfree
  · show wpAny _ _ (loadIfAlive ((T : Int).toNat) >>= _) _ _ _
    rw [Int.toNat_natCast]
    refine wpAny_bind (alive_any ?_)
    cases hT : s.heap.get? T with
    | none =>
      simp only [Option.isNone_none, if_true]
      exact wpAny_pure hfree
    | some oT =>
      simp only [Option.isNone_some, Bool.false_eq_true, if_false]
      refine wpAny_bind (wpAny_field hz rfl (x := .bool f) rfl ?_)
      cases f with
      | true =>
        rw [if_neg (show ¬ ((Value.bool true != Value.bool true) = true) from Bool.false_ne_true)]
        exact wpAny_pure (hheld s.heap hz (Heap.SameBut.refl _ _))
      | false =>
        rw [if_pos (show (Value.bool false != Value.bool true) = true from rfl)]
        exact wpAny_bind (wpAny_setField_rec hz (by simp) fun h₁ hz₁ hs₁ => wpAny_pure (hheld h₁ hz₁ hs₁))
theorem let_any {tg : Expr} {z TI TO T : Addr} {v : Value} {f : Bool} {Q : Unit → Shared → Prop} (hz : IsZr s.heap z TI TO v f) (h0 : Q () s) (h1 : ∀ h', IsZr h' z TI TO .none f → Heap.SameBut z s.heap h' → Q () { s with heap := h' }) :
    wpAny (model prog w) A (letOwnedTupleGo tg (.ref z) (.ref T)) Q E s := by
  have go : ∀ b : Bool, wpAny (model prog w) A (if b = true then (do rule "for.unpacks-the-owned-tuple"; updateField z 0 .none) else pure ()) Q E s := fun b => by
    cases b with
    | false => exact wpAny_pure h0
    | true =>
      refine wpAny_bind (wpAny_rule ?_)
      show wpAny _ _ (setField (.ref z) 0 .none) Q E s
      exact wpAny_setField_rec hz (by simp) fun h' hz' hs' => h1 h' hz' hs'
  unfold letOwnedTupleGo
  cases tg
  case Tuple => exact wpAny_bind (wpAny_load hz (go _))
  case List => exact wpAny_bind (wpAny_load hz (go _))
  all_goals exact wpAny_pure h0
structure Ap (z TI TO : Addr) (L : List (Addr × Addr)) : Prop where
  nd : (L.map (·.1)).Nodup
  zz : ∀ p ∈ L, p.1 ≠ z ∧ p.2 ≠ z
  o : ∀ p ∈ L, p.1 ≠ TO ∧ p.2 ≠ TO
  t : TI ∉ L.map (·.1)
  il : ∀ p ∈ L, p.2 ∉ L.map (·.1)
  tz : TI ≠ z
  oz : TO ≠ z
  tt : TI ≠ TO
/-- what the next turn takes of a list -/
def Rw (kd : Addr → Bool) (h : Heap) (i : Nat) (p : Addr × Addr) (x : Value) : Prop := ∃ xs : Array Value, IsSq kd h p.2 xs ∧ xs[i]? = some x
/-- iterators behind are turned, the others not yet -/
structure St (kd : Addr → Bool) (z TO : Addr) (L : List (Addr × Addr)) (i : Nat) (h0 h : Heap) (L1 L2 : List (Addr × Addr)) : Prop where
  a : ∀ p ∈ L1, IsIt kd h p.1 p.2 (i + 1)
  b : ∀ p ∈ L2, IsIt kd h p.1 p.2 i
  sz : h.objs.size = h0.objs.size
  k : ∀ c o, c ≠ z → c ≠ TO → c ∉ L.map (·.1) → h0.get? c = some o → h.get? c = some o
theorem St.more {kd : Addr → Bool} {z TI TO : Addr} {L L1 L2 : List (Addr × Addr)} {i : Nat} {h0 h h' : Heap} {p : Addr × Addr} (D : Ap z TI TO L) (e : L = L1 ++ p :: L2) (S : St kd z TO L i h0 h L1 (p :: L2)) (hp : IsIt kd h' p.1 p.2 (i + 1)) (sb : Heap.SameBut p.1 h h') : St kd z TO L i h0 h' (L1 ++ [p]) L2 := by
  have nd := D.nd
  rw [e, List.map_append, List.map_cons, List.nodup_append] at nd
  have n2 := List.nodup_cons.mp nd.2.1
  have pm : p ∈ L := by rw [e]; simp
  refine ⟨fun q hq => ?_, fun q hq => ?_, by rw [sb.1]; exact S.sz, fun c o c1 c2 c3 x => sb.extBut _ _ (fun y => c3 (by rw [y]; exact List.mem_map_of_mem pm)) (S.k c o c1 c2 c3 x)⟩
  · rcases List.mem_append.mp hq with w | w
    · exact (S.a q w).extBut sb.extBut (nd.2.2 _ (List.mem_map_of_mem w) _ List.mem_cons_self)
    · rw [List.mem_singleton.mp w]; exact hp
  · exact (S.b q (List.mem_cons_of_mem _ hq)).extBut sb.extBut fun y => n2.1 (by rw [← y]; exact List.mem_map_of_mem hq)
theorem St.other {kd : Addr → Bool} {z TI TO a : Addr} {L L1 L2 : List (Addr × Addr)} {i : Nat} {h0 h h' : Heap} (D : Ap z TI TO L) (e : L = L1 ++ L2) (S : St kd z TO L i h0 h L1 L2) (ha : a = z ∨ a = TO) (sb : Heap.SameBut a h h') : St kd z TO L i h0 h' L1 L2 := by
  have ne : ∀ p ∈ L, p.1 ≠ a := fun p hp => by
    rcases ha with rfl | rfl
    · exact (D.zz p hp).1
    · exact (D.o p hp).1
  refine ⟨fun q hq => (S.a q hq).extBut sb.extBut (ne q (by rw [e]; exact List.mem_append.mpr (.inl hq))), fun q hq => (S.b q hq).extBut sb.extBut (ne q (by rw [e]; exact List.mem_append.mpr (.inr hq))), by rw [sb.1]; exact S.sz, fun c o c1 c2 c3 x => sb.extBut _ _ (fun y => ?_) (S.k c o c1 c2 c3 x)⟩
  rcases ha with w | w
  · exact c1 (y.trans w)
  · exact c2 (y.trans w)
theorem upd_tu {T : Addr} {xs : Array Value} {x : Value} {k : Nat} {Q : Unit → Shared → Prop} (hT : IsTu s.heap T xs) (hl : xs.size ≤ 1000)
    (h : ∀ h', IsTu h' T (xs.setIfInBounds k x) → Heap.SameBut T s.heap h' → Q () { s with heap := h' }) : wpAny (model prog w) A (updateSeq T (·.setIfInBounds k x)) Q E s := by
  refine wpAny_updateSeq hT rfl (h _ ?_ (Heap.SameBut.update ..)) (by rw [sizeLine_eq]; omega) (by rw [Array.size_setIfInBounds, sizeLine_eq]; omega)
  show (s.heap.update T _).get? T = _
  rw [Heap.get?_update_self _ hT rfl]
  simp [Obj.mapSeq]
theorem set_mid (v1 w : List Value) (a x : Value) : (v1 ++ a :: w).toArray.setIfInBounds v1.length x = ((v1 ++ [x]) ++ w).toArray := by
  simp [List.set_append_right]
theorem next_item {kd : Addr → Bool} {z TI TO : Addr} {v : Value} {f : Bool} {L : List (Addr × Addr)} {i : Nat} {vals kept : List Value} {Q : Value → Shared → Prop} (D : Ap z TI TO L)
    (hz : IsZr s.heap z TI TO v f) (hv : VOk v) (hTI : IsTu s.heap TI (L.map fun p => Value.ref p.1).toArray) (hTO : IsTu s.heap TO kept.toArray) (hkl : kept.length = L.length) (hne : L ≠ []) (hl : L.length ≤ 1000)
    (hi : ∀ p ∈ L, IsIt kd s.heap p.1 p.2 i) (hr : Paired (Rw kd s.heap i) L vals)
    (hQ : ∀ h' v' f' (kept' : List Value), IsZr h' z TI TO v' f' → VOk v' → IsTu h' TO kept'.toArray → kept'.length = L.length → (∀ p ∈ L, IsIt kd h' p.1 p.2 (i + 1)) → h'.get? s.heap.objs.size = some { cls := .type "tuple", data := .seq vals.toArray } →
      (∀ c o, c ≠ z → c ≠ TO → c ∉ L.map (·.1) → s.heap.get? c = some o → h'.get? c = some o) → Q (.ref s.heap.objs.size) { s with heap := h' }) :
    wpAny (model prog w) A (Builtin.«zip.__next__» ⟨[.ref z], []⟩) (fun fin s' => ∃ v, fin = .done (.ret v) ∧ Q v s') E s := by
  have hvl : vals.length = L.length := (Paired.length hr).symm
  have hfr : ∀ {h' : Heap} {L1 L2}, St kd z TO L i s.heap h' L1 L2 → ∀ p ∈ L, ∀ xs, IsSq kd s.heap p.2 xs → IsSq kd h' p.2 xs := fun S p hp xs q => q.at fun o e => S.k _ o (D.zz p hp).2 (D.o p hp).2 (D.il p hp) e
  show wpAny _ _ (field (.ref z) 2 >>= _) _ _ _
  refine wpAny_bind (wpAny_field hz rfl (x := .bool false) rfl ?_)
  show wpAny _ _ (field (.ref z) 3 >>= _) _ _ _
  refine wpAny_bind (wpAny_field hz rfl (x := .ref TI) rfl ?_)
  refine wpAny_bind (wpAny_seqItems hTI rfl ?_)
  have he : (L.map fun p => Value.ref p.1).toArray.isEmpty = false := by
    cases L with
    | nil => exact absurd rfl hne
    | cons a l => rfl
  dsimp only
  rw [he]
  simp only [Bool.false_eq_true, if_false]
  refine wpAny_bind (free_or_held hz hv ?_ fun h₁ hz₁ hs₁ => ?_)
  · simp only [if_true]
    refine wpAny_bind (wpAny_rule ?_)
    refine wpAny_bind (wpAny_field hz rfl (x := .ref TO) rfl ?_)
    dsimp only
    refine wpAny_bind (wpAny_setField_rec hz (by simp) fun h₁ hz₁ hs₁ => ?_)
    replace hz₁ : IsZr h₁ z TI TO .ellipsis f := hz₁
    have S0 : St kd z TO L i s.heap h₁ [] L := ⟨fun _ h => (by cases h), fun p hp => (hi p hp).extBut hs₁.extBut (D.zz p hp).1, hs₁.1, fun c o c1 _ _ x => hs₁.extBut _ _ c1 x⟩
    refine wpAny_bind (wpAny_mono (loop_gen (fun rest b s' => ∃ (L1 L2 : List (Addr × Addr)) (v1 v2 ks : List Value) (h' : Heap), L = L1 ++ L2 ∧ Paired (Rw kd s.heap i) L2 v2 ∧ v1 ++ v2 = vals ∧ v1.length = L1.length ∧ rest = (L2.map fun p => Value.ref p.1).zipIdx L1.length ∧ b = (none, ()) ∧ s' = { s with heap := h' } ∧ St kd z TO L i s.heap h' L1 L2 ∧ IsZr h' z TI TO .ellipsis f ∧ IsTu h' TO (v1 ++ ks).toArray ∧ ks.length = L2.length)
      (Q := fun b s' => b = (none, ()) ∧ ∃ h', s' = { s with heap := h' } ∧ St kd z TO L i s.heap h' L [] ∧ IsZr h' z TI TO .ellipsis f ∧ IsTu h' TO vals.toArray) ?_ ?_ _ _ _ ⟨[], L, [], vals, kept, h₁, rfl, hr, rfl, rfl, rfl, rfl, rfl, S0, hz₁, hs₁.extBut _ _ D.oz hTO, hkl⟩) (fun b s' h => ?_) fun _ _ z => z)
    · rintro it rest b s' ⟨L1, L2, v1, v2, ks, h', eL, pr, ev, vl, er, rfl, rfl, S, hz', hTO', kl⟩
      cases pr with
      | nil => cases er
      | @cons p x L2 v2 r pr =>
        cases er
        have pm : p ∈ L := by rw [eL]; simp
        obtain ⟨xs, hxl, hx⟩ := r
        obtain ⟨k0, ks, rfl⟩ : ∃ k0 ks', ks = k0 :: ks' := by
          cases ks with
          | nil => simp at kl
          | cons a l => exact ⟨a, l, rfl⟩
        refine wpAny_bind (wpAny_onRaise ?_)
        show wpAny _ _ (Builtin.SmallTypes.nextOf (.ref p.1) >>= _) _ _ _
        refine wpAny_bind (nextOf_item (s := { s with heap := h' }) (S.b p List.mem_cons_self) (hfr S p pm xs hxl) hx fun h2 hit2 sb => wpAny_pure ?_)
        have hTO2 : IsTu h2 TO (v1 ++ k0 :: ks).toArray := sb.extBut _ _ (Ne.symm (D.o p pm).1) hTO'
        have S2 := S.more D eL hit2 sb
        have eL2 : L = (L1 ++ [p]) ++ L2 := by rw [eL, List.append_assoc]; rfl
        refine wpAny_bind (wpAny_seqItems hTO2 rfl ?_)
        dsimp only
        have sz2 : (v1 ++ k0 :: ks).toArray.size ≤ 1000 := by
          have : L.length = L1.length + (L2.length + 1) := by rw [eL, List.length_append, List.length_cons]
          have kl2 : ks.length = L2.length := by simpa using kl
          rw [List.size_toArray, List.length_append, List.length_cons, vl]
          omega
        refine wpAny_bind (upd_tu hTO2 sz2 fun h3 hTO3 sb3 => ?_)
        rw [← vl, set_mid] at hTO3
        refine wpAny_bind (wpAny_letGo (wpAny_pure ?_))
        refine ⟨_, rfl, L1 ++ [p], L2, v1 ++ [x], v2, ks, h3, eL2, pr, by rw [← ev, List.append_assoc]; rfl, by rw [List.length_append, List.length_append, vl]; rfl, by rw [List.length_append]; rfl, rfl, rfl, S2.other D eL2 (.inr rfl) sb3, sb3.extBut _ _ (Ne.symm D.oz) (sb.extBut _ _ (Ne.symm (D.zz p pm).1) hz'), hTO3, by simpa using kl⟩
    · rintro b s' ⟨L1, L2, v1, v2, ks, h', eL, pr, ev, vl, er, rfl, rfl, S, hz', hTO', kl⟩
      have e2 : L2 = [] := by simpa using er.symm
      subst e2
      cases pr
      have ek : ks = [] := by simpa using kl
      subst ek
      rw [List.append_nil] at eL ev hTO'
      subst eL ev
      exact ⟨rfl, h', rfl, S, hz', hTO'⟩
    · obtain ⟨rfl, h', rfl, S, hz', hTO'⟩ := h
      dsimp only
      refine wpAny_bind (wpAny_seqItems hTO' rfl ?_)
      dsimp only
      refine wpAny_bind (wpAny_newTuple ?_ (by rw [sizeLine_eq]; show vals.length ≤ _; omega))
      have zlt : z < h'.objs.size := Heap.lt_size hz'
      have olt : TO < h'.objs.size := Heap.lt_size hTO'
      show wpAny _ _ (Builtin.SmallTypes.ownedTupleHandOut (.ref z) (.ref h'.objs.size) >>= _) _ _ _
      refine wpAny_bind ?_
      unfold Builtin.SmallTypes.ownedTupleHandOut
      have hz6 : IsZr (h'.push { cls := .type "tuple", data := .seq vals.toArray }) z TI TO .ellipsis f := Heap.get?_push_of_some _ hz'
      refine wpAny_bind (wpAny_setField_rec hz6 (by simp) fun h7 hz7 hs7 => ?_)
      replace hz7 : IsZr h7 z TI TO (rawInt h'.objs.size) f := hz7
      refine wpAny_setField_rec hz7 (by simp) fun h8 hz8 hs8 => ?_
      replace hz8 : IsZr h8 z TI TO (rawInt h'.objs.size) false := hz8
      have up : ∀ c o, c ≠ z → h'.get? c = some o → h8.get? c = some o := fun c o c1 e => hs8.extBut _ _ c1 (hs7.extBut _ _ c1 (Heap.get?_push_of_some _ e))
      have hT8 : h8.get? h'.objs.size = some { cls := .type "tuple", data := .seq vals.toArray } := hs8.extBut _ _ (Nat.ne_of_gt zlt) (hs7.extBut _ _ (Nat.ne_of_gt zlt) (Heap.get?_push_size _ rfl))
      refine wpAny_pure ⟨_, rfl, ?_⟩
      show Q (.ref h'.objs.size) _
      rw [S.sz] at hT8 hz8 ⊢
      exact hQ h8 _ false vals hz8 (.inr ⟨_, rfl⟩) (up _ _ D.oz hTO') hvl (fun p hp => (S.a p hp).at fun o e => up _ o (D.zz p hp).1 e) hT8 fun c o c1 c2 c3 e => up c o c1 (S.k c o c1 c2 c3 e)
  · simp only [Bool.false_eq_true, if_false]
    rw [← Array.forIn_toList]
    have S0 : St kd z TO L i s.heap h₁ [] L := ⟨fun _ h => (by cases h), fun p hp => (hi p hp).extBut hs₁.extBut (D.zz p hp).1, hs₁.1, fun c o c1 _ _ x => hs₁.extBut _ _ c1 x⟩
    refine wpAny_bind (wpAny_mono (loop_gen (fun rest b s' => ∃ (L1 L2 : List (Addr × Addr)) (v1 v2 : List Value) (h' : Heap), L = L1 ++ L2 ∧ Paired (Rw kd s.heap i) L2 v2 ∧ v1 ++ v2 = vals ∧ rest = L2.map (fun p => Value.ref p.1) ∧ b = (none, v1.toArray) ∧ s' = { s with heap := h' } ∧ St kd z TO L i s.heap h' L1 L2 ∧ IsZr h' z TI TO v true ∧ IsTu h' TO kept.toArray)
      (Q := fun b s' => b = (none, vals.toArray) ∧ ∃ h', s' = { s with heap := h' } ∧ St kd z TO L i s.heap h' L [] ∧ IsZr h' z TI TO v true ∧ IsTu h' TO kept.toArray) ?_ ?_ _ _ _ ⟨[], L, [], vals, h₁, rfl, hr, rfl, rfl, rfl, rfl, S0, hz₁, hs₁.extBut _ _ D.oz hTO⟩) (fun b s' h => ?_) fun _ _ z => z)
    · rintro it rest b s' ⟨L1, L2, v1, v2, h', eL, pr, ev, er, rfl, rfl, S, hz', hTO'⟩
      cases pr with
      | nil => cases er
      | @cons p x L2 v2 r pr =>
        cases er
        have pm : p ∈ L := by rw [eL]; simp
        obtain ⟨xs, hxl, hx⟩ := r
        refine wpAny_bind (wpAny_holding ?_)
        show wpAny _ _ (Builtin.SmallTypes.nextOf (.ref p.1) >>= _) _ _ _
        refine wpAny_bind (nextOf_item (s := { s with heap := h' }) (S.b p List.mem_cons_self) (hfr S p pm xs hxl) hx fun h2 hit2 sb => wpAny_pure ?_)
        refine wpAny_pure ⟨_, rfl, L1 ++ [p], L2, v1 ++ [x], v2, h2, by rw [eL, List.append_assoc]; rfl, pr, by rw [← ev, List.append_assoc]; rfl, rfl, by simp, rfl, S.more D eL hit2 sb, sb.extBut _ _ (Ne.symm (D.zz p pm).1) hz', sb.extBut _ _ (Ne.symm (D.o p pm).1) hTO'⟩
    · rintro b s' ⟨L1, L2, v1, v2, h', eL, pr, ev, er, rfl, rfl, S, hz', hTO'⟩
      have e2 : L2 = [] := by simpa using er.symm
      subst e2
      cases pr
      rw [List.append_nil] at eL ev
      subst eL ev
      exact ⟨rfl, h', rfl, S, hz', hTO'⟩
    · obtain ⟨rfl, h', rfl, S, hz', hTO'⟩ := h
      dsimp only
      refine wpAny_bind (wpAny_newTuple ?_ (by rw [sizeLine_eq]; show vals.length ≤ _; omega))
      refine wpAny_pure ⟨_, rfl, ?_⟩
      show Q (.ref h'.objs.size) _
      have zlt : z < h'.objs.size := Heap.lt_size hz'
      have olt : TO < h'.objs.size := Heap.lt_size hTO'
      have ilt : ∀ p ∈ L, p.1 < h'.objs.size := fun p hp => by obtain ⟨_, e, _⟩ := (S.a p hp).obj; exact Heap.lt_size e
      rw [S.sz]
      refine hQ _ v true kept (Heap.get?_push_of_some _ hz') hv (Heap.get?_push_of_some _ hTO') hkl (fun p hp => (S.a p hp).at fun o e => Heap.get?_push_of_some _ e) ?_ fun c o c1 c2 c3 e => Heap.get?_push_of_some _ (S.k c o c1 c2 c3 e)
      rw [← S.sz]
      exact Heap.get?_push_size _ rfl
theorem next_end {kd : Addr → Bool} {z TI TO : Addr} {v : Value} {f : Bool} {p : Addr × Addr} {L : List (Addr × Addr)} {i : Nat} {xs : Array Value} {kept : Array Value} {Q : Fin → Shared → Prop} (hh : A.handled = none) (D : Ap z TI TO (p :: L))
    (hz : IsZr s.heap z TI TO v f) (hv : VOk v) (hTI : IsTu s.heap TI ((p :: L).map fun p => Value.ref p.1).toArray) (hTO : IsTu s.heap TO kept)
    (hi : IsIt kd s.heap p.1 p.2 i) (hl : IsSq kd s.heap p.2 xs) (hx : xs[i]? = none)
    (hE : ∀ h' e, (∀ c o, c ≠ z → c ≠ TO → c ∉ (p :: L).map (·.1) → s.heap.get? c = some o → h'.get? c = some o) → (∃ o, h'.get? e = some o ∧ o.cls = .type "StopIteration") → E (.ref e) { s with heap := h' }) :
    wpAny (model prog w) A (Builtin.«zip.__next__» ⟨[.ref z], []⟩) Q E s := by
  have pm : p ∈ p :: L := List.mem_cons_self
  have pz := D.zz p pm
  have pin : p.1 ∈ (p :: L).map (·.1) := List.mem_map_of_mem pm
  show wpAny _ _ (field (.ref z) 2 >>= _) _ _ _
  refine wpAny_bind (wpAny_field hz rfl (x := .bool false) rfl ?_)
  show wpAny _ _ (field (.ref z) 3 >>= _) _ _ _
  refine wpAny_bind (wpAny_field hz rfl (x := .ref TI) rfl ?_)
  refine wpAny_bind (wpAny_seqItems hTI rfl ?_)
  have he : ((p :: L).map fun p => Value.ref p.1).toArray.isEmpty = false := rfl
  dsimp only
  rw [he]
  simp only [Bool.false_eq_true, if_false]
  refine wpAny_bind (free_or_held hz hv ?_ fun h₁ hz₁ hs₁ => ?_)
  · simp only [if_true]
    refine wpAny_bind (wpAny_rule ?_)
    refine wpAny_bind (wpAny_field hz rfl (x := .ref TO) rfl ?_)
    dsimp only
    refine wpAny_bind (wpAny_setField_rec hz (by simp) fun h₁ hz₁ hs₁ => ?_)
    replace hz₁ : IsZr h₁ z TI TO .ellipsis f := hz₁
    refine wpAny_bind ?_
    rw [List.map_cons, List.zipIdx_cons, List.forIn_cons]
    refine wpAny_bind (wpAny_bind (wpAny_onRaise ?_))
    show wpAny _ _ (Builtin.SmallTypes.nextOf (.ref p.1) >>= _) _ _ _
    refine wpAny_bind (nextOf_end (s := { s with heap := h₁ }) hh (hi.extBut hs₁.extBut pz.1) (hl.extBut hs₁.extBut pz.2) hx fun h₂ e hs₂ he => ?_)
    obtain ⟨oe, hoe, hce⟩ := he
    have hz₂ : IsZr h₂ z TI TO .ellipsis f := hs₂ _ _ (Ne.symm pz.1) hz₁
    have hez : e ≠ z := fun x => by subst x; rw [hz₂] at hoe; cases hoe; simp at hce
    refine wpAny_setField_rec hz₂ (by simp) fun h₃ _ hs₃ => hE h₃ e (fun c o c1 _ c3 x => hs₃.extBut _ _ c1 (hs₂ _ _ (fun y => c3 (by rw [y]; exact pin)) (hs₁.extBut _ _ c1 x))) ⟨oe, hs₃.extBut _ _ hez hoe, hce⟩
  · simp only [Bool.false_eq_true, if_false]
    rw [← Array.forIn_toList]
    refine wpAny_bind ?_
    show wpAny _ _ (forIn ((Value.ref p.1) :: L.map fun p => Value.ref p.1) _ _) _ _ _
    rw [List.forIn_cons]
    refine wpAny_bind (wpAny_bind (wpAny_holding ?_))
    show wpAny _ _ (Builtin.SmallTypes.nextOf (.ref p.1) >>= _) _ _ _
    refine wpAny_bind (nextOf_end (s := { s with heap := h₁ }) hh (hi.extBut hs₁.extBut pz.1) (hl.extBut hs₁.extBut pz.2) hx fun h₂ e hs₂ he => ?_)
    exact hE h₂ e (fun c o c1 _ c3 x => hs₂ _ _ (fun y => c3 (by rw [y]; exact pin)) (hs₁.extBut _ _ c1 x)) he
theorem pyNext_item {kd : Addr → Bool} {z TI TO : Addr} {v : Value} {f : Bool} {L : List (Addr × Addr)} {i : Nat} {vals kept : List Value} {Q : Option Value → Shared → Prop} (D : Ap z TI TO L)
    (hz : IsZr s.heap z TI TO v f) (hv : VOk v) (hTI : IsTu s.heap TI (L.map fun p => Value.ref p.1).toArray) (hTO : IsTu s.heap TO kept.toArray) (hkl : kept.length = L.length) (hne : L ≠ []) (hl : L.length ≤ 1000)
    (hi : ∀ p ∈ L, IsIt kd s.heap p.1 p.2 i) (hr : Paired (Rw kd s.heap i) L vals)
    (hQ : ∀ h' v' f' (kept' : List Value), IsZr h' z TI TO v' f' → VOk v' → IsTu h' TO kept'.toArray → kept'.length = L.length → (∀ p ∈ L, IsIt kd h' p.1 p.2 (i + 1)) → h'.get? s.heap.objs.size = some { cls := .type "tuple", data := .seq vals.toArray } →
      (∀ c o, c ≠ z → c ≠ TO → c ∉ L.map (·.1) → s.heap.get? c = some o → h'.get? c = some o) → Q (some (.ref s.heap.objs.size)) { s with heap := h' }) : wpAny (model prog w) A (pyNext (.ref z)) Q E s := by
  have hT : s.TypeIs (.ref z) "zip" := ⟨_, hz, rfl⟩
  unfold pyNext
  exact wpAny_bind (wpAny_attempt (wpAny_callSpecial?_slot (name := Str.ofString "__next__") hT F.slot_zip_next
    (wpAny_call_entry F.slot_zip_next hT F.entry_zip_next
      (next_item D hz hv hTI hTO hkl hne hl hi hr fun h' v' f' k' a1 a2 a3 a4 a5 a6 a7 => wpAny_pure (hQ h' v' f' k' a1 a2 a3 a4 a5 a6 a7)) (F.args_zip_next_1 _))))
theorem pyNext_end {kd : Addr → Bool} {z TI TO : Addr} {v : Value} {f : Bool} {p : Addr × Addr} {L : List (Addr × Addr)} {i : Nat} {xs : Array Value} {kept : Array Value} {Q : Option Value → Shared → Prop} (hh : A.handled = none) (D : Ap z TI TO (p :: L))
    (hz : IsZr s.heap z TI TO v f) (hv : VOk v) (hTI : IsTu s.heap TI ((p :: L).map fun p => Value.ref p.1).toArray) (hTO : IsTu s.heap TO kept)
    (hi : IsIt kd s.heap p.1 p.2 i) (hl : IsSq kd s.heap p.2 xs) (hx : xs[i]? = none)
    (hQ : ∀ h', (∀ c o, c ≠ z → c ≠ TO → c ∉ (p :: L).map (·.1) → s.heap.get? c = some o → h'.get? c = some o) → Q none { s with heap := h' }) : wpAny (model prog w) A (pyNext (.ref z)) Q E s := by
  have hT : s.TypeIs (.ref z) "zip" := ⟨_, hz, rfl⟩
  unfold pyNext
  refine wpAny_bind (wpAny_attempt (wpAny_callSpecial?_slot (name := Str.ofString "__next__") hT F.slot_zip_next
    (wpAny_call_entry F.slot_zip_next hT F.entry_zip_next (next_end hh D hz hv hTI hTO hi hl hx fun h' e hk he => ?_) (F.args_zip_next_1 _))))
  obtain ⟨o, ho, hc⟩ := he
  refine wpAny_bind (wpAny_isInstance (T := "StopIteration") (b := true) ⟨o, ho, hc⟩ isSubtype_stop ?_)
  exact wpAny_pure (hQ _ hk)
theorem pyIter_self {z TI TO : Addr} {v : Value} {f : Bool} {Q : Value → Shared → Prop} (hz : IsZr s.heap z TI TO v f) (h : Q (.ref z) s) : wpAny (model prog w) A (pyIter (.ref z)) Q E s := by
  have hT : s.TypeIs (.ref z) "zip" := ⟨_, hz, rfl⟩
  refine wpAny_pyIter_slot hT F.slot_zip_iter (wpAny_call_entry F.slot_zip_iter hT F.entry_zip_iter ?_ (F.args_zip_iter_1 _))
  show wpAny _ _ (ret (.ref z)) _ _ s
  exact wpAny_pure ⟨_, rfl, "zip", _, hT, F.slot_zip_next.lookup, h⟩
end
structure ZArgs (us : List Value) : Prop where
  tc : checkTypeCall "zip" ⟨us, []⟩ = pure ()
  nc : checkBuiltinCall "zip.__new__" ⟨.type "zip" :: us, []⟩ = pure ()
  ob : ∀ obj, argsOk "object.__init__" ⟨obj :: us, []⟩
theorem tc_ok (us : List Value) : checkTypeCall "zip" ⟨us, []⟩ = pure () := by kernel_rfl
theorem zargs : ∀ (us : List Value), us.length ≤ 6 → ZArgs us
  | [], _ => ⟨tc_ok _, by kernel_rfl, fun obj => by unfold argsOk; rw [signature?_of (id := "object.__init__") (n := ['_', '_', 't', 'i', 'n', 'i', '_', '_']) (o := ['t', 'c', 'e', 'j', 'b', 'o']) (by kernel_rfl) PySem.F.owner_object]; kernel_rfl⟩
  | [_], _ => ⟨tc_ok _, by kernel_rfl, fun obj => by unfold argsOk; rw [signature?_of (id := "object.__init__") (n := ['_', '_', 't', 'i', 'n', 'i', '_', '_']) (o := ['t', 'c', 'e', 'j', 'b', 'o']) (by kernel_rfl) PySem.F.owner_object]; kernel_rfl⟩
  | [_, _], _ => ⟨tc_ok _, by kernel_rfl, fun obj => by unfold argsOk; rw [signature?_of (id := "object.__init__") (n := ['_', '_', 't', 'i', 'n', 'i', '_', '_']) (o := ['t', 'c', 'e', 'j', 'b', 'o']) (by kernel_rfl) PySem.F.owner_object]; kernel_rfl⟩
  | [_, _, _], _ => ⟨tc_ok _, by kernel_rfl, fun obj => by unfold argsOk; rw [signature?_of (id := "object.__init__") (n := ['_', '_', 't', 'i', 'n', 'i', '_', '_']) (o := ['t', 'c', 'e', 'j', 'b', 'o']) (by kernel_rfl) PySem.F.owner_object]; kernel_rfl⟩
  | [_, _, _, _], _ => ⟨tc_ok _, by kernel_rfl, fun obj => by unfold argsOk; rw [signature?_of (id := "object.__init__") (n := ['_', '_', 't', 'i', 'n', 'i', '_', '_']) (o := ['t', 'c', 'e', 'j', 'b', 'o']) (by kernel_rfl) PySem.F.owner_object]; kernel_rfl⟩
  | [_, _, _, _, _], _ => ⟨tc_ok _, by kernel_rfl, fun obj => by unfold argsOk; rw [signature?_of (id := "object.__init__") (n := ['_', '_', 't', 'i', 'n', 'i', '_', '_']) (o := ['t', 'c', 'e', 'j', 'b', 'o']) (by kernel_rfl) PySem.F.owner_object]; kernel_rfl⟩
  | [_, _, _, _, _, _], _ => ⟨tc_ok _, by kernel_rfl, fun obj => by unfold argsOk; rw [signature?_of (id := "object.__init__") (n := ['_', '_', 't', 'i', 'n', 'i', '_', '_']) (o := ['t', 'c', 'e', 'j', 'b', 'o']) (by kernel_rfl) PySem.F.owner_object]; kernel_rfl⟩
  | _ :: _ :: _ :: _ :: _ :: _ :: _ :: _, h => by simp at h
section
variable {prog : Program} {w : World} {A : Around} {E : Value → Shared → Prop} {s : Shared}
theorem cls_zip (us : List Value) : Builtin.SmallTypes.newClass "zip" ⟨.type "zip" :: us, []⟩ = pure (.type "zip", us) := by
  unfold Builtin.SmallTypes.newClass
  simp only [isType, pure_bind, Bool.not_true, Bool.false_eq_true, if_false]
  rw [sub_zip]
  rfl
abbrev H3 (h : Heap) (its : List Value) : Heap := h.push { cls := .type "tuple", data := .seq its.toArray }
abbrev H4 (h : Heap) (its : List Value) : Heap := (H3 h its).push { cls := .type "tuple", data := .seq (its.map fun _ => Value.none).toArray }
abbrev H5 (h : Heap) (its : List Value) : Heap := (H4 h its).push { cls := .type "zip", data := .fields #[.none, .bool false, .bool false, .ref h.objs.size, .ref (H3 h its).objs.size] }
theorem new_zip (us : List Value) : MeetsIn prog w (Builtin.«zip.__new__» ⟨.type "zip" :: us, []⟩)
    (fun B R s => wpAny (model prog w) B.in1 (Builtin.SmallTypes.iterAll us) (fun its s1 => its.length ≤ 1000 ∧ R (.ok (.ret (.ref (H4 s1.heap its).objs.size))) { s1 with heap := H5 s1.heap its }) (fun e s1 => R (.error e) s1) s) :=
  .of_wp fun B R s h => by
    unfold Builtin.«zip.__new__»
    refine wpAny_bind (wpAny_of_eq (cls_zip us) ?_)
    show wpAny _ _ (Builtin.SmallTypes.iterAll us >>= _) _ _ _
    refine wpAny_bind (wpAny_mono h (fun its s1 hR => ?_) fun _ _ z => z)
    obtain ⟨hl, hR⟩ := hR
    refine wpAny_bind (wpAny_newTuple ?_ (by rw [sizeLine_eq]; omega))
    refine wpAny_bind (wpAny_newTuple ?_ (by rw [sizeLine_eq, List.length_map]; omega))
    refine wpAny_bind ?_
    unfold Builtin.SmallTypes.newRecord
    refine wpAny_newObj_type ?_ (show 5 ≤ sizeLine + 2 by rw [sizeLine_eq]; omega)
    exact wpAny_pure ⟨_, rfl, hR⟩
theorem iter_lists {kd : Addr → Bool} (ls : List Addr) {Q : List Value → Shared → Prop} (hl : ∀ l ∈ ls, ∃ xs, IsSq kd s.heap l xs)
    (k : ∀ (L : List (Addr × Addr)) (h' : Heap), L.map (·.2) = ls → (∀ p ∈ L, IsIt kd h' p.1 p.2 0 ∧ s.heap.objs.size ≤ p.1 ∧ p.1 < h'.objs.size) → (L.map (·.1)).Nodup → (∀ c o, s.heap.get? c = some o → h'.get? c = some o) → s.heap.objs.size ≤ h'.objs.size → Q (L.map fun p => Value.ref p.1) { s with heap := h' }) :
    wpAny (model prog w) A (Builtin.SmallTypes.iterAll (ls.map Value.ref)) Q E s := by
  unfold Builtin.SmallTypes.iterAll
  refine wpAny_bind (wpAny_mono (loop_gen (fun rest b s' => ∃ (L1 : List (Addr × Addr)) (ls2 : List Addr) (h' : Heap), L1.map (·.2) ++ ls2 = ls ∧ rest = ls2.map Value.ref ∧ b = (L1.map fun p => Value.ref p.1).toArray ∧ s' = { s with heap := h' } ∧ (∀ p ∈ L1, IsIt kd h' p.1 p.2 0 ∧ s.heap.objs.size ≤ p.1 ∧ p.1 < h'.objs.size) ∧ (L1.map (·.1)).Nodup ∧ (∀ c o, s.heap.get? c = some o → h'.get? c = some o) ∧ s.heap.objs.size ≤ h'.objs.size)
    (Q := fun b s' => ∃ (L1 : List (Addr × Addr)) (h' : Heap), L1.map (·.2) = ls ∧ b = (L1.map fun p => Value.ref p.1).toArray ∧ s' = { s with heap := h' } ∧ (∀ p ∈ L1, IsIt kd h' p.1 p.2 0 ∧ s.heap.objs.size ≤ p.1 ∧ p.1 < h'.objs.size) ∧ (L1.map (·.1)).Nodup ∧ (∀ c o, s.heap.get? c = some o → h'.get? c = some o) ∧ s.heap.objs.size ≤ h'.objs.size) ?_ ?_ _ _ _ ⟨[], ls, s.heap, rfl, rfl, rfl, rfl, fun _ h => (by cases h), List.nodup_nil, fun _ _ e => e, Nat.le_refl _⟩) (fun b s' h => ?_) fun _ _ z => z)
  · rintro it rest b s' ⟨L1, ls2, h', e1, e2, rfl, rfl, hi, nd, kp, sz⟩
    cases ls2 with
    | nil => cases e2
    | cons l ls2 =>
      cases e2
      obtain ⟨xs, hx⟩ := hl l (by rw [← e1]; simp)
      have hx' : IsSq kd h' l xs := hx.at fun o e => kp _ o e
      refine wpAny_bind (wpAny_holding (iter_sq (s := { s with heap := h' }) hx' fun oi _ isit hpush => ?_))
      have z1 : (h'.push oi).objs.size = h'.objs.size + 1 := Heap.size_push ..
      refine wpAny_pure ⟨_, rfl, L1 ++ [(h'.objs.size, l)], ls2, _, by rw [List.map_append, List.append_assoc]; exact e1, rfl, by simp, rfl, fun p hp => ?_, ?_, fun c o e => Heap.get?_push_of_some _ (kp c o e), by rw [z1]; omega⟩
      · rcases List.mem_append.mp hp with q | q
        · obtain ⟨a, b, c⟩ := hi p q
          exact ⟨a.at fun o e => Heap.get?_push_of_some _ e, b, by rw [z1]; exact Nat.lt_succ_of_lt c⟩
        · rw [List.mem_singleton.mp q]
          exact ⟨isit _ hpush, sz, by rw [z1]; exact Nat.lt_succ_self _⟩
      · rw [List.map_append, List.nodup_append]
        refine ⟨nd, by simp, fun a ha b hb => ?_⟩
        obtain ⟨p, hp, rfl⟩ := List.mem_map.mp ha
        have : b = h'.objs.size := by simpa using hb
        rw [this]
        exact Nat.ne_of_lt (hi p hp).2.2
  · rintro b s' ⟨L1, ls2, h', e1, e2, rfl, rfl, hi, nd, kp, sz⟩
    have : ls2 = [] := by simpa using e2.symm
    subst this
    rw [List.append_nil] at e1
    exact ⟨L1, h', e1, rfl, rfl, hi, nd, kp, sz⟩
  · obtain ⟨L1, h', e1, rfl, rfl, hi, nd, kp, sz⟩ := h
    exact wpAny_pure (k L1 h' e1 hi nd kp sz)
/-- zip(l, ..) made: all apart -/
theorem call_zip {kd : Addr → Bool} (ls : List Addr) {Q : Value → Shared → Prop} (hl : ∀ l ∈ ls, ∃ xs, IsSq kd s.heap l xs) (h6 : ls.length ≤ 6)
    (k : ∀ (z TI TO : Addr) (L : List (Addr × Addr)) (h' : Heap) (kept : List Value), L.map (·.2) = ls → Ap z TI TO L → IsZr h' z TI TO .none false → IsTu h' TI (L.map fun p => Value.ref p.1).toArray → IsTu h' TO kept.toArray → kept.length = L.length → (∀ p ∈ L, IsIt kd h' p.1 p.2 0) →
      (∀ c, c = z ∨ c = TI ∨ c = TO ∨ c ∈ L.map (·.1) → s.heap.objs.size ≤ c) → (∀ c o, s.heap.get? c = some o → h'.get? c = some o) → Q (.ref z) { s with heap := h' }) :
    wpAny (model prog w) A (call (.type "zip") (ls.map Value.ref)) Q E s := by
  have za := zargs (ls.map Value.ref) (by rw [List.length_map]; exact h6)
  refine callType_newIn F.called_zip (by decide) za.tc za.nc za.ob F.entry_zip_new (new_zip _) ?_
  refine iter_lists ls hl fun L h' e hi nd kp sz => ⟨by have := congrArg List.length e; rw [List.length_map] at this; rw [List.length_map]; omega, ?_⟩
  have lsl : ∀ p ∈ L, p.2 < s.heap.objs.size := fun p hp => by
    obtain ⟨xs, hsq⟩ := hl p.2 (by rw [← e]; exact List.mem_map_of_mem hp)
    obtain ⟨o, ho⟩ := hsq.obj
    exact Heap.lt_size ho
  have z3 : (H3 h' (L.map fun p => Value.ref p.1)).objs.size = h'.objs.size + 1 := Heap.size_push ..
  have z4 : (H4 h' (L.map fun p => Value.ref p.1)).objs.size = h'.objs.size + 2 := by rw [Heap.size_push, z3]
  have g5 : (H5 h' (L.map fun p => Value.ref p.1)).get? (H4 h' (L.map fun p => Value.ref p.1)).objs.size = some _ := Heap.get?_push_size _ rfl
  have g4 : (H5 h' (L.map fun p => Value.ref p.1)).get? (H3 h' (L.map fun p => Value.ref p.1)).objs.size = some _ := Heap.get?_push_of_some _ (Heap.get?_push_size _ rfl)
  have g3 : (H5 h' (L.map fun p => Value.ref p.1)).get? h'.objs.size = some _ := Heap.get?_push_of_some _ (Heap.get?_push_of_some _ (Heap.get?_push_size _ rfl))
  have up : ∀ c o, h'.get? c = some o → (H5 h' (L.map fun p => Value.ref p.1)).get? c = some o := fun c o q => Heap.get?_push_of_some _ (Heap.get?_push_of_some _ (Heap.get?_push_of_some _ q))
  have fl : ∀ c ∈ L.map (·.1), s.heap.objs.size ≤ c ∧ c < h'.objs.size := fun c hc => by
    obtain ⟨p, hp, rfl⟩ := List.mem_map.mp hc
    exact (hi p hp).2
  refine ⟨⟨_, g5, rfl⟩, k (H4 h' (L.map fun p => Value.ref p.1)).objs.size h'.objs.size (H3 h' (L.map fun p => Value.ref p.1)).objs.size L _ ((L.map fun p => Value.ref p.1).map fun _ => Value.none) e ?_ g5 g3 g4 (by rw [List.length_map, List.length_map]) (fun p hp => (hi p hp).1.at fun o q => up _ o q) (fun c hc => ?_) fun c o q => up c o (kp c o q)⟩
  · refine ⟨nd, fun p hp => ?_, fun p hp => ?_, fun hc => ?_, fun p hp hc => ?_, ?_, ?_, ?_⟩
    · have a := (hi p hp).2.2
      have b := Nat.lt_of_lt_of_le (lsl p hp) sz
      rw [z4]
      exact ⟨Nat.ne_of_lt (Nat.lt_of_lt_of_le a (Nat.le_add_right _ _)), Nat.ne_of_lt (Nat.lt_of_lt_of_le b (Nat.le_add_right _ _))⟩
    · have a := (hi p hp).2.2
      have b := Nat.lt_of_lt_of_le (lsl p hp) sz
      rw [z3]
      exact ⟨Nat.ne_of_lt (Nat.lt_of_lt_of_le a (Nat.le_add_right _ _)), Nat.ne_of_lt (Nat.lt_of_lt_of_le b (Nat.le_add_right _ _))⟩
    · exact Nat.lt_irrefl _ (fl _ hc).2
    · exact Nat.lt_irrefl _ (Nat.lt_of_le_of_lt (fl _ hc).1 (lsl p hp))
    · rw [z4]; exact Nat.ne_of_lt (Nat.lt_add_of_pos_right (by decide))
    · rw [z3, z4]; exact Nat.ne_of_lt (Nat.lt_succ_self _)
    · rw [z3]; exact Nat.ne_of_lt (Nat.lt_succ_self _)
  · rcases hc with rfl | rfl | rfl | hc
    · rw [z4]; exact Nat.le_trans sz (Nat.le_add_right _ _)
    · exact sz
    · rw [z3]; exact Nat.le_trans sz (Nat.le_add_right _ _)
    · exact (fl c hc).1
end

section
variable {M : Model} {A : Around} {E : Value → Shared → Prop} {s : Shared}
theorem callWith_typeS {T : String} {e : Expr} {env : Env} {p pos : Pos} {Q : Value → Shared → Prop}
    (h : wpAny M A (eval e env) (fun v s₁ => PySem.W.StarOf M A E v (fun vs s₂ => wpAny M A (call (.type T) vs) Q E s₂) s₁) E s) (he : starEach [.Starred e p] env = [(true, eval e env)] := by rfl) :
    wpAny M A (callWith pos (.type T) [] (backTo pos (starEach [.Starred e p] env)) []) Q E s := by
  rw [he]
  refine PySem.W.ks_call (P := fun _ => True) rfl (fun h _ => ⟨.machine, .inr (.inl rfl), PySem.W.Looks.of_pure rfl⟩) (PySem.W.ks_lone (wpAny_mono h (fun v s1 q => ?_) fun _ _ z => z))
  unfold PySem.W.StarOf at q ⊢
  exact wpAny_mono q (fun b s2 ⟨e, q⟩ => ⟨e, wpAny_mono q (fun vs s3 q => ⟨trivial, q⟩) fun _ _ z => z⟩) fun _ _ z => z
end
end ZN
namespace PD
open PySem PySem.Spec PyProof.Rows L2 ZN
/-! ### zip of lists and tuples -/
/-- a source: a tuple or a list -/
def SqB (K : PySem.W.Frag) (H : Hp) (b : Bool) (a : Addr) (r : List V) : Prop := if b = true then SqT K H a r else SqL K H a r
def SqK (kd : Addr → Bool) (K : PySem.W.Frag) (H : Hp) (a : Addr) (r : List V) : Prop := SqB K H (kd a) a r
theorem sqb_mono {K : PySem.W.Frag} {G G' : Hp} {b : Bool} {a : Addr} {xs : List V} (e : Same G G') (h : SqB K G b a xs) : SqB K G' b a xs := by
  unfold SqB at h ⊢
  cases b with
  | true =>
    rw [if_pos rfl] at h ⊢
    exact sqt_mono e h
  | false =>
    rw [if_neg Bool.false_ne_true] at h ⊢
    rcases h with (h | ⟨o, h⟩) | h
    · exact .inl (.inl (e _ _ h))
    · exact .inl (.inr ⟨o, e _ _ h⟩)
    · exact .inr h
theorem sq_at {X : Cx} {pins : List (Addr × Obj)} {σ : L2.St} {H : Hp} {s : Shared} {kd : Addr → Bool} {a : Addr} {r : List V} (I : Inv X pins σ H s) (h : SqK kd X.K H a r) : ∃ its : List Value, Vals r its ∧ IsSq kd s.heap a its.toArray := by
  unfold SqK SqB at h
  unfold IsSq
  split at h
  · rename_i q
    obtain ⟨its, rv, p, _⟩ := I.tuple h
    refine ⟨its, rv, ?_⟩
    rw [if_pos q]
    exact let ⟨o, a, b, n, c⟩ := p; ⟨o, a, b, n, c⟩
  · rename_i q
    obtain ⟨its, rv, p, _⟩ := I.list h
    refine ⟨its, rv, ?_⟩
    rw [if_neg q]
    exact p.isList
def colV (rows : List (List V)) (i : Nat) : List V := rows.map fun r => r.getD i .non
def ItzN (kd : Addr → Bool) (K : PySem.W.Frag) (as : List Addr) (rows : List (List V)) (N : Nat) : It := ⟨fun i H => Paired (SqK kd K H) as rows ∧ i < N, fun i H x H' => ∃ (T : Addr) (ob : Obj), x = .ref T ∧ H T = none ∧ ob.dict = none ∧ H' = upd H T (.frz ob (.tup (colV rows i))), fun i H => Paired (SqK kd K H) as rows ∧ N ≤ i⟩
theorem rows_at {kd : Addr → Bool} {X : Cx} {pins : List (Addr × Obj)} {σ : L2.St} {H : Hp} {s : Shared} (I : Inv X pins σ H s) {i N : Nat} (hi : i < N) : ∀ {L : List (Addr × Addr)} {rows : List (List V)}, Paired (SqK kd X.K H) (L.map (·.2)) rows → (∀ r ∈ rows, r.length = N) → ∃ vals, Paired (ZN.Rw kd s.heap i) L vals ∧ Vals (colV rows i) vals
  | [], _, h, _ => by
    cases h
    exact ⟨[], .nil, .nil⟩
  | p :: L, _, h, hn => by
    cases h with
    | @cons _ r _ rows q t =>
      obtain ⟨vals, h1, h2⟩ := rows_at I hi t fun x hx => hn x (List.mem_cons_of_mem _ hx)
      obtain ⟨its, rv, pl⟩ := sq_at I q
      have hr : i < r.length := by rw [hn r List.mem_cons_self]; exact hi
      obtain ⟨u, hu, ru⟩ := rv.get (List.getElem?_eq_getElem hr)
      refine ⟨u :: vals, .cons ⟨_, pl, by simpa using hu⟩ h1, .cons ?_ h2⟩
      show RelV (r.getD i V.non) u
      rw [List.getD_eq_getElem?_getD, List.getElem?_eq_getElem hr]
      exact ru
theorem turn_zipN {kd : Addr → Bool} {P : Program} {w : World} {K : PySem.W.Frag} {tg : Expr} {z TI TO : Addr} {L : List (Addr × Addr)} {rows : List (List V)} {N : Nat} (D : ZN.Ap z TI TO L) (hne : L ≠ []) (h6 : L.length ≤ 6) (hn : ∀ r ∈ rows, r.length = N) :
    Turn P w K tg (ItzN kd K (L.map (·.2)) rows N) (z :: TI :: TO :: L.map (·.1)) z (fun i h => ∃ (v : Value) (f : Bool) (kept : List Value), IsZr h z TI TO v f ∧ VOk v ∧ IsTu h TI (L.map fun p => Value.ref p.1).toArray ∧ IsTu h TO kept.toArray ∧ kept.length = L.length ∧ ∀ p ∈ L, IsIt kd h p.1 p.2 i) where
  mem := List.mem_cons_self
  obj := fun i h st c hc => by
    obtain ⟨v, f, kept, hz, _, hTI, hTO, _, hi⟩ := st
    rcases List.mem_cons.mp hc with rfl | hc
    · exact ⟨_, hz, fun v q => nomatch q⟩
    rcases List.mem_cons.mp hc with rfl | hc
    · exact ⟨_, hTI, fun v q => nomatch q⟩
    rcases List.mem_cons.mp hc with rfl | hc
    · exact ⟨_, hTO, fun v q => nomatch q⟩
    obtain ⟨p, hp, rfl⟩ := List.mem_map.mp hc
    obtain ⟨o, e, vs, d⟩ := (hi p hp).obj
    exact ⟨o, e, fun v q => by rw [d] at q; cases q⟩
  keep := fun i h h' st k => by
    obtain ⟨v, f, kept, hz, hv, hTI, hTO, kl, hi⟩ := st
    refine ⟨v, f, kept, k z (by simp) _ hz, hv, k TI (by simp) _ hTI, k TO (by simp) _ hTO, kl, fun p hp => (hi p hp).at fun o q => k p.1 ?_ o q⟩
    exact List.mem_cons_of_mem _ (List.mem_cons_of_mem _ (List.mem_cons_of_mem _ (List.mem_map_of_mem hp)))
  item := by
    intro X hP hw hK hc i pins s σ H E I hf st hg
    subst hP hw hK
    obtain ⟨v, f, kept, hz, hv, hTI, hTO, kl, hi⟩ := st
    obtain ⟨hrows, hlt⟩ := hg
    obtain ⟨vals, hr, rv⟩ := rows_at I hlt hrows hn
    have vl : vals.length = L.length := (Paired.length hr).symm
    have zl : z < s.heap.objs.size := Heap.lt_size hz
    have lt : ∀ c ∈ z :: TI :: TO :: L.map (·.1), c < s.heap.objs.size := fun c hc => by
      rcases List.mem_cons.mp hc with rfl | hc
      · exact zl
      rcases List.mem_cons.mp hc with rfl | hc
      · exact Heap.lt_size hTI
      rcases List.mem_cons.mp hc with rfl | hc
      · exact Heap.lt_size hTO
      obtain ⟨p, hp, rfl⟩ := List.mem_map.mp hc
      obtain ⟨o, e, _⟩ := (hi p hp).obj
      exact Heap.lt_size e
    refine pyNext_item D hz hv hTI hTO kl hne (by omega) hi hr fun h' v' f' kept' a1 a2 a3 a4 a5 a6 a7 => ?_
    refine ⟨_, rfl, ?_⟩
    have fin : ∀ (h2 : Heap) (v2 : Value), IsZr h2 z TI TO v2 f' → VOk v2 → (∀ c o, c ≠ z → h'.get? c = some o → h2.get? c = some o) → ∃ (x : V) (H' : Hp), Inv X pins σ H' { s with heap := h2 } ∧ RelV x (.ref s.heap.objs.size) ∧ (ItzN kd X.K (L.map (·.2)) rows N).yld i H x H' ∧ (∃ (v : Value) (f : Bool) (kept : List Value), IsZr h2 z TI TO v f ∧ VOk v ∧ IsTu h2 TI (L.map fun p => Value.ref p.1).toArray ∧ IsTu h2 TO kept.toArray ∧ kept.length = L.length ∧ ∀ p ∈ L, IsIt kd h2 p.1 p.2 (i + 1)) ∧ ∀ b ∈ z :: TI :: TO :: L.map (·.1), H' b = none := fun h2 v2 z2 vk up => by
      have b6 := up _ _ (Nat.ne_of_gt zl) a6
      have new : ObjOk X.prog X.w (upd H s.heap.objs.size (.frz { cls := .type "tuple", data := .seq vals.toArray } (.tup (colV rows i)))) h2 s.heap.objs.size (.frz { cls := .type "tuple", data := .seq vals.toArray } (.tup (colV rows i))) := ⟨b6, by rw [Paired.length rv, vl, sizeLine_eq]; omega, vals, rv, ⟨_, b6, rfl, _, rfl⟩⟩
      have I1 : Inv X pins σ (upd H s.heap.objs.size (.frz { cls := .type "tuple", data := .seq vals.toArray } (.tup (colV rows i)))) { s with heap := h2 } := I.turnedNew (t' := s.toks) (ch := z :: TI :: TO :: L.map (·.1)) (fun c o hb q => up _ _ (fun y => hb (by simp [y])) (a7 c o (fun y => hb (by simp [y])) (fun y => hb (by simp [y])) (fun y => hb (List.mem_cons_of_mem _ (List.mem_cons_of_mem _ (List.mem_cons_of_mem _ y)))) q)) hf (Nat.le_refl _) new
      refine ⟨.ref s.heap.objs.size, _, I1, rfl, ⟨_, _, rfl, I.hok.fresh (Nat.le_refl _), rfl, rfl⟩, ⟨v2, f', kept', z2, vk, ?_, up _ _ D.oz a3, a4, fun p hp => (a5 p hp).at fun o q => up _ o (D.zz p hp).1 q⟩, fun c hcm => ?_⟩
      · exact up _ _ D.tz (a7 _ _ D.tz D.tt D.t hTI)
      · rw [upd_ne (Nat.ne_of_lt (lt c hcm))]
        exact (hf c hcm).1
    exact let_any (s := { s with heap := h' }) a1 (fin h' v' a1 a2 fun _ _ _ e => e) fun h2 z2 sb => fin h2 .none z2 (.inl rfl) fun c o hc e => sb.extBut _ _ hc e
  done := by
    intro X hP hw hK hc i pins s σ H E I hf st hg
    subst hP hw hK
    obtain ⟨v, f, kept, hz, hv, hTI, hTO, kl, hi⟩ := st
    obtain ⟨hrows, hge⟩ := hg
    cases L with
    | nil => exact absurd rfl hne
    | cons p L =>
      rw [List.map_cons] at hrows
      cases hrows with
      | @cons _ r _ rows q t =>
        obtain ⟨its, rv, pl⟩ := sq_at I q
        have hl : its.length = N := by rw [← rv.length]; exact hn r List.mem_cons_self
        exact pyNext_end (I.ok.hd hc) D hz hv hTI hTO (hi p List.mem_cons_self) pl (by simp; omega) fun h' hk => ⟨rfl, I.turnedL (t' := s.toks) (ch := z :: TI :: TO :: (p :: L).map (·.1)) (fun c o hb q => hk c o (fun y => hb (by simp [y])) (fun y => hb (by simp [y])) (fun y => hb (List.mem_cons_of_mem _ (List.mem_cons_of_mem _ (List.mem_cons_of_mem _ y)))) q) hf⟩
  self := fun A i s Q E ⟨v, f, kept, hz, _⟩ h => pyIter_self hz h
/-- zip over sources with their kinds -/
theorem go_zip {X : Cx} {tg : Expr} {pins : List (Addr × Obj)} {σ : L2.St} {H1 : Hp} {s2 : Shared} {R : It → Hp → Prop} {E : Value → Shared → Prop} {ts : List (Addr × Bool)} {rows : List (List V)} {N : Nat} (I2 : Inv X pins σ H1 s2) (hrows : Paired (fun (t : Addr × Bool) r => SqB X.K H1 t.2 t.1 r) ts rows) (hn : ∀ r ∈ rows, r.length = N) (h1 : 1 ≤ ts.length) (h6 : ts.length ≤ 6)
    (q : ∀ kd : Addr → Bool, (∀ t ∈ ts, kd t.1 = t.2) → R (ItzN kd X.K (ts.map (·.1)) rows N) H1) :
    wpAny (model X.prog X.w) X.A (call (.type "zip") ((ts.map (·.1)).map Value.ref)) (fun v s1 => wpAny (model X.prog X.w) X.A (pyIter v) (PIE X pins σ tg R) E s1) E s2 := by
  have some : ∀ {ts : List (Addr × Bool)} {rows : List (List V)}, Paired (fun (t : Addr × Bool) r => SqB X.K H1 t.2 t.1 r) ts rows → ∀ t ∈ ts, ∃ r, SqB X.K H1 t.2 t.1 r := by
    intro ts rows h
    induction h with
    | nil => intro t ht; cases ht
    | cons q _ ih =>
      intro t ht
      rcases List.mem_cons.mp ht with rfl | ht
      · exact ⟨_, q⟩
      · exact ih t ht
  have apart : ∀ a, (a, true) ∈ ts → (a, false) ∈ ts → False := fun a p1 p2 => by
    obtain ⟨r, k1⟩ := some hrows _ p1
    obtain ⟨r2, k2⟩ := some hrows _ p2
    unfold SqB at k1 k2
    rw [if_pos rfl] at k1
    rw [if_neg Bool.false_ne_true] at k2
    obtain ⟨_, _, ⟨o, e1, c1, _⟩, _⟩ := I2.tuple k1
    obtain ⟨_, _, pl, _⟩ := I2.list k2
    obtain ⟨o2, e2, c2, _⟩ := pl.isList
    rw [e1] at e2
    cases e2
    rw [c1] at c2
    simp at c2
  obtain ⟨kd, hkd⟩ : ∃ kd : Addr → Bool, ∀ t ∈ ts, kd t.1 = t.2 := by
    refine ⟨fun a => decide ((a, true) ∈ ts), fun t ht => ?_⟩
    obtain ⟨a, b⟩ := t
    cases b with
    | true => exact decide_eq_true ht
    | false => exact decide_eq_false fun z => apart a z ht
  have hk : ∀ {ts : List (Addr × Bool)} {rows : List (List V)}, (∀ t ∈ ts, kd t.1 = t.2) → Paired (fun (t : Addr × Bool) r => SqB X.K H1 t.2 t.1 r) ts rows → Paired (SqK kd X.K H1) (ts.map (·.1)) rows := by
    intro ts rows hh h
    induction h with
    | nil => exact .nil
    | @cons t r ts rows q _ ih =>
      refine .cons ?_ (ih fun t ht => hh t (List.mem_cons_of_mem _ ht))
      show SqB X.K H1 (kd t.1) t.1 r
      rw [hh t List.mem_cons_self]
      exact q
  have ll : ∀ l ∈ ts.map (·.1), ∃ xs, IsSq kd s2.heap l xs := fun l hl => by
    obtain ⟨t, ht, rfl⟩ := List.mem_map.mp hl
    obtain ⟨r, k⟩ := some hrows t ht
    have k2 : SqK kd X.K H1 t.1 r := by
      show SqB X.K H1 (kd t.1) t.1 r
      rw [hkd t ht]
      exact k
    obtain ⟨its, _, pl⟩ := sq_at I2 k2
    exact ⟨_, pl⟩
  refine call_zip (kd := kd) (ts.map (·.1)) ll (by rw [List.length_map]; exact h6) fun z TI TO L h' kept eL D hz hTI hTO kl hi hfr kp => ?_
  have I3 : Inv X pins σ H1 { s2 with heap := h' } := I2.kept (t' := s2.toks) kp
  have lL : L.length = ts.length := by have := congrArg List.length eL; rw [List.length_map, List.length_map] at this; exact this
  refine pyIter_self hz ?_
  have T := turn_zipN (kd := kd) (P := X.prog) (w := X.w) (K := X.K) (tg := tg) (rows := rows) (N := N) D (fun q => by rw [q] at lL; simp at lL; omega) (by omega) hn
  rw [eL] at T
  refine ⟨z, _, _, _, H1, rfl, I3, T, ⟨.none, false, kept, hz, .inl rfl, hTI, hTO, kl, hi⟩, fun c hc => ?_, q kd hkd⟩
  have hle : s2.heap.objs.size ≤ c := hfr c (by simpa using hc)
  exact I2.fpOk hle (I2.hok.fresh hle)
def iZipN (K : PySem.W.Frag) (te : TE) : TI := fun σ H R => te σ H fun x H1 => ∃ p as rows N, x = V.ref p ∧ SqL K H1 p (as.map V.ref) ∧ Paired (SqL K H1) as rows ∧ (∀ r ∈ rows, r.length = N) ∧ 1 ≤ as.length ∧ as.length ≤ 6 ∧ ∀ kd : Addr → Bool, (∀ a ∈ as, kd a = false) → R (ItzN kd K as rows N) H1
def iZipM (K : PySem.W.Frag) (ta : TA) : TI := fun σ H R => ta σ H fun vs H1 => ∃ (ts : List (Addr × Bool)) (rows : List (List V)) (N : Nat), vs = ts.map (fun t => V.ref t.1) ∧ Paired (fun (t : Addr × Bool) r => SqB K H1 t.2 t.1 r) ts rows ∧ (∀ r ∈ rows, r.length = N) ∧ 1 ≤ ts.length ∧ ts.length ≤ 6 ∧ ∀ kd : Addr → Bool, (∀ t ∈ ts, kd t.1 = t.2) → R (ItzN kd K (ts.map (·.1)) rows N) H1
theorem refs_of : ∀ {as : List Addr} {us : List Value}, Vals (as.map V.ref) us → us = as.map Value.ref
  | [], _, h => by cases h; rfl
  | a :: as, _, h => by
    cases h with
    | cons r t =>
      rw [refs_of t, show _ = Value.ref a from r]
      rfl
theorem pi_zipN {X : Cx} {tg : Expr} {e : Expr} {te : TE} {p sp pos : Pos} (hg : Gl X "zip") (hm : X.mg "zip" = none) (he : PE X e te) (hst : starEach [.Starred e sp] X.env = [(true, eval e X.env)] := by rfl) :
    PI X tg (.Call (.Name "zip" p) [.Starred e sp] [] pos) (iZipN X.K te) := by
  refine ⟨fun pins s σ H R I h => ?_⟩
  refine Call_ (ld_blt I hg hm PyProof.Rows.boot_zip (callWith_typeS (thn (he.run pins s σ H _ I h) fun v s1 ⟨y, H1, I1, r1, q1⟩ => ?_) hst))
  obtain ⟨q0, as, rows, N, ex, sq, hrows, hn, h1, h6, q⟩ := q1
  subst ex
  obtain rfl : v = Value.ref q0 := r1
  refine StX.star_lst I1 sq fun us s2 I2 rv => ?_
  rw [refs_of rv]
  have pr : ∀ {as : List Addr} {rows : List (List V)}, Paired (SqL X.K H1) as rows → Paired (fun (t : Addr × Bool) r => SqB X.K H1 t.2 t.1 r) (as.map fun a => (a, false)) rows := by
    intro as rows h
    induction h with
    | nil => exact .nil
    | cons q _ ih => exact .cons q ih
  have e1 : (as.map fun a => (a, false)).map (·.1) = as := by rw [List.map_map]; exact List.map_id _
  have := go_zip (tg := tg) (R := R) (E := X.xe) I2 (pr hrows) hn (by rw [List.length_map]; exact h1) (by rw [List.length_map]; exact h6) fun kd hkd => by
    rw [e1]
    exact q kd fun a ha => hkd (a, false) (List.mem_map.mpr ⟨a, ha, rfl⟩)
  rw [e1] at this
  exact this
theorem pi_zipM {X : Cx} {tg e : Expr} {es : List Expr} {ta : TA} {p pos : Pos} (hg : Gl X "zip") (hm : X.mg "zip" = none) (ha : PA X (e :: es) ta) (hst : starEach (e :: es) X.env = (false, eval e X.env) :: starEach es X.env := by rfl) (hpl : (backTo pos (starEach es X.env)).any (·.1) = false := by rfl) :
    PI X tg (.Call (.Name "zip" p) (e :: es) [] pos) (iZipM X.K ta) := by
  refine ⟨fun pins s σ H R I h => ?_⟩
  refine Call_ (ld_blt I hg hm PyProof.Rows.boot_zip (PyProof.Rows.callWith_type1 (thn (ha.run pos pins s σ H _ I h) fun us s1 ⟨vs, H1, I1, r1, q1⟩ => ?_) hst hpl))
  obtain ⟨ts, rows, N, ex, hrows, hn, h1, h6, q⟩ := q1
  have e2 : ts.map (fun t => V.ref t.1) = (ts.map (·.1)).map V.ref := by rw [List.map_map]; rfl
  rw [ex, e2] at r1
  rw [refs_of r1]
  exact go_zip I1 hrows hn h1 h6 q
/-! ### as data -/
def colD (xss : List (List PyData)) (i : Nat) : PyData := .tuple (xss.map fun r => r.getD i .none)
theorem dn_rows {K : PySem.W.Frag} {G : Hp} : ∀ {vs : List V} {xss : List (List PyData)}, DnAll K G vs (xss.map PyData.list) → ∃ (as : List Addr) (rows : List (List V)), vs = as.map V.ref ∧ Paired (fun a us => G a = some (.lst us)) as rows ∧ Paired (DnAll K G) rows xss
  | _, [], h => by
    cases h
    exact ⟨[], [], rfl, .nil, .nil⟩
  | _, xs :: xss, h => by
    cases h with
    | cons r t =>
      obtain ⟨as, rows, e, h1, h2⟩ := dn_rows t
      cases r with
      | @lst a us _ ga da => exact ⟨a :: as, us :: rows, by rw [e]; rfl, .cons ga h1, .cons da h2⟩
theorem rows_len {K : PySem.W.Frag} {G : Hp} {N : Nat} : ∀ {rows : List (List V)} {xss : List (List PyData)}, Paired (DnAll K G) rows xss → (∀ r ∈ xss, r.length = N) → ∀ r ∈ rows, r.length = N
  | _, _, .nil, _, _, h => by cases h
  | _, _, .cons d t, hn, r, h => by
    rcases List.mem_cons.mp h with rfl | h
    · rw [d.length]; exact hn _ List.mem_cons_self
    · exact rows_len t (fun x hx => hn x (List.mem_cons_of_mem _ hx)) r h
theorem col_dn {K : PySem.W.Frag} {G : Hp} {i N : Nat} (hi : i < N) : ∀ {rows : List (List V)} {xss : List (List PyData)}, Paired (DnAll K G) rows xss → (∀ r ∈ xss, r.length = N) → DnAll K G (colV rows i) (xss.map fun r => r.getD i .none)
  | _, _, .nil, _ => .nil
  | _, _, @Paired.cons _ _ _ us ds _ _ d t, hn => by
    refine .cons ?_ (col_dn hi t fun x hx => hn x (List.mem_cons_of_mem _ hx))
    have hd : i < ds.length := by rw [hn ds List.mem_cons_self]; exact hi
    obtain ⟨v, hv, dv⟩ := d.get (List.getElem?_eq_getElem hd)
    show Dn K G (us.getD i V.non) (ds.getD i PyData.none)
    rw [List.getD_eq_getElem?_getD, List.getD_eq_getElem?_getD, hv, List.getElem?_eq_getElem hd]
    exact dv
theorem itd_zipN {kd : Addr → Bool} {K : PySem.W.Frag} {G : Hp} {as : List Addr} {rows : List (List V)} {xss : List (List PyData)} {N : Nat} (h1 : Paired (SqK kd K G) as rows) (h2 : Paired (DnAll K G) rows xss) (hn : ∀ r ∈ xss, r.length = N) : Itd K (ItzN kd K as rows N) G ((List.range N).map (colD xss)) where
  go := fun i H g hi => by
    rw [List.length_map, List.length_range] at hi
    exact ⟨Paired.mapP h1 fun a us q => sqb_mono g q, hi⟩
  stop := fun i H g hi => by
    rw [List.length_map, List.length_range] at hi
    exact ⟨Paired.mapP h1 fun a us q => sqb_mono g q, hi⟩
  yld := fun i T G' H x H' g1 g2 tp hi y => by
    rw [List.length_map, List.length_range] at hi
    obtain ⟨t, ob, rfl, ht, od, rfl⟩ := y
    have up : Same G' (upd G' t (.frz ob (.tup (colV rows i)))) := fun c w e => by rw [upd_ne (ne_of_none e (g2.free ht))]; exact e
    refine ⟨upd G' t (.frz ob (.tup (colV rows i))), colD xss i, ?_, Step.new g2 tp ht, .tup (p := .inl ⟨ob, _, upd_same, od⟩) (.inl (.inr ⟨ob, upd_same⟩)) (((col_dn hi h2 hn).mono g1).mono up)⟩
    rw [List.getElem?_map, List.getElem?_range hi]
    rfl
theorem it_zipN {K : PySem.W.Frag} {ρ : Rho} {te : TE} {xss : List (List PyData)} {N : Nat} (h : Rl K te ρ (fun x => x = xss.map PyData.list)) (hn : ∀ r ∈ xss, r.length = N) (h1 : 1 ≤ xss.length) (h6 : xss.length ≤ 6) : Pitd K (iZipN K te) ρ ((List.range N).map (colD xss)) := fun T H0 G H σ gh tp D R q =>
  h.bind gh tp D fun ys p vs G1 H1 e s gh1 tp1 D1 rd a => by
    subst e
    obtain ⟨as, rows, e, a1, a2⟩ := dn_rows a
    subst e
    have ll : as.length = xss.length := (Paired.length a1).trans (Paired.length a2)
    refine ⟨p, as, rows, N, rfl, rd.sq gh1, Paired.mapP a1 fun a us q => .inl (.inl (gh1 _ _ q)), rows_len a2 hn, by omega, by omega, fun kd hkd => q _ _ G1 H1 rfl s (itd_zipN ?_ a2 hn)⟩
    have go : ∀ {as : List Addr} {rows : List (List V)}, (∀ a ∈ as, kd a = false) → Paired (fun a us => G1 a = some (.lst us)) as rows → Paired (SqK kd K G1) as rows := by
      intro as rows hh h
      induction h with
      | nil => exact .nil
      | @cons a r as rows q _ ih =>
        refine .cons ?_ (ih fun t ht => hh t (List.mem_cons_of_mem _ ht))
        show SqB K G1 (kd a) a r
        rw [hh a List.mem_cons_self]
        exact .inl (.inl q)
    exact go hkd a1
/-- a source as data: a tuple (true) or a list -/
def srcD (p : Bool × List PyData) : PyData := if p.1 then .tuple p.2 else .list p.2
theorem arg_rows {T : Addr → Prop} {K : PySem.W.Frag} {G : Hp} : ∀ {vs : List V} {xss : List (Bool × List PyData)}, ArgsOk T K G (xss.map fun p => .d (srcD p)) vs → ∃ (ts : List (Addr × Bool)) (rows : List (List V)), vs = ts.map (fun t => V.ref t.1) ∧ Paired (fun (t : Addr × Bool) r => SqB K G t.2 t.1 r) ts rows ∧ Paired (DnAll K G) rows (xss.map (·.2)) ∧ ts.length = xss.length
  | _, [], h => by
    cases h
    exact ⟨[], [], rfl, .nil, .nil, rfl⟩
  | _, (b, xs) :: xss, h => by
    cases h with
    | cons r t =>
      obtain ⟨ts, rows, e, h1, h2, h3⟩ := arg_rows t
      cases b with
      | true =>
        have r : Dn K G _ (.tuple xs) := r
        cases r with
        | @tup a us _ pl ga da => exact ⟨(a, true) :: ts, us :: rows, by rw [e]; rfl, .cons ga h1, .cons da h2, by rw [List.length_cons, List.length_cons, h3]⟩
      | false =>
        have r : Dn K G _ (.list xs) := r
        cases r with
        | @lst a us _ ga da => exact ⟨(a, false) :: ts, us :: rows, by rw [e]; rfl, .cons (show SqL K G a us from .inl (.inl ga)) h1, .cons da h2, by rw [List.length_cons, List.length_cons, h3]⟩
theorem it_zipM {K : PySem.W.Frag} {ρ : Rho} {ta : TA} {N : Nat} (xss : List (Bool × List PyData)) (h : Pasd K ta ρ (xss.map fun p => .d (srcD p))) (hn : ∀ r ∈ xss.map (·.2), r.length = N) (h1 : 1 ≤ xss.length := by decide) (h6 : xss.length ≤ 6 := by decide) : Pitd K (iZipM K ta) ρ ((List.range N).map (colD (xss.map (·.2)))) := fun T H0 G H σ gh tp D R q =>
  h.bind gh tp D fun ss vs G1 H1 e s gh1 tp1 D1 a => by
    subst e
    obtain ⟨ts, rows, e, a1, a2, a3⟩ := arg_rows a
    refine ⟨ts, rows, N, e, Paired.mapP a1 fun a us q => sqb_mono gh1 q, rows_len a2 hn, by omega, by omega, fun kd hkd => q _ _ G1 H1 rfl s (itd_zipN ?_ a2 hn)⟩
    have go : ∀ {ts : List (Addr × Bool)} {rows : List (List V)}, (∀ t ∈ ts, kd t.1 = t.2) → Paired (fun (t : Addr × Bool) r => SqB K G1 t.2 t.1 r) ts rows → Paired (SqK kd K G1) (ts.map (·.1)) rows := by
      intro ts rows hh h
      induction h with
      | nil => exact .nil
      | @cons t r ts rows q _ ih =>
        refine .cons ?_ (ih fun t ht => hh t (List.mem_cons_of_mem _ ht))
        show SqB K G1 (kd t.1) t.1 r
        rw [hh t List.mem_cons_self]
        exact q
    exact go hkd a1
end PD

set_option maxHeartbeats 4000000
/-! all(list of bools) -/
namespace PD
open PySem PySem.Spec PyProof.Rows L2
section
variable {K : PySem.W.Frag} {ρ : Rho} {ta tb : TE}
theorem yd_allR {bs : List Bool} (ha : Rl K ta ρ (fun x => x = bs.map .bool)) : Pd K (tCB (rAll K) (tCons ta tNil)) ρ (.bool (bs.all id)) := fun T H0 G H σ gh tp D Q q =>
  ha.bind gh tp D fun xs p vs G1 H1 p1 s1 gh1 tp1 D1 rd a => by
    subst p1
    have := a.bools
    subst this
    exact ⟨p, bs, rfl, rd.sq gh1, q _ _ G1 H1 rfl s1 (.bl _)⟩
end
theorem sortedKP {X : Cx} {K : PySem.W.Frag} (h : X.K = K) : CallR X (.builtin "sorted") (rSortedI K) := h ▸ cr_sortedI
end PD

set_option maxHeartbeats 2000000
/-! PD24: the caught exception as a value: except X as e, isinstance(e, C), a def that is given e -/
namespace PD
open PySem PySem.Spec PyProof.Rows L2
/-! bs.count(k) of bools -/
def rCntB (K : PySem.W.Frag) : V → List V → Hp → VK → Prop := fun x xs H Q => ∃ (a : Addr) (bs : List Bool) (k : Bool), x = .ref a ∧ xs = [V.bl k] ∧ SqL K H a (bs.map V.bl) ∧ Q (.int (bs.count k : Nat)) H
theorem vals_bls : ∀ {bs : List Bool} {us : List Value}, Vals (bs.map V.bl) us → us = bs.map Value.bool
  | [], _, .nil => rfl
  | b :: bs, _, .cons r t => by
    cases r
    rw [vals_bls t]
    rfl
theorem rds_bls (h : Heap) : ∀ bs : List Bool, ReadsAll h (bs.map Value.bool) (bs.map PyData.bool) (bs.flatMap fun _ => [])
  | [] => .nil
  | b :: bs => by
    show ReadsAll h (.bool b :: bs.map Value.bool) (.bool b :: bs.map PyData.bool) ([] ++ bs.flatMap fun _ => [])
    exact .cons (.bool b) (rds_bls h bs)
theorem cnt_bls (k : Bool) : ∀ bs : List Bool, countIn (.bool k) (bs.map PyData.bool) = (bs.count k : Nat)
  | [] => rfl
  | b :: bs => by
    show (if same (.bool b) (.bool k) then (1 : Int) else 0) + countIn (.bool k) (bs.map PyData.bool) = _
    rw [cnt_bls k bs, List.count_cons]
    cases b <;> cases k <;> simp [same] <;> omega
theorem mt_cntB {X : Cx} : MtR X "list.count" (rCntB X.K) := by
  intro pins s σ H x xs v us Q I rx rxs h
  obtain ⟨a, bs, k, rfl, rfl, hs, q⟩ := h
  cases rx
  cases rxs with
  | cons ry rt =>
    cases rt
    cases ry
    obtain ⟨its, rv, pl, _⟩ := I.list hs
    have e := vals_bls rv
    subst e
    obtain ⟨o, n, ho, hc, hdn, hd⟩ := pl
    refine count_list_bools (vs := bs.map Value.bool) (xs := bs.map PyData.bool) (k := k) ⟨o, ho, hc, n, hd⟩ (rds_bls s.heap bs) ?_ ?_
    · rw [List.all_eq_true]
      intro y hy
      obtain ⟨b, _, rfl⟩ := List.mem_map.mp hy
      rfl
    · rw [cnt_bls]
      exact ⟨.int (bs.count k : Nat), H, I.tok _, ⟨_, rfl⟩, q⟩
theorem yd_cntB {K : PySem.W.Frag} {ρ : Rho} {ta tb : TE} {bs : List Bool} {k : Bool} (ha : Rl K ta ρ (fun y => y = bs.map .bool)) (hb : Pd K tb ρ (.bool k)) : Pd K (tBM K "list" (rCntB K) ta (tCons tb tNil)) ρ (.int (bs.count k : Nat)) := fun T H0 G H σ gh tp D Q q =>
  ha.bind gh tp D fun xs p vs G1 H1 p1 s1 gh1 tp1 D1 rd a => ⟨.inl ⟨rfl, vs, rd.sq gh1⟩, hb.bind gh1 tp1 D1 fun y u G2 H2 p2 s2 gh2 tp2 D2 x2 => by
    subst p1 p2
    cases x2
    have := a.bools
    subst this
    exact ⟨p, bs, k, rfl, rfl, (rd.mono s2).sq gh2, q _ _ G2 H2 rfl (s1.trans s2) (.int _)⟩⟩
/-! the slot of a caught exception: its place, its dict, its fields -/
def exM (a : Addr) (d : Option Addr) (fs : List (Str × PyData)) : Mo where
  fp := []
  ok := fun K G H o => o = some (.ref a) ∧ XD K G H d fs
  frame := fun g _ h => ⟨h.1, h.2.mono g⟩
/-! isinstance(e, C), e's object a pin -/
def hasXd (H : Hp) (d : Option Addr) : Prop := d = none ∨ ∃ dd vs, d = some dd ∧ H dd = some (.xd vs)
theorem XD.has {K : PySem.W.Frag} {G H : Hp} {d : Option Addr} {fs : List (Str × PyData)} (h : XD K G H d fs) (gh : Same G H) : hasXd H d := by
  rcases h with ⟨e, _⟩ | ⟨_, dd, vs, e, q, _⟩
  · exact .inl e
  · exact .inr ⟨dd, vs, e, gh _ _ q⟩
def rIsD (K : PySem.W.Frag) (D a : Addr) (d : Option Addr) : List V → Hp → VK → Prop := fun xs H Q => hasXd H d ∧ ∃ (c : V) (cv : Value) (b : Bool), xs = [.ref a, c] ∧ (∀ u, RelV c u → u = cv) ∧ PySem.W.kitOne K (.ref D) cv = some b ∧ Q (.bl b) H
theorem call_isP {X : Cx} {p : Addr × Obj} {D : Addr} {d : Option Addr} (C : ExcC X.K D) (hp : p ∈ X.pn) (hz : Zc (.ref D) d p.2) (hf : ∃ vs, p.2.data = .fields vs) : CallR X (.builtin "isinstance") (rIsD X.K D p.1 d) := fun pins s σ H xs us Q I r h => by
  obtain ⟨hx, c, cv, b, rfl, hcv, e, q⟩ := h
  obtain ⟨u1, u2, rfl, r1, r2⟩ := vals2 r
  cases (show u1 = Value.ref p.1 from r1)
  cases hcv _ r2
  have hget := (I.pin p (List.mem_append_left _ hp)).1
  obtain ⟨vs, hv⟩ := hf
  obtain ⟨z1, z2⟩ := hz
  have hn : PySem.W.notCls p.2 = true := by unfold PySem.W.notCls; rw [hv]
  have J : ∃ od, PySem.W.InstAt s.heap p.1 p.2 D od := by
    rcases hx with rfl | ⟨dd, ws, rfl, hdd⟩
    · exact ⟨none, hget, z1, hn, by rw [z2]; trivial⟩
    · have ho : ObjOk X.prog X.w H s.heap dd (.xd ws) := I.hok dd _ hdd
      obtain ⟨mA, hns, _⟩ := ho
      obtain ⟨od, ho, _⟩ := lookIn_ns hns
      exact ⟨some od, hget, z1, hn, by rw [z2]; exact ho⟩
  obtain ⟨od, J⟩ := J
  have hcl : (PySem.W.clsIn X.K D).isSome = true := by
    obtain ⟨cd, hc, _⟩ := PySem.W.any_some C.hd
    rw [hc]
    rfl
  have kx := PySem.W.kitx_exc (x := p.1) (ox := p.2) (od := od) hcl C.hg C.hk C.hs C.ha C.hn C.ht C.hm
  exact PySem.W.kia_one kx I.kIn J e (fun z => nomatch z) fun tk => ⟨.bl b, H, I.kept (t' := tk) fun _ _ z => z, rfl, q⟩
theorem yd_isE {K : PySem.W.Frag} {ρ : Rho} {i : Nat} {a D : Addr} {d : Option Addr} {fs : List (Str × PyData)} {c : V} {cv : Value} {b : Bool} (hi : ρ[i]? = some (.mx (exM a d fs))) (hc : ClsV c cv) (hk : PySem.W.kitOne K (.ref D) cv = some b) :
    Pd K (tCB (rIsD K D a d) (tCons (tVar i) (tCons (tC c) tNil))) ρ (.bool b) := fun T H0 G H σ gh tp D' Q q => by
  obtain ⟨o, e1, ⟨rfl, xd⟩, _⟩ := D'.at hi
  exact ⟨_, e1, xd.has gh, c, cv, b, rfl, fun u r => hc.eq r, hk, q _ _ G H rfl (Step.refl gh tp) (.bl b)⟩
/-- e.f -/
theorem yd_xf {K : PySem.W.Frag} {ρ : Rho} {i : Nat} {a C : Addr} {d : Option Addr} {fs : List (Str × PyData)} {f : Str} {x : PyData} (hi : ρ[i]? = some (.mx (exM a d fs))) (hl : fs.lookup f = some x) : Pd K (tXf a (.ref C) d C f (tVar i)) ρ x := fun T H0 G H σ gh tp D' Q q => by
  obtain ⟨o, e1, ⟨rfl, xd⟩, _⟩ := D'.at hi
  rcases xd with ⟨_, rfl⟩ | ⟨_, dd, vs, rfl, hd, xn⟩
  · cases hl
  · obtain ⟨v, hv, dn⟩ := xn.at hl
    exact ⟨_, e1, rfl, rfl, dd, vs, v, rfl, gh _ _ hd, hv, q _ _ G H rfl (Step.refl gh tp) dn⟩
theorem opx_eqU {X : Cx} (hu : X.A.units + 64 < cLine) : OpR X (compareOp .Eq) (rEqX X.K) := op_eq.or (op_eqD hu)
theorem ws_setd {K : PySem.W.Frag} {ρ : Rho} {te : TE} {d : PyData} {E : Ed} {i : Nat} (h : Pd K te ρ d) (k : E.nx (ρ.set i (.d d))) : Ws K (tAsg te (gName i)) ρ E := ws_set h fun _ e => e ▸ k
/-! a def that is given the caught exception and answers True, if it is of the class D -/
def spE (K : PySem.W.Frag) (a : Addr) (d : Option Addr) : List V → Hp → VK → Prop := fun vs H Q => vs = [.ref a] ∧ ∃ (T : Addr → Prop) (G : Hp) (fs : List (Str × PyData)), Same G H ∧ (∀ x, T x → Tp G H x) ∧ XD K G H d fs ∧ ∀ G' H', Step T G H G' H' → Q (.bl true) H'
structure FnE (P : Program) (w : World) (K : PySem.W.Frag) (mg : Str → Option Value) (base : Heap) (k : Nat) (f : Addr) (fd : FuncData) (x : Str) (D : Addr) : Prop where
  run : ∀ (A : Around) (outer : List Env) (s : Shared) (H : Hp) (args : Args) (us : List Value) (Q : VK) (E : XK) (p : Addr × Obj) (d : Option Addr), L2H.RoomH k A → L2H.PinOk outer H s p → Zc (.ref D) d p.2 → (∃ vs, p.2.data = .fields vs) → Env0 P w K mg base A outer s H →
    BindsTo s fd args ([x].zip us) → Vals [V.ref p.1] us → spE K p.1 d [.ref p.1] H Q → codeAny (model P w) A (.call (.ref f) args) (CR CX0 outer P w H s Q E) s
theorem fn_e {P : Program} {w : World} {K : PySem.W.Frag} {mg : Str → Option Value} {base : Heap} {x qual y : Str} {st : Stmt} {f D : Addr} {fd : FuncData} {N : List Str} {k : Nat} (F : Fun K x qual st f fd) (S : FnScope N [y] (defScope st))
    (hb : ∀ (cdv : Value) (A : Around) (outer : List Env) (s : Shared) (H : Hp) (E : XK) (p : Addr × Obj) (d : Option Addr), Zc (.ref D) d p.2 → (∃ vs, p.2.data = .fields vs) → (A.deeper (envOfC qual (defScope st) s.heap.objs.size f cdv)).units + 64 < cLine →
      ∃ t, PSs (L2H.cxH CX0 P w K mg base N qual (defScope st) f cdv A outer s H E p) (defBody st) t ∧ ∀ fs, Ws K t (.mx (exM p.1 d fs) :: List.replicate (N.length - 1) .no) { rt := fun d => d = .bool true }) :
    FnE P w K mg base (k + 1) f fd y D := by
  obtain ⟨oc, od, kV, doc, pm, an, cdv, ct, osl, rfl, lk, hcd⟩ := F.ex
  refine ⟨fun A outer s H args us Q E p d hr hpin hz hf e0 hbind r hsp => ?_⟩
  have KIn := PySem.W.Frag.In.keeps e0.mod.kin (h' := s.heap) fun b o e => (e0.bs b o e).1
  have lim := Heap.NoLimit.keeps (h' := s.heap) e0.mod.nolimit fun b o e => (e0.bs b o e).1
  have kinds : ∀ z ∈ [y].zip us, (defScope st).names.lookup z.1 = some .local ∨ ((defScope st).names.lookup z.1 = some .cell ∧ ((cellsFrom (s.heap.objs.size + 1) (defScope st).names []).lookup z.1).isSome = true) := by
    rintro ⟨n, v⟩ hz'
    exact (S.par n (List.of_mem_zip hz').1).imp id fun q => ⟨q, PySem.W.cellsFrom_some _ _ _ (.inl q)⟩
  refine codeAny_call_function hr.depth (KIn _ _ lk) rfl S.co S.gen rfl (PySem.W.codeRec_of KIn hcd) (hbind _ _ _ _ ?_)
  refine wpAny_newFunctionEnv_cells S.kind kinds fun env he s1 hx => ?_
  cases he
  refine ⟨lim.keeps hx.toInCall.keep, codeAny_func ?_⟩
  obtain ⟨t, ht, hw⟩ := hb cdv A outer s H E p d hz hf (by have := (hr.deeper (envOfC qual (defScope st) s.heap.objs.size f cdv)).un; omega)
  have I := L2H.inv_startH (CX := CX0) (E := E) (cd := cdv) S hpin e0 (vs := [V.ref p.1]) rfl r hx
  obtain ⟨_, T, G, fs, gh, tp, xd, q⟩ := hsp
  have hN : 1 ≤ N.length := by
    have := congrArg List.length S.pre
    rw [List.length_take] at this
    simp only [List.length_singleton] at this
    omega
  have D0 : Den T K H G H (L2.start N [V.ref p.1]) (.mx (exM p.1 d fs) :: List.replicate (N.length - 1) .no) := by
    refine ⟨?_, fun i x o e1 e2 => ?_, fun i j xs ys o p l hij e1 _ _ _ mm _ => ?_⟩
    · unfold L2.start
      simp
    · cases i with
      | zero =>
        cases e1
        cases e2
        exact ⟨⟨rfl, xd⟩, fun _ z => nomatch z⟩
      | succ i =>
        have e1 : (List.replicate (N.length - 1) Sl.no)[i]? = some x := e1
        rw [List.getElem?_replicate] at e1
        split at e1
        · cases e1; trivial
        · cases e1
    · cases i with
      | zero => cases e1; exact nomatch mm
      | succ i =>
        have e1 : (List.replicate (N.length - 1) Sl.no)[i]? = some xs := e1
        rw [List.getElem?_replicate] at e1
        split at e1
        · cases e1
          exact mm.elim
        · cases e1
  have hfin := hw fs T G H (L2.start N [V.ref p.1]) H { nx := fun _ H' => Q .non H', rt := Q } ⟨G, Step.refl gh tp, D0⟩ ⟨fun _ _ _ z => z.elim, fun d v H' e a => by
    obtain ⟨G', s', dn⟩ := a
    cases e
    cases dn
    exact q G' H' s', fun _ _ _ z => z.elim, fun _ _ _ z => z.elim, fun _ _ _ _ _ _ _ z => z.elim⟩
  refine wpAny_mono (ht.run [] s1 _ H _ I hfin) (fun fl s' hs => ?_) fun _ _ z => z
  cases fl with
  | ret u => exact let ⟨v, σ', H', J, rv, qv⟩ := hs; ⟨v, H', J.os, J.bare, J.base, J.hok, rv, qv⟩
  | next => exact let ⟨σ', H', J, qv⟩ := hs; ⟨.non, H', J.os, J.bare, J.base, J.hok, rfl, qv⟩
  | brk => exact let ⟨_, _, _, z⟩ := hs; z.elim
  | cont => exact let ⟨_, _, _, z⟩ := hs; z.elim
structure CalE (Pg : Program) (w : World) (K : PySem.W.Frag) (mg : Str → Option Value) (base : Heap) (k : Nat) (x y : Str) (D : Addr) : Prop where
  ex : ∃ f fd, FnE Pg w K mg base k f fd y D ∧ mg x = some (.ref f) ∧ PySem.W.keepIn K (.ref f) = true ∧ Binds K fd [y] []
/-- what the call wishes: slot i holds the exception, its class is D -/
def tE (K : PySem.W.Frag) (i : Nat) (a D : Addr) (cls : Value) (d : Option Addr) : TE := fun σ H Q => cls = .ref D ∧ σ[i]? = some (some (.ref a)) ∧ spE K a d [.ref a] H Q
theorem pe_callE {X : Cx} {k j : Nat} {x y n : Str} {D a : Addr} {oe : Obj} {pn : List (Addr × Obj)} {cls : Value} {d : Option Addr} {i : Nat} {q pos np : Pos} (C : CalE X.prog X.w X.K X.mg X.base k x y D) (hr : Room j X.A) (hN : X.N[i]? = some n) (hv : Vis X.env.scope n) (hz : Zc cls d oe) (hf : ∃ vs, oe.data = .fields vs)
    (hk : k ≤ j := by decide) (hg : Gl X x := by rfl) (hdb : (x == ("__debug__" : Str)) = false := by decide) (hnd : (n == ("__debug__" : Str)) = false := by decide) (hnc : (n == ("__classdict__" : Str)) = false := by decide) :
    PE (X.suite a ((a, oe) :: pn)) (.Call (.Name x q) [.Name n np] [] pos) (tE X.K i a D cls d) := by
  obtain ⟨f, fd, F, hm, kp, hb⟩ := C.ex
  refine ⟨fun pins s σ H Q I h => ?_⟩
  obtain ⟨rfl, hσ, hsp⟩ := h
  refine wpAny_Call_Name_kw (ld_glob I (X := X.suite a ((a, oe) :: pn)) hg hm ?_ hdb)
  have pa : PA (X.suite a ((a, oe) :: pn)) [.Name n np] (tCons (tVar i) tNil) := pa_cons (pe_var hN hv hnd hnc) pa_nil
  refine PySem.W.callWith_K (h₀ := X.base) I.ok.mod.kin kp (thn (pa.run pos pins s σ H (fun vs H' => vs = [.ref a] ∧ H' = H) I ⟨_, hσ, rfl, rfl⟩) fun us s1 ⟨vs, H1, I1, r, e1, e2⟩ => ⟨I1.kIn, ?_⟩) rfl rfl
  subst e1 e2
  have bs := hb s1 us I1.kIn (by rw [List.append_nil, ← r.length]; rfl)
  rw [List.append_nil] at bs
  have P1 := I1.pin (a, oe) (List.mem_append_left _ List.mem_cons_self)
  have hpin : L2H.PinOk X.stack H1 s1 (a, oe) := ⟨P1.1, P1.2.1, fun hm' => (List.mem_cons.mp (I1.stkSub a hm')).elim P1.2.2.1 P1.2.2.2.1, P1.2.2.2.2⟩
  have room : L2H.RoomH k (X.suite a ((a, oe) :: pn)).A := by
    have := L2H.roomH_of hr
    exact ⟨by have := this.dp; show X.A.depth + 3 * k + 5 < _; omega, by have := this.un; show X.A.units + 16 * k + 200 < _; omega⟩
  refine wpAny_call (codeAny_mono (F.run _ X.stack s1 H1 ⟨us, []⟩ us Q (fun _ _ _ => False) (a, oe) d room hpin hz hf I1.env0 bs r hsp) fun rs s' hq => ?_)
  cases rs with
  | error e => exact hq.elim
  | ok fl =>
    cases fl with
    | ret u => exact I1.after hq
    | next => exact hq.elim
    | brk => exact hq.elim
    | cont => exact hq.elim
/-- _law_single(e) in the suite -/
theorem yd_callE {K : PySem.W.Frag} {ρ : Rho} {i : Nat} {a D : Addr} {d : Option Addr} {fs : List (Str × PyData)} (hi : ρ[i]? = some (.mx (exM a d fs))) : Pd K (tE K i a D (.ref D) d) ρ (.bool true) := fun T H0 G H σ gh tp D' Q q => by
  obtain ⟨o, e1, ⟨rfl, xd⟩, _⟩ := D'.at hi
  exact ⟨rfl, e1, rfl, T, G, fs, gh, tp, xd, fun G' H' s => q _ _ G' H' rfl s (.bl true)⟩
/-! try: .. except X as e: .. -/
def tTryAs (K : PySem.W.Frag) (c : Value) (i : Nat) (tb : WX → TS) (ts : Addr → Value → Option Addr → TS) (Wout : WX) : TS := fun D σ H => tb (wAs K c i ts Wout D) D σ H
theorem ps_tryAsT {X : Cx} {x n : Str} {c : Value} {i : Nat} {body suite : List Stmt} {b₀ : Stmt} {np pos pos' : Pos} {tb : WX → TS} {ts : Addr → Value → Option Addr → TS} {Wout : WX} (hs : X.stack = X.env :: X.outer) (hf : X.env.frame = some X.env.locals) (hN : X.N.Nodup) (hi : X.N[i]? = some n) (hln : X.env.kindOf n = some .local) (hc : Names X x c) (tk : Takes X Wout)
    (hb : ∀ (W : WX) (pn : List (Addr × Obj)) (xe : Value → Shared → Prop), Takes (X.tr pn xe) W → PassesOwn (model X.prog X.w) X.A X.env xe → PSs (X.tr pn xe) body (tb W))
    (hsu : ∀ (a : Addr) (oe : Obj) (cls : Value) (d : Option Addr) (pn : List (Addr × Obj)), Zc cls d oe → (∃ vs, oe.data = .fields vs) → PSs (X.suite a ((a, oe) :: pn)) (b₀ :: suite) (ts a cls d)) :
    PS X (.Try body [.ExceptHandler (some (.Name x np)) (some n) (b₀ :: suite) pos'] [] [] pos) (tTryAs X.K c i tb ts Wout) := ps_try_as hs hf hN hi hln hc tk hb hsu
theorem ws_tryAs {K : PySem.W.Frag} {ρ : Rho} {E : Ed} {i : Nat} {tb : WX → TS} {ts : Addr → Value → Option Addr → TS} {Wout : WX} {c : Value} (XR : Value → List (Str × PyData) → Rho → Prop)
    (hb : ∀ W, Ws K (tb W) ρ { nx := E.nx, rt := E.rt, bk := E.bk, ct := E.ct, xw := W, xr := XR })
    (hh : ∀ c' fs r, XR c' fs r → ∃ b, PySem.W.exmOne K c' c = some b ∧ (b = true → ∀ a d, Ws K (ts a c' d) (r.set i (.mx (exM a d fs))) { nx := fun q => E.nx (q.set i .no), rt := E.rt, bk := fun q => E.bk (q.set i .no), ct := fun q => E.ct (q.set i .no) }) ∧ (b = false → E.xr c' fs r ∧ E.xw = Wout)) : Ws K (tTryAs K c i tb ts Wout) ρ E := fun T G0 H0 σ H D a e => by
  refine hb (wAs K c i ts Wout D) T G0 H0 σ H D a ⟨e.nx, e.rt, e.bk, e.ct, fun cls fs d r σ' G' H' x s D' xd => ?_⟩
  obtain ⟨b, h1, h2, h3⟩ := hh cls fs r x
  refine ⟨b, h1, fun hbt a' na => ?_, fun hbf => ?_⟩
  · have go : ∀ {P : Rho → Prop} {R : L2.St → Hp → Prop}, (∀ ρ σ H, P ρ → At T K G0 H0 ρ σ H → R σ H) → ∀ ρ σ H, P (ρ.set i .no) → At T K G0 H0 ρ σ H → R (σ.set i none) H := fun hR ρ σ H p ⟨G, s, dn⟩ => hR _ _ _ p ⟨G, s, dn.set trivial fun _ z => nomatch z⟩
    exact h2 hbt a' d T G0 H0 _ H' _ ⟨G', s, D'.set (s := .mx (exM a' d fs)) ⟨⟨rfl, xd⟩, fun _ z => nomatch z⟩ fun _ z => nomatch z⟩ ⟨go e.nx, e.rt, go e.bk, go e.ct, fun _ _ _ _ _ _ _ z => z.elim⟩
  · obtain ⟨h4, h5⟩ := h3 hbf
    subst h5
    exact e.xx cls fs d r σ' G' H' h4 s D' xd
end PD

set_option maxHeartbeats 2000000
/-! PD25: xs[j] += e, len(set(xs)) of distinct ints -/
namespace PD
open PySem PySem.Spec PyProof.Rows L2
def rGetL (K : PySem.W.Frag) : V → V → Hp → VK → Prop := fun x y H Q => ∃ p xs i v, x = V.ref p ∧ y = V.int i ∧ 0 ≤ i ∧ SqL K H p xs ∧ xs[i.toNat]? = some v ∧ Q v H
theorem pget_list {X : Cx} : PGet X (rGetL X.K) := fun pins s σ H o i ov iv Q I ro ri h => by
  obtain ⟨p, xs, j, v, rfl, rfl, j0, hq, he, q⟩ := h
  cases ro
  obtain ⟨t, rfl⟩ := ri
  obtain ⟨its, r, pl, hz⟩ := I.list hq
  obtain ⟨w, ew, rw'⟩ := r.get he
  have hlt := (List.getElem?_eq_some_iff.mp he).1
  have hz' : xs.length ≤ 16777216 := hz
  exact wpAny_getItem_list pl.isList j0 (by omega) (by simpa using ew) ⟨v, H, I, rw', q⟩
/-- xs[j] += b -/
theorem ws_augI {K : PySem.W.Frag} {ρ : Rho} {tb te : TE} {i n : Nat} {xs : List PyData} {a b : Int} {E : Ed} (e : ρ[i]? = some (.ml xs)) (hj : Pd K tb ρ (.int (n : Int))) (hx : xs[n]? = some (.int a)) (h : Pd K te ρ (.int b)) (k : E.nx (ρ.set i (.ml (xs.set n (.int (a + b)))))) :
    Ws K (tAugS (tVar i) tb te (rGetL K) (ipI fun i j => i + j) rSetL) ρ E := fun T G0 H0 σ H D at' ed => by
  obtain ⟨G, s, D0⟩ := at'
  obtain ⟨o, e1, l, vs, rfl, hl, x, gl, h0, nt⟩ := D0.at e
  refine ⟨_, e1, hj.bind s.gh s.tp D0 fun z w G2 H2 p2 s2 gh2 tp2 D2 y2 => ?_⟩
  subst p2
  cases y2
  have hl2 := s2.h _ _ nt hl
  obtain ⟨u, hu, du⟩ := x.get hx
  cases du
  refine ⟨l, vs, (n : Int), .int a, rfl, rfl, by omega, .inl (.inl hl2), by simpa using hu, ?_⟩
  refine h.bind gh2 tp2 D2 fun z w G3 H3 p3 s3 gh3 tp3 D3 y3 => ?_
  subst p3
  cases y3
  refine ⟨a, b, rfl, rfl, ?_⟩
  have hlt := (List.getElem?_eq_some_iff.mp hu).1
  obtain ⟨s4, D4⟩ := D3.mut ((s.trans s2).trans s3) e e1 (((x.mono s2.g).mono s3.g).set n (.int (a + b)))
  exact ⟨l, vs, (n : Int), n, rfl, rfl, s3.h _ _ nt hl2, by unfold ixN; rw [if_pos (by omega), if_pos (by omega)]; simp, ed.nx _ _ _ k ⟨G3, s4, D4⟩⟩
theorem yd_lenSetI {K : PySem.W.Frag} {ρ : Rho} {ta : TE} {ns : List Int} (ha : Rl K ta ρ (fun x => x = ns.map .int)) (hl : ns.length < 64) (nd : ns.Nodup) : Pd K (tLenSetI K ta) ρ (.int (ns.length : Int)) := fun T H0 G H σ gh tp D Q q =>
  ha.bind gh tp D fun xs p vs G1 H1 p1 s1 gh1 tp1 D1 rd a => by
    subst p1
    have := a.ints
    subst this
    exact ⟨p, ns, rfl, rd.sq gh1, hl, nd, q _ _ G1 H1 rfl s1 (.int _)⟩
/-! a def whose answer is a list that was just made -/
abbrev PrL := List Sl → (List PyData → Prop) → Prop
def spL (K : PySem.W.Frag) (n : Nat) (R : PrL) : Sp := fun vs H Q _ => ∃ (T : Addr → Prop) (G : Hp) (ss : List Sl) (P : List PyData → Prop), Same G H ∧ (∀ a, T a → Tp G H a) ∧ ArgsOk T K G ss vs ∧ ss.length = n ∧ R ss P ∧
  ∀ xs p us G' H', P xs → Step T G H G' H' → H p = none → ¬ T p → G' p = none → H' p = some (.lst us) → DnAll K G' us xs → Q (.ref p) H'
theorem nl_call {K : PySem.W.Frag} {ρ : Rho} {n : Nat} {R : PrL} {ta : TA} {ss : List Sl} {P : List PyData → Prop} {E : XK} (h : Pasd K ta ρ ss) (hl : ss.length = n) (hR : R ss P) : Nl K (tCall (spL K n R) [] E ta) ρ P := fun T H0 G H σ gh tp D Q q =>
  h.bind gh tp D fun ss' vs G1 H1 p1 s1 gh1 tp1 D1 x1 => by
    subst p1
    show spL K n R (vs ++ []) H1 Q E
    rw [List.append_nil]
    exact ⟨T, G1, _, P, gh1, tp1, x1, hl, hR, fun xs p us G' H' hp s hn nt gn hh d => q xs p us G' H' hp (s1.trans s) (s1.no hn nt) nt gn hh d⟩
theorem fn_okL {K : PySem.W.Frag} {Pg' : Program} {w : World} {mg : Str → Option Value} {base : Heap} {x qual : Str} {st : Stmt} {f : Addr} {fd : FuncData} {N ps : List Str} {k n : Nat} {R : PrL} (F : Fun K x qual st f fd) (S : FnScope N ps (defScope st)) (hp : ps.length = n) (hN : n ≤ N.length)
    (hb : ∀ (cdv : Value) (A : Around) (outer : List Env) (s : Shared) (H : Hp) (E : XK), Room k (A.deeper (envOfC qual (defScope st) s.heap.objs.size f cdv)) →
      ∃ te, PSs (cxOf CX0 Pg' w K mg base N qual (defScope st) f cdv A outer s H E).nox (defBody st) (tRet te) ∧ ∀ ss P, ss.length = n → R ss P → Nl K te (ss ++ List.replicate (N.length - n) .no) P) :
    FnOk Pg' w K mg base CX0 (k + 1) f fd ps (spL K n R) := by
  refine F.ok S (fun vs H Q E h => ?_) (fun cdv A outer s H vs Q E hr h => ?_)
  · obtain ⟨T, G, ss, P, gh, tp, a, hl, _⟩ := h
    rw [← Paired.length a, hl, hp]
  · obtain ⟨te, ht, hw⟩ := hb cdv A outer s H E hr
    obtain ⟨T, G, ss, P, gh, tp, a, hl, hR, q⟩ := h
    refine ⟨tRet te, ht, ?_⟩
    have D0 : Den T K H G H (L2.start N vs) (ss ++ List.replicate (N.length - n) .no) := by
      have := den_start (H0 := H) (H := H) (N := N) a (by omega)
      rw [hl] at this
      exact this
    exact hw ss P hl hR T H G H _ gh tp D0 Q fun xs p us G' H' hp' s' hn nt gn hh d => q xs p us G' H' hp' s' hn nt gn hh d
end PD

set_option maxHeartbeats 4000000
/-! PD26: enumerate of a tuple -/
namespace EnT
open PySem PySem.Spec PyProof.Rows L2 EnS
set_option maxHeartbeats 4000000 in
theorem new_tup (t : Addr) (xs : Array Value) (n : Nat) (dd : Option Addr) (sl : Array (Option Value)) :
    Meets (Builtin.«enumerate.__new__» ⟨[.type "enumerate", .ref t], []⟩) (fun _ R s => s.heap.get? t = some { cls := .type "tuple", dict := dd, data := .seq xs n, slots := sl } ∧
      R (.ok (.ret (.ref (s.heap.push { cls := .type "tuple_iterator", data := .fields #[.ref t, .int 0 0] }).objs.size)))
        { s with heap := (s.heap.push { cls := .type "tuple_iterator", data := .fields #[.ref t, .int 0 0] }).push { cls := .type "enumerate", data := .fields #[.none, .bool false, .ref s.heap.objs.size, rawInt 0, .none, .none] } }) :=
  .of_wp fun prog w A R s h => by
    obtain ⟨hp, gg, dr, tk, oo⟩ := s
    obtain ⟨ht, h⟩ := h
    have es := sub_enumerate
    have T0 : Heap.IsTuple (Shared.heap ⟨hp, gg, dr, tk, oo⟩) t xs := ⟨_, ht, rfl, n, rfl⟩
    wp_walk using wpAny_loadPart' ht
    refine wpAny_stack_any fun _ => wpAny_pure ?_
    split
    · rename_i c _ _ _ _ _
      cases (c == Value.type "enumerate")
      all_goals
        wp_walk using wpAny_loadPart' ht, wpAny_pyIter_tuple T0
        exact ⟨_, rfl, h⟩
    · wp_walk using wpAny_loadPart' ht, wpAny_pyIter_tuple T0
      exact ⟨_, rfl, h⟩
theorem call_tup {prog : Program} {w : World} {A : Around} {E : Value → Shared → Prop} {s : Shared} {t : Addr} {xs : Array Value} {Q : Value → Shared → Prop} (hT : s.heap.IsTuple t xs)
    (k : ∀ h1, IsEnum h1 (s.heap.objs.size + 1) s.heap.objs.size 0 .none → h1.IsTupleIter s.heap.objs.size t 0 → (∀ b o, s.heap.get? b = some o → h1.get? b = some o) → Q (.ref (s.heap.objs.size + 1)) { s with heap := h1 }) : wpAny (model prog w) A (call (.type "enumerate") [.ref t]) Q E s := by
  obtain ⟨⟨cc, dd, dt, sl⟩, ht, hc, n, hd⟩ := hT
  simp only at hc hd
  subst hc hd
  refine callType_new F.called_enumerate (by decide) (F.typeCall_enumerate_1 _) (F.newCall_enumerate_1 _) (fun ob => F.args_object_init_2 ob _) F.entry_enumerate_new (new_tup t xs n dd sl) ⟨ht, ?_⟩
  obtain ⟨h0, e0⟩ : ∃ h0, h0 = s.heap.push { cls := .type "tuple_iterator", data := .fields #[.ref t, .int 0 0] } := ⟨_, rfl⟩
  have z : h0.objs.size = s.heap.objs.size + 1 := by rw [e0]; exact Heap.size_push ..
  have g0 : h0.get? s.heap.objs.size = some { cls := .type "tuple_iterator", data := .fields #[.ref t, .int 0 0] } := by rw [e0]; exact Heap.get?_push_size _ rfl
  have up : ∀ b o, s.heap.get? b = some o → h0.get? b = some o := fun b o q => by rw [e0]; exact Heap.get?_push_of_some _ q
  show _ ∧ _
  rw [← e0, z]
  have ge := Heap.get?_push_size h0 (o := { cls := .type "enumerate", data := .fields #[.none, .bool false, .ref s.heap.objs.size, rawInt 0, .none, .none] }) rfl
  rw [z] at ge
  exact ⟨⟨_, ge, rfl⟩, k _ ge ⟨_, Heap.get?_push_of_some _ g0, rfl, rfl⟩ fun b o q => Heap.get?_push_of_some _ (up b o q)⟩
theorem end_tup {prog : Program} {w : World} {A : Around} {E : Value → Shared → Prop} {s : Shared} {e it t : Addr} {i : Nat} {c : Int} {xs : Array Value} {old : Value} {Q : Option Value → Shared → Prop} (hh : A.handled = none) (he : IsEnum s.heap e it c old) (hit : s.heap.IsTupleIter it t i) (hl : s.heap.IsTuple t xs) (hx : xs[i]? = none)
    (k : ∀ h', Heap.ExtBut it s.heap h' → Q none { s with heap := h' }) : wpAny (model prog w) A (pyNext (.ref e)) Q E s := by
  have hT : s.TypeIs (.ref e) "enumerate" := ⟨_, he, rfl⟩
  unfold pyNext
  refine wpAny_bind (wpAny_attempt (wpAny_callSpecial?_slot (name := Str.ofString "__next__") hT F.slot_enumerate_next
    (wpAny_call_entry F.slot_enumerate_next hT F.entry_enumerate_next ?_ (F.args_enumerate_next_1 _))))
  show wpAny _ _ (field (.ref e) 2 >>= _) _ _ _
  refine wpAny_bind (wpAny_field he rfl (x := .ref it) rfl ?_)
  refine wpAny_bind (wpAny_nextOf_tuple_end hh hit hl hx fun h1 y kp yo => ?_)
  obtain ⟨o, ho, hc⟩ := yo
  exact wpAny_bind (wpAny_isInstance (T := "StopIteration") (b := true) ⟨o, ho, hc⟩ isSubtype_stop (wpAny_pure (k _ kp)))
def IteT (K : PySem.W.Frag) (a : Addr) : It :=
  ⟨fun i H => ∃ (xs : List V) (x : V), SqT K H a xs ∧ xs[i]? = some x, fun i H v H' => ∃ (t : Addr) (ob : Obj) (x : V), v = .ref t ∧ H t = none ∧ ob.dict = none ∧ H' = upd H t (.frz ob (.tup [.int (i : Nat), x])) ∧ ∀ xs, SqT K H a xs → xs[i]? = some x, fun i H => ∃ xs : List V, SqT K H a xs ∧ xs.length ≤ i⟩
theorem turn_enumT {P : Program} {w : World} {K : PySem.W.Frag} {elts : List Expr} {kk : Nat} {tpos : Pos} (a e it : Addr) (ha : a ≠ it) (hea : e ≠ a) :
    Turn P w K (.Tuple elts kk tpos) (IteT K a) [e, it] e (fun i h => (∃ old, IsEnum h e it ((i : Nat) : Int) old) ∧ h.IsTupleIter it a i ∧ e ≠ it) where
  mem := by simp
  obj := fun i h st b hb => by
    obtain ⟨⟨old, he⟩, ⟨o, ho, _, dd⟩, _⟩ := st
    rcases (show b = e ∨ b = it by simpa using hb) with rfl | rfl
    · exact ⟨_, he, fun v q => nomatch q⟩
    · exact ⟨o, ho, fun v q => by rw [dd] at q; cases q⟩
  keep := fun i h h' st k => let ⟨⟨old, he⟩, hi, hne⟩ := st; ⟨⟨old, k e (by simp) _ he⟩, hi.at fun o q => k it (by simp) o q, hne⟩
  item := by
    intro X hP hw hK hc i pins s σ H E I hf st hg
    subst hP hw hK
    obtain ⟨⟨old, he⟩, hit, hne⟩ := st
    obtain ⟨xs, x, hq, hx⟩ := hg
    obtain ⟨its, rv, p, hz⟩ := I.tuple hq
    have p : s.heap.IsTuple a its.toArray := let ⟨o, a, b, n, c⟩ := p; ⟨o, a, b, n, c⟩
    obtain ⟨u, hu, ru⟩ := rv.get hx
    have el : e < s.heap.objs.size := Heap.lt_size he
    have il : it < s.heap.objs.size := by obtain ⟨_, q, _⟩ := hit; exact Heap.lt_size q
    have hlt : i < its.toArray.size := by simpa using (List.getElem?_eq_some_iff.mp hu).1
    refine wpAny_pyNext_enum_itemD (Draws.tuple (A := X.A.in1) (show X.A.in1.handled = none from I.ok.hd hc) it a ha its.toArray) he ⟨hit, p⟩ hlt hne (by simp; exact ⟨hne, hea⟩) fun u' h1 tk hP ho hst hT hsz hk => ?_
    obtain rfl : u' = u := by
      have e1 : its.toArray[i]? = some u := by simpa using hu
      exact (Option.some.inj (e1.symm.trans hP)).symm
    refine ⟨_, rfl, wpAny_letOwnedTupleGo_enum (s := { s with heap := h1, toks := tk + 1 }) ho fun h2 he2 sb => ?_⟩
    have hT2 := (sb.2 _ (Nat.ne_of_gt el)).trans hT
    have new : ObjOk X.prog X.w (upd H s.heap.objs.size (.frz { cls := .type "tuple", data := .seq #[.int i tk, u'] } (.tup [.int (i : Nat), x]))) h2 s.heap.objs.size (.frz { cls := .type "tuple", data := .seq #[.int i tk, u'] } (.tup [.int (i : Nat), x])) := ⟨hT2, by show 2 ≤ sizeLine; decide, [.int i tk, u'], .cons ⟨_, rfl⟩ (.cons ru .nil), ⟨_, hT2, rfl, _, rfl⟩⟩
    have I1 : Inv X pins σ (upd H s.heap.objs.size (.frz { cls := .type "tuple", data := .seq #[.int i tk, u'] } (.tup [.int (i : Nat), x]))) { s with heap := h2, toks := tk + 1 } :=
      I.turnedNew (ch := [e, it]) (fun b ob hb q => (sb.2 b (fun z => hb (by simp [z]))).trans (hk b ob (fun z => hb (by simp [z])) (fun z => hb (by simp [z])) q)) hf (Nat.le_refl _) new
    refine ⟨.ref s.heap.objs.size, _, I1, rfl, ⟨_, _, x, rfl, I.hok.fresh (Nat.le_refl _), rfl, rfl, fun ys hy => by rw [I.tuple_inj hy hq]; exact hx⟩, ⟨⟨u', ?_⟩, hst.1.at fun o q => (sb.2 it (Ne.symm hne)).trans q, hne⟩, fun b hb => ?_⟩
    · rw [show ((i + 1 : Nat) : Int) = (i : Int) + 1 by omega]; exact he2
    · have hb' : b < s.heap.objs.size := by
        rcases (show b = e ∨ b = it by simpa using hb) with rfl | rfl
        · exact el
        · exact il
      rw [upd_ne (Nat.ne_of_lt hb')]
      exact (hf b hb).1
  done := by
    intro X hP hw hK hc i pins s σ H E I hf st hg
    subst hP hw hK
    obtain ⟨⟨old, he⟩, hit, hne⟩ := st
    obtain ⟨xs, hq, hx⟩ := hg
    obtain ⟨its, rv, p, hz⟩ := I.tuple hq
    have p : s.heap.IsTuple a its.toArray := let ⟨o, a, b, n, c⟩ := p; ⟨o, a, b, n, c⟩
    obtain ⟨f0, f1, f2, f3, f4, f5⟩ := hf it (by simp)
    have hl := rv.length
    exact end_tup (I.ok.hd hc) he hit p (by simp; omega) fun h' eb => ⟨rfl, I.turned (t' := s.toks) (fun b o hb q => eb b o hb q) f0 f1 f3 f4 f5⟩
  self := fun A i s Q E st h => let ⟨⟨_, he⟩, _⟩ := st; wpAny_pyIter_enum he h
def iEnumT (K : PySem.W.Frag) (ta : TA) : TI := fun σ H R => ta σ H fun vs H1 => ∃ a xs, vs = [.ref a] ∧ SqT K H1 a xs ∧ R (IteT K a) H1
theorem pi_enumT {X : Cx} {e : Expr} {ta : TA} {p pos tpos : Pos} {elts : List Expr} {kk : Nat} (hg : Gl X "enumerate") (hm : X.mg "enumerate" = none) (ha : PA X [e] ta) (hs : starEach [e] X.env = [(false, eval e X.env)] := by rfl) :
    PI X (.Tuple elts kk tpos) (.Call (.Name "enumerate" p) [e] [] pos) (iEnumT X.K ta) := ⟨fun pins s σ H R I h => by
  refine Call_ (ld_blt I hg hm boot_enumerate (PyProof.Rows.callWith_type1 (thn (ha.run pos pins s σ H _ I h) fun us s1 ⟨vs, H1, I1, r1, q1⟩ => ?_) hs rfl))
  obtain ⟨a, xs, rfl, hq, q⟩ := q1
  cases r1 with
  | cons r rr =>
    cases rr
    cases r
    obtain ⟨its, rv, p', hz⟩ := I1.tuple hq
    have p' : s1.heap.IsTuple a its.toArray := let ⟨o, a, b, n, c⟩ := p'; ⟨o, a, b, n, c⟩
    have al : a < s1.heap.objs.size := by obtain ⟨_, q, _⟩ := p'; exact Heap.lt_size q
    refine call_tup p' fun h1 he hit hk => wpAny_pyIter_enum he ?_
    refine ⟨s1.heap.objs.size + 1, [s1.heap.objs.size + 1, s1.heap.objs.size], _, _, H1, rfl, I1.kept (t' := s1.toks) hk, turn_enumT a (s1.heap.objs.size + 1) s1.heap.objs.size (Nat.ne_of_lt al) (Nat.ne_of_gt (Nat.lt_succ_of_lt al)), ⟨⟨.none, he⟩, hit, Nat.succ_ne_self _⟩, fun b hb => ?_, q⟩
    have hle : s1.heap.objs.size ≤ b := by
      rcases (show b = s1.heap.objs.size + 1 ∨ b = s1.heap.objs.size by simpa using hb) with z | z
      · rw [z]; exact Nat.le_succ _
      · rw [z]; exact Nat.le_refl _
    exact I1.fpOk hle (I1.hok.fresh hle)⟩
end EnT
namespace PD
open PySem PySem.Spec PyProof.Rows L2 EnT
theorem itd_enumT {K : PySem.W.Frag} {G : Hp} {a : Addr} {vs : List V} {xs : List PyData} (h : SqT K G a vs) (d : DnAll K G vs xs) : Itd K (IteT K a) G (enumD 0 xs) where
  go := fun i H g hi => by
    rw [enumD_len, ← d.length] at hi
    exact ⟨vs, vs[i], sqt_mono g h, List.getElem?_eq_getElem hi⟩
  stop := fun i H g hi => by
    rw [enumD_len, ← d.length] at hi
    exact ⟨vs, sqt_mono g h, hi⟩
  yld := fun i T G' H x H' g1 g2 tp hi y => by
    obtain ⟨p, ob, x1, rfl, hp, od, rfl, f1⟩ := y
    obtain ⟨e1, q1, q2⟩ := (d.mono g1).get' (f1 vs (sqt_mono g2 (sqt_mono g1 h)))
    refine ⟨upd G' p (.frz ob (.tup [.int (i : Nat), x1])), .tuple [.int (i : Nat), e1], ?_, Step.new g2 tp hp, .tup (p := .inl ⟨ob, _, upd_same, od⟩) (.inl (.inr ⟨ob, upd_same⟩)) ?_⟩
    · rw [enumD_at 0 xs i e1 q1, Nat.zero_add]
    · exact DnAll.mono (fun c u e => by rw [upd_ne (ne_of_none e (g2.free hp))]; exact e) (.cons (.int _) (.cons q2 .nil))
theorem it_enumT {K : PySem.W.Frag} {ρ : Rho} {ta : TE} {xs : List PyData} (h : Pd K ta ρ (.tuple xs)) : Pitd K (iEnumT K (tCons ta tNil)) ρ (enumD 0 xs) := fun T H0 G H σ gh tp D R q =>
  h.bind gh tp D fun x v G1 H1 p1 s1 gh1 tp1 D1 x1 => by
    subst p1
    cases x1 with
    | @tup a vs _ pl e1 a1 => exact ⟨a, vs, rfl, sqt_mono gh1 e1, q _ _ G1 H1 rfl s1 (itd_enumT e1 a1)⟩
end PD

set_option maxHeartbeats 4000000
/-! PD27: reversed(range(n)), max of a list, raise X(f'{i} ..') -/
namespace PD
open PySem PySem.Spec PyProof.Rows L2
theorem rev_one {a b : Int} (ha : -(2 ^ 62) ≤ a) (ha' : a < 2 ^ 62) (hb : -(2 ^ 62) ≤ b) (hb' : b < 2 ^ 62) : Builtin.Range.smallRev a b 1 = true := by
  unfold Builtin.Range.smallRev
  rw [rangeSize_one]
  simp only [Builtin.Range.rangeFitsLong, Bool.and_eq_true, decide_eq_true_eq]
  split <;> omega
def iRevRg (te : L2.St → Hp → (Int → Int → Hp → Prop) → Prop) : TI := fun σ H R => te σ H fun a b H1 => RgOk a b ∧ R (Itc (a + (((b - a).toNat : Int) - 1) * 1) (-1) (b - a).toNat) H1
theorem pi_revRg {X : Cx} {tg e : Expr} {te : L2.St → Hp → (Int → Int → Hp → Prop) → Prop} {p pos : Pos} (hg : Gl X "reversed") (hm : X.mg "reversed" = none) (he : PRg X e te) (na : starEach [e] X.env = (false, eval e X.env) :: starEach [] X.env := by rfl) : PI X tg (.Call (.Name "reversed" p) [e] [] pos) (iRevRg te) := ⟨fun pins s σ H R I h => by
  refine Call_ (ld_blt I hg hm PyProof.Rows.boot_reversed (PyProof.Rows.callWith_type1 (args_cons (thn (he pins s σ H _ I h) fun x s1 ⟨r, a, b, t, u, v, H1, ex, hr, I1, ok, q⟩ => args_nil ?_) na) na))
  subst ex
  obtain ⟨b1, b2, b3, b4, b5⟩ := ok
  refine reversed_range hr (rev_one b1 b2 b3 b4) (rangeSize_nat a b) fun h1 hit _ hk => wpAny_pyIter_rangeiter hit ?_
  refine ⟨s1.heap.objs.size, [s1.heap.objs.size], _, _, H1, rfl, I1.kept (t' := s1.toks) hk, turn_rangeC _ (a + (((b - a).toNat : Int) - 1) * 1) (-1) (b - a).toNat, range_st hit, fun c hc => ?_, q⟩
  have e : c = s1.heap.objs.size := by simpa using hc
  subst e
  exact I1.fpOk (Nat.le_refl _) (I1.hok.fresh (Nat.le_refl _))⟩
theorem it_revRg {K : PySem.W.Frag} {ρ : Rho} {ta : TE} {n : Nat} (h : Pd K ta ρ (.int (n : Int))) (hn : n ≤ 1000) : Pitd K (iRevRg (tRg1 ta)) ρ (dnD ((n : Int) - 1) n) := fun T H0 G H σ gh tp D R q =>
  h.bind gh tp D fun x v G1 H1 p1 s1 gh1 tp1 D1 x1 => by
    subst p1
    cases x1
    refine ⟨(n : Int), rfl, ⟨by omega, by omega, by omega, by omega, by omega⟩, ?_⟩
    rw [show ((n : Int) - 0).toNat = n by omega, show (0 : Int) + ((n : Int) - 1) * 1 = (n : Int) - 1 by omega]
    exact q _ _ G1 H1 rfl s1 (itd_dn _ _)
theorem ye_maxR {K : PySem.W.Frag} {ρ : Rho} {ta : TE} {P : PyData → Prop} {PL : List PyData → Prop} (ha : Rl K ta ρ PL) (h : ∀ xs, PL xs → ∃ ns : List Int, xs = ns.map .int ∧ 0 < ns.length ∧ ∀ m, m ∈ ns → (∀ y, y ∈ ns → y ≤ m) → P (.int m)) : Pe K (tCB (rMaxX K) (tCons ta tNil)) ρ P := fun T H0 G H σ gh tp D Q q =>
  ha.bind gh tp D fun xs p vs G1 H1 p1 s1 gh1 tp1 D1 rd a => by
    obtain ⟨ns, e, hl, hP⟩ := h xs p1
    subst e
    have iv := a.ints
    subst iv
    exact .inr ⟨p, ns, rfl, rd.sq gh1, hl, fun m h1 h2 => q _ _ G1 H1 (hP m h1 h2) s1 (.int _)⟩
theorem str_app (x y : Str) : (x ++ y).length = x.length + y.length := by
  show (x.cps ++ y.cps).size = _
  rw [Array.size_append]
  rfl
/-- raise X(e) -/
theorem ws_raiseE {K : PySem.W.Frag} {ρ : Rho} {te : TE} {P : PyData → Prop} {E : Ed} {C : Addr} {W : WX} (hW : E.xw = W) (he : Pe K te ρ P) (h : E.xr (.ref C) [] ρ) : Ws K (fun _ σ H => te σ H fun _ H1 => W (.ref C) none σ H1) ρ E := fun T G0 H0 σ H D a e => by
  subst hW
  exact a.eval he fun d v G' H' _ s D' _ => e.xx _ [] none ρ σ G' H' h s D' (.inl ⟨rfl, rfl⟩)
/-- xs.reverse() -/
theorem ws_rev {K : PySem.W.Frag} {ρ : Rho} {E : Ed} {i : Nat} {xs : List PyData} (e : ρ[i]? = some (.ml xs)) (k : E.nx (ρ.set i (.ml xs.reverse))) : Ws K (tDrop (tBM0 K "list" rReverse (tVar i))) ρ E := fun T G0 H0 σ H D a ed => by
  obtain ⟨G, s, D0⟩ := a
  obtain ⟨o, e1, l, vs, rfl, hl, x, gl, h0, nt⟩ := D0.at e
  obtain ⟨s2, D2⟩ := D0.mut s e e1 x.rev
  exact ⟨_, e1, .inl ⟨rfl, vs, sql_of hl⟩, l, vs, rfl, rfl, hl, ed.nx _ _ _ k ⟨G, s2, D2⟩⟩
/-- (c, f(..)), f raises -/
theorem ex_tup2 {K : PySem.W.Frag} {ρ : Rho} {te : TE} {P : PyData → Prop} {E : Ed} {c : V} (h : PeX K te ρ (fun _ => False) E) : PeX K (tTuq (tCons (tC c) (tCons te tNil))) ρ P E := fun T G0 H0 σ H D a e Q q => h T G0 H0 σ H D a e _ fun d v G' H' z => z.elim
/-- f'{i}c' -/
theorem ye_js2 {K : PySem.W.Frag} {ρ : Rho} {ta : TE} {i : Int} {c : Str} (h : Pd K ta ρ (.int i)) (h1 : 0 ≤ i) (h2 : i < 10 ^ 6) (hc : c.length ≤ 1000 := by decide +kernel) : Pe K (fun σ H Q => tJs [tFmt ta, tC (.str c)] Str.empty σ H fun out H1 => Q (.str out) H1) ρ (fun d => ∃ y, d = .str y) := fun T H0 G H σ gh tp D Q q =>
  h.bind gh tp D fun d v G1 H1 p1 s1 gh1 tp1 D1 x1 => by
    subst p1
    cases x1
    have l1 : (Str.ofString (toString i)).length ≤ 7 := by
      rw [PySem.ofString_length]
      exact int_text_length_le10 (k := 6) (by decide) (by omega)
    have e0 : (Str.empty ++ Str.ofString (toString i)).length ≤ 7 := by
      rw [str_app]
      show 0 + _ ≤ 7
      omega
    refine .inr ⟨i, rfl, ?_, _, rfl, Nat.le_trans e0 (by decide), c, rfl, ?_, ?_⟩
    · have : i.natAbs < 2 ^ 1920 := Nat.lt_of_lt_of_le (show i.natAbs < 10 ^ 6 by omega) (by decide +kernel)
      by_cases z : i.natAbs = 0
      · rw [z]; decide
      · exact (Nat.log2_lt z).mpr this
    · rw [str_app]
      have e0 := e0
      show _ ≤ (16777216 : Nat)
      have : (Str.empty ++ (toString i : Str)).length ≤ 7 := e0
      omega
    · exact q _ _ G1 H1 ⟨_, rfl⟩ s1 (.str _)
end PD

set_option maxHeartbeats 2000000
/-! PD28: a range kept in a name, not of a tuple as a value -/
namespace PD
open PySem PySem.Spec PyProof.Rows L2
/-! r = range(n) -/
def rRgV : List V → Hp → VK → Prop := fun vs H Q => ∃ j : Int, vs = [V.int j] ∧ ∀ p, H p = none → Q (.ref p) (upd H p (.rng 0 j))
theorem cr_rgV {X : Cx} : CallR X (.type "range") rRgV := fun pins s σ H vs us Q I r h => by
  obtain ⟨j, rfl, q⟩ := h
  cases r with
  | cons rj rr =>
    cases rr
    obtain ⟨u, rfl⟩ := rj
    refine call_range_1 ⟨.ref s.heap.objs.size, upd H s.heap.objs.size (.rng 0 j), I.laid (fun b o e => Heap.get?_push_of_some _ e) (Nat.le_refl _) (show ObjOk X.prog X.w _ _ _ (.rng 0 j) from ?_), rfl, q _ (I.hok.fresh (Nat.le_refl _))⟩
    exact ⟨_, _, _, Heap.get?_push_size _ rfl⟩
theorem wq_setRg {K : PySem.W.Frag} {ρ : Rho} {te : TE} {i : Nat} {j : Int} {u : TS} {E : Ed} (h : Pd K te ρ (.int j)) (k : Ws K u (ρ.set i (.rg 0 j)) E) : Ws K (tSeq (tAsg (tCB rRgV (tCons te tNil)) (gName i)) u) ρ E := fun T G0 H0 σ H D a e => by
  obtain ⟨G, s, D0⟩ := a
  refine h.bind s.gh s.tp D0 fun d v G1 H1 p1 s1 gh1 tp1 D1 x1 => ?_
  subst p1
  cases x1
  refine ⟨j, rfl, fun p hp => ?_⟩
  have st := Step.new (T := T) (o := .rng 0 j) gh1 tp1 hp
  exact k T G0 H0 _ _ D ⟨upd G1 p (.rng 0 j), (s.trans s1).trans st, (D1.mono st).set (s := .rg 0 j) (o := some (.ref p)) ⟨p, rfl, upd_same⟩ fun _ z => nomatch z⟩ e
def iRgV (i : Nat) : TI := fun σ H R => ∃ a lo hi, σ[i]? = some (some (V.ref a)) ∧ H a = some (.rng lo hi) ∧ -(2 ^ 62) ≤ lo ∧ lo < 2 ^ 62 ∧ -(2 ^ 62) ≤ hi ∧ hi < 2 ^ 62 ∧ R (Itr lo (hi - lo).toNat) H
theorem pi_rgV {X : Cx} {tg : Expr} {i : Nat} {x : Str} {pos : Pos} (hN : X.N[i]? = some x) (hv : Vis X.env.scope x) (hd : (x == ("__debug__" : Str)) = false := by decide) (hcd : (x == ("__classdict__" : Str)) = false := by decide) : PI X tg (.Name x pos) (iRgV i) := ⟨fun pins s σ H R I h => by
  obtain ⟨a, lo, hi, e1, e2, h1, h2, h3, h4, q⟩ := h
  refine thn ((pe_var (X := X) (pos := pos) hN hv hd hcd).run pins s σ H (fun v H1 => v = .ref a ∧ H1 = H) I ⟨_, e1, rfl, rfl⟩) fun v s1 ⟨x1, H1, I1, r1, ex, eH⟩ => ?_
  subst ex eH
  cases r1
  obtain ⟨t, u, w, g⟩ := (show ObjOk X.prog X.w H1 s1.heap a (.rng lo hi) from I1.hok a _ e2)
  refine wpAny_pyIter_range (a := lo) (b := hi) (c := 1) g (small_one h1 h2 h3 h4) ?_
  refine pi_one (tk := s1.toks) I1 _ (turn_range _ lo (hi - lo).toNat) ?_ q
  have z1 : lo + ((0 : Nat) : Int) * 1 = lo := by simp
  have z2 : (((hi - lo).toNat : Nat) : Int) - ((0 : Nat) : Int) = Builtin.Range.rangeSize lo hi 1 := by rw [rangeSize_one]; split <;> omega
  show IsRangeIter _ _ (lo + ((0 : Nat) : Int) * 1) ((((hi - lo).toNat : Nat) : Int) - ((0 : Nat) : Int)) 1
  rw [z1, z2]
  exact Heap.get?_push_size _ rfl⟩
theorem it_rgV {K : PySem.W.Frag} {ρ : Rho} {i n : Nat} (e : ρ[i]? = some (.rg 0 (n : Int))) (hn : n ≤ 1000000) : Pitd K (iRgV i) ρ (rgD 0 (n : Int)) := fun T H0 G H σ gh tp D R q => by
  obtain ⟨o, e1, a, rfl, ga⟩ := D.at e
  exact ⟨a, 0, (n : Int), e1, gh _ _ ga, by omega, by omega, by omega, by omega, q _ _ G H rfl (Step.refl gh tp) (itd_rg 0 (n : Int))⟩
/-! not t, as a value -/
theorem pe_notTK {X : Cx} {K : PySem.W.Frag} {a : Expr} {ta : TE} {pos : Pos} (h : X.K = K) (ha : PE X a ta) : PE X (.UnaryOp .Not a pos) (tNotT K ta) := h ▸ pe_notT ha
theorem yd_notT {K : PySem.W.Frag} {ρ : Rho} {ta : TE} {xs : List PyData} (h : Pd K ta ρ (.tuple xs)) : Pd K (tNotT K ta) ρ (.bool xs.isEmpty) := fun T H0 G H σ gh tp D Q q =>
  h.bind gh tp D fun x v G1 H1 e s1 gh1 tp1 D1 x1 => by
    subst e
    cases x1 with
    | @tup a vs _ pl sq al =>
      refine ⟨!vs.isEmpty, .inr (.inl ⟨vs, sqt_mono gh1 sq, rfl⟩), ?_⟩
      have : (!(!vs.isEmpty)) = xs.isEmpty := by
        cases al <;> rfl
      rw [this]
      exact q _ _ G1 H1 rfl s1 (.bl _)
end PD

set_option maxHeartbeats 2000000
/-! PD29: a, *b, c = t; a dict of the module read by a text; a def of more statements that returns a list just made -/
namespace PD
open PySem PySem.Spec PyProof.Rows L2
/-! a, *b, c = t -/
theorem star_tup {prog : Program} {w : World} {A : Around} {E : Value → Shared → Prop} {s : Shared} {l : Addr} {items : Array Value} {n i : Nat} {Q : List Value → Shared → Prop} (hl : IsTup s.heap l items) (hh : A.handled = none) (hi : i < n) (hn : n ≤ items.size + 1) (hz : items.size ≤ 1000)
    (k : ∀ (h2 : Heap) (tk : _), (∀ b o, s.heap.get? b = some o → h2.get? b = some o) → Q (items.toList.take i ++ [.ref h2.objs.size] ++ (items.toList.drop i).drop (items.size + 1 - n)) { s with heap := h2.push { cls := .type "list", data := .seq ((items.toList.drop i).take (items.size + 1 - n)).toArray }, toks := tk }) :
    wpAny (model prog w) A (unpackItems (.ref l) n (some i)) Q E s := by
  have hll : l < s.heap.objs.size := by obtain ⟨o, ho, _⟩ := hl; exact Heap.lt_size ho
  have hlt : l ≠ s.heap.objs.size := Nat.ne_of_lt hll
  unfold unpackItems
  refine wpAny_bind ?_
  unfold notIterableAtAll
  refine wpAny_bind (wpAny_specialOf hl.typeIs slot_tuple_iter.lookup (wpAny_pure ?_))
  simp only [Bool.false_eq_true, if_false]
  refine wpAny_bind (wpAny_holding (iter_tuple hl (wpAny_bind (wpAny_holding (draw_tuple hlt i 0 _ _ ⟨_, Heap.get?_push_size _ rfl, rfl, rfl⟩ (hl.push _) (by omega) fun h1 it1 sb1 => ?_)))))
  have hl1 : IsTup h1 l items := (hl.push _).extBut sb1.extBut hlt
  rw [Nat.zero_add] at it1
  obtain ⟨oi, hoi, _⟩ := id it1
  obtain ⟨ol, hol, _⟩ := id hl1
  have lenI : (items.toList.take i).length = i := by rw [List.length_take, Array.length_toList]; omega
  have lenR : (items.toList.drop i).length = items.size - i := by rw [List.length_drop, Array.length_toList]
  rw [List.drop_zero, if_neg (show ¬ ((items.toList.take i).length < i) by rw [lenI]; exact Nat.lt_irrefl _)]
  have col := fun Q hQ => PySem.W.kun_collect (prog := prog) (w := w) (A := A) (E := E) (s := { s with heap := h1 }) (Q := Q) (T := "tuple_iterator") (.inr (.inr (.inr rfl))) (Walks.tuple (A := A.in1) hh s.heap.objs.size l hlt items) (fun j u st => st.1.typeIs) (k := i) (by omega) ⟨it1, hl1⟩ (Heap.lt_size hoi) (Heap.lt_size hol) hQ (by rw [sizeLine_eq]; omega)
  refine wpAny_bind (wpAny_holding (col _ fun h2 tk hk => ?_))
  have cnt : (items.toList.drop i).length - (n - 1 - i) = items.size + 1 - n := by rw [lenR]; omega
  show wpAny _ _ (if (items.toList.drop i).length < n - 1 - i then _ else _) _ _ _
  rw [if_neg (by rw [lenR]; omega)]
  show wpAny _ _ (newList ((items.toList.drop i).take ((items.toList.drop i).length - (n - 1 - i))) >>= fun d => pure (items.toList.take i ++ [d] ++ (items.toList.drop i).drop ((items.toList.drop i).length - (n - 1 - i)))) _ _ _
  rw [cnt]
  have keep : ∀ b o, s.heap.get? b = some o → h2.get? b = some o := fun b o e => by
    have nb : b ≠ s.heap.objs.size := Nat.ne_of_lt (Heap.lt_size e)
    exact hk b o nb (sb1.extBut b o nb (Heap.get?_push_of_some _ e))
  refine wpAny_bind ?_
  unfold newList
  exact wpAny_newObj_type (wpAny_pure (k h2 tk keep)) (by show ((items.toList.drop i).take (items.size + 1 - n)).length ≤ sizeLine; rw [List.length_take, lenR, sizeLine_eq]; omega)
def gStar (K : PySem.W.Frag) (n i : Nat) (t : TGs) : TG := fun v σ H Q => ∃ (a : Addr) (xs : List V), v = .ref a ∧ SqT K H a xs ∧ n ≤ xs.length + 1 ∧ xs.length ≤ 1000 ∧ i < n ∧
  ∀ D, H D = none → t (xs.take i ++ [V.ref D] ++ (xs.drop i).drop (xs.length + 1 - n)) σ (upd H D (.lst ((xs.drop i).take (xs.length + 1 - n)))) Q
theorem vals_take {xs : List V} {us : List Value} (r : Vals xs us) (n : Nat) : Vals (xs.take n) (us.take n) := by
  induction r generalizing n with
  | nil => rw [List.take_nil, List.take_nil]; exact .nil
  | cons a t ih =>
    cases n with
    | zero => exact .nil
    | succ n => exact .cons a (ih n)
theorem vals_drop {xs : List V} {us : List Value} (r : Vals xs us) (n : Nat) : Vals (xs.drop n) (us.drop n) := by
  induction r generalizing n with
  | nil => rw [List.drop_nil, List.drop_nil]; exact .nil
  | cons a t ih =>
    cases n with
    | zero => exact .cons a t
    | succ n => exact ih n
theorem vals_app {xs ys : List V} {us vs : List Value} (r : Vals xs us) (q : Vals ys vs) : Vals (xs ++ ys) (us ++ vs) := by
  induction r with
  | nil => exact q
  | cons a t ih => exact .cons a ih
theorem pg_star {X : Cx} {es : List Expr} {k n i : Nat} {t : TGs} {pos : Pos} (hc : X.calm = true) (h : PGs X es t)
    (hn : (assignEach es X.env).length = n := by rfl) (hst : (assignEach es X.env).findIdx? (·.1) = some i := by rfl) : PG X (.Tuple es k pos) (gStar X.K n i t) := ⟨fun pins s σ H v u Q I r hw => by
  obtain ⟨a, xs, rfl, hq, h1, h2, h3, hw⟩ := hw
  cases r
  obtain ⟨its, rv, ht, hz⟩ := I.tuple hq
  have hl := rv.length
  rw [assign_Tuple]
  refine wpAny_bind (wpAny_standAt ?_)
  unfold unpack
  rw [hn, hst]
  refine wpAny_bind (wpAny_holding (star_tup ht (I.ok.hd hc) h3 (by simp; omega) (by simp; omega) fun h2 tk keep => ?_))
  have I1 : Inv X pins σ H { s with heap := h2 } := I.kept (t' := s.toks) keep
  have el : its.toArray.size = xs.length := by simp; omega
  rw [el]
  have e0 : its.toArray.toList = its := rfl
  rw [e0]
  have rm := vals_take (vals_drop rv i) (xs.length + 1 - n)
  have lay : ObjOk X.prog X.w (upd H h2.objs.size (.lst ((xs.drop i).take (xs.length + 1 - n)))) (h2.push { cls := .type "list", data := .seq ((its.drop i).take (xs.length + 1 - n)).toArray }) h2.objs.size (.lst ((xs.drop i).take (xs.length + 1 - n))) := ⟨by rw [List.length_take, List.length_drop, sizeLine_eq]; omega, _, 0, rm, Heap.get?_push_size _ rfl⟩
  have I2 := I1.laid (t' := tk) (fun b o e => Heap.get?_push_of_some _ e) (Nat.le_refl _) lay
  exact h.run pins _ σ _ _ _ Q I2 (vals_app (vals_app (vals_take rv i) (.cons (show RelV (V.ref _) (.ref _) from rfl) .nil)) (vals_drop (vals_drop rv i) _)) (hw _ (I1.hok.fresh (Nat.le_refl _)))⟩
/-- the middle as data -/
theorem wq_asgStar {K : PySem.W.Frag} {ρ ρ' : Rho} {te : TE} {u : TS} {E : Ed} {ds : List PyData} {n i : Nat} {gs : TGs} {sl : List Nat} (h : Pd K te ρ (.tuple ds)) (h1 : n ≤ ds.length + 1) (h2 : ds.length ≤ 1000) (h3 : i < n)
    (hg : Pgs K gs sl (ds.take i ++ [.list ((ds.drop i).take (ds.length + 1 - n))] ++ (ds.drop i).drop (ds.length + 1 - n)) ρ ρ') (k : Ws K u ρ' E) : Ws K (tSeq (tAsg te (gStar K n i gs)) u) ρ E := fun T G0 H0 σ H D a e =>
  a.eval h fun d v G1 H1 p1 s D1 x => by
    subst p1
    cases x with
    | @tup a vs _ pl sq al =>
      have ll := al.length
      refine ⟨a, vs, rfl, sqt_mono s.gh sq, by omega, by omega, h3, fun P hP => ?_⟩
      rw [ll]
      have st := Step.new (T := T) (o := .lst ((vs.drop i).take (ds.length + 1 - n))) s.gh s.tp hP
      have al2 := al.mono st.g
      refine hg T H0 _ _ σ _ st.gh (D1.mono st) (((al2.take i).append (.cons (.lst upd_same (((al2.drop i).take _))) .nil)).append ((al2.drop i).drop _)) _ fun σ' D2 _ _ => ?_
      exact k T G0 H0 σ' _ D ⟨_, s.trans st, D2⟩ e
theorem pgs_consS {X : Cx} {e : Expr} {c : Pos} {es : List Expr} {t : TG} {u : TGs} (h1 : PG X e t) (h2 : PGs X es u)
    (hs : (assignEach (.Starred e c :: es) X.env).map (·.2) = assign e X.env :: (assignEach es X.env).map (·.2) := by rfl) : PGs X (.Starred e c :: es) (gCons t u) := by
  refine ⟨fun pins s σ H vs us Q I r h => ?_⟩
  obtain ⟨v, vr, e1, h⟩ := h
  subst e1
  cases r with
  | cons r rr =>
    rw [hs]
    refine assignInOrder_cons (thn (h1.run pins s σ H _ _ _ I r h) fun _ s1 ⟨σ1, H1, I1, q1⟩ => ?_)
    exact h2.run pins s1 σ1 H1 _ _ Q I1 rr q1
/-! PARTS[word] -/
theorem pe_gd {X : Cx} {x : Str} {R : Addr → Prop} {pos : Pos} (h : ∃ a, X.mg x = some (.ref a) ∧ R a) (hg : Gl X x := by rfl) (hd : (x == ("__debug__" : Str)) = false := by decide) : PE X (.Name x pos) (tC (.ref (Classical.choose h))) :=
  pe_glob hg (Classical.choose_spec h).1 rfl hd
theorem yd_kdct {K : PySem.W.Frag} {w : World} {ρ : Rho} {tb : TE} {a : Addr} {z : Str} {i : Int} (hb : Pd K tb ρ (.str z)) (hk : KDct K w a z (.int i)) : Pd K (tOp (rIxD K w) (tC (.ref a)) tb) ρ (.int i) := fun T H0 G H σ gh tp D Q q =>
  hb.bind gh tp D fun d v G1 H1 p1 s1 gh1 tp1 D1 x1 => by
    subst p1
    cases x1
    exact ⟨a, z, .int i, rfl, rfl, hk, q _ _ G1 H1 rfl s1 (.int i)⟩
/-! a def that returns a list just made -/
def WsF (K : PySem.W.Frag) (t : TS) (ρ : Rho) (P : List PyData → Prop) : Prop := ∀ (T : Addr → Prop) (G0 H0 : Hp) (σ : L2.St) (H : Hp) (D : Ends), At T K G0 H0 ρ σ H →
  (∀ xs p us G' H', P xs → Step T G0 H0 G' H' → H0 p = none → ¬ T p → G' p = none → H' p = some (.lst us) → DnAll K G' us xs → D.rt (.ref p) H') → t D σ H
section
variable {K : PySem.W.Frag} {ρ ρ' : Rho} {te : TE} {u : TS} {P : List PyData → Prop}
theorem wf_ret (h : Nl K te ρ P) : WsF K (tRet te) ρ P := fun T G0 H0 σ H D a q => by
  obtain ⟨G, s, D0⟩ := a
  exact h T H0 G H σ s.gh s.tp D0 D.rt fun xs p us G' H' hp s' hn nt gn hh d => q xs p us G' H' hp (s.trans s') (s.no hn nt) nt gn hh d
theorem wf_asg {g : TG} {sl : List Nat} {x : PyData} (h : Pd K te ρ x) (hg : Pg K g sl x ρ ρ') (k : WsF K u ρ' P) : WsF K (tSeq (tAsg te g) u) ρ P := fun T G0 H0 σ H D a q =>
  a.eval h fun d v G1 H1 p1 s D1 y => by
    subst p1
    exact hg T H0 G1 H1 σ v s.gh D1 y _ fun σ' D2 _ _ => k T G0 H0 σ' H1 D ⟨G1, s, D2⟩ q
theorem wf_setd {i : Nat} {x : PyData} (h : Pd K te ρ x) (k : WsF K u (ρ.set i (.d x)) P) : WsF K (tSeq (tAsg te (gName i)) u) ρ P := wf_asg h yg_n k
theorem fn_okF {Pg' : Program} {w : World} {mg : Str → Option Value} {base : Heap} {x qual : Str} {st : Stmt} {f : Addr} {fd : FuncData} {N ps : List Str} {k n : Nat} {R : PrL} (F : Fun K x qual st f fd) (S : FnScope N ps (defScope st)) (hp : ps.length = n) (hN : n ≤ N.length)
    (hb : ∀ (cdv : Value) (A : Around) (outer : List Env) (s : Shared) (H : Hp) (E : XK), Room k (A.deeper (envOfC qual (defScope st) s.heap.objs.size f cdv)) →
      ∃ t, PSs (cxOf CX0 Pg' w K mg base N qual (defScope st) f cdv A outer s H E).nox (defBody st) t ∧ ∀ ss P, ss.length = n → R ss P → WsF K t (ss ++ List.replicate (N.length - n) .no) P) :
    FnOk Pg' w K mg base CX0 (k + 1) f fd ps (spL K n R) := by
  refine F.ok S (fun vs H Q E h => ?_) (fun cdv A outer s H vs Q E hr h => ?_)
  · obtain ⟨T, G, ss, P, gh, tp, a, hl, _⟩ := h
    rw [← Paired.length a, hl, hp]
  · obtain ⟨t, ht, hw⟩ := hb cdv A outer s H E hr
    obtain ⟨T, G, ss, P, gh, tp, a, hl, hR, q⟩ := h
    have D0 : Den T K H G H (L2.start N vs) (ss ++ List.replicate (N.length - n) .no) := by
      have := den_start (H0 := H) (H := H) (N := N) a (by omega)
      rw [hl] at this
      exact this
    exact ⟨t, ht, hw ss P hl hR T G H _ H _ ⟨G, Step.refl gh tp, D0⟩ q⟩
end
end PD

set_option maxHeartbeats 2000000
/-! PD30: a dict kept in a name: {}, d[k] = v, d[k], k in d, d.get(..) -/
namespace PD
open PySem PySem.Spec PyProof.Rows L2
theorem dn_key {K : PySem.W.Frag} {G : Hp} {v : V} {k : Key} (h : Dn K G v (kD k)) : v = kV k := by
  cases k with
  | inl i => cases h; rfl
  | inr x => cases h; rfl
abbrev DkAll (K : PySem.W.Frag) (G : Hp) : List (Key × V) → List (Key × PyData) → Prop := Paired fun p q => p.1 = q.1 ∧ Dn K G p.2 q.2
def valD (es : List (Key × PyData)) (k : Key) : Option PyData := (es.find? fun q => decide (q.1 = k)).map (·.2)
def putD (es : List (Key × PyData)) (k : Key) (d : PyData) : List (Key × PyData) := if (es.any fun q => decide (q.1 = k)) = true then es.map (fun q => if q.1 = k then (q.1, d) else q) else es ++ [(k, d)]
theorem DkAll.mono {K : PySem.W.Frag} {G G' : Hp} (g : Same G G') {kvs : List (Key × V)} {es : List (Key × PyData)} (h : DkAll K G kvs es) : DkAll K G' kvs es := Paired.mapP h fun _ _ q => ⟨q.1, q.2.mono g⟩
theorem DkAll.any {K : PySem.W.Frag} {G : Hp} {kvs : List (Key × V)} {es : List (Key × PyData)} (h : DkAll K G kvs es) (k : Key) : (kvs.any fun q => decide (q.1 = k)) = es.any fun q => decide (q.1 = k) := by
  induction h with
  | nil => rfl
  | cons r t ih => rw [List.any_cons, List.any_cons, ih, r.1]
theorem DkAll.val {K : PySem.W.Frag} {G : Hp} {kvs : List (Key × V)} {es : List (Key × PyData)} (h : DkAll K G kvs es) (k : Key) : (valV kvs k = none ∧ valD es k = none) ∨ ∃ v d, valV kvs k = some v ∧ valD es k = some d ∧ Dn K G v d := by
  induction h with
  | nil => exact .inl ⟨rfl, rfl⟩
  | @cons p q ps qs r t ih =>
    by_cases e : p.1 = k
    · refine .inr ⟨p.2, q.2, valV_pos e, ?_, r.2⟩
      unfold valD
      rw [List.find?_cons_of_pos (by rw [← r.1]; exact decide_eq_true e)]
      rfl
    · have e2 : valD (q :: qs) k = valD qs k := by
        unfold valD
        rw [List.find?_cons_of_neg (by rw [← r.1, decide_eq_false e]; exact Bool.false_ne_true)]
      rw [valV_neg e, e2]
      exact ih
theorem DkAll.repl {K : PySem.W.Frag} {G : Hp} {kvs : List (Key × V)} {es : List (Key × PyData)} (h : DkAll K G kvs es) (k : Key) {v : V} {d : PyData} (x : Dn K G v d) : DkAll K G (kvs.map fun q => if q.1 = k then (q.1, v) else q) (es.map fun q => if q.1 = k then (q.1, d) else q) := by
  induction h with
  | nil => exact .nil
  | @cons p q ps qs r t ih =>
    refine .cons ?_ ih
    dsimp only
    rw [← r.1]
    by_cases e : p.1 = k
    · rw [if_pos e, if_pos e]; exact ⟨rfl, x⟩
    · rw [if_neg e, if_neg e]; exact r
theorem DkAll.app {K : PySem.W.Frag} {G : Hp} {a c : List (Key × V)} {b d : List (Key × PyData)} (h : DkAll K G a b) (q : DkAll K G c d) : DkAll K G (a ++ c) (b ++ d) := by
  induction h with
  | nil => exact q
  | cons r t ih => exact .cons r ih
theorem DkAll.put {K : PySem.W.Frag} {G : Hp} {kvs : List (Key × V)} {es : List (Key × PyData)} (h : DkAll K G kvs es) (k : Key) {v : V} {d : PyData} (x : Dn K G v d) : DkAll K G (putK kvs k v) (putD es k d) := by
  unfold putK putD
  rw [h.any k]
  split
  · exact h.repl k x
  · exact DkAll.app h (.cons ⟨rfl, x⟩ .nil)
section
variable {T : Addr → Prop} {K : PySem.W.Frag} {G0 H0 G H : Hp} {σ : L2.St} {ρ : Rho}
/-- a slot gets a changeable thing -/
theorem Den.setx (D : Den T K H0 G H σ ρ) {i : Nat} {o : Option V} {m : Mo} (hm : m.ok K G H o) (own : ∀ a, a ∈ m.fp → H a ≠ none ∧ G a = none ∧ H0 a = none ∧ ¬ T a)
    (other : ∀ (j : Nat) (t : Sl) (p : Option V) (a : Addr), j ≠ i → ρ[j]? = some t → σ[j]? = some p → a ∈ m.fp → ¬ t.fp p a) : Den T K H0 G H (σ.set i o) (ρ.set i (.mx m)) := by
  have me : ∀ {j : Nat} {x : Sl} {p : Option V}, i = j → (ρ.set i (.mx m))[j]? = some x → (σ.set i o)[j]? = some p → x = .mx m ∧ p = o := fun {j x p} q e1 e2 => by
    subst q
    have hi : i < ρ.length := by
      have := (List.getElem?_eq_some_iff.mp e1).1
      rwa [List.length_set] at this
    rw [List.getElem?_set_self hi] at e1
    rw [List.getElem?_set_self (by rw [D.len]; exact hi)] at e2
    cases e1
    cases e2
    exact ⟨rfl, rfl⟩
  refine ⟨by rw [List.length_set, List.length_set]; exact D.len, fun j x p e1 e2 => ?_, fun j k x y p q a hjk e1 e2 e3 e4 f1 f2 => ?_⟩
  · by_cases q : i = j
    · obtain ⟨rfl, rfl⟩ := me q e1 e2
      exact ⟨hm, own⟩
    · rw [List.getElem?_set_ne q] at e1 e2
      exact D.ok j x p e1 e2
  · by_cases qj : i = j
    · obtain ⟨rfl, rfl⟩ := me qj e1 e3
      rw [List.getElem?_set_ne (fun z => hjk (qj ▸ z))] at e2 e4
      exact other k y q a (fun z => hjk (qj ▸ z.symm)) e2 e4 f1 f2
    · rw [List.getElem?_set_ne qj] at e1 e3
      by_cases qk : i = k
      · obtain ⟨rfl, rfl⟩ := me qk e2 e4
        exact other j x p a (fun z => qj z.symm) e1 e3 f2 f1
      · rw [List.getElem?_set_ne qk] at e2 e4
        exact D.one j k x y p q a hjk e1 e2 e3 e4 f1 f2
/-- what slot i has for itself is changed, new places may come in -/
theorem Den.mutx (D : Den T K H0 G H σ ρ) (s : Step T G0 H0 G H) {i : Nat} {m m' : Mo} {o : Option V} {H' : Hp} (e : ρ[i]? = some (.mx m)) (el : σ[i]? = some o) (ch : ∀ a u, a ∉ m.fp → H a = some u → H' a = some u)
    (hm : m'.ok K G H' o) (own : ∀ a, a ∈ m'.fp → H' a ≠ none ∧ (a ∈ m.fp ∨ H a = none)) : Step T G0 H0 G H' ∧ Den T K H0 G H' σ (ρ.set i (.mx m')) := by
  have old := D.ok i _ o e el
  have far : ∀ {j : Nat} {y : Sl} {p : Option V} {a : Addr}, i ≠ j → ρ[j]? = some y → σ[j]? = some p → y.fp p a → a ∉ m.fp := fun {j y p a} q q1 q2 f z => D.one i j _ _ _ _ a q e q1 el q2 z f
  have out : ∀ {a : Addr}, H0 a ≠ none → a ∉ m.fp := fun h z => h (old.2 _ z).2.2.1
  have tout : ∀ {a : Addr}, T a → a ∉ m.fp := fun t z => (old.2 _ z).2.2.2 t
  refine ⟨⟨s.g, fun c w ec => ?_, fun p u np ep => ?_, s.fr, fun b t => ?_⟩, by rw [List.length_set]; exact D.len, fun j x p q1 q2 => ?_, fun j k x y p q a hjk e1 e2 e3 e4 f1 f2 => ?_⟩
  · exact ch c w (fun z => by rw [(old.2 c z).2.1] at ec; cases ec) (s.gh _ _ ec)
  · exact ch p u (out (by rw [ep]; intro z; cases z)) (s.h p u np ep)
  · have z := s.tp b t
    obtain ⟨b', ns, x, y, mm, e', eb, ea, r⟩ := id z
    exact z.mono (Same.refl _) ((ch b _ (tout t) e').trans e'.symm) ea
  · by_cases q : i = j
    · subst q
      rw [List.getElem?_set_self (List.getElem?_eq_some_iff.mp e).1] at q1
      cases q1
      rw [el] at q2
      cases q2
      refine ⟨hm, fun a ha => ⟨(own a ha).1, ?_⟩⟩
      rcases (own a ha).2 with h | h
      · exact (old.2 a h).2
      · have nt : ¬ T a := fun t => by
          obtain ⟨_, _, _, _, _, q, _⟩ := s.tp a t
          rw [h] at q
          cases q
        exact ⟨s.gh.free h, s.no h nt, nt⟩
    · rw [List.getElem?_set_ne q] at q1
      have w := D.ok j x p q1 q2
      cases x with
      | mx y =>
        have at' : ∀ a, a ∈ y.fp → H' a = H a := fun a ha => by
          have h1 := (w.2 a ha).1
          cases z : H a with
          | none => exact absurd z h1
          | some u => exact ch a u (far q q1 q2 ha) z
        exact ⟨y.frame (Same.refl _) at' w.1, fun a ha => ⟨by rw [at' a ha]; exact (w.2 a ha).1, (w.2 a ha).2⟩⟩
      | ml ys =>
        obtain ⟨l, us, rfl, hl, am, gm, hm0, ntm⟩ := w
        exact ⟨l, us, rfl, ch l _ (far q q1 q2 rfl) hl, am, gm, hm0, ntm⟩
      | _ => exact w
  · have go : ∀ {n : Nat} {x : Sl} {p : Option V}, (ρ.set i (.mx m'))[n]? = some x → σ[n]? = some p → x.fp p a → (i = n ∧ (a ∈ m.fp ∨ H a = none)) ∨ (i ≠ n ∧ ρ[n]? = some x ∧ H a ≠ none ∧ a ∉ m.fp) := fun {n x p} q1 q2 f => by
      by_cases z : i = n
      · subst z
        rw [List.getElem?_set_self (List.getElem?_eq_some_iff.mp e).1] at q1
        cases q1
        exact .inl ⟨rfl, (own a f).2⟩
      · rw [List.getElem?_set_ne z] at q1
        exact .inr ⟨z, q1, D.live q1 q2 f, far z q1 q2 f⟩
    rcases go e1 e3 f1 with ⟨rfl, h1⟩ | ⟨z1, r1, l1, n1⟩
    · rcases go e2 e4 f2 with ⟨z2, _⟩ | ⟨z2, r2, l2, n2⟩
      · exact hjk z2
      · exact h1.elim n2 l2
    · rcases go e2 e4 f2 with ⟨rfl, h2⟩ | ⟨z2, r2, l2, n2⟩
      · exact h2.elim n1 l1
      · exact D.one j k x y p q a hjk r1 r2 e3 e4 f1 f2
/-- the dict at l, with ints and texts as keys -/
def dkM (l : Addr) (es : List (Key × PyData)) : Mo where
  fp := [l]
  ok K G H o := o = some (.ref l) ∧ ∃ kvs, H l = some (.dK kvs) ∧ DkAll K G kvs es
  frame g h := fun ⟨e, kvs, q, a⟩ => ⟨e, kvs, (h l List.mem_cons_self).trans q, a.mono g⟩
variable {E : Ed} {u : TS} {ty tx tv : TE} {P : PyData → Prop}
/-- d = {} -/
theorem wq_dnew {i : Nat} (k : ∀ l, Ws K u (ρ.set i (.mx (dkM l []))) E) : Ws K (tSeq (tAsg tDNewK (gName i)) u) ρ E := fun T G0 H0 σ H D a e => by
  obtain ⟨G, s, D0⟩ := a
  intro p hp
  have st := Step.newM (T := T) (o := .dK []) s.gh s.tp hp
  have nt : ¬ T p := fun t => by
    obtain ⟨_, _, _, _, _, q, _⟩ := s.tp p t
    rw [hp] at q
    cases q
  exact k p T G0 H0 _ _ D ⟨G, s.trans st, (D0.mono st).setx (m := dkM p []) ⟨rfl, [], upd_same, .nil⟩ (fun a ha => by
    rw [List.mem_singleton.mp ha]
    exact ⟨(by rw [upd_same]; intro z; cases z), s.gh.free hp, s.no hp nt, nt⟩) fun j t o a hj e1 e2 ha f => D0.live e1 e2 f (by rw [List.mem_singleton.mp ha]; exact hp)⟩ e
/-- d[k] = v -/
theorem ws_dput {i : Nat} {l : Addr} {es : List (Key × PyData)} {k : Key} (e : ρ[i]? = some (.mx (dkM l es))) (hk : Pd K ty ρ (kD k)) (hv : Pe K tv ρ P) (hz : es.length < sizeLine) (c : ∀ d, P d → E.nx (ρ.set i (.mx (dkM l (putD es k d))))) : Ws K (sDPut (tVar i) ty tv) ρ E := fun T G0 H0 σ H D a ed => by
  obtain ⟨G, s, D0⟩ := a
  refine hv.bind s.gh s.tp D0 fun d v G1 H1 p1 s1 gh1 tp1 D1 x1 => ?_
  obtain ⟨o, e1, ⟨rfl, kvs, hl, al⟩, ow⟩ := D1.at e
  refine ⟨_, e1, hk.bind gh1 tp1 D1 fun y w G2 H2 p2 s2 gh2 tp2 D2 x2 => ?_⟩
  subst p2
  have ew := dn_key x2
  subst ew
  have hl2 := s2.h l _ (ow l List.mem_cons_self).2.2.2 hl
  have ln : kvs.length = es.length := Paired.length al
  refine ⟨l, _, rfl, DPut.k hl2 (by rw [ln]; exact hz), ?_⟩
  obtain ⟨s3, D3⟩ := D2.mutx ((s.trans s1).trans s2) e e1 (m' := dkM l (putD es k d)) (H' := upd H2 l (.dK (putK kvs k v))) (fun a u na ea => by rw [upd_ne (fun z => na (by rw [z]; exact List.mem_cons_self))]; exact ea) ⟨rfl, _, upd_same, (al.mono s2.g).put k (x1.mono s2.g)⟩ fun a ha => by
    rw [List.mem_singleton.mp ha]
    exact ⟨(by rw [upd_same]; intro z; cases z), .inl List.mem_cons_self⟩
  exact ed.nx _ _ _ (c d p1) ⟨G2, s3, D3⟩
theorem dk_get {i : Nat} {l : Addr} {es : List (Key × PyData)} (e : ρ[i]? = some (.mx (dkM l es))) (D0 : Den T K H0 G H σ ρ) : ∃ kvs, σ[i]? = some (some (.ref l)) ∧ H l = some (.dK kvs) ∧ DkAll K G kvs es ∧ ¬ T l := by
  obtain ⟨o, e1, ⟨rfl, kvs, hl, al⟩, ow⟩ := D0.at e
  exact ⟨kvs, e1, hl, al, (ow l List.mem_cons_self).2.2.2⟩
/-- d.get(k, x) -/
theorem yd_dget2 {i : Nat} {l : Addr} {es : List (Key × PyData)} {k : Key} {x : PyData} (e : ρ[i]? = some (.mx (dkM l es))) (hk : Pd K ty ρ (kD k)) (hx : Pd K tx ρ x) : Pd K (tDGet2 (tVar i) ty tx) ρ ((valD es k).getD x) := fun T H0 G H σ gh tp D Q q => by
  obtain ⟨kvs, e1, hl, al, nt⟩ := dk_get e D
  refine ⟨_, e1, l, rfl, .inl ⟨kvs, .inl hl⟩, hk.bind gh tp D fun y w G2 H2 p2 s2 gh2 tp2 D2 x2 => ?_⟩
  subst p2
  have ew := dn_key x2
  subst ew
  refine hx.bind gh2 tp2 D2 fun z w G3 H3 p3 s3 gh3 tp3 D3 x3 => ?_
  subst p3
  have hl3 := s3.h l _ nt (s2.h l _ nt hl)
  refine ⟨_, DGet.k hl3, ?_⟩
  rcases ((al.mono s2.g).mono s3.g).val k with ⟨v1, v2⟩ | ⟨v, d, v1, v2, x⟩
  · rw [v1]
    exact q _ _ G3 H3 (by rw [v2]; rfl) (s2.trans s3) x3
  · rw [v1]
    exact q _ _ G3 H3 (by rw [v2]; rfl) (s2.trans s3) x
/-- d.get(k) -/
theorem yd_dget1 {i : Nat} {l : Addr} {es : List (Key × PyData)} {k : Key} (e : ρ[i]? = some (.mx (dkM l es))) (hk : Pd K ty ρ (kD k)) : Pd K (tDGet1 (tVar i) ty) ρ ((valD es k).getD .none) := fun T H0 G H σ gh tp D Q q => by
  obtain ⟨kvs, e1, hl, al, nt⟩ := dk_get e D
  refine ⟨_, e1, l, rfl, .inl ⟨kvs, .inl hl⟩, hk.bind gh tp D fun y w G2 H2 p2 s2 gh2 tp2 D2 x2 => ?_⟩
  subst p2
  have ew := dn_key x2
  subst ew
  refine ⟨_, DGet.k (s2.h l _ nt hl), ?_⟩
  rcases (al.mono s2.g).val k with ⟨v1, v2⟩ | ⟨v, d, v1, v2, x⟩
  · rw [v1]
    exact q _ _ G2 H2 (by rw [v2]; rfl) s2 .non
  · rw [v1]
    exact q _ _ G2 H2 (by rw [v2]; rfl) s2 x
/-- d[k], there -/
theorem yd_dget {i : Nat} {l : Addr} {es : List (Key × PyData)} {k : Key} {x : PyData} (e : ρ[i]? = some (.mx (dkM l es))) (hk : Pd K ty ρ (kD k)) (hx : valD es k = some x) : Pd K (tDGet (tVar i) ty) ρ x := fun T H0 G H σ gh tp D Q q => by
  obtain ⟨kvs, e1, hl, al, nt⟩ := dk_get e D
  refine ⟨_, e1, hk.bind gh tp D fun y w G2 H2 p2 s2 gh2 tp2 D2 x2 => ?_⟩
  subst p2
  have ew := dn_key x2
  subst ew
  rcases (al.mono s2.g).val k with ⟨v1, v2⟩ | ⟨v, d, v1, v2, y⟩
  · rw [hx] at v2
    cases v2
  · rw [hx] at v2
    cases v2
    exact ⟨l, v, rfl, v1 ▸ DGet.k (s2.h l _ nt hl), q _ _ G2 H2 rfl s2 y⟩
/-- k in d -/
theorem yd_din {i : Nat} {l : Addr} {es : List (Key × PyData)} {k : Key} (e : ρ[i]? = some (.mx (dkM l es))) (hk : Pd K ty ρ (kD k)) : Pd K (tDIn ty (tVar i)) ρ (.bool (valD es k).isSome) := fun T H0 G H σ gh tp D Q q =>
  hk.bind gh tp D fun y w G2 H2 p2 s2 gh2 tp2 D2 x2 => by
    subst p2
    have ew := dn_key x2
    subst ew
    obtain ⟨kvs, e1, hl, al, nt⟩ := dk_get e D2
    refine ⟨_, e1, l, _, rfl, DGet.k hl, ?_⟩
    rcases al.val k with ⟨v1, v2⟩ | ⟨v, d, v1, v2, y⟩
    · rw [v1]
      exact q _ _ G2 H2 (by rw [v2]; rfl) s2 (.bl _)
    · rw [v1]
      exact q _ _ G2 H2 (by rw [v2]; rfl) s2 (.bl _)
theorem yd_dnin {i : Nat} {l : Addr} {es : List (Key × PyData)} {k : Key} (e : ρ[i]? = some (.mx (dkM l es))) (hk : Pd K ty ρ (kD k)) : Pd K (tDNotIn ty (tVar i)) ρ (.bool (!(valD es k).isSome)) := fun T H0 G H σ gh tp D Q q =>
  hk.bind gh tp D fun y w G2 H2 p2 s2 gh2 tp2 D2 x2 => by
    subst p2
    have ew := dn_key x2
    subst ew
    obtain ⟨kvs, e1, hl, al, nt⟩ := dk_get e D2
    refine ⟨_, e1, l, _, rfl, DGet.k hl, ?_⟩
    rcases al.val k with ⟨v1, v2⟩ | ⟨v, d, v1, v2, y⟩
    · rw [v1]
      exact q _ _ G2 H2 (by rw [v2]; rfl) s2 (.bl _)
    · rw [v1]
      exact q _ _ G2 H2 (by rw [v2]; rfl) s2 (.bl _)
end
end PD

set_option maxHeartbeats 2000000
/-! PD31: a dict of lists that grow: d.setdefault(k, []).append(x) -/
namespace PD
open PySem PySem.Spec PyProof.Rows L2
abbrev DlRow := Key × Addr × List PyData
/-- what is told of it without the places -/
def shp (rs : List DlRow) : List (Key × List PyData) := rs.map fun r => (r.1, r.2.2)
/-- x goes to the end of the list at k -/
def appD (es : List (Key × List PyData)) (k : Key) (x : PyData) : List (Key × List PyData) := if (es.any fun q => decide (q.1 = k)) = true then es.map (fun q => if q.1 = k then (q.1, q.2 ++ [x]) else q) else es ++ [(k, [x])]
abbrev dlV (rs : List DlRow) : List (Key × V) := rs.map fun r => (r.1, V.ref r.2.1)
/-- the dict at l -/
def dlM (l : Addr) (rs : List DlRow) : Mo where
  fp := l :: rs.map (·.2.1)
  ok K G H o := o = some (.ref l) ∧ H l = some (.dK (dlV rs)) ∧ (∀ r ∈ rs, ∃ vs, H r.2.1 = some (.lst vs) ∧ DnAll K G vs r.2.2) ∧ (l :: rs.map (·.2.1)).Nodup ∧ (rs.map (·.1)).Nodup
  frame g h := fun ⟨e, q, a, n⟩ => ⟨e, (h l List.mem_cons_self).trans q, fun r hr => let ⟨vs, e1, e2⟩ := a r hr; ⟨vs, (h _ (List.mem_cons_of_mem _ (List.mem_map.mpr ⟨r, hr, rfl⟩))).trans e1, e2.mono g⟩, n⟩
theorem dlV_val (rs : List DlRow) (k : Key) : (valV (dlV rs) k = none ∧ k ∉ rs.map (·.1)) ∨ ∃ r ∈ rs, r.1 = k ∧ valV (dlV rs) k = some (.ref r.2.1) := by
  induction rs with
  | nil => exact .inl ⟨rfl, by simp⟩
  | cons r rs ih =>
    by_cases e : r.1 = k
    · exact .inr ⟨r, List.mem_cons_self, e, valV_pos e⟩
    · rw [show valV (dlV (r :: rs)) k = valV (dlV rs) k from valV_neg e]
      rcases ih with ⟨h1, h2⟩ | ⟨q, hq, h1, h2⟩
      · refine .inl ⟨h1, fun z => ?_⟩
        rw [List.map_cons] at z
        rcases List.mem_cons.mp z with z | z
        · exact e z.symm
        · exact h2 z
      · exact .inr ⟨q, List.mem_cons_of_mem _ hq, h1, h2⟩
theorem uniq_of {α β : Type} (f : α → β) {a b : α} (z : f a = f b) : ∀ (l : List α), (l.map f).Nodup → a ∈ l → b ∈ l → a = b
  | [], _, h, _ => nomatch h
  | c :: t, hn, h1, h2 => by
    rw [List.map_cons] at hn
    have hn := List.nodup_cons.mp hn
    rcases List.mem_cons.mp h1 with g1 | g1
    · rcases List.mem_cons.mp h2 with g2 | g2
      · rw [g1, g2]
      · exact absurd (List.mem_map.mpr ⟨b, g2, by rw [← z, g1]⟩) hn.1
    · rcases List.mem_cons.mp h2 with g2 | g2
      · exact absurd (List.mem_map.mpr ⟨a, g1, by rw [z, g2]⟩) hn.1
      · exact uniq_of f z t hn.2 g1 g2
def appA (rs : List DlRow) (k : Key) (x : PyData) : List DlRow := rs.map fun r => if r.1 = k then (r.1, r.2.1, r.2.2 ++ [x]) else r
theorem appA_shp {rs : List DlRow} {k : Key} (x : PyData) (h : k ∈ rs.map (·.1)) : shp (appA rs k x) = appD (shp rs) k x := by
  unfold appD
  have e : ((shp rs).any fun q => decide (q.1 = k)) = true := by
    obtain ⟨r, hr, rfl⟩ := List.mem_map.mp h
    exact List.any_eq_true.mpr ⟨(r.1, r.2.2), List.mem_map.mpr ⟨r, hr, rfl⟩, decide_eq_true rfl⟩
  rw [if_pos e]
  unfold shp appA
  rw [List.map_map, List.map_map]
  refine List.map_congr_left fun r _ => ?_
  show ((if r.1 = k then (r.1, r.2.1, r.2.2 ++ [x]) else r : DlRow).1, (if r.1 = k then (r.1, r.2.1, r.2.2 ++ [x]) else r : DlRow).2.2) = if r.1 = k then (r.1, r.2.2 ++ [x]) else (r.1, r.2.2)
  split <;> rfl
theorem appD_new {rs : List DlRow} {k : Key} (x : PyData) (h : k ∉ rs.map (·.1)) : appD (shp rs) k x = shp rs ++ [(k, [x])] := by
  unfold appD
  rw [if_neg]
  intro z
  obtain ⟨q, hq, e⟩ := List.any_eq_true.mp z
  obtain ⟨r, hr, rfl⟩ := List.mem_map.mp hq
  exact h (List.mem_map.mpr ⟨r, hr, of_decide_eq_true e⟩)
theorem appA_ad (rs : List DlRow) (k : Key) (x : PyData) : (appA rs k x).map (·.2.1) = rs.map (·.2.1) ∧ (appA rs k x).map (·.1) = rs.map (·.1) ∧ dlV (appA rs k x) = dlV rs := by
  have g : ∀ {β : Type} (f : DlRow → β), (∀ r : DlRow, f (r.1, r.2.1, r.2.2 ++ [x]) = f r) → (appA rs k x).map f = rs.map f := fun f h => by
    unfold appA
    rw [List.map_map]
    refine List.map_congr_left fun r _ => ?_
    show f (if r.1 = k then _ else _) = f r
    split
    · exact h r
    · rfl
  exact ⟨g _ fun _ => rfl, g _ fun _ => rfl, g _ fun _ => rfl⟩
section
variable {T : Addr → Prop} {K : PySem.W.Frag} {G0 H0 G H : Hp} {σ : L2.St} {ρ : Rho} {E : Ed} {u : TS} {ty te : TE} {P : PyData → Prop}
/-- d = {}, d a dict of lists -/
theorem wq_dlnew {i : Nat} (k : ∀ l, Ws K u (ρ.set i (.mx (dlM l []))) E) : Ws K (tSeq (tAsg tDNewK (gName i)) u) ρ E := fun T G0 H0 σ H D a e => by
  obtain ⟨G, s, D0⟩ := a
  intro p hp
  have st := Step.newM (T := T) (o := .dK []) s.gh s.tp hp
  have nt : ¬ T p := fun t => by
    obtain ⟨_, _, _, _, _, q, _⟩ := s.tp p t
    rw [hp] at q
    cases q
  exact k p T G0 H0 _ _ D ⟨G, s.trans st, (D0.mono st).setx (m := dlM p []) ⟨rfl, upd_same, fun r hr => (by cases hr), by simp, by simp⟩ (fun a ha => by
    rw [List.mem_singleton.mp ha]
    exact ⟨(by rw [upd_same]; intro z; cases z), s.gh.free hp, s.no hp nt, nt⟩) fun j t o a hj e1 e2 ha f => D0.live e1 e2 f (by rw [List.mem_singleton.mp ha]; exact hp)⟩ e
/-- the list at q, one of d's, grows -/
theorem dl_grow {i : Nat} {l : Addr} {rs : List DlRow} {r : DlRow} {d : PyData} {v : V} (D : Den T K H0 G H σ ρ) (s : Step T G0 H0 G H) (e : ρ[i]? = some (.mx (dlM l rs))) (hr : r ∈ rs) (x : Dn K G v d) :
    ∃ vs, H r.2.1 = some (.lst vs) ∧ vs.length = r.2.2.length ∧ Step T G0 H0 G (upd H r.2.1 (.lst (vs ++ [v]))) ∧ Den T K H0 G (upd H r.2.1 (.lst (vs ++ [v]))) σ (ρ.set i (.mx (dlM l (appA rs r.1 d)))) := by
  obtain ⟨o, e1, ⟨rfl, hl, al, nd, nk⟩, ow⟩ := D.at e
  obtain ⟨vs, hv, av⟩ := al r hr
  have rl : r.2.1 ∈ rs.map (·.2.1) := List.mem_map.mpr ⟨r, hr, rfl⟩
  have nd2 := List.nodup_cons.mp nd
  have lne : l ≠ r.2.1 := fun z => nd2.1 (z ▸ rl)
  have ad := appA_ad rs r.1 d
  obtain ⟨s3, D3⟩ := D.mutx s e e1 (m' := dlM l (appA rs r.1 d)) (H' := upd H r.2.1 (.lst (vs ++ [v]))) (fun a u na ea => by rw [upd_ne (fun z => na (by rw [z]; exact List.mem_cons_of_mem _ rl))]; exact ea)
    ⟨rfl, by rw [upd_ne lne, ad.2.2]; exact hl, fun q hq => by
      obtain ⟨q0, hq0, rfl⟩ := List.mem_map.mp hq
      obtain ⟨us, hu, au⟩ := al q0 hq0
      by_cases z : q0.1 = r.1
      · rw [if_pos z]
        have eq : q0 = r := uniq_of (·.1) z rs nk hq0 hr
        subst eq
        exact ⟨vs ++ [v], upd_same, av.append (.cons x .nil)⟩
      · rw [if_neg z]
        refine ⟨us, ?_, au⟩
        have ne : q0.2.1 ≠ r.2.1 := fun w => by
          exact z (congrArg (·.1) (uniq_of (·.2.1) w rs nd2.2 hq0 hr))
        rw [upd_ne ne]
        exact hu, by rw [ad.1]; exact nd, by rw [ad.2.1]; exact nk⟩ fun a ha => by
    have ha : a ∈ l :: (appA rs r.1 d).map (·.2.1) := ha
    rw [ad.1] at ha
    refine ⟨?_, .inl ha⟩
    by_cases z : a = r.2.1
    · rw [z, upd_same]; intro w; cases w
    · rw [upd_ne z]; exact (ow a ha).1
  exact ⟨vs, hv, av.length, s3, D3⟩
/-- d.setdefault(k, []).append(x) -/
theorem ws_dlapp {i : Nat} {l : Addr} {rs : List DlRow} {k : Key} (e : ρ[i]? = some (.mx (dlM l rs))) (hk : Pd K ty ρ (kD k)) (hv : Pe K te (ρ.set i .no) P) (hz : rs.length < sizeLine) (hz2 : ∀ r ∈ rs, r.2.2.length < sizeLine)
    (c : ∀ d qs, P d → shp qs = appD (shp rs) k d → E.nx (ρ.set i (.mx (dlM l qs)))) : Ws K (tDrop (tBM K "list" rAppend (tDSetd (tVar i) ty (tLst tNil)) (tCons te tNil))) ρ E := fun T G0 H0 σ H D a ed => by
  obtain ⟨G, s, D0⟩ := a
  obtain ⟨o, e1, ⟨rfl, hl, al, nd, nk⟩, ow⟩ := D0.at e
  refine ⟨_, e1, l, rfl, .inl ⟨_, .inl hl⟩, hk.bind s.gh s.tp D0 fun y w G2 H2 p2 s2 gh2 tp2 D2 x2 => ?_⟩
  subst p2
  have ew := dn_key x2
  subst ew
  refine ⟨Nat.zero_le _, fun p hp => ?_⟩
  have nt : ¬ T p := fun t => by
    obtain ⟨_, _, _, _, _, q, _⟩ := tp2 p t
    rw [hp] at q
    cases q
  have st := Step.newM (T := T) (o := .lst []) gh2 tp2 hp
  have D3 := D2.mono st
  have s3 := (s.trans s2).trans st
  obtain ⟨o3, e3, ⟨q3, hl3, al3, _, _⟩, ow3⟩ := D3.at e
  rw [e1] at e3
  cases e3
  have idx : ∀ (X : Sl), Le (ρ.set i X) (ρ.set i .no) := fun X => by
    have gen : ∀ (r : Rho) (j : Nat), Le (r.set j X) (r.set j .no) := fun r => by
      induction r with
      | nil => intro j; exact .nil
      | cons b t ih =>
        intro j
        cases j with
        | zero => exact .cons trivial (Le.refl t)
        | succ j => exact .cons (sle_refl b) (ih j)
    exact gen ρ i
  -- the append, the dict's row told
  have fin : ∀ (H4 : Hp) (rs' : List DlRow) (r : DlRow), r ∈ rs' → r.1 = k → r.2.2.length < sizeLine → Step T G0 H0 G2 H4 → Den T K H0 G2 H4 σ (ρ.set i (.mx (dlM l rs'))) → (∀ d, shp (appA rs' k d) = appD (shp rs) k d) →
      (tyV K "list" (.ref r.2.1) H4 ∧ (tCons te tNil) σ H4 fun xs H5 => rAppend (.ref r.2.1) xs H5 fun _ H6 => D.nx σ H6) := fun H4 rs' r hr er hlen s4 D4 sh => by
    have ei : (ρ.set i (.mx (dlM l rs')))[i]? = some (.mx (dlM l rs')) := List.getElem?_set_self (List.getElem?_eq_some_iff.mp e).1
    obtain ⟨o4, e4, ⟨_, hl4, al4, _, _⟩, _⟩ := D4.at ei
    obtain ⟨vs4, hv4, _⟩ := al4 r hr
    refine ⟨.inl ⟨rfl, vs4, sql_of hv4⟩, hv.bind s4.gh s4.tp (D4.le (idx _)) fun d v G5 H5 p5 s5 gh5 tp5 D5 x5 => ?_⟩
    obtain ⟨vs, g1, g2, s6, D6⟩ := dl_grow (D4.mono s5) (s4.trans s5) ei hr x5
    rw [er, List.set_set] at D6
    exact ⟨r.2.1, vs, v, rfl, rfl, g1, by rw [g2]; exact hlen, ed.nx _ _ _ (c d _ p5 (sh d)) ⟨G5, s6, D6⟩⟩
  refine ⟨dlV rs, k, hl3, rfl, by rw [List.length_map]; exact hz, fun v hv' => ?_, fun hn => ?_⟩
  · rcases dlV_val rs k with ⟨h1, _⟩ | ⟨r, hr, er, h1⟩
    · rw [h1] at hv'; cases hv'
    · rw [h1] at hv'
      cases hv'
      have same : ρ.set i (.mx (dlM l rs)) = ρ := by
        refine List.ext_getElem? fun j => ?_
        by_cases q : i = j
        · subst q
          rw [List.getElem?_set_self (List.getElem?_eq_some_iff.mp e).1, e]
        · rw [List.getElem?_set_ne q]
      exact fin _ rs r hr er (hz2 r hr) s3 (by rw [same]; exact D3) fun d => appA_shp d (List.mem_map.mpr ⟨r, hr, er⟩)
  · rcases dlV_val rs k with ⟨_, h2⟩ | ⟨r, hr, er, h1⟩
    · have pl : p ∉ l :: rs.map (·.2.1) := fun z => by
        obtain ⟨_, _, _, ow'⟩ := D2.at e
        exact (ow' p z).1 hp
      have lp : l ≠ p := fun z => pl (by rw [← z]; exact List.mem_cons_self)
      have pk : putK (dlV rs) k (.ref p) = dlV (rs ++ [(k, p, [])]) := by
        rw [putK_new _ hn]
        unfold dlV
        rw [List.map_append]
        rfl
      rw [pk]
      obtain ⟨o2, _, ⟨_, hl2, al2, _, _⟩, ow2⟩ := D2.at e
      obtain ⟨s4, D4⟩ := D2.mutx (s.trans s2) e e1 (m' := dlM l (rs ++ [(k, p, [])])) (H' := upd (upd H2 p (.lst [])) l (.dK (dlV (rs ++ [(k, p, [])])))) (fun a u na ea => by
          rw [upd_ne (fun z => na (by rw [z]; exact List.mem_cons_self)), upd_ne (ne_of_none ea hp)]
          exact ea)
        ⟨rfl, upd_same, fun q hq => by
          rcases List.mem_append.mp hq with hq | hq
          · obtain ⟨vs, h3, h4⟩ := al2 q hq
            have lq : q.2.1 ∈ rs.map (·.2.1) := List.mem_map.mpr ⟨q, hq, rfl⟩
            refine ⟨vs, ?_, h4⟩
            rw [upd_ne (fun z => (List.nodup_cons.mp nd).1 (by rw [← z]; exact lq)), upd_ne (ne_of_none h3 hp)]
            exact h3
          · rw [List.mem_singleton.mp hq]
            refine ⟨[], ?_, .nil⟩
            show upd _ l _ p = _
            rw [upd_ne (fun z => lp z.symm), upd_same], by
          rw [List.map_append]
          show (l :: (rs.map (·.2.1) ++ [p])).Nodup
          rw [← List.cons_append]
          exact List.nodup_append.mpr ⟨nd, by simp, fun a ha b hb => by rw [List.mem_singleton.mp hb]; exact fun z => pl (z ▸ ha)⟩, by
          rw [List.map_append]
          exact List.nodup_append.mpr ⟨nk, by simp, fun a ha b hb => by
            have hb : b ∈ [k] := hb
            rw [List.mem_singleton.mp hb]
            exact fun z => h2 (z ▸ ha)⟩⟩ fun a ha => by
          have ha : a ∈ l :: (rs ++ [((k, p, []) : DlRow)]).map (fun r : DlRow => r.2.1) := ha
          by_cases z : a = l
          · exact ⟨(by rw [z, upd_same]; intro w; cases w), .inl (by rw [z]; exact List.mem_cons_self)⟩
          · rw [upd_ne z]
            rcases List.mem_cons.mp ha with h | ha
            · exact absurd h z
            rw [List.map_append] at ha
            rcases List.mem_append.mp ha with ha | ha
            · have w := (ow2 a (List.mem_cons_of_mem _ ha)).1
              refine ⟨?_, .inl (List.mem_cons_of_mem _ ha)⟩
              by_cases y : a = p
              · rw [y, upd_same]; intro w; cases w
              · rw [upd_ne y]; exact w
            · have ha : a ∈ [p] := ha
              rw [List.mem_singleton.mp ha]
              exact ⟨(by rw [upd_same]; intro w; cases w), .inr hp⟩
      exact fin _ _ (k, p, []) (List.mem_append_right _ List.mem_cons_self) rfl (by show 0 < (16777216 : Nat); decide) s4 D4 fun d => by
        rw [appD_new d h2]
        unfold shp appA
        rw [List.map_append, List.map_append]
        have e0 : (rs.map fun r : DlRow => if r.1 = k then (r.1, r.2.1, r.2.2 ++ [d]) else r) = rs := by
          have g : ∀ q ∈ rs, (if q.1 = k then (q.1, q.2.1, q.2.2 ++ [d]) else q : DlRow) = q := fun q hq => if_neg fun z => h2 (List.mem_map.mpr ⟨q, hq, z⟩)
          rw [List.map_congr_left g, List.map_id']
        rw [e0]
        show _ ++ [((if k = k then (k, p, [] ++ [d]) else (k, p, []) : DlRow).1, (if k = k then (k, p, [] ++ [d]) else (k, p, []) : DlRow).2.2)] = _
        rw [if_pos rfl]
        rfl
    · rw [h1] at hn; cases hn
end
end PD

set_option maxHeartbeats 2000000
/-! PD32: a def that returns a changeable thing that was made in it; a dict of lists read -/
namespace PD
open PySem PySem.Spec PyProof.Rows L2
theorem room_u {k : Nat} {A : Around} (r : Room k A) : A.units + 1 < cLine := by
  have := r.un
  omega
/-- a new changeable thing -/
def Nx (K : PySem.W.Frag) (te : TE) (ρ : Rho) (P : Mo → Prop) : Prop := ∀ (T : Addr → Prop) (H0 G H : Hp) (σ : L2.St), Same G H → (∀ a, T a → Tp G H a) → Den T K H0 G H σ ρ →
  ∀ Q : VK, (∀ m v G' H', P m → Step T G H G' H' → m.ok K G' H' (some v) → (∀ a, a ∈ m.fp → H' a ≠ none ∧ G' a = none ∧ H a = none ∧ ¬ T a) → Q v H') → te σ H Q
abbrev PrM := List Sl → (Mo → Prop) → Prop
def spM (K : PySem.W.Frag) (n : Nat) (R : PrM) : Sp := fun vs H Q _ => ∃ (T : Addr → Prop) (G : Hp) (ss : List Sl) (P : Mo → Prop), Same G H ∧ (∀ a, T a → Tp G H a) ∧ ArgsOk T K G ss vs ∧ ss.length = n ∧ R ss P ∧
  ∀ m v G' H', P m → Step T G H G' H' → m.ok K G' H' (some v) → (∀ a, a ∈ m.fp → H' a ≠ none ∧ G' a = none ∧ H a = none ∧ ¬ T a) → Q v H'
/-- a def's body that ends with the return of such a thing -/
def WsX (K : PySem.W.Frag) (t : TS) (ρ : Rho) (P : Mo → Prop) : Prop := ∀ (T : Addr → Prop) (G0 H0 : Hp) (σ : L2.St) (H : Hp) (D : Ends), At T K G0 H0 ρ σ H →
  (∀ m v G' H', P m → Step T G0 H0 G' H' → m.ok K G' H' (some v) → (∀ a, a ∈ m.fp → H' a ≠ none ∧ G' a = none ∧ H0 a = none ∧ ¬ T a) → D.rt v H') → t D σ H
section
variable {K : PySem.W.Frag} {ρ : Rho} {te ta ty : TE} {t u : TS} {E : Ed} {P : Mo → Prop}
theorem wq_setx {i : Nat} (h : Nx K te ρ P) (k : ∀ m, P m → Ws K u (ρ.set i (.mx m)) E) : Ws K (tSeq (tAsg te (gName i)) u) ρ E := fun T G0 H0 σ H D a e => by
  obtain ⟨G, s, D0⟩ := a
  exact h T H0 G H σ s.gh s.tp D0 _ fun m v G' H' p s' hm ow => k m p T G0 H0 _ _ D ⟨G', s.trans s', (D0.mono s').setx hm (fun a ha => ⟨(ow a ha).1, (ow a ha).2.1, s.no (ow a ha).2.2.1 (ow a ha).2.2.2, (ow a ha).2.2.2⟩) fun j t p a hj e1 e2 ha f => D0.live e1 e2 f (ow a ha).2.2.1⟩ e
theorem nx_call {n : Nat} {R : PrM} {ta : TA} {ss : List Sl} {E : XK} (h : Pasd K ta ρ ss) (hl : ss.length = n) (hR : R ss P) : Nx K (tCall (spM K n R) [] E ta) ρ P := fun T H0 G H σ gh tp D Q q =>
  h.bind gh tp D fun ss' vs G1 H1 p1 s1 gh1 tp1 D1 x1 => by
    subst p1
    show spM K n R (vs ++ []) H1 Q E
    rw [List.append_nil]
    refine ⟨T, G1, _, P, gh1, tp1, x1, hl, hR, fun m v G' H' hp s hm ow => q m v G' H' hp (s1.trans s) hm fun a ha => ?_⟩
    obtain ⟨p1, p2, p3, p4⟩ := ow a ha
    exact ⟨p1, p2, s1.no p3 p4, p4⟩
theorem wx_ret {i : Nat} {m : Mo} (e : ρ[i]? = some (.mx m)) (p : P m) (hv : ∀ (K : PySem.W.Frag) (G H : Hp) (o : Option V), m.ok K G H o → ∃ v, o = some v) : WsX K (tRet (tVar i)) ρ P := fun T G0 H0 σ H D a q => by
  obtain ⟨G, s, D0⟩ := a
  obtain ⟨o, e1, hm, ow⟩ := D0.at e
  obtain ⟨v, rfl⟩ := hv _ _ _ _ hm
  exact ⟨v, e1, q m v G H p s hm fun a ha => ow a ha⟩
theorem wx_seq {R : Rho → Prop} (h : Ws K t ρ { nx := R }) (k : ∀ r, R r → WsX K u r P) : WsX K (tSeq t u) ρ P := fun T G0 H0 σ H D a q =>
  h T G0 H0 σ H _ a ⟨fun r σ H p at' => k r p T G0 H0 σ H D at' q, fun _ _ _ z => z.elim, fun _ _ _ z => z.elim, fun _ _ _ z => z.elim, fun _ _ _ _ _ _ _ z => z.elim⟩
theorem wx_le {ρ' : Rho} (h : WsX K t ρ' P) (l : Le ρ ρ') : WsX K t ρ P := fun T G0 H0 σ H D a q => h T G0 H0 σ H D (a.le l) q
theorem fn_okM {Pg' : Program} {w : World} {mg : Str → Option Value} {base : Heap} {x qual : Str} {st : Stmt} {f : Addr} {fd : FuncData} {N ps : List Str} {k n : Nat} {R : PrM} (F : Fun K x qual st f fd) (S : FnScope N ps (defScope st)) (hp : ps.length = n) (hN : n ≤ N.length)
    (hb : ∀ (cdv : Value) (A : Around) (outer : List Env) (s : Shared) (H : Hp) (E : XK), Room k (A.deeper (envOfC qual (defScope st) s.heap.objs.size f cdv)) →
      ∃ t, PSs (cxOf CX0 Pg' w K mg base N qual (defScope st) f cdv A outer s H E).nox (defBody st) t ∧ ∀ ss P, ss.length = n → R ss P → WsX K t (ss ++ List.replicate (N.length - n) .no) P) :
    FnOk Pg' w K mg base CX0 (k + 1) f fd ps (spM K n R) := by
  refine F.ok S (fun vs H Q E h => ?_) (fun cdv A outer s H vs Q E hr h => ?_)
  · obtain ⟨T, G, ss, P, gh, tp, a, hl, _⟩ := h
    rw [← Paired.length a, hl, hp]
  · obtain ⟨t, ht, hw⟩ := hb cdv A outer s H E hr
    obtain ⟨T, G, ss, P, gh, tp, a, hl, hR, q⟩ := h
    have D0 : Den T K H G H (L2.start N vs) (ss ++ List.replicate (N.length - n) .no) := by
      have := den_start (H0 := H) (H := H) (N := N) a (by omega)
      rw [hl] at this
      exact this
    exact ⟨t, ht, hw ss P hl hR T G H _ H _ ⟨G, Step.refl gh tp, D0⟩ q⟩
/-! the same as one statement -/
theorem ws_dlnew {i : Nat} (k : ∀ l, E.nx (ρ.set i (.mx (dlM l [])))) : Ws K (tAsg tDNewK (gName i)) ρ E := fun T G0 H0 σ H D a e => by
  obtain ⟨G, s, D0⟩ := a
  intro p hp
  have st := Step.newM (T := T) (o := .dK []) s.gh s.tp hp
  have nt : ¬ T p := fun t => by
    obtain ⟨_, _, _, _, _, q, _⟩ := s.tp p t
    rw [hp] at q
    cases q
  exact e.nx _ _ _ (k p) ⟨G, s.trans st, (D0.mono st).setx (m := dlM p []) ⟨rfl, upd_same, fun r hr => (by cases hr), by simp, by simp⟩ (fun a ha => by
    rw [List.mem_singleton.mp ha]
    exact ⟨(by rw [upd_same]; intro z; cases z), s.gh.free hp, s.no hp nt, nt⟩) fun j t o a hj e1 e2 ha f => D0.live e1 e2 f (by rw [List.mem_singleton.mp ha]; exact hp)⟩
theorem ws_dnew {i : Nat} (k : ∀ l, E.nx (ρ.set i (.mx (dkM l [])))) : Ws K (tAsg tDNewK (gName i)) ρ E := fun T G0 H0 σ H D a e => by
  obtain ⟨G, s, D0⟩ := a
  intro p hp
  have st := Step.newM (T := T) (o := .dK []) s.gh s.tp hp
  have nt : ¬ T p := fun t => by
    obtain ⟨_, _, _, _, _, q, _⟩ := s.tp p t
    rw [hp] at q
    cases q
  exact e.nx _ _ _ (k p) ⟨G, s.trans st, (D0.mono st).setx (m := dkM p []) ⟨rfl, [], upd_same, .nil⟩ (fun a ha => by
    rw [List.mem_singleton.mp ha]
    exact ⟨(by rw [upd_same]; intro z; cases z), s.gh.free hp, s.no hp nt, nt⟩) fun j t o a hj e1 e2 ha f => D0.live e1 e2 f (by rw [List.mem_singleton.mp ha]; exact hp)⟩
/-! sizes -/
def szD (es : List (Key × List PyData)) (c : Nat) : Prop := es.length ≤ c ∧ ∀ q ∈ es, q.2.length ≤ c
theorem szD.app {es : List (Key × List PyData)} {c : Nat} (h : szD es c) (k : Key) (x : PyData) : szD (appD es k x) (c + 1) := by
  unfold appD
  split
  · refine ⟨by rw [List.length_map]; exact Nat.le_succ_of_le h.1, fun q hq => ?_⟩
    obtain ⟨p, hp, rfl⟩ := List.mem_map.mp hq
    have := h.2 p hp
    split
    · show (p.2 ++ [x]).length ≤ _
      rw [List.length_append]
      show _ + 1 ≤ _
      omega
    · omega
  · refine ⟨by rw [List.length_append]; exact Nat.succ_le_succ h.1, fun q hq => ?_⟩
    rcases List.mem_append.mp hq with hq | hq
    · exact Nat.le_succ_of_le (h.2 q hq)
    · rw [List.mem_singleton.mp hq]
      show 1 ≤ c + 1
      omega
theorem szD.le {es : List (Key × List PyData)} {c d : Nat} (h : szD es c) (e : c ≤ d) : szD es d := ⟨Nat.le_trans h.1 e, fun q hq => Nat.le_trans (h.2 q hq) e⟩
theorem szD.rows {rs : List DlRow} {c : Nat} (h : szD (shp rs) c) (hc : c < sizeLine) : rs.length < sizeLine ∧ ∀ r ∈ rs, r.2.2.length < sizeLine := by
  have l : (shp rs).length = rs.length := List.length_map ..
  exact ⟨Nat.lt_of_le_of_lt (l ▸ h.1) hc, fun r hr => Nat.lt_of_le_of_lt (h.2 (r.1, r.2.2) (List.mem_map.mpr ⟨r, hr, rfl⟩)) hc⟩
/-! a dict of lists: its keys -/
theorem dl_get {T : Addr → Prop} {H0 G H : Hp} {σ : L2.St} {i : Nat} {l : Addr} {rs : List DlRow} (e : ρ[i]? = some (.mx (dlM l rs))) (D0 : Den T K H0 G H σ ρ) : σ[i]? = some (some (.ref l)) ∧ H l = some (.dK (dlV rs)) := by
  obtain ⟨o, e1, ⟨rfl, hl, _⟩, _⟩ := D0.at e
  exact ⟨e1, hl⟩
theorem dlV_some (rs : List DlRow) (k : Key) : (valV (dlV rs) k).isSome = (shp rs).any fun q => decide (q.1 = k) := by
  rw [← valV_any]
  unfold shp
  rw [List.any_map, List.any_map]
  rfl
theorem yd_dlin {i : Nat} {l : Addr} {rs : List DlRow} {k : Key} (e : ρ[i]? = some (.mx (dlM l rs))) (hk : Pd K ty ρ (kD k)) : Pd K (tDIn ty (tVar i)) ρ (.bool ((shp rs).any fun q => decide (q.1 = k))) := fun T H0 G H σ gh tp D Q q =>
  hk.bind gh tp D fun y w G2 H2 p2 s2 gh2 tp2 D2 x2 => by
    subst p2
    have ew := dn_key x2
    subst ew
    obtain ⟨e1, hl⟩ := dl_get e D2
    refine ⟨_, e1, l, _, rfl, DGet.k hl, ?_⟩
    rw [dlV_some]
    exact q _ _ G2 H2 rfl s2 (.bl _)
theorem yd_dlnin {i : Nat} {l : Addr} {rs : List DlRow} {k : Key} (e : ρ[i]? = some (.mx (dlM l rs))) (hk : Pd K ty ρ (kD k)) : Pd K (tDNotIn ty (tVar i)) ρ (.bool (!(shp rs).any fun q => decide (q.1 = k))) := fun T H0 G H σ gh tp D Q q =>
  hk.bind gh tp D fun y w G2 H2 p2 s2 gh2 tp2 D2 x2 => by
    subst p2
    have ew := dn_key x2
    subst ew
    obtain ⟨e1, hl⟩ := dl_get e D2
    refine ⟨_, e1, l, _, rfl, DGet.k hl, ?_⟩
    rw [dlV_some]
    exact q _ _ G2 H2 rfl s2 (.bl _)
end
end PD

set_option maxHeartbeats 2000000
/-! PD33: comprehensions of any number of clauses, a set of ints made -/
namespace PD
open PySem PySem.Spec PyProof.Rows L2
theorem turn_mid {elt t i t' i' : Expr} {ifs ifs' : List Expr} {gens : List Comprehension} {scope : Scope} {pos : Pos} {k : Nat} (it acc : Value) (env : Env) (hg : gens[k]? = some ⟨t, i, ifs, 0⟩) (hn : gens[k + 1]? = some ⟨t', i', ifs', 0⟩) :
    compTurn (.SetComp elt gens scope pos) k it acc env = (do
      standAt i.pos
      match ← pyNext it with
      | none => pure (.done .next)
      | some v =>
        letOwnedTupleGo t it v
        assign t env v
        let mut ok := true
        for c in ifs do
          if ok then ok ← isTrue c env (eval c env)
        if ok then
          let x ← eval i' env
          standAt i'.pos
          let x ← foldedSetIterable i' env x
          let _ ← runOwn (.compStart (.SetComp elt gens scope pos) (k + 1) (← holding [x] (pyIter x)) acc env) env
        again (.compLoop (.SetComp elt gens scope pos) k it acc env)) := by
  unfold compTurn
  dsimp only
  rw [hg]
  dsimp only
  rw [hn]
  rfl
theorem turn_last {elt t i : Expr} {ifs : List Expr} {gens : List Comprehension} {scope : Scope} {pos : Pos} {k : Nat} (it acc : Value) (env : Env) (hg : gens[k]? = some ⟨t, i, ifs, 0⟩) (hn : gens[k + 1]? = none) :
    compTurn (.SetComp elt gens scope pos) k it acc env = (do
      standAt i.pos
      match ← pyNext it with
      | none => pure (.done .next)
      | some v =>
        letOwnedTupleGo t it v
        assign t env v
        let mut ok := true
        for c in ifs do
          if ok then ok ← isTrue c env (eval c env)
        if ok then
          (do let v ← eval elt env; standAt elt.pos; let _ ← call (.builtin "set.add") [acc, v])
        again (.compLoop (.SetComp elt gens scope pos) k it acc env)) := by
  unfold compTurn
  dsimp only
  rw [hg]
  dsimp only
  rw [hn]
  rfl
/-- the tests of a clause -/
def clTests (ifs : List Expr) (env : Env) : Sem Bool := forIn ifs true fun c r => if r = true then do let ok ← isTrue c env (eval c env); pure (ForInStep.yield ok) else pure (ForInStep.yield r)
abbrev Nev : Value → Shared → Prop := fun _ _ => False
/-- one turn of a clause: no item more; an item that the tests let through; one that they don't -/
def TurnOk (M : Model) (A : Around) (env : Env) (it : Value) (t : Expr) (ifs : List Expr) (fin next body : Shared → Prop) (s : Shared) : Prop :=
  wpAny M A (pyNext it) (fun r s1 => match r with
    | none => fin s1
    | some v => wpAny M A (letOwnedTupleGo t it v) (fun _ s2 => wpAny M A (assign t env v) (fun _ s3 =>
        wpAny M A (clTests ifs env) (fun b s4 => if b = true then body s4 else next s4) Nev s3) Nev s2) Nev s1) Nev s
section
variable {prog : Program} {w : World} {A : Around} {R : Result → Shared → Prop} {elt t i t' i' : Expr} {ifs ifs' : List Expr} {gens : List Comprehension} {scope : Scope} {pos : Pos} {k : Nat} {it acc : Value} {env : Env}
theorem loop_mid (hg : gens[k]? = some ⟨t, i, ifs, 0⟩) (hn : gens[k + 1]? = some ⟨t', i', ifs', 0⟩) (hs : ∀ x, foldedSetIterable i' env x = pure x) (I : Nat → Shared → Prop)
    (turn : ∀ n s, I n s → TurnOk (model prog w) A env it t ifs (R (.ok .next)) (fun s' => ∃ m, m < n ∧ I m s')
      (fun s3 => wpAny (model prog w) A (eval i' env) (fun x s4 => wpAny (model prog w) A (pyIter x) (fun j s5 => codeAny (model prog w) A (.compStart (.SetComp elt gens scope pos) (k + 1) j acc env)
        (fun r s' => match r with
          | .ok _ => ∃ m, m < n ∧ I m s'
          | .error _ => False) s5) Nev s4) Nev s3) s) (n : Nat) (s : Shared) (h : I n s) :
    codeAny (model prog w) A (.compLoop (.SetComp elt gens scope pos) k it acc env) R s := by
  refine codeAny_loop rfl I (fun n s hI => ?_) n h
  show wpAny _ A ((compTurn (.SetComp elt gens scope pos) k it acc env).onRaise (fun x => do noteFrame x env; theTreesLotGoes x)) _ _ s
  refine wpAny_noted ?_
  rw [turn_mid it acc env hg hn]
  refine wpAny_bind (wpAny_standAt (wpAny_bind (thnF (turn n s hI) fun r s1 h1 => ?_)))
  cases r with
  | none => exact wpAny_pure h1
  | some v =>
    refine wpAny_bind (thnF h1 fun _ s2 h2 => wpAny_bind (thnF h2 fun _ s3 h3 => wpAny_bind (thnF h3 fun b s4 h4 => ?_)))
    cases b with
    | false => exact wpAny_pure ⟨rfl, h4⟩
    | true =>
      refine wpAny_bind (thnF h4 fun x s5 h5 => wpAny_bind (wpAny_standAt (wpAny_bind (wpAny_of_eq (hs x) (wpAny_bind (wpAny_holding (thnF h5 fun j s6 h6 => ?_)))))))
      refine wpAny_bind (wpAny_runOwn ?_)
      rw [Around.mark_none]
      refine codeAny_mono h6 fun r s' hr => ?_
      cases r with
      | error e => exact hr.elim
      | ok f => first
        | exact wpAny_pure ⟨rfl, hr⟩
        | exact wpAny_bind (wpAny_pure (wpAny_pure ⟨rfl, hr⟩))
theorem loop_last (hg : gens[k]? = some ⟨t, i, ifs, 0⟩) (hn : gens[k + 1]? = none) (I : Nat → Shared → Prop)
    (turn : ∀ n s, I n s → TurnOk (model prog w) A env it t ifs (R (.ok .next)) (fun s' => ∃ m, m < n ∧ I m s')
      (fun s3 => wpAny (model prog w) A (eval elt env) (fun x s4 => wpAny (model prog w) A (call (.builtin "set.add") [acc, x]) (fun _ s5 => ∃ m, m < n ∧ I m s5) Nev s4) Nev s3) s) (n : Nat) (s : Shared) (h : I n s) :
    codeAny (model prog w) A (.compLoop (.SetComp elt gens scope pos) k it acc env) R s := by
  refine codeAny_loop rfl I (fun n s hI => ?_) n h
  show wpAny _ A ((compTurn (.SetComp elt gens scope pos) k it acc env).onRaise (fun x => do noteFrame x env; theTreesLotGoes x)) _ _ s
  refine wpAny_noted ?_
  rw [turn_last it acc env hg hn]
  refine wpAny_bind (wpAny_standAt (wpAny_bind (thnF (turn n s hI) fun r s1 h1 => ?_)))
  cases r with
  | none => exact wpAny_pure h1
  | some v =>
    refine wpAny_bind (thnF h1 fun _ s2 h2 => wpAny_bind (thnF h2 fun _ s3 h3 => wpAny_bind (thnF h3 fun b s4 h4 => ?_)))
    cases b with
    | false => exact wpAny_pure ⟨rfl, h4⟩
    | true => exact wpAny_bind (wpAny_bind (thnF h4 fun x s5 h5 => wpAny_bind (wpAny_standAt (wpAny_bind (thnF h5 fun _ s6 h6 => wpAny_pure (wpAny_pure ⟨rfl, h6⟩))))))
theorem start_any (hg : gens[k]? = some ⟨t, i, ifs, 0⟩) {s : Shared} (h0 : codeAny (model prog w) A (.compLoop (.SetComp elt gens scope pos) k it acc env) R s)
    (h : wpAny (model prog w) A (pyIter it) (fun j s' => codeAny (model prog w) A (.compLoop (.SetComp elt gens scope pos) k j acc env) R s') (notedBy (model prog w) A env fun x s' => R (.error x) s') s) :
    codeAny (model prog w) A (.compStart (.SetComp elt gens scope pos) k it acc env) R s := by
  refine codeAny_of_tree ?_
  show wpAny _ _ ((compStart (.SetComp elt gens scope pos) k it acc env).onRaise (fun x => do noteFrame x env; standAt theWindowsPlace)) _ _ s
  refine wpAny_notedAt ?_
  have cl : clausesOf (.SetComp elt gens scope pos) = gens := rfl
  unfold compStart
  rw [cl, hg]
  show wpAny _ _ (ask >>= _) _ _ s
  refine wpAny_bind (wpAny_askSetting (wpAny_ite ?_))
  split
  · first
    | exact wpAny_bind (wpAny_pure (wpAny_pure (And.intro rfl h0)))
    | exact wpAny_pure (And.intro rfl h0)
  · refine wpAny_bind (wpAny_rule ?_)
    first
    | exact wpAny_bind (wpAny_standAt (wpAny_bind (wpAny_mono h (fun j s' h' => wpAny_pure (And.intro rfl h')) fun _ _ x => x)))
    | (show wpAny _ _ (standAt i.pos >>= _) _ _ s; exact wpAny_bind (wpAny_standAt (wpAny_bind (wpAny_mono h (fun j s' h' => wpAny_pure (And.intro rfl h')) fun _ _ x => x))))
end
/-- a clause: its texts and what is told of them; vs: the names that a turn of it and of those within store -/
structure Cl where
  t : Expr
  i : Expr
  ifs : List Expr
  wi : TI
  g : TG
  tt : TT
  vs : List Nat
abbrev Bd := L2.St → Hp → (Hp → Prop) → Prop
def tCls (body : Bd) : List Cl → Bd
  | [] => body
  | c :: cs => fun σ H N => c.wi σ H fun J H1 => ∃ W : Nat → Nat → Hp → Prop, (∃ m, W 0 m H1) ∧ ∀ i m H, W i m H → (J.stop i H ∧ N H) ∨ (J.go i H ∧ ∃ Nx : Hp → Prop, (∀ H', Nx H' → ∃ m', m' < m ∧ W (i + 1) m' H') ∧
      ∀ x H', J.yld i H x H' → c.g x (wipe σ c.vs) H' fun σ2 H2 => wipe σ2 c.vs = wipe σ c.vs ∧ c.tt σ2 H2 fun b H3 => if b = true then tCls body cs σ2 H3 Nx else Nx H3)
def vsOf : List Cl → List Nat
  | [] => []
  | c :: _ => c.vs
structure ClOk (Y : Cx) (gens : List Comprehension) (c : Cl) (k : Nat) : Prop where
  at' : gens[k]? = some ⟨c.t, c.i, c.ifs, 0⟩
  pi : PI Y c.t c.i c.wi
  pg : PG Y c.t c.g
  pt : PTs Y c.ifs c.tt
  hs : ∀ x, foldedSetIterable c.i Y.env x = pure x
def ClsOk (Y : Cx) (gens : List Comprehension) : List Cl → Nat → Prop
  | [], k => gens[k]? = none
  | c :: cs, k => ClOk Y gens c k ∧ (∀ n, n ∈ vsOf cs → n ∈ c.vs) ∧ ClsOk Y gens cs (k + 1)
/-- what is walked behind the tests -/
def BehOk (Y : Cx) (elt : Expr) (gens : List Comprehension) (scope : Scope) (pos : Pos) (acc : Value) (Good : Shared → Prop) : List Cl → Nat → Shared → Prop
  | [], _, s => wpAny (model Y.prog Y.w) Y.A (eval elt Y.env) (fun x s4 => wpAny (model Y.prog Y.w) Y.A (call (.builtin "set.add") [acc, x]) (fun _ s5 => Good s5) Nev s4) Nev s
  | c :: _, k, s => wpAny (model Y.prog Y.w) Y.A (eval c.i Y.env) (fun x s4 => wpAny (model Y.prog Y.w) Y.A (pyIter x) (fun j s5 => codeAny (model Y.prog Y.w) Y.A (.compStart (.SetComp elt gens scope pos) k j acc Y.env)
      (fun r s' => match r with
        | .ok _ => Good s'
        | .error _ => False) s5) Nev s4) Nev s
section
variable {X : Cx} {s3 : Shared} {H3 : Hp} {scope : Scope} {ce : Env} {fp : List Addr} {elt : Expr} {gens : List Comprehension} {pos : Pos} {acc : Value} {body : Bd}
theorem beh_ok (hc : X.calm = true) (hb : ∀ (pins : List (Addr × Obj)) (s : Shared) (σ : L2.St) (H : Hp) (N : Hp → Prop), Inv (X.blk s3 H3 scope ce fp) pins σ H s → body σ H N →
      wpAny (model X.prog X.w) X.A (eval elt ce) (fun x s4 => wpAny (model X.prog X.w) X.A (call (.builtin "set.add") [acc, x]) (fun _ s5 => ∃ H', Inv (X.blk s3 H3 scope ce fp) pins σ H' s5 ∧ N H') Nev s4) Nev s) :
    ∀ (cs : List Cl) (k : Nat) (pins : List (Addr × Obj)) (s : Shared) (σ : L2.St) (H : Hp) (N : Hp → Prop) (Good : Shared → Prop), ClsOk (X.blk s3 H3 scope ce fp) gens cs k → Inv (X.blk s3 H3 scope ce fp) pins σ H s → tCls body cs σ H N →
      (∀ σ' s' H', Inv (X.blk s3 H3 scope ce fp) pins σ' H' s' → σ'.length = σ.length → (∀ (j : Nat) v, j ∉ vsOf cs → σ[j]? = some (some v) → σ'[j]? = some (some v)) → N H' → Good s') →
      BehOk (X.blk s3 H3 scope ce fp) elt gens scope pos acc Good cs k s
  | [], k, pins, s, σ, H, N, Good, ok, I, q, fin => by
    show wpAny _ _ _ _ _ _
    exact wpAny_mono (hb pins s σ H N I q) (fun x s4 h => wpAny_mono h (fun _ s5 ⟨H', I', n⟩ => fin σ s5 H' I' rfl (fun _ _ _ e => e) n) fun _ _ z => z) fun _ _ z => z
  | c :: cs, k, pins, s, σ, H, N, Good, ok, I, q, fin => by
    obtain ⟨co, sub, rest⟩ := ok
    show wpAny _ _ _ _ _ _
    refine thnF (co.pi.run pins s σ H _ I q) fun xv s4 hx => thnF hx fun itv s5 h5 => ?_
    obtain ⟨it1, fp1, tn1, J1, H5, e1, I5, T1, st5, f5, W1, ⟨m1, w1⟩, turn1⟩ := h5
    subst e1
    have stat1 : ∀ {H' : Hp}, (∀ b ∈ fp1, H' b = none) → ∀ b ∈ fp1, FpOk (X.blk s3 H3 scope ce fp) pins H' b := fun hn b hb => ⟨hn b hb, (f5 b hb).2⟩
    let Iv : Nat → Shared → Prop := fun n s' => ∃ j H', Inv (X.blk s3 H3 scope ce fp) pins (wipe σ c.vs) H' s' ∧ tn1 j s'.heap ∧ (∀ b ∈ fp1, H' b = none) ∧ W1 j n H'
    have init : Iv m1 s5 := ⟨0, H5, I5.weak (wipe_length _ _) (fun j v e => (wipe_some e).1), st5, fun b hb => (f5 b hb).1, w1⟩
    have turn : ∀ n s', Iv n s' → TurnOk (model X.prog X.w) X.A ce (.ref it1) c.t c.ifs Good (fun s' => ∃ m, m < n ∧ Iv m s') (BehOk (X.blk s3 H3 scope ce fp) elt gens scope pos acc (fun s' => ∃ m, m < n ∧ Iv m s') cs (k + 1)) s' := by
      rintro n s12 ⟨j, H12, I12, st12, n12, w12⟩
      unfold TurnOk
      rcases turn1 j n H12 w12 with ⟨stop1, nx1⟩ | ⟨go1, Nx1, hNx1, step1⟩
      · refine thnF (T1.done (X.blk s3 H3 scope ce fp) rfl rfl rfl hc j _ s12 (wipe σ c.vs) H12 Nev I12 (stat1 n12) st12 stop1) fun r s13 ⟨hr, I13⟩ => ?_
        subst hr
        exact fin _ s13 H12 I13 (wipe_length _ _) (fun j v hj e => by rw [show (wipe σ c.vs)[j]? = σ[j]? from wipe_out hj]; exact e) nx1
      · refine thnF (T1.item (X.blk s3 H3 scope ce fp) rfl rfl rfl hc j _ s12 (wipe σ c.vs) H12 Nev I12 (stat1 n12) st12 go1) fun r s13 ⟨u1, hr, h13⟩ => ?_
        subst hr
        refine thnF h13 fun _ s14 ⟨x1, H14, I14, r14, y14, st14, n14⟩ => ?_
        have I14' := I14.pinned (stat1 n14) (T1.obj _ _ st14)
        refine thnF (co.pg.run _ s14 (wipe σ c.vs) H14 x1 u1 _ I14' r14 (step1 x1 H14 y14)) fun _ s15 ⟨σ15, H15, I15, hw15, q15⟩ => ?_
        refine thnF (co.pt.run _ s15 σ15 H15 _ I15 q15) fun b1 s16 ⟨H16, I16, q16⟩ => ?_
        have fin1 : ∀ σ' s' H', Inv (X.blk s3 H3 scope ce fp) (pins ++ pinsAt fp1 s14.heap) σ' H' s' → σ'.length = σ15.length → (∀ (j : Nat) v, j ∉ vsOf cs → σ15[j]? = some (some v) → σ'[j]? = some (some v)) → Nx1 H' → ∃ m, m < n ∧ Iv m s' := fun σ' s' H' I' hl hk nx => by
          obtain ⟨m', hm, w'⟩ := hNx1 H' nx
          have kept : ∀ b ∈ fp1, ∀ o, s14.heap.get? b = some o → s'.heap.get? b = some o ∧ H' b = none := fun b hb o e =>
            have z := I'.pin (b, o) (List.mem_append_right _ (List.mem_append_right _ (mem_pinsAt hb e)))
            ⟨z.1, z.2.1⟩
          refine ⟨m', hm, j + 1, H', I'.unpinned.weak (by rw [hl, ← hw15, wipe_length]) (fun j v e => ?_), T1.keep _ _ _ st14 fun b hb o e => (kept b hb o e).1, fun b hb => ?_, w'⟩
          · rw [← hw15] at e
            obtain ⟨e1, e2⟩ := wipe_some e
            exact hk j v (fun z => e2 (sub j z)) e1
          · obtain ⟨o, e, _⟩ := T1.obj _ _ st14 b hb
            exact (kept b hb o e).2
        cases b1 with
        | false =>
          simp only [Bool.false_eq_true, if_false] at q16 ⊢
          exact fin1 σ15 s16 H16 I16 rfl (fun _ _ _ e => e) q16
        | true =>
          simp only [if_true] at q16 ⊢
          exact beh_ok hc hb cs (k + 1) _ s16 σ15 H16 Nx1 _ rest I16 q16 fin1
    have loop : codeAny (model X.prog X.w) X.A (.compLoop (.SetComp elt gens scope pos) k (.ref it1) acc ce) (fun r s' => match r with
        | .ok _ => Good s'
        | .error _ => False) s5 := by
      cases cs with
      | nil => exact loop_last co.at' rest Iv turn m1 s5 init
      | cons c' r => exact loop_mid co.at' rest.1.at' rest.1.hs Iv turn m1 s5 init
    exact start_any co.at' loop (T1.self X.A 0 _ _ _ st5 loop)
end
/-- y goes into the set of ints at L -/
def bdAdd (w : World) (L : Addr) (te : TE) : Bd := fun σ H N => te σ H fun y H4 => ∃ (c : Int) (S : Int → Bool) (n : Nat), y = .int c ∧ H4 L = some (SetO w L S n) ∧ n + 1 < scanBound ∧ N (upd H4 L (SetO w L (fun j => S j || decide (j = c)) (if S c = true then n else n + 1)))
/-- {elt for tg in iter if .. for .. ..}, of ints -/
def tScN (w : World) (wi : TI) (g : TG) (tt : TT) (cs : List Cl) (te : TE) (vs : List Nat) : TE := fun σ H Q => wi σ H fun J H1 => ∀ L, H1 L = none → ∃ W : Nat → Nat → Hp → Prop, (∃ m, W 0 m (upd H1 L (SetO w L (fun _ => false) 0))) ∧ ∀ i m H, W i m H →
  (J.stop i H ∧ Q (.ref L) H) ∨ (J.go i H ∧ ∃ Nx : Hp → Prop, (∀ H', Nx H' → ∃ m', m' < m ∧ W (i + 1) m' H') ∧ ∀ x H', J.yld i H x H' → g x (wipe σ vs) H' fun σ2 H2 => wipe σ2 vs = wipe σ vs ∧ tt σ2 H2 fun b H3 =>
    if b = true then tCls (bdAdd w L te) cs σ2 H3 Nx else Nx H3)
section
variable {X : Cx}
theorem addI_ok {pins : List (Addr × Obj)} {σ : L2.St} {H : Hp} {s : Shared} {E : Value → Shared → Prop} {L : Addr} {S : Int → Bool} {n : Nat} {y : Int} {u : Value} {Q : Value → Shared → Prop} (I : Inv X pins σ H s) (hL : H L = some (SetO X.w L S n)) (room : n + 1 < scanBound) (r : RelV (.int y) u)
    (h : ∀ s', Inv X pins σ (upd H L (SetO X.w L (fun j => S j || decide (j = y)) (if S y = true then n else n + 1))) s' → Q .none s') : wpAny (model X.prog X.w) X.A (call (.builtin "set.add") [.ref L, u]) Q E s := by
  obtain ⟨tk, rfl⟩ := r
  refine setR_add (setO_get I hL) room fun hh sb new => ?_
  have he : ∃ z, hh.get? L = some z := by
    have ⟨o, _, _, _, ho, _⟩ := new
    exact ⟨o, ho⟩
  exact h _ (I.write (e := L) (t' := s.toks + 1) (by rw [hL]; trivial) (.inl rfl) (fun b z hz hu => (sb.2 b hz).trans hu) he (setO_new new))
theorem scN_core {pins : List (Addr × Obj)} {s : Shared} {σ : L2.St} {H : Hp} {Q : VK} {elt tg iter : Expr} {ifs : List Expr} {more : List Comprehension} {scope : Scope} {own : List (PySem.Str × Nat)} {pos pos' : Pos} {wi : TI} {g : TG} {tt : TT} {cs : List Cl} {te : TE} {use : Option (Value → Sem Unit)} {Qf : Value → Shared → Prop}
    (hc : X.calm = true) (hN : X.N.Nodup) (I : Inv X pins σ H s) (hi : PI X tg iter wi) (ok : BlkOk X.N X.env.scope scope own) (hv : ∀ n, n ∈ vsOf cs → n ∈ own.map (·.2))
    (hg : ∀ (s : Shared) (H : Hp) (C : Addr) (cl : List (PySem.Str × Addr)) (fp : List Addr), PG (X.blk s H scope (compEnvC scope cl C X.env) fp) tg g) (ht : ∀ (s : Shared) (H : Hp) (C : Addr) (cl : List (PySem.Str × Addr)) (fp : List Addr), PTs (X.blk s H scope (compEnvC scope cl C X.env) fp) ifs tt)
    (he : ∀ (s : Shared) (H : Hp) (C : Addr) (cl : List (PySem.Str × Addr)) (fp : List Addr), PE (X.blk s H scope (compEnvC scope cl C X.env) fp) elt te)
    (hcs : ∀ (s : Shared) (H : Hp) (C : Addr) (cl : List (PySem.Str × Addr)) (fp : List Addr), ClsOk (X.blk s H scope (compEnvC scope cl C X.env) fp) (⟨tg, iter, ifs, 0⟩ :: more) cs 1) (hs : ∀ x, foldedSetIterable iter X.env x = pure x)
    (h : tScN X.w wi g tt cs te (own.map (·.2)) σ H Q)
    (hRR : ∀ L C s' m H', Inv X pins σ H' s' → Q (.ref L) H' → s'.heap.Ns C m → FpOk X pins H' C → compPost (model X.prog X.w) X.A X.xe use Qf (.ref L) C (.ok .next) s') :
    wpAny (model X.prog X.w) X.A (comprehension (.SetComp elt (⟨tg, iter, ifs, 0⟩ :: more) scope pos) scope X.env pos' (newSet (.type "set")) false (eval iter X.env) use) Qf X.xe s := by
  have fr : ∀ y ∈ scope.names, y.2 = .free → ∃ c, X.env.cells.lookup y.1 = some c := fun y hy e => (ok.free y hy e).elim (fun k => I.ok.has _ (.inl k)) fun k => I.ok.has _ (.inr k)
  refine wpAny_comprehension_free (use := use) rfl hs (closure_ok fr) ok.kind (fun y hy e => by rw [ok.uniq y hy, e]) (thn (hi.run pins s σ H _ I h) fun xv u1 hx => thn hx fun itv u2 h2 => ?_)
  obtain ⟨jt, fq, tn, J, H2, ej, I2, T, st2, f2, q⟩ := h2
  subst ej
  refine PpSet.newSet_ok (newEnv_comp ?_)
  generalize hL : u2.heap.objs.size = L
  have hLn : H2 L = none := I2.hok.fresh (Nat.le_of_eq hL)
  obtain ⟨W, ⟨m0, w0⟩, turn⟩ := q L hLn
  generalize hu3 : ({ u2 with heap := u2.heap.push { cls := .type "set", dict := none, data := .set #[] 0 (.fresh 0 0 (!X.w.params.followText "set-order")) } } : Shared) = u3
  have I3 : Inv X pins σ (upd H2 L (SetO X.w L (fun _ => false) 0)) u3 := by
    rw [← hu3]
    refine I2.laid (t' := u2.toks) (fun b o e => Heap.get?_push_of_some _ e) (Nat.le_of_eq hL) ?_
    rw [← hL]
    exact setO_new (setR_fresh X.w)
  have g3 : u3.heap = u2.heap.push { cls := .type "set", dict := none, data := .set #[] 0 (.fresh 0 0 (!X.w.params.followText "set-order")) } := by rw [← hu3]
  have lt2 : ∀ b ∈ fq, b < u2.heap.objs.size := fun b hb => by
    obtain ⟨o, e, _⟩ := T.obj _ _ st2 b hb
    exact Heap.lt_size e
  have f3 : ∀ b ∈ fq, FpOk X pins (upd H2 L (SetO X.w L (fun _ => false) 0)) b ∧ b < u3.heap.objs.size := fun b hb => by
    have l := lt2 b hb
    refine ⟨⟨?_, (f2 b hb).2⟩, by rw [g3, Heap.size_push]; exact Nat.lt_succ_of_lt l⟩
    rw [upd_ne (by rw [← hL]; exact Nat.ne_of_lt l)]
    exact (f2 b hb).1
  have st3 : tn 0 u3.heap := T.keep _ _ _ st2 fun b _ o e => by rw [g3]; exact Heap.get?_push_of_some _ e
  have I4 := block_start I3 ok hN f3
  have pg := hg u3 (upd H2 L (SetO X.w L (fun _ => false) 0)) u3.heap.objs.size (cellsFrom (u3.heap.objs.size + 1) scope.names (cloFrom X.env.cells scope.names [])) fq
  have pt := ht u3 (upd H2 L (SetO X.w L (fun _ => false) 0)) u3.heap.objs.size (cellsFrom (u3.heap.objs.size + 1) scope.names (cloFrom X.env.cells scope.names [])) fq
  have pe := he u3 (upd H2 L (SetO X.w L (fun _ => false) 0)) u3.heap.objs.size (cellsFrom (u3.heap.objs.size + 1) scope.names (cloFrom X.env.cells scope.names [])) fq
  have pcs := hcs u3 (upd H2 L (SetO X.w L (fun _ => false) 0)) u3.heap.objs.size (cellsFrom (u3.heap.objs.size + 1) scope.names (cloFrom X.env.cells scope.names [])) fq
  show codeAny _ _ (.compStart (.SetComp elt (⟨tg, iter, ifs, 0⟩ :: more) scope pos) 0 (.ref jt) (.ref L) (compEnvC scope (cellsFrom (u3.heap.objs.size + 1) scope.names (cloFrom X.env.cells scope.names [])) u3.heap.objs.size X.env)) (compPost (model X.prog X.w) X.A X.xe use Qf (.ref L) u3.heap.objs.size) { u3 with heap := pushCells (u3.heap.push { cls := .type "dict", data := .dict #[] }) scope.names }
  have nfq : ∀ b ∈ fq, (upd H2 L (SetO X.w L (fun _ => false) 0)) b = none := fun b hb => (f3 b hb).1.1
  generalize hce : compEnvC scope (cellsFrom (u3.heap.objs.size + 1) scope.names (cloFrom X.env.cells scope.names [])) u3.heap.objs.size X.env = ce at I4 pg pt pe pcs ⊢
  have cl : ce.locals = u3.heap.objs.size := by subst hce; rfl
  generalize hH3 : upd H2 L (SetO X.w L (fun _ => false) 0) = H3 at I3 I4 pg pt pe pcs w0 nfq f3
  generalize hu4 : ({ u3 with heap := pushCells (u3.heap.push { cls := .type "dict", data := .dict #[] }) scope.names } : Shared) = u4 at I4 ⊢
  have st4 : tn 0 u4.heap := T.keep _ _ _ st3 fun b _ o e => by rw [← hu4]; exact pushCells_keeps _ _ _ _ (Heap.get?_push_of_some _ e)
  have stat : ∀ {σ' : L2.St} {H' : Hp} {s' : Shared}, Inv (X.blk u3 H3 scope ce fq) [] σ' H' s' → (∀ b ∈ fq, H' b = none) → ∀ b ∈ fq, FpOk (X.blk u3 H3 scope ce fq) [] H' b := fun {σ' H' s'} I' hn b hb =>
    ⟨hn b hb, (I'.ok.exf b hb).1, I'.ok.exfs b hb, .inl hb, fun x c e => (I'.ok.exf b hb).2 x c e, fun p hp => absurd (show p ∈ ([] : List (Addr × Obj)) ++ [] from hp) (by simp)⟩
  have emit : ∀ (pins : List (Addr × Obj)) (s : Shared) (σ : L2.St) (H : Hp) (N : Hp → Prop), Inv (X.blk u3 H3 scope ce fq) pins σ H s → bdAdd X.w L te σ H N →
      wpAny (model X.prog X.w) X.A (eval elt ce) (fun x s4 => wpAny (model X.prog X.w) X.A (call (.builtin "set.add") [.ref L, x]) (fun _ s5 => ∃ H', Inv (X.blk u3 H3 scope ce fq) pins σ H' s5 ∧ N H') Nev s4) Nev s := fun pins s σ H N I q =>
    thnF (pe.run _ s σ H _ I q) fun z s1 ⟨yv, H1, I1, r1, c, S, n, ey, hD, hz, nx⟩ => by
      subst ey
      exact addI_ok (X := X.blk u3 H3 scope ce fq) I1 hD hz r1 fun s2 I2 => ⟨_, I2, nx⟩
  let Iv : Nat → Shared → Prop := fun n s' => ∃ i H', Inv (X.blk u3 H3 scope ce fq) [] (wipe σ (own.map (·.2))) H' s' ∧ tn i s'.heap ∧ (∀ b ∈ fq, H' b = none) ∧ W i n H'
  have init : Iv m0 u4 := ⟨0, H3, I4, st4, nfq, w0⟩
  have step : ∀ n s', Iv n s' → TurnOk (model X.prog X.w) X.A ce (.ref jt) tg ifs (compPost (model X.prog X.w) X.A X.xe use Qf (.ref L) u3.heap.objs.size (.ok .next)) (fun s' => ∃ m, m < n ∧ Iv m s') (BehOk (X.blk u3 H3 scope ce fq) elt (⟨tg, iter, ifs, 0⟩ :: more) scope pos (.ref L) (fun s' => ∃ m, m < n ∧ Iv m s') cs 1) s' := by
    rintro n s5 ⟨i, H5, I5, st5, n5, w5⟩
    unfold TurnOk
    rcases turn i n H5 w5 with ⟨stop, qq⟩ | ⟨go, Nx, hNx, stp⟩
    · refine thnF (T.done (X.blk u3 H3 scope ce fq) rfl rfl rfl hc i [] s5 _ H5 Nev I5 (stat I5 n5) st5 stop) fun r s6 ⟨hr, I6⟩ => ?_
      subst hr
      have I7 : Inv X pins σ H5 s6 := I3.call' (ch := fq) I6.os I6.base I6.hok I6.bare fun b hb => ⟨(f3 b hb).1.2.2.2.1, (f3 b hb).1.2.1, (f3 b hb).1.2.2.2.2.1, (f3 b hb).1.2.2.2.2.2⟩
      have nC : H5 u3.heap.objs.size = none := by
        have z : H5 ce.locals = none := I6.free
        rwa [cl] at z
      obtain ⟨m, hn, _⟩ := I6.loc
      have hn : s6.heap.Ns ce.locals m := hn
      rw [cl] at hn
      exact hRR L u3.heap.objs.size s6 m H5 I7 qq hn (I3.fpOk (Nat.le_refl _) nC)
    · refine thnF (T.item (X.blk u3 H3 scope ce fq) rfl rfl rfl hc i [] s5 _ H5 Nev I5 (stat I5 n5) st5 go) fun r s6 ⟨u, hr, h6⟩ => ?_
      subst hr
      refine thnF h6 fun _ s7 ⟨x, H7, I7, r7, y7, st7, n7⟩ => ?_
      have I7' := I7.pinned (stat I7 n7) (T.obj _ _ st7)
      refine thnF (pg.run _ s7 _ H7 x u _ I7' r7 (stp x H7 y7)) fun _ s8 ⟨σ8, H8, I8, hw8, q8⟩ => ?_
      refine thnF (pt.run _ s8 σ8 H8 _ I8 q8) fun b s9 ⟨H9, I9, q9⟩ => ?_
      have fin : ∀ σ' s' H', Inv (X.blk u3 H3 scope ce fq) ([] ++ pinsAt fq s7.heap) σ' H' s' → σ'.length = σ8.length → (∀ (j : Nat) v, j ∉ vsOf cs → σ8[j]? = some (some v) → σ'[j]? = some (some v)) → Nx H' → ∃ m, m < n ∧ Iv m s' := fun σ' s' H' I' hl hk nx => by
        obtain ⟨m', hm, w'⟩ := hNx H' nx
        have kept : ∀ b ∈ fq, ∀ o, s7.heap.get? b = some o → s'.heap.get? b = some o ∧ H' b = none := fun b hb o e =>
          have z := I'.pin (b, o) (List.mem_append_right _ (List.mem_append_right _ (mem_pinsAt hb e)))
          ⟨z.1, z.2.1⟩
        refine ⟨m', hm, i + 1, H', (I'.unpinned (pins := [])).weak (by rw [hl, ← hw8, wipe_length]) (fun j v e => ?_), T.keep _ _ _ st7 fun b hb o e => (kept b hb o e).1, fun b hb => ?_, w'⟩
        · rw [← hw8] at e
          obtain ⟨e1, e2⟩ := wipe_some e
          exact hk j v (fun z => e2 (hv j z)) e1
        · obtain ⟨o, e, _⟩ := T.obj _ _ st7 b hb
          exact (kept b hb o e).2
      cases b with
      | false =>
        simp only [Bool.false_eq_true, if_false] at q9 ⊢
        exact fin σ8 s9 H9 I9 rfl (fun _ _ _ e => e) q9
      | true =>
        simp only [if_true] at q9 ⊢
        exact beh_ok hc emit cs 1 _ s9 σ8 H9 Nx _ pcs I9 q9 fin
  have loop : codeAny (model X.prog X.w) X.A (.compLoop (.SetComp elt (⟨tg, iter, ifs, 0⟩ :: more) scope pos) 0 (.ref jt) (.ref L) ce) (compPost (model X.prog X.w) X.A X.xe use Qf (.ref L) u3.heap.objs.size) u4 := by
    cases cs with
    | nil => exact loop_last rfl pcs Iv step m0 u4 init
    | cons c' r => exact loop_mid rfl pcs.1.at' pcs.1.hs Iv step m0 u4 init
  exact start_any rfl loop (T.self X.A 0 _ _ _ st4 loop)
/-- as a value -/
theorem pe_scN {elt tg iter : Expr} {ifs : List Expr} {more : List Comprehension} {scope : Scope} {own : List (PySem.Str × Nat)} {pos : Pos} {wi : TI} {g : TG} {tt : TT} {cs : List Cl} {te : TE} (hc : X.calm = true) (hN : X.N.Nodup) (hi : PI X tg iter wi) (ok : BlkOk X.N X.env.scope scope own) (hv : ∀ n, n ∈ vsOf cs → n ∈ own.map (·.2))
    (hg : ∀ (s : Shared) (H : Hp) (C : Addr) (cl : List (PySem.Str × Addr)) (fp : List Addr), PG (X.blk s H scope (compEnvC scope cl C X.env) fp) tg g) (ht : ∀ (s : Shared) (H : Hp) (C : Addr) (cl : List (PySem.Str × Addr)) (fp : List Addr), PTs (X.blk s H scope (compEnvC scope cl C X.env) fp) ifs tt)
    (he : ∀ (s : Shared) (H : Hp) (C : Addr) (cl : List (PySem.Str × Addr)) (fp : List Addr), PE (X.blk s H scope (compEnvC scope cl C X.env) fp) elt te)
    (hcs : ∀ (s : Shared) (H : Hp) (C : Addr) (cl : List (PySem.Str × Addr)) (fp : List Addr), ClsOk (X.blk s H scope (compEnvC scope cl C X.env) fp) (⟨tg, iter, ifs, 0⟩ :: more) cs 1) (hs : ∀ x, foldedSetIterable iter X.env x = pure x := by intro _; rfl) :
    PE X (.SetComp elt (⟨tg, iter, ifs, 0⟩ :: more) scope pos) (tScN X.w wi g tt cs te (own.map (·.2))) := by
  refine ⟨fun pins s σ H Q I h => ?_⟩
  rw [PpSet.eval_SetComp]
  refine scN_core hc hN I hi ok hv hg ht he hcs hs h fun L C s' m H' I' q hn f => ⟨m, hn, fun h2 sb => ?_⟩
  obtain ⟨f0, f1, f2, f3, f4, f5⟩ := f
  exact ⟨.ref L, H', I'.turned (t' := s'.toks) (fun b o hb e => (sb.2 b hb).trans e) f0 f1 f3 f4 f5, rfl, q⟩
end
end PD

set_option maxHeartbeats 2000000
/-! PD34: sorted({x for .. for .. for ..}) of ints -/
namespace PD
open PySem PySem.Spec PyProof.Rows L2
theorem StepX.trans {D : Addr} {T : Addr → Prop} {G H G1 H1 G2 H2 : Hp} (a : StepX D T G H G1 H1) (b : StepX D T G1 H1 G2 H2) (tp : ∀ c, T c → Tp G2 H2 c) : StepX D T G H G2 H2 where
  g := a.g.trans b.g
  h := fun p o nt ne e => b.h p o nt ne (a.h p o nt ne e)
  fr := fun p ne e n => by
    by_cases t : T p
    · obtain ⟨_, _, _, _, _, _, _, ea, _⟩ := tp p t
      exact ea
    · refine b.fr p ne (a.fr p ne e n) fun z => ?_
      cases q : H p with
      | none => exact n q
      | some o =>
        rw [a.h p o t ne q] at z
        cases z
theorem flat_takeI {fs : PyData → List Int} {xs : List PyData} {i : Nat} {d : PyData} (e : xs[i]? = some d) : (xs.take (i + 1)).flatMap fs = (xs.take i).flatMap fs ++ fs d := by
  rw [List.take_add_one, e, List.flatMap_append]
  simp
theorem flat_leI {fs : PyData → List Int} {xs : List PyData} {i : Nat} {d : PyData} (e : xs[i]? = some d) : ((xs.take i).flatMap fs).length + (fs d).length ≤ (xs.flatMap fs).length := by
  have q : xs.flatMap fs = (xs.take (i + 1)).flatMap fs ++ (xs.drop (i + 1)).flatMap fs := by rw [← List.flatMap_append, List.take_append_drop]
  rw [q, flat_takeI e, List.length_append, List.length_append]
  omega
/-- what the clauses give, one item behind the other -/
def Flt (K : PySem.W.Frag) (te : TE) : List Cl → Rho → List Int → Prop
  | [], ρ, out => ∃ c : Int, out = [c] ∧ Pd K te ρ (.int c)
  | c :: cs, ρ, out => ∃ (xs : List PyData) (fs : PyData → List Int), Pitd K c.wi ρ xs ∧ out = xs.flatMap fs ∧ ∀ x, x ∈ xs → ∃ sl r', (∀ i, i ∈ sl → i ∈ c.vs) ∧ Pg K c.g sl x (wipeR ρ c.vs) r' ∧ Ptd K c.tt r' true ∧ Flt K te cs r' (fs x)
section
variable {K : PySem.W.Frag} {w : World} {T : Addr → Prop} {H0 Gb Hb : Hp} {D : Addr} {o : HO} {te : TE}
/-- the set as it stands -/
def Std (w : World) (T : Addr → Prop) (Gb Hb : Hp) (D : Addr) (seen : List Int) (G H : Hp) : Prop := ∃ (S : Int → Bool) (n : Nat), Step T Gb Hb G H ∧ H D = some (SetO w D S n) ∧ G D = none ∧ (∀ k, S k = true ↔ k ∈ seen) ∧ n ≤ seen.length
theorem cl_loop (hD : Hb D = none) (nt : ¬ T D) (c : Cl) (body : Bd)
    {ρ : Rho} {xs : List PyData} {fs : PyData → List Int} {J : It} {G4 Hc Gc : Hp} {σ : L2.St} {seen : List Int} {N : Hp → Prop} {H4 : Hp} (it : Itd K J G4 xs) (D4 : Den T K (upd H0 D o) G4 H4 σ ρ) (st : Std w T Gb Hb D seen Gc Hc) (x4 : StepX D T G4 H4 Gc Hc) (hz : seen.length + (xs.flatMap fs).length < 4000)
    (hb : ∀ x, x ∈ xs → ∃ sl r', (∀ i, i ∈ sl → i ∈ c.vs) ∧ Pg K c.g sl x (wipeR ρ c.vs) r' ∧ Ptd K c.tt r' true ∧
      ∀ σ G H seen (N : Hp → Prop), Den T K (upd H0 D o) G H σ r' → Std w T Gb Hb D seen G H → seen.length + (fs x).length < 4000 → (∀ G' H', Std w T Gb Hb D (seen ++ fs x) G' H' → StepX D T G H G' H' → N H') → body σ H N)
    (fin : ∀ G' H', Std w T Gb Hb D (seen ++ xs.flatMap fs) G' H' → StepX D T G4 H4 G' H' → N H') :
    ∃ W : Nat → Nat → Hp → Prop, (∃ m, W 0 m Hc) ∧ ∀ i m H, W i m H → (J.stop i H ∧ N H) ∨ (J.go i H ∧ ∃ Nx : Hp → Prop, (∀ H', Nx H' → ∃ m', m' < m ∧ W (i + 1) m' H') ∧
      ∀ x H', J.yld i H x H' → c.g x (wipe σ c.vs) H' fun σ2 H2 => wipe σ2 c.vs = wipe σ c.vs ∧ c.tt σ2 H2 fun b H3 => if b = true then body σ2 H3 Nx else Nx H3) := by
  have hD0 : (upd H0 D o) D ≠ none := by rw [upd_same]; intro z; cases z
  refine ⟨fun i m H => m = xs.length - i ∧ i ≤ xs.length ∧ ∃ G, Std w T Gb Hb D (seen ++ (xs.take i).flatMap fs) G H ∧ StepX D T G4 H4 G H, ⟨xs.length, by simp, Nat.zero_le _, Gc, by simpa using st, x4⟩, ?_⟩
  rintro i m H5 ⟨rfl, hil, G5, ⟨S, n, s5, a5, g5, hS, hn⟩, x5⟩
  have g45 : Same G4 H5 := x5.g.trans s5.gh
  by_cases hlt : i < xs.length
  · refine .inr ⟨it.go i H5 g45 hlt, fun H' => ∃ G', Std w T Gb Hb D (seen ++ (xs.take (i + 1)).flatMap fs) G' H' ∧ StepX D T G4 H4 G' H', fun H' p => ⟨xs.length - (i + 1), by omega, rfl, hlt, p⟩, fun z H6 y1 => ?_⟩
    obtain ⟨G6, e, ee, s6, dz⟩ := it.yld i T G5 H5 z H6 x5.g s5.gh s5.tp hlt y1
    obtain ⟨sl, r', hsl, hg, ht, hbd⟩ := hb e (List.mem_of_getElem? ee)
    have hD5 : H5 D ≠ none := by rw [a5]; intro z; cases z
    have Dw := ((D4.skip hD0 x5).wipe c.vs).mono s6
    refine hg T _ G6 H6 _ z s6.gh Dw dz _ fun σ3 D6 hl1 hf1 => ⟨wipe_twice hsl hl1 hf1, ?_⟩
    refine ht T _ G6 H6 σ3 s6.gh s6.tp D6 _ fun b G7 H7 pb s7 => ?_
    subst pb
    show (if true = true then body σ3 H7 _ else _)
    rw [if_pos rfl]
    have a7 : H7 D = some (SetO w D S n) := s7.h _ _ nt (s6.h _ _ nt a5)
    have g7 : G7 D = none := s7.fr _ (s6.fr _ g5 hD5) (s6.so hD5)
    have le := flat_leI (fs := fs) ee
    refine hbd σ3 G7 H7 (seen ++ (xs.take i).flatMap fs) _ (D6.mono s7) ⟨S, n, (s5.trans s6).trans s7, a7, g7, hS, hn⟩ (by rw [List.length_append]; omega) fun G' H' st' x' => ⟨G', ?_, ?_⟩
    · rw [flat_takeI ee, ← List.append_assoc]
      exact st'
    · obtain ⟨_, _, s', _⟩ := st'
      exact ((x5.step s6).step s7).trans x' s'.tp
  · have e1 : i = xs.length := by omega
    subst e1
    rw [List.take_of_length_le (Nat.le_refl _)] at hS hn
    exact .inl ⟨it.stop _ H5 g45 (Nat.le_refl _), fin G5 H5 ⟨S, n, s5, a5, g5, hS, hn⟩ x5⟩
theorem tcl_ok (hD : Hb D = none) (nt : ¬ T D) : ∀ (cs : List Cl) (ρ : Rho) (out : List Int), Flt K te cs ρ out → ∀ σ G H seen (N : Hp → Prop), Den T K (upd H0 D o) G H σ ρ → Std w T Gb Hb D seen G H → seen.length + out.length < 4000 →
    (∀ G' H', Std w T Gb Hb D (seen ++ out) G' H' → StepX D T G H G' H' → N H') → tCls (bdAdd w D te) cs σ H N
  | [], ρ, out, ⟨c, e, hp⟩, σ, G, H, seen, N, Dn, ⟨S, n, s, a, g, hS, hn⟩, hz, hN => by
    subst e
    refine hp.bind s.gh s.tp Dn fun d v G8 H8 p8 s8 gh8 tp8 D8 x8 => ?_
    subst p8
    cases x8
    have hDn : H D ≠ none := by rw [a]; intro z; cases z
    have a8 : H8 D = some (SetO w D S n) := s8.h _ _ nt a
    have g8 : G8 D = none := s8.fr _ g hDn
    have s18 := s.trans s8
    rw [List.length_singleton] at hz
    refine ⟨c, S, n, rfl, a8, by show n + 1 < (4096 : Nat); omega, hN G8 _ ⟨_, _, ?_, upd_same, g8, fun k => ?_, ?_⟩ (StepX.refl.step s8).upd⟩
    · refine ⟨s18.g, fun b u e => ?_, fun p u np ep => ?_, s18.fr, fun b t => ?_⟩
      · rw [upd_ne (ne_of_none e g8)]
        exact gh8 _ _ e
      · rw [upd_ne (ne_of_none ep hD)]
        exact s18.h p u np ep
      · have z := tp8 b t
        obtain ⟨b', ns, x, y, m, e, eb, ea, r⟩ := id z
        exact z.mono (Same.refl _) (upd_ne (fun w => nt (w ▸ t))) ea
    · rw [Bool.or_eq_true, hS k, decide_eq_true_iff, List.mem_append, List.mem_singleton]
    · rw [List.length_append, List.length_singleton]
      split <;> omega
  | c :: cs, ρ, out, ⟨xs, fs, hi, e, hb⟩, σ, G, H, seen, N, Dn, st, hz, hN => by
    subst e
    obtain ⟨S, n, s, a, g, hS, hn⟩ := id st
    have hDn : H D ≠ none := by rw [a]; intro z; cases z
    refine hi T _ G H σ s.gh s.tp Dn _ fun ys J G4 H4 hys s4 it => ?_
    subst hys
    refine cl_loop hD nt c _ it (Dn.mono s4) (Gc := G4) ⟨S, n, s.trans s4, s4.h _ _ nt a, s4.fr _ g hDn, hS, hn⟩ .refl hz (fun x hx => ?_) fun G' H' st' x' => hN G' H' st' ?_
    · obtain ⟨sl, r', h1, h2, h3, h4⟩ := hb x hx
      exact ⟨sl, r', h1, h2, h3, tcl_ok hD nt cs r' (fs x) h4⟩
    · obtain ⟨_, _, s', _⟩ := st'
      exact (StepX.refl.step s4).trans x' s'.tp
end
theorem pe_sc1 {X : Cx} {elt tg iter : Expr} {ifs : List Expr} {scope : Scope} {own : List (PySem.Str × Nat)} {pos : Pos} {wi : TI} {g : TG} {tt : TT} {te : TE}  (hc : X.calm = true) (hN : X.N.Nodup) (hi : PI X tg iter wi) (ok : BlkOk X.N X.env.scope scope own) 
    (hg : ∀ (s : Shared) (H : Hp) (C : Addr) (cl : List (PySem.Str × Addr)) (fp : List Addr), PG (X.blk s H scope (compEnvC scope cl C X.env) fp) tg g) (ht : ∀ (s : Shared) (H : Hp) (C : Addr) (cl : List (PySem.Str × Addr)) (fp : List Addr), PTs (X.blk s H scope (compEnvC scope cl C X.env) fp) ifs tt) (he : ∀ (s : Shared) (H : Hp) (C : Addr) (cl : List (PySem.Str × Addr)) (fp : List Addr), PE (X.blk s H scope (compEnvC scope cl C X.env) fp) elt te) 
     (hs : ∀ x, foldedSetIterable iter X.env x = pure x := by intro _; rfl)  :
    PE X (.SetComp elt (⟨tg, iter, ifs, 0⟩ :: []) scope pos) (tScN X.w wi g tt [] te (own.map (·.2))) :=
  pe_scN hc hN hi ok (fun _ h => nomatch h) hg ht he (fun s H C cl fp => rfl) hs
theorem pe_sc2 {X : Cx} {elt tg iter : Expr} {ifs : List Expr} {scope : Scope} {own : List (PySem.Str × Nat)} {pos : Pos} {wi : TI} {g : TG} {tt : TT} {te : TE} {tg1 iter1 : Expr} {ifs1 : List Expr} {wi1 : TI} {g1 : TG} {tt1 : TT} {vs1 : List Nat} (hc : X.calm = true) (hN : X.N.Nodup) (hi : PI X tg iter wi) (ok : BlkOk X.N X.env.scope scope own) (hv : ∀ n, n ∈ vs1 → n ∈ own.map (·.2))
    (hg : ∀ (s : Shared) (H : Hp) (C : Addr) (cl : List (PySem.Str × Addr)) (fp : List Addr), PG (X.blk s H scope (compEnvC scope cl C X.env) fp) tg g) (ht : ∀ (s : Shared) (H : Hp) (C : Addr) (cl : List (PySem.Str × Addr)) (fp : List Addr), PTs (X.blk s H scope (compEnvC scope cl C X.env) fp) ifs tt) (he : ∀ (s : Shared) (H : Hp) (C : Addr) (cl : List (PySem.Str × Addr)) (fp : List Addr), PE (X.blk s H scope (compEnvC scope cl C X.env) fp) elt te) (hi1 : ∀ (s : Shared) (H : Hp) (C : Addr) (cl : List (PySem.Str × Addr)) (fp : List Addr), PI (X.blk s H scope (compEnvC scope cl C X.env) fp) tg1 iter1 wi1) (hg1 : ∀ (s : Shared) (H : Hp) (C : Addr) (cl : List (PySem.Str × Addr)) (fp : List Addr), PG (X.blk s H scope (compEnvC scope cl C X.env) fp) tg1 g1) (ht1 : ∀ (s : Shared) (H : Hp) (C : Addr) (cl : List (PySem.Str × Addr)) (fp : List Addr), PTs (X.blk s H scope (compEnvC scope cl C X.env) fp) ifs1 tt1)
     (hs : ∀ x, foldedSetIterable iter X.env x = pure x := by intro _; rfl) (hs1 : ∀ env x, foldedSetIterable iter1 env x = pure x := by intro _ _; rfl) :
    PE X (.SetComp elt (⟨tg, iter, ifs, 0⟩ :: [⟨tg1, iter1, ifs1, 0⟩]) scope pos) (tScN X.w wi g tt [⟨tg1, iter1, ifs1, wi1, g1, tt1, vs1⟩] te (own.map (·.2))) :=
  pe_scN hc hN hi ok hv hg ht he (fun s H C cl fp => ⟨⟨rfl, hi1 s H C cl fp, hg1 s H C cl fp, ht1 s H C cl fp, hs1 _⟩, (fun _ h => nomatch h), rfl⟩) hs
theorem pe_sc3 {X : Cx} {elt tg iter : Expr} {ifs : List Expr} {scope : Scope} {own : List (PySem.Str × Nat)} {pos : Pos} {wi : TI} {g : TG} {tt : TT} {te : TE} {tg1 iter1 : Expr} {ifs1 : List Expr} {wi1 : TI} {g1 : TG} {tt1 : TT} {vs1 : List Nat} {tg2 iter2 : Expr} {ifs2 : List Expr} {wi2 : TI} {g2 : TG} {tt2 : TT} {vs2 : List Nat} (hc : X.calm = true) (hN : X.N.Nodup) (hi : PI X tg iter wi) (ok : BlkOk X.N X.env.scope scope own) (hv : ∀ n, n ∈ vs1 → n ∈ own.map (·.2))
    (hg : ∀ (s : Shared) (H : Hp) (C : Addr) (cl : List (PySem.Str × Addr)) (fp : List Addr), PG (X.blk s H scope (compEnvC scope cl C X.env) fp) tg g) (ht : ∀ (s : Shared) (H : Hp) (C : Addr) (cl : List (PySem.Str × Addr)) (fp : List Addr), PTs (X.blk s H scope (compEnvC scope cl C X.env) fp) ifs tt) (he : ∀ (s : Shared) (H : Hp) (C : Addr) (cl : List (PySem.Str × Addr)) (fp : List Addr), PE (X.blk s H scope (compEnvC scope cl C X.env) fp) elt te) (hi1 : ∀ (s : Shared) (H : Hp) (C : Addr) (cl : List (PySem.Str × Addr)) (fp : List Addr), PI (X.blk s H scope (compEnvC scope cl C X.env) fp) tg1 iter1 wi1) (hg1 : ∀ (s : Shared) (H : Hp) (C : Addr) (cl : List (PySem.Str × Addr)) (fp : List Addr), PG (X.blk s H scope (compEnvC scope cl C X.env) fp) tg1 g1) (ht1 : ∀ (s : Shared) (H : Hp) (C : Addr) (cl : List (PySem.Str × Addr)) (fp : List Addr), PTs (X.blk s H scope (compEnvC scope cl C X.env) fp) ifs1 tt1) (hi2 : ∀ (s : Shared) (H : Hp) (C : Addr) (cl : List (PySem.Str × Addr)) (fp : List Addr), PI (X.blk s H scope (compEnvC scope cl C X.env) fp) tg2 iter2 wi2) (hg2 : ∀ (s : Shared) (H : Hp) (C : Addr) (cl : List (PySem.Str × Addr)) (fp : List Addr), PG (X.blk s H scope (compEnvC scope cl C X.env) fp) tg2 g2) (ht2 : ∀ (s : Shared) (H : Hp) (C : Addr) (cl : List (PySem.Str × Addr)) (fp : List Addr), PTs (X.blk s H scope (compEnvC scope cl C X.env) fp) ifs2 tt2)
    (sub1 : ∀ n, n ∈ vs2 → n ∈ vs1 := by decide) (hs : ∀ x, foldedSetIterable iter X.env x = pure x := by intro _; rfl) (hs1 : ∀ env x, foldedSetIterable iter1 env x = pure x := by intro _ _; rfl) (hs2 : ∀ env x, foldedSetIterable iter2 env x = pure x := by intro _ _; rfl) :
    PE X (.SetComp elt (⟨tg, iter, ifs, 0⟩ :: [⟨tg1, iter1, ifs1, 0⟩, ⟨tg2, iter2, ifs2, 0⟩]) scope pos) (tScN X.w wi g tt [⟨tg1, iter1, ifs1, wi1, g1, tt1, vs1⟩, ⟨tg2, iter2, ifs2, wi2, g2, tt2, vs2⟩] te (own.map (·.2))) :=
  pe_scN hc hN hi ok hv hg ht he (fun s H C cl fp => ⟨⟨rfl, hi1 s H C cl fp, hg1 s H C cl fp, ht1 s H C cl fp, hs1 _⟩, sub1, ⟨⟨rfl, hi2 s H C cl fp, hg2 s H C cl fp, ht2 s H C cl fp, hs2 _⟩, (fun _ h => nomatch h), rfl⟩⟩) hs
theorem pi_seqK {X : Cx} {K : PySem.W.Frag} {tg e : Expr} {te : TE} (hK : X.K = K) (h : PE X e te) : PI X tg e (iSeq K te) := hK ▸ pi_seq h
/-- sorted({..}) -/
theorem nl_sortedScN {K : PySem.W.Frag} {w : World} {ρ : Rho} {wi : TI} {g : TG} {tt : TT} {t i : Expr} {ifs : List Expr} {cs : List Cl} {te : TE} {vs : List Nat} {out : List Int} (h : Flt K te (⟨t, i, ifs, wi, g, tt, vs⟩ :: cs) ρ out) (hl : out.length < 64) :
    Nl K (tCB (rSortedSet w) (tCons (tScN w wi g tt cs te vs) tNil)) ρ (fun ys => ∃ ns : List Int, ys = ns.map .int ∧ ns.Pairwise (· < ·) ∧ ∀ k, k ∈ ns ↔ k ∈ out) := fun T H0 G H σ gh tp D Q q => by
  obtain ⟨xs, fs, hi, e, hb⟩ := h
  subst e
  refine hi T H0 G H σ gh tp D _ fun ys J G1 H1 hys s1 it L hL => ?_
  subst hys
  have nt : ¬ T L := tape_some s1.tp hL
  have sN := Step.newM (o := SetO w L (fun _ => false) 0) s1.gh s1.tp hL
  have x1 : StepX L T G1 H1 G1 (upd H1 L (SetO w L (fun _ => false) 0)) := (StepX.refl (D := L) (T := T) (G := G1) (H := H1)).upd
  refine cl_loop (fs := fs) (H0 := H0) (o := .lst []) (Gb := G1) (Hb := H1) hL nt ⟨t, i, ifs, wi, g, tt, vs⟩ _ it ((D.mono s1).taken (o := .lst []) hL) (Gc := G1) (seen := []) ⟨_, 0, sN, upd_same, s1.gh.free hL, fun k => by simp, Nat.le_refl _⟩ x1 (by rw [List.length_nil]; omega) (fun x hx => ?_) fun G' H' ⟨S, n, s', a', g', hS, hn⟩ _ => ?_
  · obtain ⟨sl, r', h1, h2, h3, h4⟩ := hb x hx
    exact ⟨sl, r', h1, h2, h3, tcl_ok hL nt cs r' (fs x) h4⟩
  · rw [List.nil_append] at hS hn
    refine ⟨L, S, n, rfl, a', by omega, fun ns p2 hs hm hlen hn2 => ?_⟩
    have nt2 := tape_some s'.tp hn2
    exact q (ns.map .int) p2 (ns.map V.int) G' _ ⟨ns, rfl, hs, fun k => (hm k).trans (hS k)⟩ ((s1.trans s').trans (Step.newM s'.gh s'.tp hn2)) ((s1.trans s').no hn2 nt2) nt2 (s'.gh.free hn2) upd_same (DnAll.of_ints ns)
end PD

set_option maxHeartbeats 2000000
/-! PD35: dicts as data (they change no more), lent to an expression, kept from a statement on -/
namespace PD
open PySem PySem.Spec PyProof.Rows L2
/-- a dict's data -/
def dD (es : List (Key × PyData)) : PyData := .dict (es.map fun q => (kD q.1, q.2))
theorem kD_inj {a b : Key} (h : kD a = kD b) : a = b := by
  cases a <;> cases b <;> cases h <;> rfl
section
variable {K : PySem.W.Frag} {G G' : Hp}
theorem DkAll.dn {kvs : List (Key × V)} {es : List (Key × PyData)} (h : DkAll K G kvs es) : DnAll K G (kvs.map (·.2)) (es.map (·.2)) ∧ (es.map fun q => (kD q.1, q.2)) = (kvs.map fun q => kD q.1).zip (es.map (·.2)) := by
  induction h with
  | nil => exact ⟨.nil, rfl⟩
  | cons r t ih =>
    refine ⟨.cons r.2 ih.1, ?_⟩
    show _ :: _ = _ :: _
    dsimp only
    rw [ih.2, r.1]
    rfl
theorem dct_of {a : Addr} {o : Obj} {kvs : List (Key × V)} {es : List (Key × PyData)} (h : G a = some (.frz o (.dK kvs))) (al : DkAll K G kvs es) : Dn K G (.ref a) (dD es) := .dct h al.dn.1 al.dn.2
theorem DkAll.of_dn : ∀ {kvs : List (Key × V)} {ds : List PyData} {es : List (Key × PyData)}, DnAll K G (kvs.map (·.2)) ds → (es.map fun q => (kD q.1, q.2)) = (kvs.map fun q => kD q.1).zip ds → DkAll K G kvs es
  | [], _, es, .nil, e => by
    cases es with
    | nil => exact .nil
    | cons a b => cases e
  | p :: ps, _, es, .cons r t, e => by
    cases es with
    | nil => cases e
    | cons q qs =>
      have e : (kD q.1, q.2) :: _ = (kD p.1, _) :: _ := e
      have h1 := (List.cons.inj e).1
      have h2 := (List.cons.inj e).2
      have k1 := congrArg (fun z : PyData × PyData => z.1) h1
      have k2 := congrArg (fun z : PyData × PyData => z.2) h1
      dsimp only at k1 k2
      exact .cons ⟨(kD_inj k1).symm, k2 ▸ r⟩ (DkAll.of_dn t h2)
theorem dct_inv {v : V} {es : List (Key × PyData)} (h : Dn K G v (dD es)) : ∃ a o kvs, v = .ref a ∧ G a = some (.frz o (.dK kvs)) ∧ DkAll K G kvs es := by
  unfold dD at h
  cases h with
  | @dct a o kvs ds _ e al z => exact ⟨a, o, kvs, rfl, e, .of_dn al z⟩
mutual
/-- data that has no dict knows nothing of the one at l -/
theorem Dn.drop {l : Addr} {o : Obj} {kvs : List (Key × V)} (hl : G l = some (.frz o (.dK kvs))) (g : ∀ a, a ≠ l → G' a = G a) : ∀ {v : V} {d : PyData}, Dn K G v d → d.hasDict = false → Dn K G' v d
  | _, _, .non, _ => .non
  | _, _, .bl b, _ => .bl b
  | _, _, .int i, _ => .int i
  | _, _, .str x, _ => .str x
  | _, _, .lst (a := a) h al, z => .lst (by rw [g a (fun q => by rw [q, hl] at h; cases h)]; exact h) (DnAll.drop' hl g al (by simpa only [PyData.hasDict] using z))
  | _, _, .tup (a := a) (xs := xs) (p := p) h al, z => by
    have up : ∀ {u : HO}, G a = some u → (∀ o' kvs', u ≠ .frz o' (.dK kvs')) → G' a = some u := fun {u} e n => by
      rw [g a (fun q => by rw [q, hl] at e; cases e; exact n _ _ rfl)]
      exact e
    have h' : SqT K G' a xs := by
      rcases h with (h | ⟨o', h⟩) | h
      · exact .inl (.inl (up h (fun _ _ q => by cases q)))
      · exact .inl (.inr ⟨o', up h (fun _ _ q => by cases q)⟩)
      · exact .inr h
    have p' : PlT K G' a := by
      rcases p with ⟨o', u, e, dn⟩ | p
      · exact .inl ⟨o', u, up e (fun _ _ q => by cases q), dn⟩
      · exact .inr p
    exact .tup (p := p') h' (DnAll.drop' hl g al (by simpa only [PyData.hasDict] using z))
  | _, _, .dct h al q, z => by simp [PyData.hasDict] at z
theorem DnAll.drop' {l : Addr} {o : Obj} {kvs : List (Key × V)} (hl : G l = some (.frz o (.dK kvs))) (g : ∀ a, a ≠ l → G' a = G a) : ∀ {vs : List V} {ds : List PyData}, DnAll K G vs ds → PyData.hasDictAll ds = false → DnAll K G' vs ds
  | _, _, .nil, _ => .nil
  | _, _, .cons h t, z => .cons (Dn.drop hl g h (by simp only [PyData.hasDictAll, Bool.or_eq_false_iff] at z; exact z.1)) (DnAll.drop' hl g t (by simp only [PyData.hasDictAll, Bool.or_eq_false_iff] at z; exact z.2))
end
end
/-! ### lent, kept -/
section
variable {T : Addr → Prop} {K : PySem.W.Frag} {H0 G H G' H' : Hp} {σ : L2.St} {ρ : Rho} {P : PyData → Prop}
theorem tp_more {l : Addr} {u : HO} (tp : ∀ a, T a → Tp G H a) (nt : ¬ T l) (gl : G l = none) (hl : H l ≠ none) : ∀ a, T a → Tp (upd G l u) (upd H l u) a := fun a t => by
  obtain ⟨b, ns, x, y, m, e, eb, ea, r⟩ := tp a t
  have n1 : a ≠ l := fun q => nt (q ▸ t)
  have n2 : b ≠ l := fun q => by rw [q, gl] at eb; cases eb
  exact ⟨b, ns, x, y, m, by rw [upd_ne n1]; exact e, by rw [upd_ne n2]; exact eb, by rw [upd_ne n1]; exact ea, r⟩
/-- the slot's dict becomes data -/
theorem Den.lend (D : Den T K H0 G H σ ρ) (gh : Same G H) {i : Nat} {l : Addr} {es : List (Key × PyData)} (e : ρ[i]? = some (.mx (dkM l es))) :
    ∃ kvs, H l = some (.dK kvs) ∧ G l = none ∧ ¬ T l ∧ H0 l = none ∧ DkAll K G kvs es ∧ σ[i]? = some (some (.ref l)) ∧ ∀ od, Same (upd G l (.frz od (.dK kvs))) (upd H l (.frz od (.dK kvs))) ∧ Den T K H0 (upd G l (.frz od (.dK kvs))) (upd H l (.frz od (.dK kvs))) σ (ρ.set i (.d (dD es))) := by
  obtain ⟨o, e1, ⟨rfl, kvs, hl, al⟩, ow⟩ := D.at e
  obtain ⟨w1, w2, w3, w4⟩ := ow l List.mem_cons_self
  refine ⟨kvs, hl, w2, w4, w3, al, e1, fun od => ?_⟩
  have up : Same G (upd G l (.frz od (.dK kvs))) := fun a u q => by rw [upd_ne (ne_of_none q w2)]; exact q
  refine ⟨fun a u q => ?_, by rw [List.length_set]; exact D.len, fun j x p q1 q2 => ?_, fun j k x y p q a hjk q1 q2 q3 q4 f1 f2 => ?_⟩
  · by_cases z : a = l
    · rw [z, upd_same] at q ⊢
      exact q
    · rw [upd_ne z] at q ⊢
      exact gh _ _ q
  · by_cases z : i = j
    · subst z
      rw [List.getElem?_set_self (List.getElem?_eq_some_iff.mp e).1] at q1
      cases q1
      rw [e1] at q2
      cases q2
      exact ⟨_, rfl, dct_of upd_same (al.mono up)⟩
    · rw [List.getElem?_set_ne z] at q1
      have w := D.ok j x p q1 q2
      have far : ∀ a, x.fp p a → a ≠ l := fun a f q => D.one i j _ _ _ _ l z e q1 e1 q2 (show (Sl.mx (dkM l es)).fp _ l from List.mem_cons_self) (q ▸ f)
      cases x with
      | no => trivial
      | d y => exact let ⟨v, ev, d⟩ := w; ⟨v, ev, d.mono up⟩
      | ml ys =>
        obtain ⟨a, us, rfl, ha, am, ga, h0, nt⟩ := w
        have n := far a rfl
        exact ⟨a, us, rfl, by rw [upd_ne n]; exact ha, am.mono up, by rw [upd_ne n]; exact ga, h0, nt⟩
      | tp => exact w
      | rf a => exact w
      | rg lo hi => exact let ⟨a, ea, g⟩ := w; ⟨a, ea, up _ _ g⟩
      | mx m =>
        exact ⟨m.frame up (fun a ha => upd_ne (far a ha)) w.1, fun a ha => by
          have n := far a ha
          obtain ⟨b1, b2, b3, b4⟩ := w.2 a ha
          exact ⟨by rw [upd_ne n]; exact b1, by rw [upd_ne n]; exact b2, b3, b4⟩⟩
  · have go : ∀ {n : Nat} {x : Sl} {p : Option V}, (ρ.set i (.d (dD es)))[n]? = some x → σ[n]? = some p → x.fp p a → ρ[n]? = some x := fun {n x p} h1 h2 f => by
      by_cases z : i = n
      · subst z
        rw [List.getElem?_set_self (List.getElem?_eq_some_iff.mp e).1] at h1
        cases h1
        exact f.elim
      · rw [List.getElem?_set_ne z] at h1
        exact h1
    exact D.one j k x y p q a hjk (go q1 q3 f1) (go q2 q4 f2) q3 q4 f1 f2
/-- back from it -/
theorem lend_back {l : Addr} {od : Obj} {kvs : List (Key × V)} (gl : G l = none) (hl : H l = some (.dK kvs)) (nt : ¬ T l) (s : Step T (upd G l (.frz od (.dK kvs))) (upd H l (.frz od (.dK kvs))) G' H') :
    H' l = some (.frz od (.dK kvs)) ∧ G' l = some (.frz od (.dK kvs)) ∧ Step T G H (fun a => if a = l then none else G' a) (upd H' l (.dK kvs)) := by
  have h1 : H' l = some (.frz od (.dK kvs)) := s.h l _ nt upd_same
  have g1 : G' l = some (.frz od (.dK kvs)) := s.g l _ upd_same
  refine ⟨h1, g1, fun a u e => ?_, fun a u e => ?_, fun p o np e => ?_, fun p e n => ?_, fun a t => ?_⟩
  · have n := ne_of_none e gl
    show (if a = l then none else G' a) = _
    rw [if_neg n]
    exact s.g a u (by rw [upd_ne n]; exact e)
  · by_cases n : a = l
    · have e : (if a = l then none else G' a) = some u := e
      rw [if_pos n] at e
      cases e
    · have e : (if a = l then none else G' a) = some u := e
      rw [if_neg n] at e
      rw [upd_ne n]
      exact s.gh a u e
  · by_cases n : p = l
    · rw [n, hl] at e
      rw [n, upd_same]
      exact e
    · rw [upd_ne n]
      exact s.h p o np (by rw [upd_ne n]; exact e)
  · show (if p = l then none else G' p) = none
    split
    · rfl
    · rename_i z
      exact s.fr p (by rw [upd_ne z]; exact e) (by rw [upd_ne z]; exact n)
  · obtain ⟨b, ns, x, y, m, e, eb, ea, r⟩ := s.tp a t
    have n1 : a ≠ l := fun q => nt (q ▸ t)
    have n2 : b ≠ l := fun q => by rw [q, g1] at eb; cases eb
    refine ⟨b, ns, x, y, m, by rw [upd_ne n1]; exact e, ?_, ?_, r⟩
    · show (if b = l then none else G' b) = _
      rw [if_neg n2]
      exact eb
    · show (if a = l then none else G' a) = _
      rw [if_neg n1]
      exact ea
/-- a dict that changes is lent to an expression, as data -/
theorem ye_lend {te : TE} {i : Nat} {l : Addr} {es : List (Key × PyData)} (e : ρ[i]? = some (.mx (dkM l es))) (h : Pe K te (ρ.set i (.d (dD es))) P) (nd : ∀ d, P d → d.hasDict = false) : Pe K (tLockE te) ρ P := fun T H0 G H σ gh tp D Q q => by
  obtain ⟨kvs, hl, gl, nt, _, al, _, dn⟩ := D.lend gh e
  refine ⟨l, _, hl, True.intro, fun od => ?_⟩
  obtain ⟨gh', D'⟩ := dn od
  refine h T H0 _ _ σ gh' (tp_more tp nt gl (by rw [hl]; intro z; cases z)) D' _ fun d v G1 H1 p s x => ?_
  obtain ⟨h1, g1, s1⟩ := lend_back gl hl nt s
  exact ⟨h1, q d v _ _ p s1 (x.drop g1 (fun a n => if_neg n) (nd d p))⟩
theorem nl_lend {te : TE} {PL : List PyData → Prop} {i : Nat} {l : Addr} {es : List (Key × PyData)} (e : ρ[i]? = some (.mx (dkM l es))) (h : Nl K te (ρ.set i (.d (dD es))) PL) (nd : ∀ d, PL d → PyData.hasDictAll d = false) : Nl K (tLockE te) ρ PL := fun T H0 G H σ gh tp D Q q => by
  obtain ⟨kvs, hl, gl, nt, _, al, _, dn⟩ := D.lend gh e
  refine ⟨l, _, hl, True.intro, fun od => ?_⟩
  obtain ⟨gh', D'⟩ := dn od
  refine h T H0 _ _ σ gh' (tp_more tp nt gl (by rw [hl]; intro z; cases z)) D' _ fun d p vs G1 H1 px s hp np gp hq x => ?_
  obtain ⟨h1, g1, s1⟩ := lend_back gl hl nt s
  have pl : p ≠ l := fun z => by rw [z, upd_same] at hp; cases hp
  rw [upd_ne pl] at hp
  refine ⟨h1, q d p vs _ _ px s1 hp np ?_ (by rw [upd_ne pl]; exact hq) (DnAll.drop' g1 (fun a n => if_neg n) x (nd d px))⟩
  show (if p = l then none else G1 p) = none
  rw [if_neg pl]
  exact gp
theorem pt_lend {te : TE} {Pb : Bool → Prop} (h : Pe K te ρ fun d => ∃ b, d = .bool b ∧ Pb b) : Pe K te ρ fun d => ∃ b, d = .bool b ∧ Pb b := h
/-! from a statement on the dict changes no more -/
def tKeepS (t : TS) : TS := fun D σ H => ∃ d u, H d = some u ∧ Mut (some u) ∧ ∀ od, t D σ (upd H d (.frz od u))
theorem ps_keep {X : Cx} {st : Stmt} {t : TS} (h : PS X st t) : PS X st (tKeepS t) := by
  refine ⟨fun pins s σ H D I q => ?_⟩
  obtain ⟨d, u, hd, mu, q⟩ := q
  obtain ⟨od, I1⟩ := I.lock hd mu
  exact h.run pins s σ _ D I1 (q od)
theorem At.keep {G0 : Hp} (a : At T K G0 H0 ρ σ H) {i : Nat} {l : Addr} {es : List (Key × PyData)} (e : ρ[i]? = some (.mx (dkM l es))) : ∃ u, H l = some u ∧ Mut (some u) ∧ ∀ od, At T K G0 H0 (ρ.set i (.d (dD es))) σ (upd H l (.frz od u)) := by
  obtain ⟨G, s, D⟩ := a
  obtain ⟨kvs, hl, gl, nt, h0, al, _, dn⟩ := D.lend s.gh e
  refine ⟨_, hl, True.intro, fun od => ?_⟩
  obtain ⟨gh', D'⟩ := dn od
  refine ⟨_, ⟨fun a u q => ?_, gh', fun p o np q => ?_, fun p q n => ?_, tp_more s.tp nt gl (by rw [hl]; intro z; cases z)⟩, D'⟩
  · have := s.g a u q
    rw [upd_ne (ne_of_none this gl)]
    exact this
  · rw [upd_ne (ne_of_none q h0)]
    exact s.h p o np q
  · rw [upd_ne (fun z => n (by rw [z]; exact h0))]
    exact s.fr p q n
theorem Ws.keep {t : TS} {E : Ed} {i : Nat} {l : Addr} {es : List (Key × PyData)} (e : ρ[i]? = some (.mx (dkM l es))) (h : Ws K t (ρ.set i (.d (dD es))) E) : Ws K (tKeepS t) ρ E := fun T G0 H0 σ H D a ed => by
  obtain ⟨u, hl, mu, k⟩ := a.keep e
  exact ⟨l, u, hl, mu, fun od => h T G0 H0 σ _ D (k od) ed⟩
/-! reads of data -/
theorem kd_get {v : V} {es : List (Key × PyData)} (x : Dn K G v (dD es)) (g : Same G H) (k : Key) : ∃ a, v = .ref a ∧ ((valD es k = none ∧ DGet H a (kV k) none) ∨ ∃ u d, valD es k = some d ∧ Dn K G u d ∧ DGet H a (kV k) (some u)) := by
  obtain ⟨a, o, kvs, rfl, ha, al⟩ := dct_inv x
  refine ⟨a, rfl, ?_⟩
  have gg : ∀ r, valV kvs k = r → DGet H a (kV k) r := fun r e => e ▸ .inl ⟨kvs, k, .inr ⟨o, g _ _ ha⟩, rfl, rfl⟩
  rcases al.val k with ⟨v1, v2⟩ | ⟨u, d, v1, v2, y⟩
  · exact .inl ⟨v2, gg _ v1⟩
  · exact .inr ⟨u, d, v2, y, gg _ v1⟩
variable {td ty tx : TE}
theorem yd_kget {es : List (Key × PyData)} {k : Key} {x : PyData} (h : Pd K td ρ (dD es)) (hk : Pd K ty ρ (kD k)) (hx : valD es k = some x) : Pd K (tDGet td ty) ρ x := fun T H0 G H σ gh tp D Q q =>
  h.bind gh tp D fun d v G1 H1 p1 s1 gh1 tp1 D1 x1 => hk.bind gh1 tp1 D1 fun y w G2 H2 p2 s2 gh2 tp2 D2 x2 => by
    subst p1 p2
    have ew := dn_key x2
    subst ew
    obtain ⟨a, rfl, ⟨z, _⟩ | ⟨u, d, z, y, g⟩⟩ := kd_get (x1.mono s2.g) gh2 k
    · rw [hx] at z; cases z
    · rw [hx] at z
      cases z
      exact ⟨a, u, rfl, g, q _ _ G2 H2 rfl (s1.trans s2) y⟩
theorem yd_kin {es : List (Key × PyData)} {k : Key} (h : Pd K td ρ (dD es)) (hk : Pd K ty ρ (kD k)) : Pd K (tDIn ty td) ρ (.bool (valD es k).isSome) := fun T H0 G H σ gh tp D Q q =>
  hk.bind gh tp D fun y w G1 H1 p1 s1 gh1 tp1 D1 x1 => h.bind gh1 tp1 D1 fun d v G2 H2 p2 s2 gh2 tp2 D2 x2 => by
    subst p1 p2
    have ew := dn_key x1
    subst ew
    obtain ⟨a, rfl, ⟨z, g⟩ | ⟨u, d, z, y, g⟩⟩ := kd_get x2 gh2 k
    · exact ⟨a, _, rfl, g, q _ _ G2 H2 (by rw [z]; rfl) (s1.trans s2) (.bl _)⟩
    · exact ⟨a, _, rfl, g, q _ _ G2 H2 (by rw [z]; rfl) (s1.trans s2) (.bl _)⟩
theorem yd_knin {es : List (Key × PyData)} {k : Key} (h : Pd K td ρ (dD es)) (hk : Pd K ty ρ (kD k)) : Pd K (tDNotIn ty td) ρ (.bool (!(valD es k).isSome)) := fun T H0 G H σ gh tp D Q q =>
  hk.bind gh tp D fun y w G1 H1 p1 s1 gh1 tp1 D1 x1 => h.bind gh1 tp1 D1 fun d v G2 H2 p2 s2 gh2 tp2 D2 x2 => by
    subst p1 p2
    have ew := dn_key x1
    subst ew
    obtain ⟨a, rfl, ⟨z, g⟩ | ⟨u, d, z, y, g⟩⟩ := kd_get x2 gh2 k
    · exact ⟨a, _, rfl, g, q _ _ G2 H2 (by rw [z]; rfl) (s1.trans s2) (.bl _)⟩
    · exact ⟨a, _, rfl, g, q _ _ G2 H2 (by rw [z]; rfl) (s1.trans s2) (.bl _)⟩
theorem yd_kget2 {es : List (Key × PyData)} {k : Key} {x : PyData} (h : Pd K td ρ (dD es)) (hk : Pd K ty ρ (kD k)) (hx : Pd K tx ρ x) : Pd K (tDGet2 td ty tx) ρ ((valD es k).getD x) := fun T H0 G H σ gh tp D Q q =>
  h.bind gh tp D fun d v G1 H1 p1 s1 gh1 tp1 D1 x1 => by
    subst p1
    obtain ⟨a, o, kvs, rfl, ha, al⟩ := dct_inv x1
    refine ⟨a, rfl, .inl ⟨kvs, .inr ⟨o, gh1 _ _ ha⟩⟩, hk.bind gh1 tp1 D1 fun y w G2 H2 p2 s2 gh2 tp2 D2 x2 => hx.bind gh2 tp2 D2 fun z u G3 H3 p3 s3 gh3 tp3 D3 x3 => ?_⟩
    subst p2 p3
    have ew := dn_key x2
    subst ew
    have hl3 := s3.h
    refine ⟨valV kvs k, .inl ⟨kvs, k, .inr ⟨o, gh3 _ _ (s3.g _ _ (s2.g _ _ ha))⟩, rfl, rfl⟩, ?_⟩
    rcases ((al.mono s2.g).mono s3.g).val k with ⟨v1, v2⟩ | ⟨v, d, v1, v2, x⟩
    · rw [v1]
      exact q _ _ G3 H3 (by rw [v2]; rfl) ((s1.trans s2).trans s3) x3
    · rw [v1]
      exact q _ _ G3 H3 (by rw [v2]; rfl) ((s1.trans s2).trans s3) x
end
end PD

set_option maxHeartbeats 2000000
/-! PD36: {k: v for ..}, max(d.values()), xs[::-1], reversed(t) -/
namespace PD
open PySem PySem.Spec PyProof.Rows L2 RT
/-- the dict of these, one after another -/
def mkD (qs : List (Key × PyData)) : List (Key × PyData) := qs.foldl (fun es q => putD es q.1 q.2) []
theorem mkD_snoc (qs : List (Key × PyData)) (q : Key × PyData) : mkD (qs ++ [q]) = putD (mkD qs) q.1 q.2 := by
  unfold mkD
  rw [List.foldl_append]
  rfl
theorem putD_len (es : List (Key × PyData)) (k : Key) (d : PyData) : (putD es k d).length ≤ es.length + 1 := by
  unfold putD
  split
  · rw [List.length_map]
    exact Nat.le_succ _
  · rw [List.length_append]
    exact Nat.le_refl _
theorem mkD_len (qs : List (Key × PyData)) : (mkD qs).length ≤ qs.length := by
  have go : ∀ (qs es : List (Key × PyData)), (qs.foldl (fun es q => putD es q.1 q.2) es).length ≤ es.length + qs.length := by
    intro qs
    induction qs with
    | nil => exact fun _ => Nat.le_refl _
    | cons q qs ih =>
      intro es
      have h1 := ih (putD es q.1 q.2)
      have h2 := putD_len es q.1 q.2
      rw [List.length_cons]
      show ((qs.foldl _ (putD es q.1 q.2)).length) ≤ _
      omega
  have := go qs []
  rw [List.length_nil, Nat.zero_add] at this
  exact this
section
variable {K : PySem.W.Frag} {ρ : Rho} {te ta tb tk tv : TE} {P : PyData → Prop} {PL : List PyData → Prop}
/-- {k: v for x in .. if t} -/
theorem nx_dc {wi : TI} {g : TG} {tt : TT} {vs sl : List Nat} {P : Mo → Prop} (hi : Pit K wi ρ PL) (keep : PyData → Bool) (f : PyData → Key × PyData) (hsl : ∀ i ∈ sl, i ∈ vs) (hz : ∀ xs, PL xs → xs.length < sizeLine)
    (hb : ∀ xs x, PL xs → x ∈ xs → ∃ r', Pg K g sl x (wipeR ρ vs) r' ∧ Ptd K tt r' (keep x) ∧ (keep x = true → Pd K tk r' (kD (f x).1) ∧ Pd K tv r' (f x).2))
    (h : ∀ xs l, PL xs → P (dkM l (mkD ((xs.filter keep).map f)))) : Nx K (tDc wi g tt tk tv vs) ρ P := fun T H0 G H σ gh tp D Q q => by
  refine hi T H0 G H σ gh tp D _ fun xs J G1 H1 hx s1 it Dl hD => ?_
  have Dn1 := (D.mono s1).wipe vs
  have nt : ¬ T Dl := tape_some s1.tp hD
  have gd : G1 Dl = none := s1.gh.free hD
  refine ⟨fun i m H => m = xs.length - i ∧ i ≤ xs.length ∧ ∃ G acc, Step T G1 H1 G H ∧ H Dl = some (.dK acc) ∧ G Dl = none ∧ DkAll K G acc (mkD (((xs.take i).filter keep).map f)),
    ⟨xs.length, by simp, Nat.zero_le _, G1, [], Step.newM s1.gh s1.tp hD, upd_same, gd, .nil⟩, ?_⟩
  rintro i m H2 ⟨rfl, hil, G2, acc, s2, hacc, g2d, da⟩
  have g2 : Same G1 H2 := s2.g.trans s2.gh
  by_cases hlt : i < xs.length
  · refine .inr ⟨it.go i H2 g2 hlt, fun H' => ∃ G acc, Step T G1 H1 G H' ∧ H' Dl = some (.dK acc) ∧ G Dl = none ∧ DkAll K G acc (mkD (((xs.take (i + 1)).filter keep).map f)), fun H' p => ⟨xs.length - (i + 1), by omega, rfl, hlt, p⟩, fun x H' y => ?_⟩
    obtain ⟨G3, d, ed, s3, dx⟩ := it.yld i T G2 H2 x H' s2.g s2.gh s2.tp hlt y
    obtain ⟨r', hg, ht, he⟩ := hb xs d hx (List.mem_of_getElem? ed)
    have s13 := s2.trans s3
    have et : (xs.take (i + 1)).filter keep = (xs.take i).filter keep ++ (if keep d = true then [d] else []) := by
      rw [List.take_add_one, ed, List.filter_append]
      congr 1
      show List.filter keep [d] = _
      cases hk : keep d with
      | true => simp [hk]
      | false => simp [hk]
    have lacc : acc.length ≤ i := by
      have h1 := Paired.length da
      have h2 := mkD_len (((xs.take i).filter keep).map f)
      have h3 := List.length_filter_le keep (xs.take i)
      rw [List.length_take] at h3
      rw [List.length_map] at h2
      omega
    refine hg T H0 G3 H' _ x s3.gh (Dn1.mono s13) dx _ fun σ' D' hl hf => ⟨?_, ?_⟩
    · refine (wipe_eq hl fun j hj => hf j fun z => hj (hsl j z)).trans ?_
      refine wipe_eq (wipe_length σ vs) fun j hj => ?_
      rw [wipe_at, if_neg (fun z => hj z.1)]
    refine ht T H0 G3 H' σ' s3.gh s3.tp D' _ fun b G4 H4 pb s4 => ?_
    subst pb
    have a4 : H4 Dl = some (.dK acc) := s4.h _ _ nt (s3.h _ _ nt hacc)
    have g3d : G3 Dl = none := s3.fr _ g2d (by rw [hacc]; intro z; cases z)
    have g4d : G4 Dl = none := s4.fr _ g3d (by rw [s3.h _ _ nt hacc]; intro z; cases z)
    cases hk : keep d with
    | true =>
      rw [hk] at et
      rw [if_pos rfl]
      obtain ⟨hkk, hv⟩ := he hk
      refine hkk.bind s4.gh s4.tp (D'.mono s4) fun kd kv G5 H5 p5 s5 gh5 tp5 D5 x5 => hv.bind gh5 tp5 D5 fun e ev G6 H6 p6 s6 gh6 tp6 D6 x6 => ?_
      subst p5 p6
      have ew := dn_key x5
      subst ew
      have a6 : H6 Dl = some (.dK acc) := s6.h _ _ nt (s5.h _ _ nt a4)
      have g5d : G5 Dl = none := s5.fr _ g4d (by rw [a4]; intro z; cases z)
      have g6d : G6 Dl = none := s6.fr _ g5d (by rw [s5.h _ _ nt a4]; intro z; cases z)
      have hzz := hz xs hx
      refine ⟨acc, _, rfl, a6, by omega, G6, _, ?_, upd_same, g6d, ?_⟩
      · have s16 := ((s13.trans s4).trans s5).trans s6
        refine ⟨s16.g, fun c u e => ?_, fun p o np ep => ?_, s16.fr, fun a t => ?_⟩
        · rw [upd_ne (ne_of_none e g6d)]
          exact gh6 _ _ e
        · rw [upd_ne (ne_of_none ep hD)]
          exact s16.h p o np ep
        · have z := tp6 a t
          obtain ⟨b, ns, x, y, m, e, eb, ea, r⟩ := id z
          exact z.mono (Same.refl _) (upd_ne (fun w => nt (w ▸ t))) ea
      · rw [et, if_pos rfl, List.map_append]
        show DkAll K G6 _ (mkD (_ ++ [f d]))
        rw [mkD_snoc]
        exact ((((da.mono s3.g).mono s4.g).mono s5.g).mono s6.g).put _ x6
    | false =>
      rw [hk] at et
      rw [if_neg Bool.false_ne_true]
      refine ⟨G4, acc, s13.trans s4, a4, g4d, ?_⟩
      rw [et, if_neg Bool.false_ne_true, List.append_nil]
      exact (da.mono s3.g).mono s4.g
  · have e1 : i = xs.length := by omega
    subst e1
    rw [List.take_of_length_le (Nat.le_refl _)] at da
    refine .inl ⟨it.stop _ H2 g2 (Nat.le_refl _), q _ _ G2 H2 (h xs Dl hx) (s1.trans s2) ⟨rfl, acc, hacc, da⟩ fun a ha => ?_⟩
    rw [List.mem_singleton.mp ha]
    exact ⟨(by rw [hacc]; intro z; cases z), g2d, s1.no hD nt, nt⟩
/-- xs[::-1] -/
theorem nl_rev {PM : List PyData → Prop} (ha : Rl K ta ρ PL) (h : ∀ xs, PL xs → PM xs.reverse) : Nl K (tRevL K ta) ρ PM := fun T H0 G H σ gh tp D Q q =>
  ha.bind gh tp D fun xs p vs G1 H1 p1 s1 gh1 tp1 D1 rd a => ⟨p, vs, rfl, rd.sq gh1, new_end gh1 tp1 a.rev fun p G' H' s' hp nt gp e a' => q _ p _ G' H' (h xs p1) (s1.trans s') (s1.no hp nt) nt gp e a'⟩
/-- reversed(t) of a tuple -/
theorem itd_revT {G : Hp} {a : Addr} {vs : List V} {xs : List PyData} (h : SqT K G a vs) (d : DnAll K G vs xs) : Itd K (ItvT K a vs.length) G xs.reverse where
  go := fun i H g hi => by
    rw [List.length_reverse, ← d.length] at hi
    exact ⟨hi, vs, _, sqt_mono g h, List.getElem?_eq_getElem (by omega)⟩
  stop := fun i H g hi => by
    rw [List.length_reverse, ← d.length] at hi
    first
    | exact ⟨hi, vs, sqt_mono g h⟩
    | exact ⟨hi, ⟨vs, sqt_mono g h⟩⟩
    | exact hi
  yld := fun i T G' H x H' g1 g2 tp hi y => by
    rw [List.length_reverse] at hi
    obtain ⟨rfl, y⟩ := y
    obtain ⟨e, h1, h2⟩ := (d.mono g1).get' (y vs (sqt_mono g2 (sqt_mono g1 h)))
    refine ⟨G', e, ?_, Step.refl g2 tp, h2⟩
    rw [List.getElem?_reverse hi, ← d.length]
    exact h1
theorem it_revT {xs : List PyData} (h : Pd K ta ρ (.tuple xs)) : Pitd K (iRevA K ta) ρ xs.reverse := fun T H0 G H σ gh tp D R q =>
  h.bind gh tp D fun x v G1 H1 p1 s1 gh1 tp1 D1 x1 => by
    subst p1
    cases x1 with
    | @tup a vs _ pl e1 a1 => exact ⟨a, vs, rfl, .inr ⟨sqt_mono gh1 e1, q _ _ G1 H1 rfl s1 (itd_revT e1 a1)⟩⟩
end
/-! max(d.values()) -/
section
variable {X : Cx}
def tMaxVals (td : TE) : TE := fun σ H Q => td σ H fun x H1 => ∃ a kvs is, x = V.ref a ∧ Rd H1 a (.dK kvs) ∧ kvs.map (·.2) = is.map V.int ∧ is ≠ [] ∧ ∀ m, m ∈ is → (∀ j ∈ is, j ≤ m) → Q (.int m) H1
theorem pe_maxVals {o : Expr} {p pos apos mpos : Pos} {td : TE} (hc : X.calm = true) (hg : Gl X "max") (hm : X.mg "max" = none) (hd : PE X o td) (hbase : attributeBase o "values" X.env (eval o X.env) = eval o X.env := by rfl) (hline : (apos.endLine == mpos.line) = true := by rfl)
    (hse : starEach [Expr.Call (.Attribute o "values" apos) [] [] mpos] X.env = [(false, eval (Expr.Call (.Attribute o "values" apos) [] [] mpos) X.env)] := by rfl) : PE X (.Call (.Name "max" p) [.Call (.Attribute o "values" apos) [] [] mpos] [] pos) (tMaxVals td) := ⟨fun pins s σ H Q I h => by
  refine wpAny_Call_Name_kw (ld_blt I hg hm (u := .builtin "max") (by first | rfl | decide +kernel) ?_ (by first | decide +kernel | decide) (by first | decide +kernel | decide))
  rw [hse]
  refine PySem.callWith_builtin1 (wpAny_Call_method0_late hbase hline (thn (hd.run pins s σ H _ I h) fun v s1 ⟨x, H1, I1, r1, a, kvs, is, ex, ha, hv, hne, q⟩ => ?_))
  subst ex
  cases r1
  obtain ⟨_, hsys, vs, rel, dof⟩ := dk_rd I1.hok ha
  obtain ⟨ep, dat⟩ := dof.dictAt
  obtain ⟨ob, es, ho, ex, _⟩ := id dat
  refine ⟨"dict", "dict.values", F.plainAttrs_dict, F.slot_dict_values, F.type_dict_values, ⟨ob, ho, ex.1⟩, fun b e => (by cases e; exact ⟨ob, ho, ex.2.1⟩), Calls.callWith_builtin rfl (PySem.evalArgs_none ?_)⟩
  refine call_meetsIn F.slot_dict_values ⟨ob, ho, ex.1⟩ F.entry_dict_values (F.args_dict_values_1 _) (meets_dict_values (mixKind X.prog X.w) a hsys) ⟨⟨vs, dof⟩, ?_⟩
  obtain ⟨h1, eh1⟩ : ∃ h1, h1 = s1.heap.push { cls := .type "dict_values", data := .fields #[.ref a] } := ⟨_, rfl⟩
  have k1 : ∀ b u, s1.heap.get? b = some u → h1.get? b = some u := fun b u e => by rw [eh1]; exact Heap.get?_push_of_some _ e
  have z1 : h1.objs.size = s1.heap.objs.size + 1 := by rw [eh1]; exact Heap.size_push _ _
  have dat1 : h1.DictAt (mixKind X.prog X.w) a vs ep := dat.keep k1
  have view := Heap.get?_push_size s1.heap (o := { cls := .type "dict_values", data := .fields #[.ref a] }) rfl
  rw [← eh1] at view ⊢
  have lv : vs.length = is.length := by
    have e1 := congrArg List.length hv
    rw [List.length_map, List.length_map] at e1
    exact (KV.length rel).symm.trans e1
  have lp : 0 < vs.length := lv ▸ List.length_pos_iff.mpr hne
  have hval : ∀ (i : Nat) (v : Value), (∃ k, vs[i]? = some (k, v)) → ∃ t, v = Value.int (is.getD i 0) t := fun i v ⟨k, hk⟩ => by
    obtain ⟨x, q1, t, e3⟩ : ∃ x, kvs[i]? = some (k, x) ∧ ∃ t, v = Value.int (is.getD i 0) t := by
      obtain ⟨x, q1, q2⟩ := KV.at' rel hk
      refine ⟨x, q1, ?_⟩
      have e1 : (is.map V.int)[i]? = some x := by rw [← hv, List.getElem?_map, q1]; rfl
      rw [List.getElem?_map] at e1
      obtain ⟨j, hj, e2⟩ := Option.map_eq_some_iff.mp e1
      subst e2
      obtain ⟨t, e3⟩ := q2
      exact ⟨t, by rw [e3, List.getD_eq_getElem?_getD, hj]; rfl⟩
    exact ⟨t, e3⟩
  have al : a < s1.heap.objs.size := Heap.lt_size ho
  refine call_max_walk (wpAny_pyIter_values (v := s1.heap.objs.size) (d := a) ⟨_, view, rfl, rfl⟩ dat1 ?_)
  refine ⟨_, _, _, _, _, _, _, rfl, Walks.dictValues (knd := mixKind X.prog X.w) (A := X.A.in1) (I.ok.hd hc) h1.objs.size a (by rw [z1]; exact Nat.ne_of_lt (Nat.lt_succ_of_lt al)) vs ep,
    ⟨⟨_, Heap.get?_push_size _ rfl, rfl, rfl⟩, dat1.keep fun b u => Heap.get?_push_of_some _⟩, fun b hb => ?_, lp, CmpOf.ints_gt (fun i => is.getD i 0) hval, fun v h' tk hP hk => ?_⟩
  · show b < (h1.push _).objs.size
    rw [Heap.size_push]
    rcases List.mem_cons.mp hb with e | hb
    · rw [e]
      exact Nat.lt_succ_self _
    · have e : b = a := List.mem_singleton.mp hb
      rw [e, z1]
      exact Nat.lt_succ_of_lt (Nat.lt_succ_of_lt al)
  · obtain ⟨t, rfl⟩ := hval _ v hP
    obtain ⟨b1, b2⟩ := argBest_gt (fun i => is.getD i 0) (vs.length - 1)
    refine ⟨.int _, H1, I1.kept (t' := tk) fun b u e => hk b u (fun hmem => ?_) (Heap.get?_push_of_some _ (k1 b u e)), ⟨t, rfl⟩, q _ (PySem.getD_mem (by omega)) fun j hj => ?_⟩
    · have e2 := Heap.lt_size e
      rw [List.mem_singleton.mp hmem] at e2
      have e2 : h1.objs.size < s1.heap.objs.size := e2
      rw [z1] at e2
      exact absurd e2 (Nat.not_lt.mpr (Nat.le_succ _))
    · obtain ⟨i, hi, e⟩ := List.mem_iff_getElem.mp hj
      have e2 : is.getD i 0 = j := by rw [List.getD_eq_getElem?_getD, List.getElem?_eq_getElem hi, ← e]; rfl
      rw [← e2]
      exact b2 i (by omega)⟩
end
theorem ye_maxV {K : PySem.W.Frag} {ρ : Rho} {td : TE} {P : PyData → Prop} {es : List (Key × PyData)} {ns : List Int} (h : Pd K td ρ (dD es)) (hv : es.map (·.2) = ns.map .int) (hne : ns ≠ []) (k : ∀ m, m ∈ ns → (∀ j ∈ ns, j ≤ m) → P (.int m)) : Pe K (tMaxVals td) ρ P := fun T H0 G H σ gh tp D Q q =>
  h.bind gh tp D fun x v G1 H1 p1 s1 gh1 tp1 D1 x1 => by
    subst p1
    obtain ⟨a, o, kvs, rfl, ha, al⟩ := dct_inv x1
    have al2 := al.dn.1
    rw [hv] at al2
    exact ⟨a, kvs, ns, rfl, .inr ⟨o, gh1 _ _ ha⟩, al2.ints, hne, fun m h1 h2 => q _ _ G1 H1 (k m h1 h2) s1 (.int _)⟩
end PD

set_option maxHeartbeats 2000000
/-! PD37: len(set(xs)) of any ints, xs.count(k) of ints -/
namespace PD
open PySem PySem.Spec PyProof.Rows L2
abbrev fmet (ns : List Int) (i : Nat) : List Int := PyProof.Rows.firstMet (fun i => ns.getD i 0) i
theorem fmet_facts (ns : List Int) : ∀ i, i ≤ ns.length → (fmet ns i).length ≤ i ∧ (∀ x, x ∈ fmet ns i ↔ x ∈ ns.take i) ∧ ((fmet ns i).length = i ↔ (ns.take i).Nodup)
  | 0, _ => ⟨Nat.le_refl _, fun x => by rw [List.take_zero]; exact Iff.rfl, by rw [List.take_zero]; exact ⟨fun _ => List.nodup_nil, fun _ => rfl⟩⟩
  | i + 1, hi => by
    obtain ⟨h1, h2, h3⟩ := fmet_facts ns i (Nat.le_of_succ_le hi)
    have hlt : i < ns.length := hi
    have e1 : ns.getD i 0 = ns[i] := by rw [List.getD_eq_getElem?_getD, List.getElem?_eq_getElem hlt]; rfl
    have e2 : ns.take (i + 1) = ns.take i ++ [ns[i]] := by rw [List.take_add_one, List.getElem?_eq_getElem hlt]; rfl
    have e3 : fmet ns (i + 1) = if (fmet ns i).any (· == ns[i]) then fmet ns i else fmet ns i ++ [ns[i]] := by
      show PyProof.Rows.firstMet _ _ = _
      rw [PyProof.Rows.firstMet_succ, e1]
      rfl
    have nd : (ns.take (i + 1)).Nodup ↔ (ns.take i).Nodup ∧ ns[i] ∉ ns.take i := by
      rw [e2, List.nodup_append]
      refine ⟨fun ⟨a, _, c⟩ => ⟨a, fun z => c _ z _ List.mem_cons_self rfl⟩, fun ⟨a, b⟩ => ⟨a, by simp, fun x hx y hy z => b (by rw [← List.mem_singleton.mp hy, ← z]; exact hx)⟩⟩
    rw [nd, e2]
    by_cases c : (fmet ns i).any (· == ns[i]) = true
    · rw [e3, if_pos c]
      have m : ns[i] ∈ ns.take i := by
        obtain ⟨y, hy, q⟩ := List.any_eq_true.mp c
        rw [← h2, ← eq_of_beq q]
        exact hy
      refine ⟨Nat.le_succ_of_le h1, fun x => ?_, fun z => absurd z (by omega), fun z => absurd m z.2⟩
      rw [h2, List.mem_append]
      exact ⟨.inl, fun z => z.elim id fun q => by rw [List.mem_singleton.mp q]; exact m⟩
    · rw [e3, if_neg c]
      have m : ns[i] ∉ ns.take i := fun z => c (List.any_eq_true.mpr ⟨_, (h2 _).mpr z, beq_self_eq_true _⟩)
      refine ⟨by rw [List.length_append]; exact Nat.succ_le_succ h1, fun x => ?_, ?_⟩
      · rw [List.mem_append, List.mem_append, h2]
      · rw [List.length_append, ← h3]
        show _ + 1 = _ ↔ _
        exact ⟨fun z => ⟨by omega, m⟩, fun z => by omega⟩
def dcnt (ns : List Int) : Nat := (fmet ns ns.length).length
theorem dcnt_lt (ns : List Int) : decide ((dcnt ns : Int) < (ns.length : Int)) = !decide ns.Nodup := by
  obtain ⟨h1, _, h3⟩ := fmet_facts ns ns.length (Nat.le_refl _)
  rw [List.take_length] at h3
  by_cases q : ns.Nodup
  · rw [decide_eq_true q, decide_eq_false]
    · rfl
    · have : dcnt ns = ns.length := h3.mpr q
      omega
  · rw [decide_eq_false q, decide_eq_true]
    · rfl
    · have : dcnt ns ≠ ns.length := fun z => q (h3.mp z)
      have : dcnt ns ≤ ns.length := h1
      omega
def tLenSetD (K : PySem.W.Frag) (ta : TE) : TE := fun σ H Q => ta σ H fun x H1 => ∃ (l : Addr) (ns : List Int), x = .ref l ∧ SqL K H1 l (ns.map V.int) ∧ ns.length ≤ 4000 ∧ Q (.int (dcnt ns : Nat)) H1
theorem pe_lenSetD {X : Cx} {a : Expr} {ta : TE} {p p2 q pos : Pos} (hc : X.calm = true) (hg : Gl X "len") (hm : X.mg "len" = none) (hg2 : Gl X "set") (hm2 : X.mg "set" = none) (ha : PE X a ta) (na : starEach [a] X.env = (false, eval a X.env) :: starEach [] X.env := by rfl) :
    PE X (.Call (.Name "len" p) [.Call (.Name "set" p2) [a] [] q] [] pos) (tLenSetD X.K ta) := ⟨fun pins s σ H Q I h => by
  refine Call_ (ld_blt I hg hm boot_len (PyProof.Rows.callWith_builtin1 (PyProof.Rows.args_cons ?_ rfl) rfl rfl))
  refine Call_ (ld_blt I hg2 hm2 boot_set (PyProof.Rows.callWith_type1 (PyProof.Rows.args_cons (thn (ha.run pins s σ H _ I h) fun v s1 ⟨x, H1, I1, r1, l, ns, ex, hq, hl, q1⟩ => PyProof.Rows.args_nil ?_) na) na rfl))
  subst ex
  cases r1
  obtain ⟨its, r, pl, hz⟩ := I1.list hq
  have en : its.toArray.size = ns.length := by rw [List.size_toArray, ← r.length, List.length_map]
  refine call_set_list (I1.ok.hd hc) pl.isList (by simpa using RZ.intsAre_vals r) (by rw [en]; unfold scanBound; omega) fun h' tk hS hk => PyProof.Rows.args_nil ?_
  obtain ⟨L, eL⟩ : ∃ L, L = PyProof.Rows.firstMet (fun i => ns.getD i 0) ns.length := ⟨_, rfl⟩
  rw [en, ← eL] at hS
  have fl : L.length ≤ ns.length := by rw [eL]; exact (fmet_facts ns ns.length (Nat.le_refl _)).1
  have dl : dcnt ns = L.length := by rw [eL]; rfl
  rw [dl] at q1
  obtain ⟨o, es, ep, t, ho, hex, hd, _, _, _, hf, hn⟩ := hS
  exact call_len_set ho hex hd hf (by rw [hn] <;> omega) ⟨.int L.length, H1, (I1.kept fun b o e => hk b o (Heap.lt_size e) e).tok _, ⟨_, by rw [hn]⟩, q1⟩⟩
theorem yd_lenSetD {K : PySem.W.Frag} {ρ : Rho} {ta : TE} {ns : List Int} (ha : Rl K ta ρ (fun x => x = ns.map .int)) (hl : ns.length ≤ 4000) : Pd K (tLenSetD K ta) ρ (.int (dcnt ns : Nat)) := fun T H0 G H σ gh tp D Q q =>
  ha.bind gh tp D fun xs p vs G1 H1 p1 s1 gh1 tp1 D1 rd a => by
    subst p1
    have := a.ints
    subst this
    exact ⟨p, ns, rfl, rd.sq gh1, hl, q _ _ G1 H1 rfl s1 (.int _)⟩
theorem pt_truK {X : Cx} {K : PySem.W.Frag} {a : Expr} {ta : TE} (h : X.K = K) (ha : PE X a ta) (he : ∀ whole, isTrue a X.env whole = (do let v ← whole; standAt a.pos; holding [v] (truthy v))) : PT X a (tTru K ta) := h ▸ pt_tru ha he
/-- xs.count(k) of ints -/
theorem yd_cntI {K : PySem.W.Frag} {ρ : Rho} {ta tb : TE} {ns : List Int} {k : Int} (ha : Rl K ta ρ (fun y => y = ns.map .int)) (hb : Pd K tb ρ (.int k)) : Pd K (tBM K "list" (rCntI K) ta (tCons tb tNil)) ρ (.int (ns.count k : Nat)) := fun T H0 G H σ gh tp D Q q =>
  ha.bind gh tp D fun xs p vs G1 H1 p1 s1 gh1 tp1 D1 rd a => ⟨.inl ⟨rfl, vs, rd.sq gh1⟩, hb.bind gh1 tp1 D1 fun y u G2 H2 p2 s2 gh2 tp2 D2 x2 => by
    subst p1 p2
    cases x2
    have := a.ints
    subst this
    exact ⟨p, ns, k, rfl, rfl, (rd.mono s2).sq gh2, q _ _ G2 H2 rfl (s1.trans s2) (.int _)⟩⟩
end PD

set_option maxHeartbeats 2000000
/-! PD38: a list that changes is lent to an expression, as data; sizes of dicts made at once -/
namespace PD
open PySem PySem.Spec PyProof.Rows L2
def isAtom : PyData → Prop
  | .list _ => False
  | .tuple _ => False
  | .dict _ => False
  | _ => True
section
variable {T : Addr → Prop} {K : PySem.W.Frag} {H0 G H G' H' : Hp} {σ : L2.St} {ρ : Rho} {P : PyData → Prop}
theorem Dn.atom {v : V} {d : PyData} (h : Dn K G v d) (a : isAtom d) : Dn K G' v d := by
  cases h with
  | non => exact .non
  | bl b => exact .bl b
  | int i => exact .int i
  | str x => exact .str x
  | lst _ _ => exact a.elim
  | tup _ _ => exact a.elim
  | dct _ _ _ => exact a.elim
theorem Den.lendL (D : Den T K H0 G H σ ρ) (gh : Same G H) {i : Nat} {xs : List PyData} (e : ρ[i]? = some (.ml xs)) :
    ∃ (l : Addr) (vs : List V), H l = some (.lst vs) ∧ G l = none ∧ ¬ T l ∧ Same (upd G l (.lst vs)) H ∧ Den T K H0 (upd G l (.lst vs)) H σ (ρ.set i (.d (.list xs))) := by
  obtain ⟨o, e1, l, vs, rfl, hl, al, w2, w3, w4⟩ := D.at e
  have up : Same G (upd G l (.lst vs)) := fun a u q => by rw [upd_ne (ne_of_none q w2)]; exact q
  refine ⟨l, vs, hl, w2, w4, fun a u q => ?_, by rw [List.length_set]; exact D.len, fun j x p q1 q2 => ?_, fun j k x y p q a hjk q1 q2 q3 q4 f1 f2 => ?_⟩
  · by_cases z : a = l
    · rw [z, upd_same] at q
      rw [z, hl]
      exact q
    · rw [upd_ne z] at q
      exact gh _ _ q
  · by_cases z : i = j
    · subst z
      rw [List.getElem?_set_self (List.getElem?_eq_some_iff.mp e).1] at q1
      cases q1
      rw [e1] at q2
      cases q2
      exact ⟨_, rfl, .lst upd_same (al.mono up)⟩
    · rw [List.getElem?_set_ne z] at q1
      have w := D.ok j x p q1 q2
      have far : ∀ a, x.fp p a → a ≠ l := fun a f q => D.one i j _ _ _ _ l z e q1 e1 q2 (show (Sl.ml xs).fp _ l from rfl) (q ▸ f)
      cases x with
      | no => trivial
      | d y => exact let ⟨v, ev, d⟩ := w; ⟨v, ev, d.mono up⟩
      | ml ys =>
        obtain ⟨a, us, rfl, ha, am, ga, h0, nt⟩ := w
        have n := far a rfl
        exact ⟨a, us, rfl, ha, am.mono up, by rw [upd_ne n]; exact ga, h0, nt⟩
      | tp => exact w
      | rf a => exact w
      | rg lo hi => exact let ⟨a, ea, g⟩ := w; ⟨a, ea, up _ _ g⟩
      | mx m =>
        exact ⟨m.frame up (fun a ha => rfl) w.1, fun a ha => by
          have n := far a ha
          obtain ⟨b1, b2, b3, b4⟩ := w.2 a ha
          exact ⟨b1, by rw [upd_ne n]; exact b2, b3, b4⟩⟩
  · have go : ∀ {n : Nat} {x : Sl} {p : Option V}, (ρ.set i (.d (.list xs)))[n]? = some x → σ[n]? = some p → x.fp p a → ρ[n]? = some x := fun {n x p} h1 h2 f => by
      by_cases z : i = n
      · subst z
        rw [List.getElem?_set_self (List.getElem?_eq_some_iff.mp e).1] at h1
        cases h1
        exact f.elim
      · rw [List.getElem?_set_ne z] at h1
        exact h1
    exact D.one j k x y p q a hjk (go q1 q3 f1) (go q2 q4 f2) q3 q4 f1 f2
def Sl.isTp : Sl → Bool
  | .tp => true
  | _ => false
theorem Den.notape (D : Den T K H0 G H σ ρ) (nt : ρ.any Sl.isTp = false) : Den (fun _ => False) K H0 G H σ ρ := ⟨D.len, fun i s o e1 e2 => by
  have w := D.ok i s o e1 e2
  cases s with
  | tp => exact absurd (List.any_eq_true.mpr ⟨_, List.mem_of_getElem? e1, rfl⟩) (by rw [nt]; exact Bool.false_ne_true)
  | ml xs => exact let ⟨l, vs, e, hl, x, gl, h0, _⟩ := w; ⟨l, vs, e, hl, x, gl, h0, id⟩
  | mx m => exact ⟨w.1, fun a ha => let ⟨b1, b2, b3, _⟩ := w.2 a ha; ⟨b1, b2, b3, id⟩⟩
  | _ => exact w, D.one⟩
/-- a list that changes is lent to an expression without the tape whose value is a number, a text, None -/
theorem ye_lendL {te : TE} {i : Nat} {xs : List PyData} (e : ρ[i]? = some (.ml xs)) (h : Pe K te (ρ.set i (.d (.list xs))) P) (nd : ∀ d, P d → isAtom d) (ht : ρ.any Sl.isTp = false := by rfl) : Pe K te ρ P := fun T H0 G H σ gh tp D Q q => by
  obtain ⟨l, vs, hl, gl, nt, gh', D'⟩ := (D.notape ht).lendL gh e
  refine h (fun _ => False) H0 _ _ σ gh' (fun _ z => z.elim) D' _ fun d v G1 H1 p s x => ?_
  refine q d v G H1 p ⟨Same.refl _, fun a u e => s.h a u id (gh _ _ e), fun a u _ e => s.h a u id e, fun p e _ => e, fun a t => ?_⟩ (x.atom (nd d p))
  obtain ⟨b, ns, x0, y0, m0, e0, eb0, ea0, r⟩ := tp a t
  exact ⟨b, ns, x0, y0, m0, s.h a _ id e0, eb0, ea0, r⟩
end
section
variable {X : Cx}
theorem sw_trueD {kx vx : Expr} {gs : List Comprehension} {scope : Scope} {pos py : Pos} {y : Str} {l : Nat} {env : Env} (hk : env.scope.kind = .function) (hy : env.scope.names.lookup y = some .local) (hl : (py.line == pos.line) = true)
    (ha : (scope.names.any fun q => q.1 == y && (q.2 == .local || q.2 == .cell)) = false) : swapsWith (.DictComp kx vx gs scope pos) (some (.Name y py)) l env = pure true := by
  have ky : env.kindOf y = some .local := hy
  have hb : env.blockKind = .function := by unfold Env.blockKind; rw [hk]; rfl
  unfold swapsWith
  simp only [hb, ky, ha, Expr.pos, hl]
  rfl
/-- d = {k: v for ..} -/
theorem ps_setDc {i : Nat} {y : Str} {py : Pos} {kx vx tg iter : Expr} {ifs : List Expr} {scope : Scope} {own : List (Str × Nat)} {pos spos : Pos} {wi : TI} {g : TG} {tt : TT} {tk tv : TE} (hc : X.calm = true) (hN : X.N.Nodup) (hy : X.N[i]? = some y) (hyl : X.env.scope.names.lookup y = some .local)
    (hsw : swapsWith (.DictComp kx vx [⟨tg, iter, ifs, 0⟩] scope pos) (some (.Name y py)) spos.line X.env = pure true) (hi : PI X tg iter wi) (ok : BlkOk X.N X.env.scope scope own)
    (hg : ∀ (s : Shared) (H : Hp) (C : Addr) (cl : List (Str × Addr)) (fp : List Addr), PG (X.blk s H scope (compEnvC scope cl C X.env) fp) tg g) (ht : ∀ (s : Shared) (H : Hp) (C : Addr) (cl : List (Str × Addr)) (fp : List Addr), PTs (X.blk s H scope (compEnvC scope cl C X.env) fp) ifs tt)
    (hk : ∀ (s : Shared) (H : Hp) (C : Addr) (cl : List (Str × Addr)) (fp : List Addr), PE (X.blk s H scope (compEnvC scope cl C X.env) fp) kx tk)
    (he : ∀ (s : Shared) (H : Hp) (C : Addr) (cl : List (Str × Addr)) (fp : List Addr), PE (X.blk s H scope (compEnvC scope cl C X.env) fp) vx tv) (hs : ∀ x, foldedSetIterable iter X.env x = pure x := by intro _; rfl) :
    PS X (.Assign [.Name y py] (.DictComp kx vx [⟨tg, iter, ifs, 0⟩] scope pos) spos) (tAsg (tDc wi g tt tk tv (own.map (·.2))) (gName i)) := ⟨fun pins s σ H D I h => by
  rw [exec_Assign_Name_used _ _ _ _ hsw]
  refine wpAny_bind (wpAny_standAt (wpAny_bind ?_))
  show wpAny _ X.A (do let _ ← comprehension (.DictComp kx vx [⟨tg, iter, ifs, 0⟩] scope pos) scope X.env (firstIterPos [⟨tg, iter, ifs, 0⟩] pos) newDict false (eval iter X.env) (some (assign (.Name y py) X.env))) _ _ s
  have h : tDc wi g tt tk tv (own.map (·.2)) σ H (fun x H1 => gName i x σ H1 D.nx) := h
  refine wpAny_bind (thn (dc_core (Qf := fun _ s' => SP X pins D .next s') hc hN I hi ok hg ht hk he hs h fun L C s' m H' I' q hn f => ?_) fun _ s' hq => wpAny_pure (wpAny_pure hq))
  show wpAny _ _ (assign (.Name y py) X.env (.ref L)) _ _ _
  obtain ⟨f0, f1, f2, f3, f4, f5⟩ := f
  refine wpAny_assign_Name (store_ok2 (v := V.ref L) I' hN hy (.inl hyl) rfl (fun s2 I2 ⟨a, sb, ha⟩ => ⟨m, hn.sameBut sb (ha.elim (fun z => z ▸ f1) fun z e => f4 y a z e.symm), fun h3 sb3 => ?_⟩) (.inr hyl))
  exact ⟨_, H', I2.turned (t' := s2.toks) (fun b o hb e => (sb3.2 b hb).trans e) f0 f1 f3 f4 f5, q⟩⟩
end
theorem ws_setx {K : PySem.W.Frag} {ρ : Rho} {te : TE} {E : Ed} {P : Mo → Prop} {i : Nat} (h : Nx K te ρ P) (k : ∀ m, P m → E.nx (ρ.set i (.mx m))) : Ws K (tAsg te (gName i)) ρ E := fun T G0 H0 σ H D a e => by
  obtain ⟨G, s, D0⟩ := a
  exact h T H0 G H σ s.gh s.tp D0 _ fun m v G' H' p s' hm ow => e.nx _ _ _ (k m p) ⟨G', s.trans s', (D0.mono s').setx hm (fun a ha => ⟨(ow a ha).1, (ow a ha).2.1, s.no (ow a ha).2.2.1 (ow a ha).2.2.2, (ow a ha).2.2.2⟩) fun j t p a hj e1 e2 ha f => D0.live e1 e2 f (ow a ha).2.2.1⟩
/-! a method within a comprehension -/
theorem mt_lcountK {X : Cx} {K : PySem.W.Frag} (h : X.K = K) : MtR X "list.count" (rCntI K) := h ▸ mt_lcount
theorem pe_bmK {X : Cx} {K : PySem.W.Frag} {o e : Expr} {es : List Expr} {to : TE} {t : TA} {name : Str} {apos cpos : Pos} {T id : String} {r : V → List V → Hp → VK → Prop} (hK : X.K = K) (pa : PlainAttrs T) (slot : Slot T name id) (hty : typeOf (.builtin id) = pure (.type "method_descriptor")) (hm : MtR X id r) (ho : PE X o to) (ha : PA X (e :: es) t)
    (hbase : attributeBase o name X.env (eval o X.env) = eval o X.env := by rfl) (hfew : ((backTo cpos (starEach (e :: es) X.env)).all (fun x => !x.1) && (backToKw cpos (keywordEach [] X.env)).all (fun x => x.1.isSome) && decide ((e :: es).length + ([] : List Keyword).length + (if ([] : List Keyword).isEmpty then 0 else 1) < 30)) = true := by rfl)
    (hline : (apos.endLine == cpos.line) = true := by rfl) (hs : starEach (e :: es) X.env = (false, eval e X.env) :: starEach es X.env := by rfl) (hplain : (backTo cpos (starEach es X.env)).any (·.1) = false := by rfl) :
    PE X (.Call (.Attribute o name apos) (e :: es) [] cpos) (tBM K T r to t) := hK ▸ pe_bm pa slot hty hm ho ha hbase hfew hline hs hplain
end PD

set_option maxHeartbeats 2000000
/-! PD39: max(xs, default=d) -/
namespace PD
open PySem PySem.Spec PyProof.Rows L2
theorem rds_int (h : Heap) : ∀ {ns : List Int} {us : List Value}, Vals (ns.map V.int) us → ∃ as, ReadsAll h us (ns.map PyData.int) as
  | [], _, .nil => ⟨_, .nil⟩
  | n :: ns, _, .cons r t => by
    obtain ⟨as, q⟩ := rds_int h t
    obtain ⟨k, rfl⟩ := r
    exact ⟨_, .cons (.int n k) q⟩
theorem alike_int (ns : List Int) : PySem.W.AlikeAll (ns.map PyData.int) := ⟨fun x hx y hy => by
  obtain ⟨i, _, rfl⟩ := List.mem_map.mp hx
  obtain ⟨j, _, rfl⟩ := List.mem_map.mp hy
  first | rfl | simp [PySem.W.alike], fun x hx z => by
  obtain ⟨i, _, rfl⟩ := List.mem_map.mp hx
  cases z⟩
theorem depth_int : ∀ ns : List Int, PyData.depthAll (ns.map PyData.int) ≤ 1
  | [] => by simp [PyData.depthAll]
  | n :: ns => by
    have := depth_int ns
    simp only [List.map_cons, PyData.depthAll, PyData.depth]
    omega
theorem foldl_maxI (l : List Int) : ∀ a, (∀ x ∈ l, x ≤ l.foldl max a) ∧ a ≤ l.foldl max a ∧ (l.foldl max a = a ∨ l.foldl max a ∈ l) := by
  induction l with
  | nil => exact fun a => ⟨fun x h => (by cases h), Int.le_refl _, .inl rfl⟩
  | cons b l ih =>
    intro a
    obtain ⟨h1, h2, h3⟩ := ih (max a b)
    refine ⟨fun x hx => ?_, by show a ≤ l.foldl max (max a b); omega, ?_⟩
    · show x ≤ l.foldl max (max a b)
      rcases List.mem_cons.mp hx with rfl | hx
      · omega
      · exact h1 x hx
    · show l.foldl max (max a b) = a ∨ l.foldl max (max a b) ∈ _
      rcases h3 with h3 | h3
      · rw [h3]
        rcases Int.le_total a b with q | q
        · rw [show max a b = b by omega]; exact .inr List.mem_cons_self
        · rw [show max a b = a by omega]; exact .inl rfl
      · exact .inr (List.mem_cons_of_mem _ h3)
def tMaxDef (K : PySem.W.Frag) (ta tk : TA) : TE := fun σ H Q => ta σ H fun vs H1 => tk σ H1 fun zs H2 => ∃ (a : Addr) (ns : List Int) (d : Int), vs = [V.ref a] ∧ zs = [V.int d] ∧ SqL K H2 a (ns.map V.int) ∧ (ns = [] → Q (.int d) H2) ∧ ∀ m, m ∈ ns → (∀ j ∈ ns, j ≤ m) → Q (.int m) H2
theorem pe_maxDef {X : Cx} {k : Nat} {e v : Expr} {ta tk : TA} {p pos kpos : Pos} (hr : Room k X.A) (hc : X.calm = true) (hg : Gl X "max") (hm : X.mg "max" = none) (ha : PA X [e] ta) (hk : PK X [⟨some "default", v, kpos⟩] tk)
    (he : backTo pos (starEach [e] X.env) = (false, eval e X.env) :: backTo pos (starEach [] X.env) := by rfl) (hpl : (backTo pos (starEach [e] X.env)).any (·.1) = false := by rfl)
    (hall : (backToKw pos (keywordEach [⟨some "default", v, kpos⟩] X.env)).all (·.1.isSome) = true := by rfl) (hnone : (backToKw pos (keywordEach [⟨some "default", v, kpos⟩] X.env)).any (·.1.isNone) = false := by rfl)
    (hks : (backToKw pos (keywordEach [⟨some "default", v, kpos⟩] X.env)).filterMap (·.1) = [Str.ofString "default"] := by rfl) :
    PE X (.Call (.Name "max" p) [e] [⟨some "default", v, kpos⟩] pos) (tMaxDef X.K ta tk) := ⟨fun pins s σ H Q I h => by
  refine wpAny_Call_Name_kw (ld_blt I hg hm (u := .builtin "max") (by first | rfl | decide +kernel) ?_ (by first | decide +kernel | decide) (by first | decide +kernel | decide))
  refine PyProof.Rows.callWith_kw (thn (ha.run pos pins s σ H _ I h) fun us s1 ⟨vs, H1, I1, r1, q1⟩ => thn (hk.run pos pins s1 σ H1 _ I1 q1) fun ws s2 ⟨zs, H2, I2, r2, q2⟩ => ?_) he hpl hall hnone
  rw [hks]
  obtain ⟨a, ns, d, rfl, rfl, sq, q0, q⟩ := q2
  cases r1 with
  | cons ra rr =>
    cases rr
    cases ra
    cases r2 with
    | cons rd rr =>
      cases rr
      obtain ⟨td, rfl⟩ := rd
      obtain ⟨its, rv, pl, hz⟩ := I2.list sq
      obtain ⟨as, rds⟩ := rds_int s2.heap rv
      have un := hr.units
      refine PySem.W.max_list_default (I2.ok.hd hc) pl.isList (by simpa using rds) (alike_int ns) (by have := depth_int ns; omega) (fun e h' tk kp => ?_) fun y ys i v h' tk bs e hv hrd kp => ?_
      · exact ⟨.int d, H2, I2.kept (t' := tk) kp, ⟨td, rfl⟩, q0 (List.map_eq_nil_iff.mp e)⟩
      · cases ns with
        | nil => cases e
        | cons n ns =>
          have e1 := (List.cons.inj e).1
          have e2 := (List.cons.inj e).2
          subst e1 e2
          rw [PySem.W.maxD_ints] at hrd
          obtain ⟨f1, f2, f3⟩ := foldl_maxI ns n
          cases hrd with
          | int _ t =>
            refine ⟨.int _, H2, I2.kept (t' := tk) kp, ⟨t, rfl⟩, q _ ?_ fun j hj => ?_⟩
            · rcases f3 with f3 | f3
              · rw [f3]; exact List.mem_cons_self
              · exact List.mem_cons_of_mem _ f3
            · rcases List.mem_cons.mp hj with rfl | hj
              · exact f2
              · exact f1 j hj⟩
theorem ye_maxDef {K : PySem.W.Frag} {ρ : Rho} {te tv : TE} {P : PyData → Prop} {PL : List PyData → Prop} {d : Int} (ha : Rl K te ρ PL) (hd : Pd K tv ρ (.int d)) (h : ∀ xs, PL xs → ∃ ns : List Int, xs = ns.map .int ∧ (ns = [] → P (.int d)) ∧ ∀ m, m ∈ ns → (∀ j ∈ ns, j ≤ m) → P (.int m)) : Pe K (tMaxDef K (tCons te tNil) (tCons tv tNil)) ρ P := fun T H0 G H σ gh tp D Q q =>
  ha.bind gh tp D fun xs p vs G1 H1 p1 s1 gh1 tp1 D1 rd a => hd.bind gh1 tp1 D1 fun y u G2 H2 p2 s2 gh2 tp2 D2 x2 => by
    subst p2
    obtain ⟨ns, rfl, h0, h1⟩ := h xs p1
    cases x2
    have iv := a.ints
    subst iv
    have ss := s1.trans s2
    exact ⟨p, ns, d, rfl, rfl, (rd.mono s2).sq gh2, fun e => q _ _ G2 H2 (h0 e) ss (.int _), fun m m1 m2 => q _ _ G2 H2 (h1 m m1 m2) ss (.int _)⟩
end PD

set_option maxHeartbeats 2000000
/-! PD40: a def with keyword-only defaults -/
namespace PD
open PySem PySem.Spec PyProof.Rows L2
structure CalK (Pg : Program) (w : World) (K : PySem.W.Frag) (mg : Str → Option Value) (base : Heap) (k : Nat) (x : Str) (ps : List Str) (sp : Sp) (n : Nat) (ks : List Str) (dvs : List V) : Prop where
  ex : ∃ (f : Addr) (fd : FuncData), FnOk Pg w K mg base CX0 k f fd ps sp ∧ mg x = some (.ref f) ∧ PySem.W.keepIn K (.ref f) = true ∧ (∃ ds, Vals dvs ds ∧ Binds K fd ps ds) ∧ KBn K fd ps n ks (fun us ws => us ++ ws) (fun vs zs => vs ++ zs)
section
variable {X : Cx}
theorem pe_calD {k j n : Nat} {x : Str} {ps ks : List Str} {dvs : List V} {sp : Sp} {e : Expr} {es : List Expr} {t : TA} {p pos : Pos} (C : CalK X.prog X.w X.K X.mg X.base k x ps sp n ks dvs) (hr : Room j X.A) (ha : PA X (e :: es) t) (hk : k ≤ j := by decide) (hg : Gl X x := by rfl) (hdb : (x == ("__debug__" : Str)) = false := by decide)
    (he : starEach (e :: es) X.env = (false, eval e X.env) :: starEach es X.env := by rfl) (hpl : (backTo pos (starEach es X.env)).any (·.1) = false := by rfl) : PE X (.Call (.Name x p) (e :: es) [] pos) (tCall sp dvs E0 t) := by
  obtain ⟨f, fd, G, gm, gk, ⟨ds, hd, b⟩, _⟩ := C.ex
  exact L2.pe_call G (hr.mono hk) hg gm gk b hd pass0 ha hdb he hpl
theorem pe_calN {k j n : Nat} {x : Str} {ps ks : List Str} {dvs : List V} {sp : Sp} {e : Expr} {es : List Expr} {kws : List Keyword} {t tk : TA} {p pos : Pos} (C : CalK X.prog X.w X.K X.mg X.base k x ps sp n ks dvs) (hr : Room j X.A) (ha : PA X (e :: es) t) (hkw : PK X kws tk) (hk : k ≤ j := by decide) (hg : Gl X x := by rfl)
    (hall : (backToKw pos (keywordEach kws X.env)).all (·.1.isSome) = true := by rfl) (hks : (backToKw pos (keywordEach kws X.env)).filterMap (·.1) = ks := by rfl)
    (hdb : (x == ("__debug__" : Str)) = false := by decide) (he : starEach (e :: es) X.env = (false, eval e X.env) :: starEach es X.env := by rfl)
    (hpl : ((backTo pos (starEach (e :: es) X.env)).any (·.1) || (backToKw pos (keywordEach kws X.env)).any (·.1.isNone)) = false := by rfl) :
    PE X (.Call (.Name x p) (e :: es) kws pos) (tCallN n ks.length sp (fun vs zs => vs ++ zs) E0 t tk) := by
  obtain ⟨f, fd, G, gm, gk, _, b⟩ := C.ex
  exact L2.pe_callN G (hr.mono hk) hg gm gk b pass0 ha hkw hall hks hdb he hpl
end
theorem paired_app {α β : Type} {F : α → β → Prop} : ∀ {l1 : List α} {l2 : List β} {m1 : List α} {m2 : List β}, Paired F l1 l2 → Paired F m1 m2 → Paired F (l1 ++ m1) (l2 ++ m2)
  | _, _, _, _, .nil, h => h
  | _, _, _, _, .cons a t, h => .cons a (paired_app t h)
/-- one keyword-only parameter behind three: its default -/
theorem kwd1 {K : PySem.W.Frag} {D : Addr} {x : Str} {b : Bool} (h : PySem.W.nsIn K D x = some (some (.bool b))) : KwdV K (.ref D) [(x, V.bl b)] := .inr ⟨D, rfl, fun q hq => by
  rw [List.mem_singleton.mp hq]
  exact ⟨_, h, rfl⟩⟩
section
variable {K : PySem.W.Frag} {ρ : Rho} {P : PyData → Prop}
theorem ye_clD {n : Nat} {R : Pr} {ta : TA} {ss : List Sl} {b : Bool} {E : XK} (h : Pasd K ta ρ ss) (hl : ss.length + 1 = n) (hR : R (ss ++ [Sl.d (.bool b)]) P) : Pe K (tCall (spR K n R) [.bl b] E ta) ρ P := fun T H0 G H σ gh tp D Q q =>
  h.bind gh tp D fun ss' vs G1 H1 p1 s1 gh1 tp1 D1 x1 => by
    subst p1
    exact ⟨T, G1, _, P, gh1, tp1, x1.snoc (show ArgOk T K G1 (.d (.bool b)) (.bl b) from Dn.bl b), by rw [List.length_append]; exact hl, hR, fun d v G' H' p s x => q d v G' H' p (s1.trans s) x⟩
theorem ye_clN {n m k : Nat} {R : Pr} {ta tk : TA} {ss zs : List Sl} {E : XK} (h : Pasd K ta ρ ss) (hk : Pasd K tk ρ zs) (l1 : ss.length = n) (l2 : zs.length = m) (hl : (ss ++ zs).length = k) (hR : R (ss ++ zs) P) : Pe K (tCallN n m (spR K k R) (fun vs zs => vs ++ zs) E ta tk) ρ P := fun T H0 G H σ gh tp D Q q =>
  h.bind gh tp D fun ss' vs G1 H1 p1 s1 gh1 tp1 D1 x1 => hk.bind gh1 tp1 D1 fun zs' us G2 H2 p2 s2 gh2 tp2 D2 x2 => by
    subst p1 p2
    exact ⟨by rw [← x1.length]; exact l1, by rw [← x2.length]; exact l2, T, G2, _, P, gh2, tp2, paired_app (x1.mono s2.g) x2, hl, hR, fun d v G' H' p s x => q d v G' H' p ((s1.trans s2).trans s) x⟩
end
end PD

set_option maxHeartbeats 2000000
/-! PD41: a list of two lists that grow -/
namespace PD
open PySem PySem.Spec PyProof.Rows L2
def l2M (l a b : Addr) (xs ys : List PyData) : Mo where
  fp := [l, a, b]
  ok K G H o := o = some (.ref l) ∧ H l = some (.lst [.ref a, .ref b]) ∧ (∃ vs, H a = some (.lst vs) ∧ DnAll K G vs xs) ∧ (∃ us, H b = some (.lst us) ∧ DnAll K G us ys) ∧ l ≠ a ∧ l ≠ b ∧ a ≠ b
  frame g h := fun ⟨e, q, ⟨vs, a1, a2⟩, ⟨us, b1, b2⟩, n⟩ => ⟨e, (h l (by simp)).trans q, ⟨vs, (h _ (by simp)).trans a1, a2.mono g⟩, ⟨us, (h _ (by simp)).trans b1, b2.mono g⟩, n⟩
theorem upd_none {H : Hp} {a b : Addr} {o : HO} (h : (upd H a o) b = none) : b ≠ a ∧ H b = none := by
  by_cases e : b = a
  · rw [e, upd_same] at h
    cases h
  · rw [upd_ne e] at h
    exact ⟨e, h⟩
/-- the whole of it -/
def l2At (T : Addr → Prop) (K : PySem.W.Frag) (l a b : Addr) (xs ys : List PyData) : Sl := .mx (l2M l a b xs ys)
section
variable {T : Addr → Prop} {K : PySem.W.Frag} {G0 H0 G H : Hp} {σ : L2.St} {ρ : Rho} {E : Ed} {u : TS} {ty tx te : TE} {P : PyData → Prop}
/-- ends = [[], []] -/
theorem wq_l2new {i : Nat} (k : ∀ l a b, Ws K u (ρ.set i (.mx (l2M l a b [] []))) E) : Ws K (tSeq (tAsg (tLst (tCons (tLst tNil) (tCons (tLst tNil) tNil))) (gName i)) u) ρ E := fun T G0 H0 σ H D q e => by
  obtain ⟨G, s, D0⟩ := q
  refine ⟨Nat.zero_le _, fun a ha => ⟨Nat.zero_le _, fun b hb => ⟨by show 2 ≤ (16777216 : Nat); decide, fun p hp => ?_⟩⟩⟩
  obtain ⟨ba, hb0⟩ := upd_none hb
  obtain ⟨pb, hp1⟩ := upd_none hp
  obtain ⟨pa, hp0⟩ := upd_none hp1
  have nt : ∀ {c : Addr}, H c = none → ¬ T c := fun hc t => by
    obtain ⟨_, _, _, _, _, q, _⟩ := s.tp _ t
    rw [hc] at q
    cases q
  have s1 := Step.newM (T := T) (o := .lst []) s.gh s.tp ha
  have s2 := Step.newM (T := T) (o := .lst []) s1.gh s1.tp hb
  have s3 := Step.newM (T := T) (o := .lst [.ref a, .ref b]) s2.gh s2.tp hp
  have st := (s1.trans s2).trans s3
  have ha3 : (upd (upd (upd H a (.lst [])) b (.lst [])) p (.lst [.ref a, .ref b])) a = some (.lst []) := by rw [upd_ne (Ne.symm pa), upd_ne (Ne.symm ba), upd_same]
  have hb3 : (upd (upd (upd H a (.lst [])) b (.lst [])) p (.lst [.ref a, .ref b])) b = some (.lst []) := by rw [upd_ne (Ne.symm pb), upd_same]
  have old : ∀ c, c ∈ [p, a, b] → H c = none := fun c hc => by
    simp only [List.mem_cons, List.not_mem_nil, or_false] at hc
    rcases hc with rfl | rfl | rfl
    · exact hp0
    · exact ha
    · exact hb0
  exact k p a b T G0 H0 _ _ D ⟨G, s.trans st, (D0.mono st).setx (m := l2M p a b [] []) ⟨rfl, upd_same, ⟨[], ha3, .nil⟩, ⟨[], hb3, .nil⟩, pa, pb, Ne.symm ba⟩ (fun c hc => by
    have hn := old c hc
    refine ⟨?_, s.gh.free hn, s.no hn (nt hn), nt hn⟩
    simp only [l2M, List.mem_cons, List.not_mem_nil, or_false] at hc
    rcases hc with rfl | rfl | rfl
    · rw [upd_same]; intro z; cases z
    · rw [ha3]; intro z; cases z
    · rw [hb3]; intro z; cases z) fun j t o c hj e1 e2 hc f => D0.live e1 e2 f (old c hc)⟩ e
/-- ends[0].append(x) -/
theorem wq_l2app0 {i : Nat} {l a b : Addr} {xs ys : List PyData} (e : ρ[i]? = some (.mx (l2M l a b xs ys))) (hk : Pd K ty ρ (.int 0)) (hv : Pe K te ρ P) (hz : xs.length < sizeLine)
    (k : ∀ d, P d → Ws K u (ρ.set i (.mx (l2M l a b (xs ++ [d]) ys))) E) : Ws K (tSeq (tDrop (tBM K "list" rAppend (tOp (rIx K) (tVar i) ty) (tCons te tNil))) u) ρ E := fun T G0 H0 σ H D q ed => by
  obtain ⟨G, s, D0⟩ := q
  obtain ⟨o, e1, ⟨rfl, hl, ⟨vs, ha, av⟩, ⟨us, hb, au⟩, n1, n2, n3⟩, ow⟩ := D0.at e
  refine ⟨_, e1, hk.bind s.gh s.tp D0 fun y w G2 H2 p2 s2 gh2 tp2 D2 x2 => ?_⟩
  subst p2
  cases x2
  obtain ⟨o, e2, ⟨q2, hl2, ⟨vs2, ha2, av2⟩, _, _, _, _⟩, _⟩ := D2.at e
  rw [e1] at e2
  cases e2
  refine .inl ⟨l, [.ref a, .ref b], 0, .ref a, rfl, rfl, sql_of hl2, rfl, .inl ⟨rfl, vs2, sql_of ha2⟩, hv.bind gh2 tp2 D2 fun d v G3 H3 p3 s3 gh3 tp3 D3 x3 => ?_⟩
  obtain ⟨o, e3, ⟨q3, hl3, ⟨vs3, ha3, av3⟩, ⟨us3, hb3, au3⟩, _, _, _⟩, ow3⟩ := D3.at e
  rw [e1] at e3
  cases e3
  obtain ⟨s4, D4⟩ := D3.mutx ((s.trans s2).trans s3) e e1 (m' := l2M l a b (xs ++ [d]) ys) (H' := upd H3 a (.lst (vs3 ++ [v]))) (fun c u nc ec => by rw [upd_ne (fun z => nc (by rw [z]; simp [l2M]))]; exact ec)
    ⟨rfl, by rw [upd_ne n1]; exact hl3, ⟨_, upd_same, av3.append (.cons x3 .nil)⟩, ⟨us3, by rw [upd_ne (Ne.symm n3)]; exact hb3, au3⟩, n1, n2, n3⟩ fun c hc => by
      refine ⟨?_, .inl hc⟩
      by_cases z : c = a
      · rw [z, upd_same]; intro w; cases w
      · rw [upd_ne z]; exact (ow3 c hc).1
  exact ⟨a, vs3, v, rfl, rfl, ha3, by rw [av3.length]; exact hz, k d p3 T G0 H0 _ _ D ⟨G3, s4, D4⟩ ed⟩
/-- ends[1].append(x) -/
theorem ws_l2app1 {i : Nat} {l a b : Addr} {xs ys : List PyData} (e : ρ[i]? = some (.mx (l2M l a b xs ys))) (hk : Pd K ty ρ (.int 1)) (hv : Pe K te ρ P) (hz : ys.length < sizeLine)
    (k : ∀ d, P d → E.nx (ρ.set i (.mx (l2M l a b xs (ys ++ [d]))))) : Ws K (tDrop (tBM K "list" rAppend (tOp (rIx K) (tVar i) ty) (tCons te tNil))) ρ E := fun T G0 H0 σ H D q ed => by
  obtain ⟨G, s, D0⟩ := q
  obtain ⟨o, e1, ⟨rfl, hl, ⟨vs, ha, av⟩, ⟨us, hb, au⟩, n1, n2, n3⟩, ow⟩ := D0.at e
  refine ⟨_, e1, hk.bind s.gh s.tp D0 fun y w G2 H2 p2 s2 gh2 tp2 D2 x2 => ?_⟩
  subst p2
  cases x2
  obtain ⟨o, e2, ⟨q2, hl2, _, ⟨us2, hb2, au2⟩, _, _, _⟩, _⟩ := D2.at e
  rw [e1] at e2
  cases e2
  refine .inl ⟨l, [.ref a, .ref b], 1, .ref b, rfl, rfl, sql_of hl2, rfl, .inl ⟨rfl, us2, sql_of hb2⟩, hv.bind gh2 tp2 D2 fun d v G3 H3 p3 s3 gh3 tp3 D3 x3 => ?_⟩
  obtain ⟨o, e3, ⟨q3, hl3, ⟨vs3, ha3, av3⟩, ⟨us3, hb3, au3⟩, _, _, _⟩, ow3⟩ := D3.at e
  rw [e1] at e3
  cases e3
  obtain ⟨s4, D4⟩ := D3.mutx ((s.trans s2).trans s3) e e1 (m' := l2M l a b xs (ys ++ [d])) (H' := upd H3 b (.lst (us3 ++ [v]))) (fun c u nc ec => by rw [upd_ne (fun z => nc (by rw [z]; simp [l2M]))]; exact ec)
    ⟨rfl, by rw [upd_ne n2]; exact hl3, ⟨vs3, by rw [upd_ne n3]; exact ha3, av3⟩, ⟨_, upd_same, au3.append (.cons x3 .nil)⟩, n1, n2, n3⟩ fun c hc => by
      refine ⟨?_, .inl hc⟩
      by_cases z : c = b
      · rw [z, upd_same]; intro w; cases w
      · rw [upd_ne z]; exact (ow3 c hc).1
  exact ⟨b, us3, v, rfl, rfl, hb3, by rw [au3.length]; exact hz, ed.nx _ _ _ (k d p3) ⟨G3, s4, D4⟩⟩
/-- ends[0][j], ends[1][j] -/
theorem yd_l2at0 {i : Nat} {l a b : Addr} {xs ys : List PyData} {j : Int} {x : PyData} (e : ρ[i]? = some (.mx (l2M l a b xs ys))) (hk : Pd K ty ρ (.int 0)) (hj : Pd K tx ρ (.int j)) (h : atI xs j = some x) : Pd K (tOp (rIx K) (tOp (rIx K) (tVar i) ty) tx) ρ x := fun T H0 G H σ gh tp D Q q => by
  obtain ⟨o, e1, ⟨rfl, _, _, _, _⟩, _⟩ := D.at e
  refine ⟨_, e1, hk.bind gh tp D fun y w G2 H2 p2 s2 gh2 tp2 D2 x2 => ?_⟩
  subst p2
  cases x2
  obtain ⟨o, e2, ⟨q2, hl2, _⟩, _⟩ := D2.at e
  rw [e1] at e2
  cases e2
  refine .inl ⟨l, [.ref a, .ref b], 0, .ref a, rfl, rfl, sql_of hl2, rfl, hj.bind gh2 tp2 D2 fun y w G3 H3 p3 s3 gh3 tp3 D3 x3 => ?_⟩
  subst p3
  cases x3
  obtain ⟨o, e3, ⟨q3, hl3, ⟨vs3, ha3, av3⟩, _⟩, _⟩ := D3.at e
  obtain ⟨z, ez, dz⟩ := av3.atI h
  exact .inl ⟨a, vs3, j, z, rfl, rfl, sql_of ha3, ez, q x z G3 H3 rfl (s2.trans s3) dz⟩
theorem yd_l2at1 {i : Nat} {l a b : Addr} {xs ys : List PyData} {j : Int} {x : PyData} (e : ρ[i]? = some (.mx (l2M l a b xs ys))) (hk : Pd K ty ρ (.int 1)) (hj : Pd K tx ρ (.int j)) (h : atI ys j = some x) : Pd K (tOp (rIx K) (tOp (rIx K) (tVar i) ty) tx) ρ x := fun T H0 G H σ gh tp D Q q => by
  obtain ⟨o, e1, ⟨rfl, _, _, _, _⟩, _⟩ := D.at e
  refine ⟨_, e1, hk.bind gh tp D fun y w G2 H2 p2 s2 gh2 tp2 D2 x2 => ?_⟩
  subst p2
  cases x2
  obtain ⟨o, e2, ⟨q2, hl2, _⟩, _⟩ := D2.at e
  rw [e1] at e2
  cases e2
  refine .inl ⟨l, [.ref a, .ref b], 1, .ref b, rfl, rfl, sql_of hl2, rfl, hj.bind gh2 tp2 D2 fun y w G3 H3 p3 s3 gh3 tp3 D3 x3 => ?_⟩
  subst p3
  cases x3
  obtain ⟨o, e3, ⟨q3, hl3, _, ⟨vs3, ha3, av3⟩, _⟩, _⟩ := D3.at e
  obtain ⟨z, ez, dz⟩ := av3.atI h
  exact .inl ⟨b, vs3, j, z, rfl, rfl, sql_of ha3, ez, q x z G3 H3 rfl (s2.trans s3) dz⟩
end
end PD

set_option maxHeartbeats 2000000
/-! PD42: dict(t) of a tuple of pairs -/
namespace PD
open PySem PySem.Spec PyProof.Rows L2
section
variable {X : Cx}
theorem plain_tup {pins : List (Addr × Obj)} {σ : L2.St} {H : Hp} {s : Shared} {a : Addr} {vs : List V} (I : Inv X pins σ H s) (p : PlT X.K H a) (h : SqT X.K H a vs) :
    ∃ (its : List Value) (o : Obj) (n : Nat), Vals vs its ∧ s.heap.get? a = some o ∧ o.cls = .type "tuple" ∧ o.dict = none ∧ o.data = .seq its.toArray n ∧ vs.length ≤ sizeLine := by
  obtain ⟨its, r, ⟨o, ho, hc, n, hd⟩, hz⟩ := I.tuple h
  refine ⟨its, o, n, r, ho, hc, ?_, hd, hz⟩
  rcases p with ⟨o', xs, e, d⟩ | ⟨o', e, d⟩
  · have q : s.heap.get? a = some o' := (I.hok a _ e).1
    rw [ho] at q
    cases q
    exact d
  · have q := I.kIn a o' e
    rw [ho] at q
    cases q
    exact d
theorem pairs_of2 {pins : List (Addr × Obj)} {σ : L2.St} {H : Hp} {s : Shared} (I : Inv X pins σ H s) : ∀ {ps : List Addr} {kvs : List (Key × V)}, Paired (fun p kv => SqT X.K H p [kV kv.1, kv.2]) ps kvs →
    ∃ (prs : List (Key × Value)) (us : List (Value × Value)), KV kvs prs ∧ prs.length = ps.length ∧ us.length = ps.length ∧ ∀ (j : Nat) (k v : Value), us[j]? = some (k, v) → ∃ (b : Addr) (q : Key), ps[j]? = some b ∧ prs[j]? = some (q, v) ∧ IsTup s.heap b #[k, v] ∧ keyIs q k = true
  | _, _, .nil => ⟨[], [], .nil, rfl, rfl, fun j k v e => by simp at e⟩
  | _, _, .cons (a := p) (b := kv) h t => by
    obtain ⟨prs, us, r, hl, hl2, hp⟩ := pairs_of2 I t
    obtain ⟨its, rv, ht, _⟩ := I.tuple h
    obtain ⟨u, y, ei, ru, ry⟩ := vals2 rv
    subst ei
    refine ⟨(kv.1, y) :: prs, (u, y) :: us, .cons ⟨rfl, ry⟩ r, by rw [List.length_cons, List.length_cons, hl], by rw [List.length_cons, List.length_cons, hl2], fun j k v e => ?_⟩
    cases j with
    | zero =>
      have e' : (u, y) = (k, v) := Option.some.inj e
      cases e'
      exact ⟨p, kv.1, rfl, rfl, ht, kV_is (P := X.prog) (w := X.w) ru⟩
    | succ j =>
      obtain ⟨b, q, e1, e2, e3, e4⟩ := hp j k v (by simpa using e)
      exact ⟨b, q, by simpa using e1, by simpa using e2, e3, e4⟩
def rDictT (K : PySem.W.Frag) : List V → Hp → VK → Prop := fun xs H Q => ∃ (a : Addr) (ps : List Addr) (kvs : List (Key × V)), xs = [.ref a] ∧ PlT K H a ∧ SqT K H a (ps.map V.ref) ∧ Paired (fun p kv => SqT K H p [kV kv.1, kv.2]) ps kvs ∧
    ∀ p, H p = none → Q (.ref p) (upd H p (.dK (mergeK [] kvs)))
/-- dict(t): later pairs win, the place is the first one's -/
theorem call_dictT (hcalm : X.calm = true) : CallR X (.type "dict") (rDictT X.K) := by
  intro pins s σ H xs us Q I r q
  obtain ⟨a, ps, kvs, ex, pl, hq, hp, q⟩ := q
  subst ex
  obtain ⟨u, eu, rx⟩ := vals1 r
  subst eu
  cases rx
  obtain ⟨its, o, n, rv, ho, hc, hd, hdat, hz⟩ := plain_tup I pl hq
  have ei := refs_at rv
  subst ei
  rw [List.length_map] at hz
  obtain ⟨prs, us, rel, hl, hl2, hpr⟩ := pairs_of2 I hp
  have items : PySem.PairItems s.heap (ps.map Value.ref).toArray (fun j => ps.getD j 0) us := ⟨by simp [hl2], fun j k v e => by
    obtain ⟨b, q, e1, e2, e3, e4⟩ := hpr j k v e
    have eb : ps.getD j 0 = b := by rw [List.getD_eq_getElem?_getD, e1]; rfl
    refine ⟨by simp [e1], ?_⟩
    show PySem.PairAt s.heap (ps.getD j 0) k v
    rw [eb]
    obtain ⟨o', ho', hc', n', hd'⟩ := e3
    exact .inl ⟨o', ho', hc', n', hd'⟩⟩
  refine PySem.call_dict_pairs (knd := mixKind X.prog X.w) (kvs := prs) (PySem.PairArg.tuple a (ps.map Value.ref).toArray (fun j => ps.getD j 0) us) (I.ok.hd hcalm) ⟨⟨o, n, ho, hc, hd, hdat⟩, items⟩ ⟨by rw [hl, hl2], fun i key v e => ?_⟩ (by rw [hl2]; exact hz) fun h' tk hd' k => ?_
  · obtain ⟨b, q, e1, e2, e3, e4⟩ := hpr i key v e
    exact ⟨q, e2, e4⟩
  · have hm : (s.heap.objs.size == sysModules) = false := beq_eq_false_iff_ne.mpr (Nat.ne_of_gt I.big)
    have hlen : (mergeK [] kvs).length ≤ sizeLine := by
      refine Nat.le_trans (length_mergeK kvs []) ?_
      rw [List.length_nil, Nat.zero_add, rel.length, hl]
      exact hz
    exact ⟨.ref s.heap.objs.size, upd H s.heap.objs.size (.dK (mergeK [] kvs)), I.laid (t' := tk) (fun b o e => k b o (by simp) e) (Nat.le_refl _) (show ObjOk X.prog X.w _ _ _ (.dK (mergeK [] kvs)) from ⟨hlen, hm, merged [] prs, KV.merge rel .nil, hd'⟩), rfl, q _ (I.hok.fresh (Nat.le_refl _))⟩
end
/-- pairs of a key and a datum -/
def prD (es : List (Key × PyData)) : List PyData := es.map fun e => .tuple [kD e.1, e.2]
theorem dn_prs {K : PySem.W.Frag} {G : Hp} : ∀ {xs : List V} {es : List (Key × PyData)}, DnAll K G xs (prD es) → ∃ (ps : List Addr) (kvs : List (Key × V)), xs = ps.map V.ref ∧ Paired (fun p kv => SqT K G p [kV kv.1, kv.2]) ps kvs ∧ DkAll K G kvs es
  | _, [], .nil => ⟨[], [], rfl, .nil, .nil⟩
  | _, e :: es, .cons h t => by
    obtain ⟨ps, kvs, e1, e2, e3⟩ := dn_prs (es := es) t
    cases h with
    | @tup a us _ _ sq al =>
      cases al with
      | cons h1 t1 =>
        cases t1 with
        | cons h2 t2 =>
          cases t2
          have ek := dn_key h1
          subst ek
          exact ⟨a :: ps, (e.1, _) :: kvs, by rw [e1]; rfl, .cons sq e2, .cons ⟨rfl, h2⟩ e3⟩
theorem dk_merge {K : PySem.W.Frag} {G : Hp} {kvs : List (Key × V)} {es : List (Key × PyData)} (h : DkAll K G kvs es) : ∀ {acc : List (Key × V)} {ds : List (Key × PyData)}, DkAll K G acc ds → DkAll K G (mergeK acc kvs) (es.foldl (fun es q => putD es q.1 q.2) ds) := by
  induction h with
  | nil => exact fun a => a
  | @cons p q ps qs h t ih =>
    intro acc ds a
    obtain ⟨e, x⟩ := h
    have := ih (a.put p.1 x)
    rw [show mergeK acc (p :: ps) = mergeK (putK acc p.1 p.2) ps from rfl]
    show DkAll K G _ (qs.foldl _ (putD ds q.1 q.2))
    rw [← e]
    exact this
theorem nx_dictT {K : PySem.W.Frag} {ρ : Rho} {te : TE} {P : Mo → Prop} {es : List (Key × PyData)} (h : Pd K te ρ (.tuple (prD es))) (k : ∀ l, P (dkM l (mkD es))) : Nx K (tCB (rDictT K) (tCons te tNil)) ρ P := fun T H0 G H σ gh tp D Q q =>
  h.bind gh tp D fun d v G1 H1 p1 s1 gh1 tp1 D1 x1 => by
    subst p1
    cases x1 with
    | @tup a xs _ pl sq al =>
      obtain ⟨ps, kvs, rfl, pr, dk⟩ := dn_prs al
      refine ⟨a, ps, kvs, rfl, pl.mono gh1, sqt_mono gh1 sq, Paired.mapP pr fun _ _ z => sqt_mono gh1 z, fun p hp => ?_⟩
      have nt : ¬ T p := tape_some tp1 hp
      refine q (dkM p (mkD es)) _ _ _ (k p) (s1.trans (Step.newM (o := .dK (mergeK [] kvs)) gh1 tp1 hp)) ⟨rfl, _, upd_same, dk_merge dk .nil⟩ fun c hc => ?_
      rw [List.mem_singleton.mp hc]
      exact ⟨(by rw [upd_same]; intro z; cases z), gh1.free hp, s1.no hp nt, nt⟩
/-- return of a new changeable thing -/
theorem wx_rete {K : PySem.W.Frag} {ρ : Rho} {te : TE} {P : Mo → Prop} (h : Nx K te ρ P) : WsX K (tRet te) ρ P := fun T G0 H0 σ H D a q => by
  obtain ⟨G, s, D0⟩ := a
  exact h T H0 G H σ s.gh s.tp D0 _ fun m v G' H' p s' hm ow => q m v G' H' p (s.trans s') hm fun a ha => ⟨(ow a ha).1, (ow a ha).2.1, s.no (ow a ha).2.2.1 (ow a ha).2.2.2, (ow a ha).2.2.2⟩
theorem find_put (es : List (Key × PyData)) (k j : Key) (d : PyData) : ((es.map fun q => if q.1 = k then (q.1, d) else q).find? fun q => decide (q.1 = j)).map (·.2) = if j = k then (if (es.any fun q => decide (q.1 = k)) = true then some d else none) else (es.find? fun q => decide (q.1 = j)).map (·.2) := by
  induction es with
  | nil => by_cases h : j = k <;> simp [h]
  | cons q es ih =>
    rw [List.map_cons, List.find?_cons, List.find?_cons, List.any_cons]
    by_cases a : q.1 = k
    · rw [if_pos a]
      by_cases b : q.1 = j
      · have e : j = k := b.symm.trans a
        subst e
        simp [a]
      · have ne : ¬ j = k := fun z => b (a.trans z.symm)
        rw [show decide ((q.1, d).1 = j) = false from decide_eq_false b]
        show (List.find? _ _).map _ = _
        rw [ih, if_neg ne, if_neg ne]
    · rw [if_neg a]
      by_cases b : q.1 = j
      · have ne : ¬ j = k := fun z => a (b.trans z)
        rw [if_neg ne]
        simp [b]
      · rw [show decide (q.1 = j) = false from decide_eq_false b, show decide (q.1 = k) = false from decide_eq_false a, Bool.false_or]
        exact ih
theorem valD_put (es : List (Key × PyData)) (k j : Key) (d : PyData) : valD (putD es k d) j = if j = k then some d else valD es j := by
  unfold valD putD
  split
  · rename_i h
    rw [find_put, if_pos h]
  · rename_i h
    have h : (es.any fun q => decide (q.1 = k)) = false := eq_false_of_ne_true h
    rw [List.find?_append]
    by_cases e : j = k
    · subst e
      have n : (es.find? fun q => decide (q.1 = j)) = none := by
        rw [List.find?_eq_none]
        intro x hx
        rw [List.any_eq_false] at h
        exact h x hx
      rw [n, if_pos rfl]
      simp
    · rw [if_neg e]
      have n : ([(k, d)].find? fun q => decide (q.1 = j)) = none := by
        simp [Ne.symm e]
      rw [n]
      simp
theorem valD_mk_snoc (qs : List (Key × PyData)) (q : Key × PyData) (j : Key) : valD (mkD (qs ++ [q])) j = if j = q.1 then some q.2 else valD (mkD qs) j := by
  rw [mkD_snoc, valD_put]
end PD

set_option maxHeartbeats 2000000
/-! PD43: d.update(e) with a new dict -/
namespace PD
open PySem PySem.Spec PyProof.Rows L2
def rDUpd : V → List V → Hp → VK → Prop := fun x vs H Q => ∃ (a b : Addr) (kvs more : List (Key × V)), x = .ref a ∧ vs = [.ref b] ∧ a ≠ b ∧ H a = some (.dK kvs) ∧ H b = some (.dK more) ∧ kvs.length + more.length ≤ sizeLine ∧ Q .non (upd H a (.dK (mergeK kvs more)))
theorem mt_dupd {X : Cx} : MtM X "dict.update" rDUpd := by
  intro pins s σ H x vs v us Q I rx rv h
  obtain ⟨a, b, kvs, more, rfl, rfl, ne, e, e2, hz, q⟩ := h
  cases rx
  obtain ⟨u, eu, ru⟩ := vals1 rv
  subst eu
  cases ru
  obtain ⟨z, hd, vs, rel, dd⟩ := dk_of I.hok e
  obtain ⟨z2, hd2, ws, rel2, dd2⟩ := dk_of I.hok e2
  refine call_meetsIn PySem.F.slot_dict_update dd.typeIs PySem.F.entry_dict_update (PySem.F.args_dict_update_2 _ _) (PySem.meets_dict_update (mixKind X.prog X.w) a b ne hd2)
    ⟨vs, ws, dd, dd2, by rw [← rel.length, ← rel2.length]; exact hz, fun h' dd' _ hs => ?_⟩
  have he : ∃ q, h'.get? a = some q := let ⟨q, _, _, hq, _⟩ := dd'; ⟨q, hq⟩
  have hl : (mergeK kvs more).length ≤ sizeLine := Nat.le_trans (length_mergeK more kvs) hz
  exact ⟨.non, _, d_write I (by rw [e]; exact True.intro) hs he (dk_new hl hd (KV.merge rel2 rel) dd'), rfl, q⟩
section
variable {K : PySem.W.Frag} {ρ : Rho} {te : TE} {E : Ed} {u : TS}
/-- these, put behind one another into es -/
def updD (es qs : List (Key × PyData)) : List (Key × PyData) := qs.foldl (fun es q => putD es q.1 q.2) es
theorem ws_dupd {i : Nat} {l : Addr} {es : List (Key × PyData)} {P : List (Key × PyData) → Prop} (e : ρ[i]? = some (.mx (dkM l es))) (h : Nx K te ρ (fun m => ∃ l2 qs, m = dkM l2 qs ∧ P qs)) (hz : ∀ qs, P qs → es.length + qs.length ≤ sizeLine)
    (k : ∀ qs, P qs → E.nx (ρ.set i (.mx (dkM l (updD es qs))))) : Ws K (tDrop (tBM K "dict" rDUpd (tVar i) (tCons te tNil))) ρ E := fun T G0 H0 σ H D a ed => by
  obtain ⟨G, s, D0⟩ := a
  obtain ⟨o, e1, ⟨rfl, kvs, hl, al⟩, ow⟩ := D0.at e
  have own := ow l List.mem_cons_self
  refine ⟨_, e1, .inr (.inr (.inl ⟨rfl, .inl ⟨kvs, hl⟩⟩)), h T H0 G H σ s.gh s.tp D0 _ fun m v G2 H2 p s2 hm ow2 => ?_⟩
  obtain ⟨l2, qs, rfl, hp⟩ := p
  obtain ⟨ev, more, hl2, al2⟩ := hm
  cases ev
  have D2 := D0.mono s2
  obtain ⟨o3, e3, ⟨q3, kvs3, hl3, al3⟩, ow3⟩ := D2.at e
  rw [e1] at e3
  cases e3
  have ne : l ≠ l2 := fun z => by
    have := (ow2 l2 List.mem_cons_self).2.2.1
    rw [← z, hl] at this
    cases this
  have dm : DkAll K G2 (mergeK kvs3 more) (updD es qs) := dk_merge al2 al3
  obtain ⟨s4, D4⟩ := D2.mutx (s.trans s2) e e1 (m' := dkM l (updD es qs)) (H' := upd H2 l (.dK (mergeK kvs3 more))) (fun c w nc ec => by rw [upd_ne (fun z => nc (by rw [z]; exact List.mem_cons_self))]; exact ec) ⟨rfl, _, upd_same, dm⟩ fun c hc => by
    rw [List.mem_singleton.mp hc]
    exact ⟨(by rw [upd_same]; intro z; cases z), .inl List.mem_cons_self⟩
  refine ⟨l, l2, kvs3, more, rfl, rfl, ne, hl3, hl2, ?_, ed.nx _ _ _ (k qs hp) ⟨G2, s4, D4⟩⟩
  have := hz qs hp
  rw [Paired.length al3, Paired.length al2]
  exact this
end
end PD

set_option maxHeartbeats 2000000
/-! PD44: sorted(d) of a dict that is data, its keys ints -/
namespace PD
open PySem PySem.Spec PyProof.Rows L2
def rSortedDI : List V → Hp → VK → Prop := fun xs H Q => ∃ (a : Addr) (kvs : List (Key × V)) (ks : List Int), xs = [.ref a] ∧ Rd H a (.dK kvs) ∧ kvs.map (·.1) = ks.map Sum.inl ∧ ks.length < 64 ∧
    ∀ (ys : List Int) (p : Addr), ys.Perm ks → ys.Pairwise (· ≤ ·) → H p = none → Q (.ref p) (upd H p (.lst (ys.map V.int)))
theorem cr_sortedDI {X : Cx} (hcalm : X.calm = true) : CallR X (.builtin "sorted") rSortedDI := call_sortedDI hcalm
section
variable {K : PySem.W.Frag} {ρ : Rho} {te : TE}
theorem nl_sortedD {es : List (Key × PyData)} {ks : List Int} (h : Pd K te ρ (dD es)) (hk : es.map (·.1) = ks.map Sum.inl) (hl : ks.length < 64) : Nl K (tCB rSortedDI (tCons te tNil)) ρ (fun ys => ∃ ns : List Int, ys = ns.map .int ∧ ns.Perm ks ∧ ns.Pairwise (· ≤ ·)) := fun T H0 G H σ gh tp D Q q =>
  h.bind gh tp D fun d v G1 H1 p1 s1 gh1 tp1 D1 x1 => by
    subst p1
    obtain ⟨a, o, kvs, rfl, e, al⟩ := dct_inv x1
    have kk : kvs.map (·.1) = es.map (·.1) := by
      have go : ∀ {kvs : List (Key × V)} {es : List (Key × PyData)}, DkAll K G1 kvs es → kvs.map (·.1) = es.map (·.1) := fun al => by
        induction al with
        | nil => rfl
        | cons r _ ih => rw [List.map_cons, List.map_cons, ih, r.1]
      exact go al
    refine ⟨a, kvs, ks, rfl, .inr ⟨o, gh1 _ _ e⟩, kk.trans hk, hl, fun ns p hp hs hn => ?_⟩
    exact q (ns.map .int) p (ns.map V.int) G1 _ ⟨ns, rfl, hp, hs⟩ (s1.trans (Step.newM gh1 tp1 hn)) (s1.no hn (tape_some tp1 hn)) (tape_some tp1 hn) (gh1.free hn) upd_same (DnAll.of_ints ns)
end
end PD

set_option maxHeartbeats 2000000
/-! PD45: the keys of a data dict, walked -/
namespace PD
open PySem PySem.Spec PyProof.Rows L2
theorem dn_kV {K : PySem.W.Frag} {G : Hp} (k : Key) : Dn K G (kV k) (kD k) := by
  cases k with
  | inl i => exact .int i
  | inr x => exact .str x
theorem itd_keys {K : PySem.W.Frag} {G : Hp} {d : Addr} {o : Obj} {kvs : List (Key × V)} {es : List (Key × PyData)} (h : G d = some (.frz o (.dK kvs))) (al : DkAll K G kvs es) : Itd K (Itk d o kvs) G (es.map fun q => kD q.1) where
  go := fun i H g hi => by
    rw [List.length_map, ← Paired.length al] at hi
    exact ⟨g _ _ h, hi⟩
  stop := fun i H g hi => by
    rw [List.length_map, ← Paired.length al] at hi
    exact ⟨g _ _ h, hi⟩
  yld := fun i T G' H x H' g1 g2 tp hi y => by
    obtain ⟨rfl, k, v, e, rfl⟩ := y
    refine ⟨G', kD k, ?_, Step.refl g2 tp, dn_kV k⟩
    have go : ∀ {kvs : List (Key × V)} {es : List (Key × PyData)} {i : Nat}, DkAll K G kvs es → kvs[i]? = some (k, v) → (es.map fun q => kD q.1)[i]? = some (kD k) := fun {kvs es i} al => by
      induction al generalizing i with
      | nil => exact fun h => by simp at h
      | cons r _ ih =>
        intro h
        cases i with
        | zero =>
          have h : _ = (k, v) := Option.some.inj h
          show some (kD _) = _
          rw [← r.1, h]
        | succ i => exact ih (by simpa using h)
    exact go al e
/-- for k in d -/
theorem it_keys {K : PySem.W.Frag} {ρ : Rho} {td : TE} {es : List (Key × PyData)} (h : Pd K td ρ (dD es)) : Pitd K (iKeys td) ρ (es.map fun q => kD q.1) := fun T H0 G H σ gh tp D R q =>
  h.bind gh tp D fun d v G1 H1 p1 s1 gh1 tp1 D1 x1 => by
    subst p1
    obtain ⟨a, o, kvs, rfl, e, al⟩ := dct_inv x1
    exact ⟨a, o, rfl, .inl ⟨kvs, gh1 _ _ e, q _ _ G1 H1 rfl s1 (itd_keys e al)⟩⟩
end PD

set_option maxHeartbeats 2000000
/-! PD46: f'a{i}c' -/
namespace PD
open PySem PySem.Spec PyProof.Rows L2
/-- f'a{i}c' -/
theorem ye_js3 {K : PySem.W.Frag} {ρ : Rho} {ta : TE} {i : Int} {a c : Str} (h : Pd K ta ρ (.int i)) (h1 : 0 ≤ i) (h2 : i < 10 ^ 6) (ha : a.length ≤ 1000 := by decide +kernel) (hc : c.length ≤ 1000 := by decide +kernel) : Pe K (fun σ H Q => tJs [tC (.str a), tFmt ta, tC (.str c)] Str.empty σ H fun out H1 => Q (.str out) H1) ρ (fun d => ∃ y, d = .str y) := fun T H0 G H σ gh tp D Q q => by
  have e1 : (Str.empty ++ a).length ≤ 1000 := by
    rw [str_app]
    show 0 + _ ≤ 1000
    omega
  refine ⟨a, rfl, Nat.le_trans e1 (by decide), ?_⟩
  refine h.bind gh tp D fun d v G1 H1 p1 s1 gh1 tp1 D1 x1 => ?_
  subst p1
  cases x1
  have l1 : (Str.ofString (toString i)).length ≤ 7 := by
    rw [PySem.ofString_length]
    exact int_text_length_le10 (k := 6) (by decide) (by omega)
  have e0 : (Str.empty ++ a ++ Str.ofString (toString i)).length ≤ 1007 := by
    rw [str_app]
    omega
  refine .inr ⟨i, rfl, ?_, _, rfl, Nat.le_trans e0 (by decide), c, rfl, ?_, ?_⟩
  · have : i.natAbs < 2 ^ 1920 := Nat.lt_of_lt_of_le (show i.natAbs < 10 ^ 6 by omega) (by decide +kernel)
    by_cases z : i.natAbs = 0
    · rw [z]; decide
    · exact (Nat.log2_lt z).mpr this
  · rw [str_app]
    show _ ≤ (16777216 : Nat)
    have : (Str.empty ++ a ++ (toString i : Str)).length ≤ 1007 := e0
    omega
  · exact q _ _ G1 H1 ⟨_, rfl⟩ s1 (.str _)
end PD

set_option maxHeartbeats 2000000
/-! PD47: d.items() of a dict with keys that are ints or texts, as an object -/
namespace PD
open PySem PySem.Spec PyProof.Rows L2
def rItemsK : V → List V → Hp → VK → Prop := fun x xs H Q => ∃ (a : Addr) (kvs : List (Key × V)), x = .ref a ∧ xs = [] ∧ H a = some (.dK kvs) ∧ ∀ p, H p = none → Q (.ref p) (upd H p (L2.DX.itemsO p a))
theorem mt_itemsK {X : Cx} : MtR X "dict.items" rItemsK := by
  intro pins s σ H x xs v us Q I rx rxs h
  obtain ⟨a, kvs, rfl, rfl, ha, q⟩ := h
  cases rx
  cases rxs
  obtain ⟨z, hd, vs, rel, o, es, ep, ho, hx, hdat, _⟩ := dk_of I.hok ha
  refine DT.callItems (es := es) (ep := ep) hd ⟨o, ho, hx, hdat⟩ ?_
  have hf : H s.heap.objs.size = none := I.hok.fresh (Nat.le_refl _)
  exact ⟨.ref s.heap.objs.size, upd H s.heap.objs.size (L2.DX.itemsO s.heap.objs.size a), I.laid (t' := s.toks) (fun b u e => Heap.get?_push_of_some _ e) (Nat.le_refl _) (L2.DX.itemsO_ok (Heap.get?_push_size _ rfl)), rfl, q _ hf⟩
end PD

set_option maxHeartbeats 2000000
/-! PD48: sorted(d.items()) of a dict of ints -/
namespace PD
open PySem PySem.Spec PyProof.Rows L2 L2.DX
theorem prs_get {P : Program} {w : World} : ∀ {es : List DictEntry} {vs : List (Key × Value)} {j : Nat} {e : DictEntry}, PySem.Pairs (mixKind P w) es vs → es[j]? = some e → ∃ kv, vs[j]? = some kv ∧ keyIs kv.1 e.key = true ∧ e.val = kv.2
  | _, _, j, e, .nil, h => by simp at h
  | _, _, 0, e, .cons a b t, h => by
    have h := Option.some.inj h
    subst h
    exact ⟨_, rfl, a, b⟩
  | _, _, j + 1, e, .cons a b t, h => by
    obtain ⟨kv, h1, h2⟩ := prs_get (j := j) t (by simpa using h)
    exact ⟨kv, by simpa using h1, h2⟩
theorem prs_len {P : Program} {w : World} : ∀ {es : List DictEntry} {vs : List (Key × Value)}, PySem.Pairs (mixKind P w) es vs → es.length = vs.length
  | _, _, .nil => rfl
  | _, _, .cons a b t => congrArg (· + 1) (prs_len t)
/-- tuples already laid are tracked, as they are -/
theorem takeF {X : Cx} {pins : List (Addr × Obj)} {σ : L2.St} {H0 : Hp} {s : Shared} {h' : Heap} {tk : Nat} {P : Addr → Obj → List V → Prop} (I0 : Inv X pins σ H0 s) : ∀ (L : List Addr) (H1 : Hp), Inv X pins σ H1 { s with heap := h', toks := tk } → L.Nodup →
    (∀ a ∈ L, s.heap.objs.size ≤ a ∧ H1 a = none ∧ ∃ o vs, P a o vs ∧ ∀ H2, ObjOk X.prog X.w H2 h' a (.frz o (.tup vs))) →
    ∃ H2, Inv X pins σ H2 { s with heap := h', toks := tk } ∧ (∀ b o, H1 b = some o → H2 b = some o) ∧ (∀ a ∈ L, ∃ o vs, P a o vs ∧ H2 a = some (.frz o (.tup vs))) ∧ ∀ b, b ∉ L → H2 b = H1 b
  | [], H1, I1, _, _ => ⟨H1, I1, fun _ _ e => e, fun _ h => (nomatch h), fun _ _ => rfl⟩
  | a :: L, H1, I1, hn, h => by
    obtain ⟨hb, hnone, o, vs, hP, ok⟩ := h a (List.mem_cons_self ..)
    have I2 : Inv X pins σ (upd H1 a (.frz o (.tup vs))) { s with heap := h', toks := tk } := I1.take (h' := h') (t' := tk) (fun b ob _ e => e) (I0.fpOk hb hnone) (ok _)
    rw [List.nodup_cons] at hn
    obtain ⟨H2, I3, g, q, f⟩ := takeF I0 L (upd H1 a (.frz o (.tup vs))) I2 hn.2 fun c hc => by
      obtain ⟨c1, c2, c3⟩ := h c (List.mem_cons_of_mem _ hc)
      exact ⟨c1, by rw [upd_ne (fun z => hn.1 (by rw [← z]; exact hc))]; exact c2, c3⟩
    refine ⟨H2, I3, fun b o e => g b o (by rw [upd_ne (ne_of_none e hnone)]; exact e), fun c hc => ?_, fun b hb => ?_⟩
    · rcases List.mem_cons.mp hc with rfl | hc
      · exact ⟨o, vs, hP, g _ _ upd_same⟩
      · exact q c hc
    · rw [f b (fun z => hb (List.mem_cons_of_mem _ z)), upd_ne (fun z => hb (by rw [z]; exact List.mem_cons_self))]
abbrev entK (e : Int × Int) : Key × V := (Sum.inl e.1, V.int e.2)
open Classical in
noncomputable def keyO (as : List Addr) (ks : List (Int × Int)) (v : Value) : Int × Int := if h : ∃ (e : Int × Int) (j : Nat) (b : Addr), as[j]? = some b ∧ v = .ref b ∧ ks[j]? = some e then Classical.choose h else (0, 0)
theorem keyO_at {as : List Addr} {ks : List (Int × Int)} (nd : as.Nodup) {j : Nat} {b : Addr} {e : Int × Int} (h1 : as[j]? = some b) (h2 : ks[j]? = some e) : keyO as ks (.ref b) = e := by
  have h : ∃ (e : Int × Int) (j : Nat) (c : Addr), as[j]? = some c ∧ Value.ref b = .ref c ∧ ks[j]? = some e := ⟨e, j, b, h1, rfl, h2⟩
  unfold keyO
  rw [dif_pos h]
  obtain ⟨i, c, c1, c2, c3⟩ := Classical.choose_spec h
  cases c2
  have ij : i = j := (List.getElem?_inj (List.getElem?_eq_some_iff.mp c1).1 nd).mp (c1.trans h1.symm)
  subst ij
  rw [h2] at c3
  exact (Option.some.inj c3).symm
def rSortItK : List V → Hp → VK → Prop := fun vs H Q => ∃ (p a : Addr) (ks : List (Int × Int)), vs = [.ref p] ∧ H p = some (itemsO p a) ∧ H a = some (.dK (ks.map entK)) ∧ ks.length ≤ sizeLine ∧
  ∀ (H' : Hp) (l : Addr) (ps : List (Addr × Int × Int)), (∀ b o, H b = some o → H' b = some o) → (ps.map (·.2)).Perm ks → (ps.map (·.2)).Pairwise (fun e f => e.1 ≤ f.1) → H l = none → H' l = some (.lst (ps.map fun z => V.ref z.1)) →
    (∀ z ∈ ps, H z.1 = none ∧ ∃ o, H' z.1 = some (.frz o (.tup [.int z.2.1, .int z.2.2])) ∧ o.dict = none) → (∀ b, b ≠ l → b ∉ ps.map (·.1) → H' b = H b) → Q (.ref l) H'
theorem cr_sortItK {X : Cx} (hc : X.calm = true) : CallR X (.builtin "sorted") rSortItK := by
  intro pins s σ H xs us Q I r h
  obtain ⟨p, a, ks, rfl, hp, ha, hz, q⟩ := h
  obtain rfl := Vals.ref1 r
  have view : s.heap.IsItemsView p a := (show ObjOk X.prog X.w H s.heap p (itemsO p a) from I.hok p _ hp).1
  obtain ⟨z, hd, vs, rel, o, es, ep, ho, hx, hdat, _, hpr, _⟩ := dk_of I.hok ha
  have l1 : (ks.map entK).length = vs.length := Paired.length rel
  rw [List.length_map] at l1
  have l2 : es.size = vs.length := by rw [← Array.length_toList]; exact prs_len hpr
  have hh : X.A.handled = none := I.ok.hd hc
  refine DT.sortedI (es := es) (ep := ep) hh view ⟨o, ho, hx, hdat⟩ (by rw [l2, ← l1]; exact hz) fun h' tk as hk hlt hl hG => ?_
  have lak : as.length = ks.length := by omega
  have nd : as.Nodup := List.Pairwise.imp (fun h => Nat.ne_of_lt h) hG.rise
  -- the pairs that were made
  have pr : ∀ (j : Nat) (b : Addr), as[j]? = some b → ∃ (e : Int × Int) (t1 t2 : Tok), ks[j]? = some e ∧ h'.get? b = some { cls := .type "tuple", data := .seq #[Value.int e.1 t1, Value.int e.2 t2] } := by
    intro j b hj
    obtain ⟨en, he, hg⟩ := hG.pairs j b hj
    obtain ⟨kv, hv, k1, k2⟩ := prs_get hpr (by rw [Array.getElem?_toList]; exact he)
    obtain ⟨e0, he0, r1, r2⟩ := pget rel hv
    rw [List.getElem?_map] at he0
    obtain ⟨e, hkj, ee⟩ := Option.map_eq_some_iff.mp he0
    rw [← ee] at r1 r2
    obtain ⟨t2, e2⟩ := r2
    have r1 : Sum.inl e.1 = kv.1 := r1
    rw [← r1] at k1
    obtain ⟨t1, e1⟩ := relV_key k1
    refine ⟨e, t1, t2, hkj, ?_⟩
    rw [hg, e1, k2, e2]
  -- the heap of the sort
  have hob : (h'.push { cls := .type "list", data := .seq (as.map Value.ref).toArray }).get? h'.objs.size = some (seqObj "list" (as.map Value.ref).toArray 0) := Heap.get?_push_size _ rfl
  have kb : ∀ b o, s.heap.get? b = some o → (h'.push { cls := .type "list", data := .seq (as.map Value.ref).toArray }).get? b = some o := fun b o e => Heap.get?_push_of_some _ (hk b o e)
  have ne0 : ∀ b o, h'.get? b = some o → b ≠ h'.objs.size := fun b o e => Nat.ne_of_lt (Heap.lt_size e)
  generalize hh2 : h'.push { cls := .type "list", data := .seq (as.map Value.ref).toArray } = h2 at hob kb ⊢
  have ka : ∀ b o, h'.get? b = some o → h2.get? b = some o := fun b o e => by rw [← hh2]; exact Heap.get?_push_of_some _ e
  have at_ : ∀ v ∈ as.map Value.ref, ∃ (j : Nat) (b : Addr) (e : Int × Int), v = .ref b ∧ as[j]? = some b ∧ ks[j]? = some e := by
    intro v hv'
    obtain ⟨b, hb, rfl⟩ := List.mem_map.mp hv'
    obtain ⟨j, hj⟩ := List.mem_iff_getElem?.mp hb
    obtain ⟨e, _, _, he, _⟩ := pr j b hj
    exact ⟨j, b, e, rfl, hj, he⟩
  refine wpAny_call_entry PyProof.Rows.slot_list_sort ⟨_, hob, rfl⟩ PyProof.Rows.entry_list_sort
    (SrtO.list_sort_ord (s := { s with heap := h2, toks := tk }) (SrtO.swo_lex (keyO as ks)) hob (by rw [List.length_map, lak]; exact hz) (fun hl2 => SrtO.pairs_sortableO (by omega) (fun v hv' => ?_) fun o e c => ?_) fun out o1 o2 => ⟨.none, rfl, ?_⟩) (PyProof.Rows.args_list_sort _)
  · obtain ⟨j, b, e, rfl, hj, he⟩ := at_ v hv'
    obtain ⟨e', t1, t2, he', hg⟩ := pr j b hj
    have ee : e' = e := Option.some.inj (he'.symm.trans he)
    subst ee
    rw [keyO_at nd hj he]
    exact ⟨b, _, t1, t2, 0, rfl, ka _ _ hg, rfl, rfl⟩
  · have e' : some o = some (seqObj "list" (as.map Value.ref).toArray 0) := e.symm.trans hob
    cases e'
    exact absurd (Value.type.inj c) (by decide)
  · show EP X pins σ Q (.ref h'.objs.size) { s with heap := sortedHeap h2 h'.objs.size (as.map Value.ref) out.toArray, toks := tk }
    obtain ⟨zs, pz, ez⟩ := perm_lift (fun z : Addr × Int × Int => Value.ref z.1) o2.perm (as.zip ks) (by
      have m1 : (as.zip ks).map (·.1) = as := List.map_fst_zip (by rw [lak]; exact Nat.le_refl _)
      show (as.zip ks).map (Value.ref ∘ (·.1)) = _
      rw [← List.map_map, m1])
    have idx : ∀ z ∈ zs, ∃ j : Nat, as[j]? = some z.1 ∧ ks[j]? = some z.2 := by
      intro z' hz'
      obtain ⟨j, hj⟩ := List.mem_iff_getElem?.mp (pz.mem_iff.mp hz')
      exact ⟨j, List.getElem?_zip_eq_some.mp hj⟩
    have hperm : (zs.map (·.2)).Perm ks := by
      have e := pz.map (·.2)
      have m2 : (as.zip ks).map (·.2) = ks := List.map_snd_zip (by rw [lak]; exact Nat.le_refl _)
      rw [m2] at e
      exact e
    have hfst : (zs.map (·.1)).Perm as := by
      have e := pz.map (·.1)
      have m2 : (as.zip ks).map (·.1) = as := List.map_fst_zip (by rw [lak]; exact Nat.le_refl _)
      rw [m2] at e
      exact e
    have hsort : (zs.map (·.2)).Pairwise (fun e f => e.1 ≤ f.1) := by
      have o1 : out.Pairwise (fun v u => SrtO.lexB (keyO as ks u) (keyO as ks v) = false) := o1
      rw [← ez, List.pairwise_map] at o1
      rw [List.pairwise_map]
      refine List.Pairwise.imp_of_mem (fun {x y} hx hy h => ?_) o1
      obtain ⟨j, j1, j2⟩ := idx x hx
      obtain ⟨i, i1, i2⟩ := idx y hy
      rw [keyO_at nd j1 j2, keyO_at nd i1 i2] at h
      have := SrtO.lexB_no.mp h
      omega
    -- behind the sort
    have kF : ∀ b o, b ≠ h'.objs.size → h2.get? b = some o → (sortedHeap h2 h'.objs.size (as.map Value.ref) out.toArray).get? b = some o := fun b o hb e => (PyProof.Rows.sortedHeap_old hb (Heap.lt_size e)).trans e
    have kS : ∀ b o, s.heap.get? b = some o → (sortedHeap h2 h'.objs.size (as.map Value.ref) out.toArray).get? b = some o := fun b o e => kF b o (ne0 _ _ (hk b o e)) (kb b o e)
    obtain ⟨eF, heF⟩ := PyProof.Rows.sortedHeap_at (vs := as.map Value.ref) (out := out.toArray) hob
    have I1 : Inv X pins σ H { s with heap := sortedHeap h2 h'.objs.size (as.map Value.ref) out.toArray, toks := tk } := I.kept (t' := tk) kS
    have hn0 : H h'.objs.size = none := I.hok.fresh (Nat.le_of_lt hlt)
    have hlen : (zs.map fun z => V.ref z.1).length ≤ sizeLine := by
      have e := hperm.length_eq
      rw [List.length_map] at e
      rw [List.length_map, e]
      exact hz
    have rv : Vals (zs.map fun z => V.ref z.1) out := by
      rw [← ez]
      exact vals_maps (fun z : Addr × Int × Int => V.ref z.1) (fun z => Value.ref z.1) zs fun _ _ => rfl
    have I2 : Inv X pins σ (upd H h'.objs.size (.lst (zs.map fun z => V.ref z.1))) { s with heap := sortedHeap h2 h'.objs.size (as.map Value.ref) out.toArray, toks := tk } :=
      I1.take (h' := sortedHeap h2 h'.objs.size (as.map Value.ref) out.toArray) (t' := tk) (fun b ob _ e => e) (I.fpOk (Nat.le_of_lt hlt) hn0) ⟨hlen, out, eF, rv, heF⟩
    obtain ⟨H2, I3, g, qt, fr⟩ := takeF (P := fun b o vs => ∃ (j : Nat) (e : Int × Int), as[j]? = some b ∧ ks[j]? = some e ∧ vs = [.int e.1, .int e.2] ∧ o.dict = none) I as _ I2 nd fun b hb => by
      obtain ⟨j, hj⟩ := List.mem_iff_getElem?.mp hb
      obtain ⟨e, t1, t2, he, hg⟩ := pr j b hj
      have hbl : s.heap.objs.size ≤ b := Nat.le_of_lt (hG.above b hb)
      have hgF := kF _ _ (ne0 _ _ hg) (ka _ _ hg)
      refine ⟨hbl, ?_, _, [.int e.1, .int e.2], ⟨j, e, hj, he, rfl, rfl⟩, fun H3 => ⟨hgF, by show 2 ≤ sizeLine; decide, [Value.int e.1 t1, Value.int e.2 t2], .cons ⟨_, rfl⟩ (.cons ⟨_, rfl⟩ .nil), ⟨_, hgF, rfl, _, rfl⟩⟩⟩
      rw [upd_ne (ne0 _ _ hg)]
      exact I.hok.fresh hbl
    have gr : ∀ b o, H b = some o → H2 b = some o := fun b o e => g b o (by rw [upd_ne (ne_of_none e hn0)]; exact e)
    refine ⟨.ref h'.objs.size, H2, I3, rfl, q H2 h'.objs.size zs gr hperm hsort hn0 (g _ _ upd_same) (fun z' hz' => ?_) fun b hb1 hb2 => ?_⟩
    · obtain ⟨i, i1, i2⟩ := idx z' hz'
      obtain ⟨o', vs', ⟨j, e, j1, j2, ev, od⟩, hH⟩ := qt z'.1 (List.mem_of_getElem? i1)
      have eij : i = j := (List.getElem?_inj (List.getElem?_eq_some_iff.mp i1).1 nd).mp (i1.trans j1.symm)
      subst eij
      have ee : e = z'.2 := Option.some.inj (j2.symm.trans i2)
      rw [ev, ee] at hH
      exact ⟨I.hok.fresh (Nat.le_of_lt (hG.above _ (List.mem_of_getElem? i1))), o', hH, od⟩
    · rw [fr b (fun z => hb2 (hfst.mem_iff.mpr z)), upd_ne hb1]
end PD

set_option maxHeartbeats 2000000
/-! PD49: sorted(d.items()) of a changeable dict of ints -/
namespace PD
open PySem PySem.Spec PyProof.Rows L2 L2.DX
theorem mt_itemsR {X : Cx} : MtR X "dict.items" rItemsK := mt_itemsK
section
variable {K : PySem.W.Frag} {ρ : Rho}
abbrev entD (e : Int × Int) : Key × PyData := (Sum.inl e.1, PyData.int e.2)
theorem dk_ents {G : Hp} : ∀ {ks : List (Int × Int)} {kvs : List (Key × V)}, DkAll K G kvs (ks.map entD) → kvs = ks.map entK
  | [], _, .nil => rfl
  | e :: ks, _, .cons r t => by
    rw [dk_ents t]
    obtain ⟨a, b⟩ := r
    rename_i p ps
    obtain ⟨p1, p2⟩ := p
    have a2 : p1 = Sum.inl e.1 := a
    have b : Dn K G p2 (.int e.2) := b
    cases b
    rw [a2]
    rfl
theorem nl_sortIt {i : Nat} {l : Addr} {ks : List (Int × Int)} (e : ρ[i]? = some (.mx (dkM l (ks.map entD)))) (hz : ks.length ≤ sizeLine) : Nl K (tCB rSortItK (tCons (tBM0 K "dict" rItemsK (tVar i)) tNil)) ρ (fun xs => ∃ qs : List (Int × Int), qs.Perm ks ∧ qs.Pairwise (fun a b => a.1 ≤ b.1) ∧ xs = qs.map fun q => PyData.tuple [.int q.1, .int q.2]) := fun T H0 G H σ gh tp D Q q => by
  obtain ⟨o, e1, ⟨rfl, kvs, hl, al⟩, ow⟩ := D.at e
  have ek := dk_ents al
  subst ek
  refine ⟨_, e1, .inr (.inr (.inl ⟨rfl, .inl ⟨_, hl⟩⟩)), l, _, rfl, rfl, hl, fun p hp => ?_⟩
  have lp : l ≠ p := fun z => by rw [z, hp] at hl; cases hl
  refine ⟨p, l, ks, rfl, upd_same, by rw [upd_ne lp]; exact hl, hz, fun H' l2 ps gr perm srt hn hl2 hps fr => ?_⟩
  have up : ∀ a u, H a = some u → H' a = some u := fun a u ea => gr a u (by rw [upd_ne (ne_of_none ea hp)]; exact ea)
  have hn2 : H l2 = none := (upd_none hn).2
  have new : ∀ a, a ∈ ps.map (·.1) → H a = none := fun a ha => by
    obtain ⟨z, hzz, rfl⟩ := List.mem_map.mp ha
    exact (upd_none (hps z hzz).1).2
  have l2n : l2 ∉ ps.map (·.1) := fun h => by
    obtain ⟨z, hzz, e⟩ := List.mem_map.mp h
    obtain ⟨_, o, ho, _⟩ := hps z hzz
    rw [e, hl2] at ho
    cases ho
  let G' : Hp := fun b => if b ∈ ps.map (·.1) then H' b else G b
  have gin : ∀ {b}, b ∈ ps.map (·.1) → G' b = H' b := fun h => if_pos h
  have gout : ∀ {b}, b ∉ ps.map (·.1) → G' b = G b := fun h => if_neg h
  have sg : Same G G' := fun a u ea => by
    have : a ∉ ps.map (·.1) := fun h => by
      have := new a h
      rw [gh _ _ ea] at this
      cases this
    rw [gout this]
    exact ea
  have st : Step T G H G' H' := by
    refine ⟨sg, fun a u ea => ?_, fun a u _ ea => up a u ea, fun a ea na => ?_, fun a t => ?_⟩
    · by_cases h : a ∈ ps.map (·.1)
      · rw [gin h] at ea
        exact ea
      · rw [gout h] at ea
        exact up a u (gh _ _ ea)
    · by_cases h : a ∈ ps.map (·.1)
      · exact absurd (new a h) na
      · rw [gout h]
        exact ea
    · have z := tp a t
      obtain ⟨b, ns, x, y, m, e, eb, ea, r⟩ := id z
      refine z.mono sg ((up a _ e).trans e.symm) ?_
      have h : a ∉ ps.map (·.1) := fun h => by
        have := new a h
        rw [e] at this
        cases this
      rw [gout h]
      exact ea
  refine q _ l2 _ G' H' ⟨ps.map (·.2), perm, srt, rfl⟩ st hn2 (tape_some tp hn2) (by rw [gout l2n]; exact gh.free hn2) hl2 ?_
  have go : ∀ qs : List (Addr × Int × Int), (∀ z ∈ qs, z ∈ ps) → DnAll K G' (qs.map fun z => V.ref z.1) ((qs.map (·.2)).map fun q => PyData.tuple [.int q.1, .int q.2]) := fun qs => by
    induction qs with
    | nil => exact fun _ => .nil
    | cons z qs ih =>
      intro h
      have zm := h z List.mem_cons_self
      obtain ⟨_, o, ho, od⟩ := hps z zm
      have hg : G' z.1 = some (.frz o (.tup [.int z.2.1, .int z.2.2])) := (gin (List.mem_map.mpr ⟨z, zm, rfl⟩)).trans ho
      exact .cons (.tup (p := .inl ⟨o, _, hg, od⟩) (.inl (.inr ⟨o, hg⟩)) (.cons (.int _) (.cons (.int _) .nil))) (ih fun y hy => h y (List.mem_cons_of_mem _ hy))
  exact go ps fun _ h => h
end
end PD

set_option maxHeartbeats 2000000
/-! PD50: a dict is lent to an assignment of a comprehension -/
namespace PD
open PySem PySem.Spec PyProof.Rows L2
theorem ps_lendA {X : Cx} {st : Stmt} {te : TE} {j : Nat} (h : PS X st (tAsg te (gName j))) : PS X st (tAsg (tLockE te) (gName j)) := by
  refine ⟨fun pins s σ H D I q => ?_⟩
  obtain ⟨d, u, hd, mu, q⟩ := q
  obtain ⟨od, I1⟩ := I.lock hd mu
  have hn := I.nofrz hd mu
  refine thn (h.run pins s σ _ { nx := fun σ' H' => H' d = some (.frz od u) ∧ D.nx σ' (upd H' d u), rt := fun _ _ => False, bk := fun _ _ => False, ct := fun _ _ => False } I1 (q od)) fun f s' sp => ?_
  cases f with
  | next =>
    obtain ⟨σ', H', I', e, k⟩ := sp
    exact ⟨σ', _, I'.unlock e hn, k⟩
  | brk =>
    obtain ⟨_, _, _, k⟩ := sp
    exact k.elim
  | cont =>
    obtain ⟨_, _, _, k⟩ := sp
    exact k.elim
  | ret v =>
    obtain ⟨_, _, _, _, _, k⟩ := sp
    exact k.elim
end PD

set_option maxHeartbeats 2000000
/-! PD51: a list of lists that grow and of dicts, all of its own -/
namespace PD
open PySem PySem.Spec PyProof.Rows L2
inductive Bx where
  | ls (a : Addr) (xs : List PyData)
  | dk (a : Addr) (es : List (Key × PyData))
  | fz (a : Addr) (d : PyData)
def Bx.ad : Bx → Addr
  | .ls a _ => a
  | .dk a _ => a
  | .fz a _ => a
def Bx.own : Bx → Bool
  | .fz _ _ => false
  | _ => true
def Bx.ok (K : PySem.W.Frag) (G H : Hp) : Bx → Prop
  | .ls a xs => ∃ vs, H a = some (.lst vs) ∧ DnAll K G vs xs
  | .dk a es => ∃ kvs, H a = some (.dK kvs) ∧ DkAll K G kvs es
  | .fz a d => Dn K G (.ref a) d
def Bx.dat : Bx → PyData
  | .ls _ xs => .list xs
  | .dk _ es => dD es
  | .fz _ d => d
theorem Bx.frame {K : PySem.W.Frag} {G G' H H' : Hp} (g : Same G G') : ∀ {b : Bx}, (b.own = true → H' b.ad = H b.ad) → b.ok K G H → b.ok K G' H'
  | .ls a xs, h, ⟨vs, e, d⟩ => ⟨vs, (h rfl).trans e, d.mono g⟩
  | .dk a es, h, ⟨vs, e, d⟩ => ⟨vs, (h rfl).trans e, d.mono g⟩
  | .fz a d, h, x => Dn.mono g x
def boxM (l : Addr) (bs : List Bx) : Mo where
  fp := l :: (bs.filter Bx.own).map Bx.ad
  ok K G H o := o = some (.ref l) ∧ H l = some (.lst (bs.map fun b => V.ref b.ad)) ∧ (∀ b ∈ bs, b.ok K G H) ∧ (l :: bs.map Bx.ad).Nodup
  frame g h := fun ⟨e, q, r, n⟩ => ⟨e, (h l List.mem_cons_self).trans q, fun b hb => Bx.frame g (fun ow => h _ (List.mem_cons_of_mem _ (List.mem_map.mpr ⟨b, List.mem_filter.mpr ⟨hb, ow⟩, rfl⟩))) (r b hb), n⟩
theorem box_fp {l : Addr} {bs : List Bx} {a : Addr} : a ∈ (boxM l bs).fp ↔ a = l ∨ ∃ b ∈ bs, b.own = true ∧ b.ad = a := by
  show a ∈ l :: (bs.filter Bx.own).map Bx.ad ↔ _
  rw [List.mem_cons, List.mem_map]
  constructor
  · rintro (h | ⟨b, hb, e⟩)
    · exact .inl h
    · obtain ⟨h1, h2⟩ := List.mem_filter.mp hb
      exact .inr ⟨b, h1, h2, e⟩
  · rintro (h | ⟨b, h1, h2, e⟩)
    · exact .inl h
    · exact .inr ⟨b, List.mem_filter.mpr ⟨h1, h2⟩, e⟩
theorem map_set_same {α β : Type} {f : α → β} {bs : List α} {j : Nat} {b b' : α} (e : bs[j]? = some b) (h : f b' = f b) : (bs.set j b').map f = bs.map f := by
  refine List.ext_getElem? fun k => ?_
  rw [List.getElem?_map, List.getElem?_map]
  by_cases q : j = k
  · subst q
    rw [List.getElem?_set_self (List.getElem?_eq_some_iff.mp e).1, e]
    exact congrArg some h
  · rw [List.getElem?_set_ne q]
theorem set_mem {α : Type} {bs : List α} {j : Nat} {b' x : α} (h : x ∈ bs.set j b') : x = b' ∨ ∃ k, k ≠ j ∧ bs[k]? = some x := by
  obtain ⟨k, hk⟩ := List.getElem?_of_mem h
  by_cases q : j = k
  · subst q
    have := (List.getElem?_eq_some_iff.mp hk).1
    rw [List.length_set] at this
    rw [List.getElem?_set_self this] at hk
    exact .inl (Option.some.inj hk).symm
  · rw [List.getElem?_set_ne q] at hk
    exact .inr ⟨k, fun z => q z.symm, hk⟩
theorem nodup_ne {α β : Type} {f : α → β} {l : β} {bs : List α} (n : (l :: bs.map f).Nodup) {j k : Nat} {b c : α} (h1 : bs[j]? = some b) (h2 : bs[k]? = some c) (h : k ≠ j) : f c ≠ f b ∧ f b ≠ l := by
  obtain ⟨n1, n2⟩ := List.nodup_cons.mp n
  refine ⟨fun z => ?_, fun z => n1 (z ▸ List.mem_map_of_mem (List.mem_of_getElem? h1))⟩
  rw [List.nodup_iff_pairwise_ne, List.pairwise_iff_getElem] at n2
  have lj := (List.getElem?_eq_some_iff.mp h1).1
  have lk := (List.getElem?_eq_some_iff.mp h2).1
  have ej : (bs.map f)[j]'(by rw [List.length_map]; exact lj) = f b := by rw [List.getElem_map]; exact congrArg f (List.getElem?_eq_some_iff.mp h1).2
  have ek : (bs.map f)[k]'(by rw [List.length_map]; exact lk) = f c := by rw [List.getElem_map]; exact congrArg f (List.getElem?_eq_some_iff.mp h2).2
  rcases Nat.lt_or_gt_of_ne h with q | q
  · exact n2 k j (by rw [List.length_map]; exact lk) (by rw [List.length_map]; exact lj) q (by rw [ek, ej, z])
  · exact n2 j k (by rw [List.length_map]; exact lj) (by rw [List.length_map]; exact lk) q (by rw [ek, ej, z])
section
variable {T : Addr → Prop} {K : PySem.W.Frag} {G0 H0 G H G' H' : Hp} {σ : L2.St} {ρ : Rho} {E : Ed} {u : TS} {ty tx te : TE} {P : PyData → Prop} {l a : Addr} {bs : List Bx} {i j : Nat}
theorem box_set {o : Option V} {b b' : Bx} {w : HO} (h : (boxM l bs).ok K G H o) (g : Same G G') (ej : bs[j]? = some b) (ad : b'.ad = b.ad) (hb : b'.ok K G' (upd H b.ad w)) : (boxM l (bs.set j b')).ok K G' (upd H b.ad w) o := by
  obtain ⟨e, q, r, n⟩ := h
  have nl : b.ad ≠ l := fun z => (List.nodup_cons.mp n).1 (z ▸ List.mem_map_of_mem (List.mem_of_getElem? ej))
  refine ⟨e, ?_, fun x hx => ?_, ?_⟩
  · rw [upd_ne (Ne.symm nl), q, map_set_same (f := fun b : Bx => V.ref b.ad) ej (by rw [ad])]
  · rcases set_mem hx with rfl | ⟨k, hk, ek⟩
    · exact hb
    · exact Bx.frame g (fun _ => upd_ne (nodup_ne (f := Bx.ad) n ej ek hk).1) (r x (List.mem_of_getElem? ek))
  · rw [map_set_same (f := Bx.ad) ej ad]
    exact n
theorem box_setfp {b b' : Bx} {c : Addr} (h : c ∈ (boxM l (bs.set j b')).fp) (ej : bs[j]? = some b) (ad : b'.ad = b.ad) (hb : b.own = true) : c ∈ (boxM l bs).fp := by
  rcases box_fp.mp h with rfl | ⟨x, hx, o, e⟩
  · exact box_fp.mpr (.inl rfl)
  · rcases set_mem hx with rfl | ⟨k, hk, ek⟩
    · exact box_fp.mpr (.inr ⟨b, List.mem_of_getElem? ej, hb, ad ▸ e⟩)
    · exact box_fp.mpr (.inr ⟨x, List.mem_of_getElem? ek, o, e⟩)
theorem upd_id {w : HO} (h : H a = some w) : upd H a w = H := by
  funext c
  by_cases q : c = a
  · rw [q, upd_same, h]
  · exact upd_ne q
/-- something of the slot's own becomes data -/
theorem Den.lockS (D : Den T K H0 G H σ ρ) (gh : Same G H) {m : Mo} {w : HO} {s : Sl} {o : Option V} (e : ρ[i]? = some (.mx m)) (el : σ[i]? = some o) (ha : a ∈ m.fp)
    (sub : ∀ c, s.fp o c → c ∈ m.fp ∧ c ≠ a) (hs : SlOk T K H0 (upd G a w) (upd H a w) s o) : Same G (upd G a w) ∧ Same (upd G a w) (upd H a w) ∧ Den T K H0 (upd G a w) (upd H a w) σ (ρ.set i s) := by
  have old := D.ok i _ o e el
  have w2 := (old.2 a ha).2.1
  have up : Same G (upd G a w) := fun a u q => by rw [upd_ne (ne_of_none q w2)]; exact q
  refine ⟨up, fun c u q => ?_, by rw [List.length_set]; exact D.len, fun j x p q1 q2 => ?_, fun j k x y p q c hjk q1 q2 q3 q4 f1 f2 => ?_⟩
  · by_cases z : c = a
    · rw [z, upd_same] at q ⊢
      exact q
    · rw [upd_ne z] at q ⊢
      exact gh _ _ q
  · by_cases z : i = j
    · subst z
      rw [List.getElem?_set_self (List.getElem?_eq_some_iff.mp e).1] at q1
      cases q1
      rw [el] at q2
      cases q2
      exact hs
    · rw [List.getElem?_set_ne z] at q1
      have v := D.ok j x p q1 q2
      have far : ∀ c, x.fp p c → c ≠ a := fun c f q => D.one i j _ _ _ _ a z e q1 el q2 (show (Sl.mx m).fp _ a from ha) (q ▸ f)
      cases x with
      | no => trivial
      | d y => exact let ⟨v, ev, d⟩ := v; ⟨v, ev, d.mono up⟩
      | ml ys =>
        obtain ⟨c, us, rfl, hc, am, gc, h0, nt⟩ := v
        have n := far c rfl
        exact ⟨c, us, rfl, by rw [upd_ne n]; exact hc, am.mono up, by rw [upd_ne n]; exact gc, h0, nt⟩
      | tp => exact v
      | rf c => exact v
      | rg lo hi => exact let ⟨c, ec, g⟩ := v; ⟨c, ec, up _ _ g⟩
      | mx m' =>
        exact ⟨m'.frame up (fun c hc => upd_ne (far c hc)) v.1, fun c hc => by
          have n := far c hc
          obtain ⟨b1, b2, b3, b4⟩ := v.2 c hc
          exact ⟨by rw [upd_ne n]; exact b1, by rw [upd_ne n]; exact b2, b3, b4⟩⟩
  · have go : ∀ {n : Nat} {x : Sl} {p : Option V}, (ρ.set i s)[n]? = some x → σ[n]? = some p → x.fp p c → (n = i ∧ c ∈ m.fp) ∨ (n ≠ i ∧ ρ[n]? = some x) := fun {n x p} h1 h2 f => by
      by_cases z : i = n
      · subst z
        rw [List.getElem?_set_self (List.getElem?_eq_some_iff.mp e).1] at h1
        cases h1
        rw [el] at h2
        cases h2
        exact .inl ⟨rfl, (sub c f).1⟩
      · rw [List.getElem?_set_ne z] at h1
        exact .inr ⟨fun q => z q.symm, h1⟩
    rcases go q1 q3 f1 with ⟨rfl, m1⟩ | ⟨n1, r1⟩
    · rcases go q2 q4 f2 with ⟨rfl, _⟩ | ⟨n2, r2⟩
      · exact hjk rfl
      · exact D.one _ _ _ _ _ _ c hjk e r2 el q4 (show (Sl.mx m).fp _ c from m1) f2
    · rcases go q2 q4 f2 with ⟨rfl, m2⟩ | ⟨n2, r2⟩
      · exact D.one _ _ _ _ _ _ c hjk r1 e q3 el f1 (show (Sl.mx m).fp _ c from m2)
      · exact D.one j k x y p q c hjk r1 r2 q3 q4 f1 f2
theorem At.lockS {m : Mo} {w : HO} {s : Sl} {o : Option V} {G : Hp} (st : Step T G0 H0 G H) (D : Den T K H0 G H σ ρ) (e : ρ[i]? = some (.mx m)) (el : σ[i]? = some o) (ha : a ∈ m.fp)
    (sub : ∀ c, s.fp o c → c ∈ m.fp ∧ c ≠ a) (hs : SlOk T K H0 (upd G a w) (upd H a w) s o) : Step T G0 H0 (upd G a w) (upd H a w) ∧ Den T K H0 (upd G a w) (upd H a w) σ (ρ.set i s) := by
  obtain ⟨hl, gl, h0, nt⟩ := (D.ok i _ o e el).2 a ha
  obtain ⟨_, gh', D'⟩ := D.lockS st.gh e el ha sub hs
  refine ⟨⟨fun c u q => ?_, gh', fun p o np q => ?_, fun p q n => ?_, tp_more st.tp nt gl hl⟩, D'⟩
  · have := st.g c u q
    rw [upd_ne (ne_of_none this gl)]
    exact this
  · rw [upd_ne (ne_of_none q h0)]
    exact st.h p o np q
  · rw [upd_ne (fun z => n (by rw [z]; exact h0))]
    exact st.fr p q n
/-- made = [[], {}, [], []] -/
theorem wq_bxnew {i : Nat} (k : ∀ l a d b c, Ws K u (ρ.set i (.mx (boxM l [.ls a [], .dk d [], .ls b [], .ls c []]))) E) : Ws K (tSeq (tAsg (tLst (tCons (tLst tNil) (tCons tDNewK (tCons (tLst tNil) (tCons (tLst tNil) tNil))))) (gName i)) u) ρ E := fun T G0 H0 σ H D q e => by
  obtain ⟨G, s, D0⟩ := q
  refine ⟨Nat.zero_le _, fun a ha => fun d hd => ⟨Nat.zero_le _, fun b hb => ⟨Nat.zero_le _, fun c hc => ⟨by show 4 ≤ (16777216 : Nat); decide, fun p hp => ?_⟩⟩⟩⟩
  obtain ⟨da, hd0⟩ := upd_none hd
  obtain ⟨bd, hb1⟩ := upd_none hb
  obtain ⟨ba, hb0⟩ := upd_none hb1
  obtain ⟨cb, hc1⟩ := upd_none hc
  obtain ⟨cd, hc2⟩ := upd_none hc1
  obtain ⟨ca, hc0⟩ := upd_none hc2
  obtain ⟨pc, hp1⟩ := upd_none hp
  obtain ⟨pb, hp2⟩ := upd_none hp1
  obtain ⟨pd, hp3⟩ := upd_none hp2
  obtain ⟨pa, hp0⟩ := upd_none hp3
  have nt : ∀ {c : Addr}, H c = none → ¬ T c := fun hc t => by
    obtain ⟨_, _, _, _, _, q, _⟩ := s.tp _ t
    rw [hc] at q
    cases q
  have s1 := Step.newM (T := T) (o := .lst []) s.gh s.tp ha
  have s2 := Step.newM (T := T) (o := .dK []) s1.gh s1.tp hd
  have s3 := Step.newM (T := T) (o := .lst []) s2.gh s2.tp hb
  have s4 := Step.newM (T := T) (o := .lst []) s3.gh s3.tp hc
  have s5 := Step.newM (T := T) (o := .lst [.ref a, .ref d, .ref b, .ref c]) s4.gh s4.tp hp
  have st := (((s1.trans s2).trans s3).trans s4).trans s5
  obtain ⟨H5, h5⟩ : ∃ H5, H5 = upd (upd (upd (upd (upd H a (.lst [])) d (.dK [])) b (.lst [])) c (.lst [])) p (.lst [.ref a, .ref d, .ref b, .ref c]) := ⟨_, rfl⟩
  have ea : H5 a = some (.lst []) := by rw [h5, upd_ne (Ne.symm pa), upd_ne (Ne.symm ca), upd_ne (Ne.symm ba), upd_ne (Ne.symm da), upd_same]
  have ed : H5 d = some (.dK []) := by rw [h5, upd_ne (Ne.symm pd), upd_ne (Ne.symm cd), upd_ne (Ne.symm bd), upd_same]
  have eb : H5 b = some (.lst []) := by rw [h5, upd_ne (Ne.symm pb), upd_ne (Ne.symm cb), upd_same]
  have ec : H5 c = some (.lst []) := by rw [h5, upd_ne (Ne.symm pc), upd_same]
  have ep : H5 p = some (.lst [.ref a, .ref d, .ref b, .ref c]) := by rw [h5, upd_same]
  rw [← h5] at st ⊢
  have old : ∀ z, z ∈ [p, a, d, b, c] → H z = none ∧ H5 z ≠ none := fun z hz => by
    simp only [List.mem_cons, List.not_mem_nil, or_false] at hz
    rcases hz with rfl | rfl | rfl | rfl | rfl
    · exact ⟨hp0, by rw [ep]; intro z; cases z⟩
    · exact ⟨ha, by rw [ea]; intro z; cases z⟩
    · exact ⟨hd0, by rw [ed]; intro z; cases z⟩
    · exact ⟨hb0, by rw [eb]; intro z; cases z⟩
    · exact ⟨hc0, by rw [ec]; intro z; cases z⟩
  exact k p a d b c T G0 H0 _ _ D ⟨G, s.trans st, (D0.mono st).setx (m := boxM p [.ls a [], .dk d [], .ls b [], .ls c []]) ⟨rfl, ep, fun x hx => by
      simp only [List.mem_cons, List.not_mem_nil, or_false] at hx
      rcases hx with rfl | rfl | rfl | rfl
      · exact ⟨[], ea, .nil⟩
      · exact ⟨[], ed, .nil⟩
      · exact ⟨[], eb, .nil⟩
      · exact ⟨[], ec, .nil⟩, by
      show [p, a, d, b, c].Nodup
      simp only [List.nodup_cons, List.mem_cons, List.not_mem_nil, or_false, not_or, List.nodup_nil, not_false_eq_true, and_true]
      exact ⟨⟨pa, pd, pb, pc⟩, ⟨Ne.symm da, Ne.symm ba, Ne.symm ca⟩, ⟨Ne.symm bd, Ne.symm cd⟩, Ne.symm cb⟩⟩ (fun z hz => by
    obtain ⟨o1, o2⟩ := old z hz
    exact ⟨o2, s.gh.free o1, s.no o1 (nt o1), nt o1⟩) fun j t o z hj e1 e2 hz f => D0.live e1 e2 f (old z hz).1⟩ e
theorem box_get (D : Den T K H0 G H σ ρ) (e : ρ[i]? = some (.mx (boxM l bs))) : σ[i]? = some (some (.ref l)) ∧ (boxM l bs).ok K G H (some (.ref l)) ∧ ∀ a, a ∈ (boxM l bs).fp → H a ≠ none ∧ G a = none ∧ H0 a = none ∧ ¬ T a := by
  obtain ⟨o, e1, ok, ow⟩ := D.at e
  obtain rfl := ok.1
  exact ⟨e1, ok, ow⟩
theorem box_ref {ok : (boxM l bs).ok K G H (some (.ref l))} {b : Bx} (ej : bs[j]? = some b) : (bs.map fun b => V.ref b.ad)[j]? = some (.ref b.ad) := by rw [List.getElem?_map, ej]; rfl
/-- made[j].append(x) -/
theorem ws_bxapp {xs : List PyData} (e : ρ[i]? = some (.mx (boxM l bs))) (ej : bs[j]? = some (.ls a xs)) (hk : Pd K ty ρ (.int (j : Int))) (hv : Pe K te ρ P) (hz : xs.length < sizeLine)
    (k : ∀ d, P d → E.nx (ρ.set i (.mx (boxM l (bs.set j (.ls a (xs ++ [d]))))))) : Ws K (tDrop (tBM K "list" rAppend (tOp (rIx K) (tVar i) ty) (tCons te tNil))) ρ E := fun T G0 H0 σ H D q ed => by
  obtain ⟨G, s, D0⟩ := q
  obtain ⟨e1, _, _⟩ := box_get D0 e
  refine ⟨_, e1, hk.bind s.gh s.tp D0 fun y w G2 H2 p2 s2 gh2 tp2 D2 x2 => ?_⟩
  subst p2
  cases x2
  obtain ⟨_, ok2, _⟩ := box_get D2 e
  obtain ⟨vs2, ha2, av2⟩ := ok2.2.2.1 _ (List.mem_of_getElem? ej)
  refine .inl ⟨l, _, (j : Int), .ref a, rfl, rfl, sql_of ok2.2.1, atI_nat (box_ref (ok := ok2) ej), .inl ⟨rfl, vs2, sql_of ha2⟩, hv.bind gh2 tp2 D2 fun d v G3 H3 p3 s3 gh3 tp3 D3 x3 => ?_⟩
  obtain ⟨_, ok3, ow3⟩ := box_get D3 e
  obtain ⟨vs3, ha3, av3⟩ := ok3.2.2.1 _ (List.mem_of_getElem? ej)
  have af : a ∈ (boxM l bs).fp := box_fp.mpr (.inr ⟨_, List.mem_of_getElem? ej, rfl, rfl⟩)
  obtain ⟨s4, D4⟩ := D3.mutx ((s.trans s2).trans s3) e e1 (m' := boxM l (bs.set j (.ls a (xs ++ [d])))) (H' := upd H3 a (.lst (vs3 ++ [v]))) (fun c u nc ec => by rw [upd_ne (fun z => nc (by rw [z]; exact af))]; exact ec)
    (box_set ok3 (Same.refl _) ej rfl ⟨_, upd_same, av3.append (.cons x3 .nil)⟩) fun c hc => by
      refine ⟨?_, .inl (box_setfp hc ej rfl rfl)⟩
      by_cases z : c = a
      · rw [z, upd_same]; intro w; cases w
      · rw [upd_ne z]; exact (ow3 c (box_setfp hc ej rfl rfl)).1
  exact ⟨a, vs3, v, rfl, rfl, ha3, by rw [av3.length]; exact hz, ed.nx _ _ _ (k d p3) ⟨G3, s4, D4⟩⟩
/-- made[j][k] = x -/
theorem ws_bxput {es : List (Key × PyData)} {k : Key} (e : ρ[i]? = some (.mx (boxM l bs))) (ej : bs[j]? = some (.dk a es)) (hj : Pd K ty ρ (.int (j : Int))) (hk : Pd K tx ρ (kD k)) (hv : Pe K te ρ P) (hz : es.length < sizeLine)
    (c : ∀ d, P d → E.nx (ρ.set i (.mx (boxM l (bs.set j (.dk a (putD es k d))))))) : Ws K (sDPut (tOp (rIx K) (tVar i) ty) tx te) ρ E := fun T G0 H0 σ H D q ed => by
  obtain ⟨G, s, D0⟩ := q
  obtain ⟨e1, _, _⟩ := box_get D0 e
  refine hv.bind s.gh s.tp D0 fun d v G1 H1 p1 s1 gh1 tp1 D1 x1 => ⟨_, e1, hj.bind gh1 tp1 D1 fun y w G2 H2 p2 s2 gh2 tp2 D2 x2 => ?_⟩
  subst p2
  cases x2
  obtain ⟨_, ok2, _⟩ := box_get D2 e
  refine .inl ⟨l, _, (j : Int), .ref a, rfl, rfl, sql_of ok2.2.1, atI_nat (box_ref (ok := ok2) ej), hk.bind gh2 tp2 D2 fun y w G3 H3 p3 s3 gh3 tp3 D3 x3 => ?_⟩
  subst p3
  have ew := dn_key x3
  subst ew
  obtain ⟨_, ok3, ow3⟩ := box_get D3 e
  obtain ⟨kvs, ha3, al3⟩ := ok3.2.2.1 _ (List.mem_of_getElem? ej)
  have af : a ∈ (boxM l bs).fp := box_fp.mpr (.inr ⟨_, List.mem_of_getElem? ej, rfl, rfl⟩)
  obtain ⟨s4, D4⟩ := D3.mutx (((s.trans s1).trans s2).trans s3) e e1 (m' := boxM l (bs.set j (.dk a (putD es k d)))) (H' := upd H3 a (.dK (putK kvs k v))) (fun c u nc ec => by rw [upd_ne (fun z => nc (by rw [z]; exact af))]; exact ec)
    (box_set ok3 (Same.refl _) ej rfl ⟨_, upd_same, al3.put k ((x1.mono s2.g).mono s3.g)⟩) fun c hc => by
      refine ⟨?_, .inl (box_setfp hc ej rfl rfl)⟩
      by_cases z : c = a
      · rw [z, upd_same]; intro w; cases w
      · rw [upd_ne z]; exact (ow3 c (box_setfp hc ej rfl rfl)).1
  exact ⟨a, _, rfl, DPut.k ha3 (by rw [show kvs.length = es.length from Paired.length al3]; exact hz), ed.nx _ _ _ (c d p1) ⟨G3, s4, D4⟩⟩
/-- the dict at j, lent -/
theorem box_lend {es : List (Key × PyData)} {w : HO} (D : Den T K H0 G H σ ρ) (gh : Same G H) (e : ρ[i]? = some (.mx (boxM l bs))) (ej : bs[j]? = some (.dk a es)) : ∃ kvs, H a = some (.dK kvs) ∧ G a = none ∧ ¬ T a ∧ σ[i]? = some (some (.ref l)) ∧ a ∈ (boxM l bs).fp ∧ ∀ od,
    (∀ c, (Sl.mx (boxM l (bs.set j (.fz a (dD es))))).fp (some (.ref l)) c → c ∈ (boxM l bs).fp ∧ c ≠ a) ∧ SlOk T K H0 (upd G a (.frz od (.dK kvs))) (upd H a (.frz od (.dK kvs))) (.mx (boxM l (bs.set j (.fz a (dD es))))) (some (.ref l)) := by
  obtain ⟨e1, ok, ow⟩ := box_get D e
  obtain ⟨kvs, ha, al⟩ := ok.2.2.1 _ (List.mem_of_getElem? ej)
  have af : a ∈ (boxM l bs).fp := box_fp.mpr (.inr ⟨_, List.mem_of_getElem? ej, rfl, rfl⟩)
  obtain ⟨w1, w2, w3, w4⟩ := ow a af
  refine ⟨kvs, ha, w2, w4, e1, af, fun od => ?_⟩
  have up : Same G (upd G a (.frz od (.dK kvs))) := fun a u q => by rw [upd_ne (ne_of_none q w2)]; exact q
  have sub : ∀ c, c ∈ (boxM l (bs.set j (.fz a (dD es)))).fp → c ∈ (boxM l bs).fp ∧ c ≠ a := fun c hc => by
    refine ⟨box_setfp hc ej rfl rfl, ?_⟩
    rcases box_fp.mp hc with rfl | ⟨x, hx, o, q⟩
    · exact fun z => (List.nodup_cons.mp ok.2.2.2).1 (z ▸ List.mem_map_of_mem (List.mem_of_getElem? ej))
    · rcases set_mem hx with rfl | ⟨k, hk, ek⟩
      · cases o
      · exact q ▸ (nodup_ne (f := Bx.ad) ok.2.2.2 ej ek hk).1
  refine ⟨sub, box_set ok up ej rfl (show Dn K _ _ _ from dct_of upd_same (al.mono up)), fun c hc => ?_⟩
  obtain ⟨h1, h2⟩ := sub c hc
  obtain ⟨b1, b2, b3, b4⟩ := ow c h1
  exact ⟨by rw [upd_ne h2]; exact b1, by rw [upd_ne h2]; exact b2, b3, b4⟩
theorem ye_lendB {es : List (Key × PyData)} (e : ρ[i]? = some (.mx (boxM l bs))) (ej : bs[j]? = some (.dk a es)) (h : Pe K te (ρ.set i (.mx (boxM l (bs.set j (.fz a (dD es)))))) P) (nd : ∀ d, P d → d.hasDict = false) : Pe K (tLockE te) ρ P := fun T H0 G H σ gh tp D Q q => by
  obtain ⟨kvs, hl, gl, nt, e1, af, dn⟩ := box_lend (w := .lst []) D gh e ej
  refine ⟨a, _, hl, True.intro, fun od => ?_⟩
  obtain ⟨sub, sok⟩ := dn od
  obtain ⟨_, gh', D'⟩ := D.lockS gh e e1 af sub sok
  refine h T H0 _ _ σ gh' (tp_more tp nt gl (by rw [hl]; intro z; cases z)) D' _ fun d v G1 H1 p s x => ?_
  obtain ⟨h1, g1, s1⟩ := lend_back gl hl nt s
  exact ⟨h1, q d v _ _ p s1 (x.drop g1 (fun a n => if_neg n) (nd d p))⟩
theorem Ws.keepB {t : TS} {es : List (Key × PyData)} (e : ρ[i]? = some (.mx (boxM l bs))) (ej : bs[j]? = some (.dk a es)) (h : Ws K t (ρ.set i (.mx (boxM l (bs.set j (.fz a (dD es)))))) E) : Ws K (tKeepS t) ρ E := fun T G0 H0 σ H D q ed => by
  obtain ⟨G, s, D0⟩ := q
  obtain ⟨kvs, hl, gl, nt, e1, af, dn⟩ := box_lend (w := .lst []) D0 s.gh e ej
  refine ⟨a, _, hl, True.intro, fun od => ?_⟩
  obtain ⟨sub, sok⟩ := dn od
  exact h T G0 H0 σ _ D ⟨_, At.lockS s D0 e e1 af sub sok⟩ ed
/-- the list at j changes no more -/
theorem Ws.frzB {t : TS} {xs : List PyData} (j : Nat) (e : ρ[i]? = some (.mx (boxM l bs))) (ej : bs[j]? = some (.ls a xs)) (h : Ws K t (ρ.set i (.mx (boxM l (bs.set j (.fz a (.list xs)))))) E) : Ws K t ρ E := fun T G0 H0 σ H D q ed => by
  obtain ⟨G, s, D0⟩ := q
  obtain ⟨e1, ok, ow⟩ := box_get D0 e
  obtain ⟨vs, ha, al⟩ := ok.2.2.1 _ (List.mem_of_getElem? ej)
  have af : a ∈ (boxM l bs).fp := box_fp.mpr (.inr ⟨_, List.mem_of_getElem? ej, rfl, rfl⟩)
  obtain ⟨w1, w2, w3, w4⟩ := ow a af
  have up : Same G (upd G a (.lst vs)) := fun a u q => by rw [upd_ne (ne_of_none q w2)]; exact q
  have sub : ∀ c, c ∈ (boxM l (bs.set j (.fz a (.list xs)))).fp → c ∈ (boxM l bs).fp ∧ c ≠ a := fun c hc => by
    refine ⟨box_setfp hc ej rfl rfl, ?_⟩
    rcases box_fp.mp hc with rfl | ⟨x, hx, o, q⟩
    · exact fun z => (List.nodup_cons.mp ok.2.2.2).1 (z ▸ List.mem_map_of_mem (List.mem_of_getElem? ej))
    · rcases set_mem hx with rfl | ⟨k, hk, ek⟩
      · cases o
      · exact q ▸ (nodup_ne (f := Bx.ad) ok.2.2.2 ej ek hk).1
  obtain ⟨s1, D1⟩ := At.lockS (w := .lst vs) (s := .mx (boxM l (bs.set j (.fz a (.list xs))))) s D0 e e1 af sub ⟨box_set ok up ej rfl (show Dn K _ _ _ from .lst upd_same (al.mono up)), fun c hc => by
    obtain ⟨h1, h2⟩ := sub c hc
    obtain ⟨b1, b2, b3, b4⟩ := ow c h1
    exact ⟨by rw [upd_ne h2]; exact b1, by rw [upd_ne h2]; exact b2, b3, b4⟩⟩
  rw [upd_id ha] at s1 D1
  exact h T G0 H0 σ H D ⟨_, s1, D1⟩ ed
theorem dn_fz {bs : List Bx} (fz : ∀ b ∈ bs, b.own = false) (h : ∀ b ∈ bs, b.ok K G H) : DnAll K G (bs.map fun b => V.ref b.ad) (bs.map Bx.dat) := by
  induction bs with
  | nil => exact .nil
  | cons b bs ih =>
    refine .cons ?_ (ih (fun x hx => fz x (List.mem_cons_of_mem _ hx)) fun x hx => h x (List.mem_cons_of_mem _ hx))
    have h1 := fz b List.mem_cons_self
    have h2 := h b List.mem_cons_self
    cases b with
    | ls a xs => cases h1
    | dk a es => cases h1
    | fz a d => exact h2
/-- all of it is data -/
theorem Ws.frzAll {t : TS} (e : ρ[i]? = some (.mx (boxM l bs))) (fz : ∀ b ∈ bs, b.own = false) (h : Ws K t (ρ.set i (.d (.list (bs.map Bx.dat)))) E) : Ws K t ρ E := fun T G0 H0 σ H D q ed => by
  obtain ⟨G, s, D0⟩ := q
  obtain ⟨e1, ok, ow⟩ := box_get D0 e
  have af : l ∈ (boxM l bs).fp := box_fp.mpr (.inl rfl)
  have w2 := (ow l af).2.1
  have up : Same G (upd G l (.lst (bs.map fun b => V.ref b.ad))) := fun a u q => by rw [upd_ne (ne_of_none q w2)]; exact q
  obtain ⟨s1, D1⟩ := At.lockS (w := .lst (bs.map fun b => V.ref b.ad)) (s := .d (.list (bs.map Bx.dat))) s D0 e e1 af (fun c hc => hc.elim) ⟨_, rfl, .lst upd_same ((dn_fz fz ok.2.2.1).mono up)⟩
  rw [upd_id ok.2.1] at s1 D1
  exact h T G0 H0 σ H D ⟨_, s1, D1⟩ ed
/-- made[j], data -/
theorem yd_bx {d : PyData} (e : ρ[i]? = some (.mx (boxM l bs))) (ej : bs[j]? = some (.fz a d)) (hk : Pd K ty ρ (.int (j : Int))) : Pd K (tOp (rIx K) (tVar i) ty) ρ d := fun T H0 G H σ gh tp D Q q => by
  obtain ⟨e1, _, _⟩ := box_get D e
  refine ⟨_, e1, hk.bind gh tp D fun y w G2 H2 p2 s2 gh2 tp2 D2 x2 => ?_⟩
  subst p2
  cases x2
  obtain ⟨_, ok2, _⟩ := box_get D2 e
  exact .inl ⟨l, _, (j : Int), .ref a, rfl, rfl, sql_of ok2.2.1, atI_nat (box_ref (ok := ok2) ej), q d _ G2 H2 rfl s2 (ok2.2.2.1 _ (List.mem_of_getElem? ej))⟩
end
end PD

set_option maxHeartbeats 2000000
/-! PD52: a def that raises is given a lent dict; isinstance(e, C) in the suite itself -/
namespace PD
open PySem PySem.Spec PyProof.Rows L2
theorem ex_lendF {K : PySem.W.Frag} {ρ : Rho} {te : TE} {P : PyData → Prop} {E : Ed} {i : Nat} {l : Addr} {es : List (Key × PyData)} (e : ρ[i]? = some (.mx (dkM l es))) (up : ∀ c f, E.xr c f (ρ.set i (.d (dD es))) → E.xr c f (ρ.set i (.d (dD es)))) (h : PeX K te (ρ.set i (.d (dD es))) (fun _ => False) E) : PeX K (tLockE te) ρ P E := fun T G0 H0 σ H D a ed Q q => by
  obtain ⟨u, hl, mu, k⟩ := a.keep e
  exact ⟨l, u, hl, mu, fun od => h T G0 H0 σ _ D (k od) ed _ fun d v G' H' z => z.elim⟩
/-- isinstance(e, C) in the suite -/
def tIsE (K : PySem.W.Frag) (i : Nat) (a D : Addr) (cls : Value) (d : Option Addr) (c : V) : TE := fun σ H Q => cls = .ref D ∧ tCB (rIsD K D a d) (tCons (tVar i) (tCons (tC c) tNil)) σ H Q
theorem pe_isS {X : Cx} {n : Str} {D a : Addr} {oe : Obj} {pn : List (Addr × Obj)} {cls : Value} {d : Option Addr} {i : Nat} {ce : Expr} {c : V} {p np pos : Pos} (C : ExcC X.K D) (hN : X.N[i]? = some n) (hv : Vis X.env.scope n) (hz : Zc cls d oe) (hf : ∃ vs, oe.data = .fields vs)
    (hg : Gl (X.suite a ((a, oe) :: pn)) "isinstance") (hm : X.mg "isinstance" = none) (hc : PE (X.suite a ((a, oe) :: pn)) ce (tC c)) (hs : starEach [.Name n np, ce] X.env = (false, eval (.Name n np) X.env) :: starEach [ce] X.env := by rfl)
    (hpl : (backTo pos (starEach [ce] X.env)).any (·.1) = false := by rfl) (hnd : (n == ("__debug__" : Str)) = false := by decide) (hnc : (n == ("__classdict__" : Str)) = false := by decide) (hss : starEach [ce] X.env = (false, eval ce X.env) :: starEach [] X.env := by rfl) :
    PE (X.suite a ((a, oe) :: pn)) (.Call (.Name "isinstance" p) [.Name n np, ce] [] pos) (tIsE X.K i a D cls d c) := by
  refine ⟨fun pins s σ H Q I h => ?_⟩
  obtain ⟨rfl, h⟩ := h
  exact (pe_callB (X := X.suite a ((a, oe) :: pn)) (call_isP (p := (a, oe)) C List.mem_cons_self hz hf) hg hm (by decide +kernel) (pa_cons (pe_var hN hv hnd hnc) (pa_cons hc pa_nil (hs := hss))) (he := hs) (hpl := hpl)).run pins s σ H Q I h
theorem yd_isS {K : PySem.W.Frag} {ρ : Rho} {i : Nat} {a D : Addr} {d : Option Addr} {fs : List (Str × PyData)} {c : V} {cv : Value} {b : Bool} (hi : ρ[i]? = some (.mx (exM a d fs))) (hc : ClsV c cv) (hk : PySem.W.kitOne K (.ref D) cv = some b) : Pd K (tIsE K i a D (.ref D) d c) ρ (.bool b) := fun T H0 G H σ gh tp D' Q q =>
  ⟨rfl, yd_isE hi hc hk T H0 G H σ gh tp D' Q q⟩
end PD

set_option maxHeartbeats 2000000
/-! PD53: d == e of dicts of ints, sorted of pairs of ints, xs.remove(k) -/
namespace PD
open PySem PySem.Spec PyProof.Rows L2
/-! d == e -/
def rEqDI : R2 := fun x y H Q => ∃ (a b : Addr) (us vs : List (Int × Int)), x = .ref a ∧ y = .ref b ∧ Rd H a (.dK (us.map entK)) ∧ Rd H b (.dK (vs.map entK)) ∧ (us.map (·.1)).Nodup ∧ (vs.map (·.1)).Nodup ∧
  ∀ r : Bool, ((r = true) ↔ (us.length = vs.length ∧ ∀ p ∈ us, p ∈ vs)) → Q (.bl r) H
theorem kv_ents : ∀ {ws : List (Int × Int)} {kw : List (Key × Value)}, KV (ws.map entK) kw → kw.length = ws.length ∧ (∀ k v, (k, v) ∈ kw → ∃ p ∈ ws, k = .inl p.1 ∧ ∃ t, v = .int p.2 t) ∧ ∀ p ∈ ws, ∃ t, (((.inl p.1 : Key), Value.int p.2 t)) ∈ kw
  | [], _, .nil => ⟨rfl, fun _ _ h => (by cases h), fun _ h => (by cases h)⟩
  | p :: ws, _, .cons (b := q) r h => by
    obtain ⟨l, h1, h2⟩ := kv_ents h
    obtain ⟨r1, r2⟩ := r
    obtain ⟨t, r2⟩ := (show ∃ t, q.2 = Value.int p.2 t from r2)
    have eq : q = ((.inl p.1 : Key), Value.int p.2 t) := by
      rw [← r2]
      exact Prod.ext r1.symm rfl
    refine ⟨congrArg (· + 1) l, fun k v hm => ?_, fun x hx => ?_⟩
    · rcases List.mem_cons.mp hm with e | hm
      · rw [eq] at e
        cases e
        exact ⟨p, List.mem_cons_self, rfl, t, rfl⟩
      · obtain ⟨x, hx, e⟩ := h1 k v hm
        exact ⟨x, List.mem_cons_of_mem _ hx, e⟩
    · rcases List.mem_cons.mp hx with rfl | hx
      · exact ⟨t, eq ▸ List.mem_cons_self⟩
      · obtain ⟨t, ht⟩ := h2 x hx
        exact ⟨t, List.mem_cons_of_mem _ ht⟩
theorem key_uniq {us : List (Int × Int)} (h : (us.map (·.1)).Nodup) {p q : Int × Int} (hp : p ∈ us) (hq : q ∈ us) (e : p.1 = q.1) : p = q := uniq_of (fun p : Int × Int => p.1) e us h hp hq
theorem valueAt_mem {kw : List (Key × Value)} {k : Key} {y : Value} (h : valueAt kw k = some y) : (k, y) ∈ kw := by
  unfold valueAt at h
  obtain ⟨p, hp, rfl⟩ := Option.map_eq_some_iff.mp h
  have e := List.find?_some hp
  have e : p.1 = k := of_decide_eq_true e
  rw [← e]
  exact List.mem_of_find?_eq_some hp
theorem valueAt_some {kw : List (Key × Value)} {k : Key} {y : Value} (h : (k, y) ∈ kw) : (valueAt kw k).isSome = true := by
  unfold valueAt
  rw [Option.isSome_map]
  exact List.find?_isSome.mpr ⟨_, h, decide_eq_true rfl⟩
open Classical in
theorem op_eqDI {X : Cx} (hu : X.A.units + 64 < cLine) : OpR X (compareOp .Eq) rEqDI := by
  intro pins s σ H x y v u Q I rx ry h
  obtain ⟨a, b, us, vs, rfl, rfl, ha, hb, n1, n2, q⟩ := h
  cases rx
  cases ry
  obtain ⟨_, sa, ka, ra, da⟩ := dk_rd I.hok ha
  obtain ⟨_, sb, kb, rb, db⟩ := dk_rd I.hok hb
  obtain ⟨la, a1, a2⟩ := kv_ents ra
  obtain ⟨lb, b1, b2⟩ := kv_ents rb
  refine PySem.W.eq_dictsT (n := 1) (e := fun k => match k with | .inl n => decide (∃ i, (n, i) ∈ us ∧ (n, i) ∈ vs) | .inr _ => false) sa sb da db (fun k v y h1 h2 => ?_) (by omega) ?_
  · obtain ⟨p, hp, rfl, t, rfl⟩ := a1 k v h1
    obtain ⟨p', hp', e, t', rfl⟩ := b1 _ _ (valueAt_mem h2)
    have e : p.1 = p'.1 := Sum.inl.inj e
    refine .leaf fun A _ => ?_
    have : (decide (∃ i, (p.1, i) ∈ us ∧ (p.1, i) ∈ vs)) = (p.2 == p'.2) := by
      rw [Bool.eq_iff_iff, decide_eq_true_iff, beq_iff_eq]
      constructor
      · rintro ⟨i, h1, h2⟩
        have q1 := key_uniq n1 h1 hp rfl
        have q2 := key_uniq n2 h2 hp' e
        have q1 : i = p.2 := congrArg (·.2) q1
        have q2 : i = p'.2 := congrArg (·.2) q2
        exact q1.symm.trans q2
      · intro h
        exact ⟨p.2, hp, by rw [show (p.1, p.2) = p' from Prod.ext e h]; exact hp'⟩
    show SeqAt.EqAt A s _ _ (decide (∃ i, (p.1, i) ∈ us ∧ (p.1, i) ∈ vs))
    rw [this]
    exact SeqAt.EqAt.int_int _ _ _ _
  · refine ⟨.bl _, H, I, rfl, q _ ?_⟩
    rw [Bool.and_eq_true, beq_iff_eq, la, lb, List.all_eq_true]
    refine and_congr_right fun _ => ⟨fun h p hp => ?_, fun h x hx => ?_⟩
    · obtain ⟨t, ht⟩ := a2 p hp
      have := h _ ht
      rw [Bool.and_eq_true] at this
      obtain ⟨i, i1, i2⟩ := of_decide_eq_true this.2
      have q1 := key_uniq n1 i1 hp rfl
      exact q1 ▸ i2
    · obtain ⟨p, hp, e, t, e2⟩ := a1 x.1 x.2 hx
      rw [Bool.and_eq_true, e]
      obtain ⟨t', ht'⟩ := b2 p (h p hp)
      exact ⟨valueAt_some ht', decide_eq_true ⟨p.2, hp, h p hp⟩⟩
section
variable {K : PySem.W.Frag} {ρ : Rho} {te tb : TE} {E : Ed} {u : TS}
theorem yd_eqDI {i j : Nat} {l1 l2 : Addr} {us vs : List (Int × Int)} (e1 : ρ[i]? = some (.mx (dkM l1 (us.map entD)))) (e2 : ρ[j]? = some (.mx (dkM l2 (vs.map entD)))) (n1 : (us.map (·.1)).Nodup) (n2 : (vs.map (·.1)).Nodup) :
    Pe K (tOp rEqDI (tVar i) (tVar j)) ρ (fun d => ∃ r : Bool, d = .bool r ∧ ((r = true) ↔ (us.length = vs.length ∧ ∀ p ∈ us, p ∈ vs))) := fun T H0 G H σ gh tp D Q q => by
  obtain ⟨k1, s1, h1, a1, _⟩ := dk_get e1 D
  obtain ⟨k2, s2, h2, a2, _⟩ := dk_get e2 D
  have := dk_ents a1
  have := dk_ents a2
  subst k1 k2
  exact ⟨_, s1, _, s2, l1, l2, us, vs, rfl, rfl, .inl h1, .inl h2, n1, n2, fun r hr => q _ _ G H ⟨r, rfl, hr⟩ (Step.refl gh tp) (.bl r)⟩
theorem yd_eqKI {j : Nat} {l2 : Addr} {us vs : List (Int × Int)} (e1 : Pd K te ρ (dD (us.map entD))) (e2 : ρ[j]? = some (.mx (dkM l2 (vs.map entD)))) (n1 : (us.map (·.1)).Nodup) (n2 : (vs.map (·.1)).Nodup) :
    Pe K (tOp rEqDI te (tVar j)) ρ (fun d => ∃ r : Bool, d = .bool r ∧ ((r = true) ↔ (us.length = vs.length ∧ ∀ p ∈ us, p ∈ vs))) := fun T H0 G H σ gh tp D Q q =>
  e1.bind gh tp D fun d v G1 H1 p1 s1 gh1 tp1 D1 x1 => by
    subst p1
    obtain ⟨a, o, k1, rfl, ha, al⟩ := dct_inv x1
    obtain ⟨k2, s2, h2, a2, _⟩ := dk_get e2 D1
    have := dk_ents al
    have := dk_ents a2
    subst k1 k2
    exact ⟨_, s2, a, l2, us, vs, rfl, rfl, .inr ⟨o, gh1 _ _ ha⟩, .inl h2, n1, n2, fun r hr => q _ _ G1 H1 ⟨r, rfl, hr⟩ s1 (.bl r)⟩
end
/-! sorted of pairs -/
def rSortedPT (K : PySem.W.Frag) : List V → Hp → VK → Prop := fun vs H Q => ∃ (a : Addr) (xs : List V) (ps : List (Int × Int)), vs = [V.ref a] ∧ SqL K H a xs ∧ Paired (fun x (p : Int × Int) => ∃ t, x = V.ref t ∧ SqT K H t [.int p.1, .int p.2]) xs ps ∧
  ∀ (k : V → Int × Int) (ys : List V) (p : Addr), Paired (fun x q => k x = q) xs ps → SrtO.Srtd (ltP k) ys → ys.Perm xs → H p = none → Q (.ref p) (upd H p (.lst ys))
open Classical in
theorem cr_sortedPT {X : Cx} : CallR X (.builtin "sorted") (rSortedPT X.K) := by
  intro pins s σ H vs us Q I r h
  obtain ⟨a, xs, ps, rfl, hs, hx, q⟩ := h
  obtain ⟨its, rv, hl, hz⟩ := I.list hs
  obtain ⟨u, rfl, ru⟩ := vals1 r
  obtain rfl : u = Value.ref a := ru
  have pr : ∀ {x : V} {p : Int × Int}, (∃ t, x = V.ref t ∧ SqT X.K H t [.int p.1, .int p.2]) → ∃ t o t1 t2 n, x = .ref t ∧ s.heap.get? t = some o ∧ o.cls = .type "tuple" ∧ o.data = .seq #[.int p.1 t1, .int p.2 t2] n := fun {x p} ⟨t, e, h⟩ => by
    obtain ⟨its2, r2, ⟨o, ho, hc, n, hd⟩, _⟩ := I.tuple h
    obtain ⟨u1, u2, rfl, ri, rj⟩ := vals2 r2
    obtain ⟨t1, rfl⟩ := ri
    obtain ⟨t2, rfl⟩ := rj
    exact ⟨t, o, t1, t2, n, e, ho, hc, hd⟩
  let k : V → Int × Int := fun x => if h : ∃ p : Int × Int, ∃ t, x = V.ref t ∧ SqT X.K H t [.int p.1, .int p.2] then Classical.choose h else (0, 0)
  have kx : ∀ {x : V} {p : Int × Int}, (∃ t, x = V.ref t ∧ SqT X.K H t [.int p.1, .int p.2]) → k x = p := fun {x p} h => by
    have h' : ∃ p : Int × Int, ∃ t, x = V.ref t ∧ SqT X.K H t [.int p.1, .int p.2] := ⟨p, h⟩
    show (if h : _ then _ else _) = p
    rw [dif_pos h']
    obtain ⟨t, o, t1, t2, n, e, ho, _, hd⟩ := pr (Classical.choose_spec h')
    obtain ⟨t', o', t1', t2', n', e', ho', _, hd'⟩ := pr h
    rw [e] at e'
    cases e'
    rw [ho] at ho'
    cases ho'
    rw [hd] at hd'
    injection hd' with hd' _
    have hd' := congrArg Array.toList hd'
    simp only [List.cons.injEq, Value.int.injEq, and_true] at hd'
    exact Prod.ext hd'.1.1 hd'.2.1
  have hk : Paired (fun x (q : Int × Int) => k x = q) xs ps := Paired.mapP hx fun _ _ h => kx h
  have all : ∀ {xs : List V} {ps : List (Int × Int)}, Paired (fun x (p : Int × Int) => ∃ t, x = V.ref t ∧ SqT X.K H t [.int p.1, .int p.2]) xs ps → ∀ x ∈ xs, ∃ p : Int × Int, ∃ t, x = V.ref t ∧ SqT X.K H t [.int p.1, .int p.2] := fun {xs ps} h => by
    induction h with
    | nil => exact fun x hx => by cases hx
    | cons r t ih =>
      intro x hx
      rcases List.mem_cons.mp hx with rfl | hx
      · exact ⟨_, r⟩
      · exact ih x hx
  obtain ⟨e1, e2⟩ := refs_back rv fun x m => by
    obtain ⟨p, t, e, _⟩ := all hx x m
    exact ⟨t, e⟩
  refine SrtO.sorted_pairsO (k := fun u => k (backV u)) hl.isList (by rw [← rv.length]; exact hz) (fun v hv => ?_) fun h' d out h1 h2 kp hd hn => ?_
  · obtain ⟨t, rfl⟩ := e2 v hv
    have hm : V.ref t ∈ xs := by rw [e1]; exact List.mem_map.mpr ⟨_, hv, rfl⟩
    obtain ⟨p, hp⟩ := all hx _ hm
    have ek := kx hp
    obtain ⟨t', o, t1, t2, n, e, ho, hc, hd⟩ := pr hp
    cases e
    rw [show k (backV (Value.ref t)) = p from ek]
    exact ⟨t, o, t1, t2, n, rfl, ho, hc, hd⟩
  · have h3 : ∀ u ∈ out, ∃ a, u = Value.ref a := fun u hu => e2 u (h2.perm.mem_iff.mp hu)
    obtain ⟨n, hn⟩ := hn
    have hb : SrtO.Stb (ltP k) (out.map backV) xs := by
      rw [e1]
      exact SrtO.Stb.map (ltP_swo k) backV h2
    refine ⟨.ref d, upd H d (.lst (out.map backV)), I.laid (t' := s.toks) kp hd ⟨?_, out, n, vals_back h3, hn⟩, rfl, q k _ d hk (SrtO.srtd_map h1) hb.perm (I.hok.fresh hd)⟩
    rw [hb.len]
    exact hz
section
variable {K : PySem.W.Frag} {ρ : Rho} {te tb : TE} {E : Ed} {u : TS}
abbrev pr2 (q : Int × Int) : PyData := .tuple [.int q.1, .int q.2]
theorem dn_pr2 {G : Hp} : ∀ {vs : List V} {qs : List (Int × Int)}, DnAll K G vs (qs.map pr2) → Paired (fun x (p : Int × Int) => ∃ t, x = V.ref t ∧ SqT K G t [.int p.1, .int p.2]) vs qs
  | _, [], .nil => .nil
  | _, q :: qs, .cons h t => by
    refine .cons ?_ (dn_pr2 t)
    cases h with
    | tup hs al =>
      cases al with
      | cons r1 al =>
        cases al with
        | cons r2 al =>
          cases al
          cases r1
          cases r2
          exact ⟨_, rfl, hs⟩
theorem dn_perm {G : Hp} {f : V → PyData} : ∀ {ys : List V}, (∀ y ∈ ys, Dn K G y (f y)) → DnAll K G ys (ys.map f)
  | [], _ => .nil
  | y :: ys, h => .cons (h y List.mem_cons_self) (dn_perm fun x hx => h x (List.mem_cons_of_mem _ hx))
theorem dn_each {G : Hp} {k : V → Int × Int} : ∀ {vs : List V} {qs : List (Int × Int)}, DnAll K G vs (qs.map pr2) → Paired (fun x q => k x = q) vs qs → (∀ y ∈ vs, Dn K G y (pr2 (k y))) ∧ vs.map k = qs
  | _, [], .nil, .nil => ⟨fun y hy => (by cases hy), rfl⟩
  | _, q :: qs, .cons h t, .cons e r => by
    obtain ⟨h1, h2⟩ := dn_each t r
    refine ⟨fun y hy => ?_, by rw [List.map_cons, h2, e]⟩
    rcases List.mem_cons.mp hy with rfl | hy
    · rw [e]; exact h
    · exact h1 y hy
theorem nl_sortedP {qs : List (Int × Int)} (h : Rl K te ρ (fun x => x = qs.map pr2)) : Nl K (tCB (rSortedPT K) (tCons te tNil)) ρ (fun xs => ∃ qs' : List (Int × Int), qs'.Perm qs ∧ qs'.Pairwise (fun a b => SrtO.lexB b a = false) ∧ xs = qs'.map pr2) := fun T H0 G H σ gh tp D Q q =>
  h.bind gh tp D fun xs p vs G1 H1 p1 s1 gh1 tp1 D1 rd al => by
    subst p1
    refine ⟨p, vs, qs, rfl, rd.sq gh1, Paired.mapP (dn_pr2 al) fun x y ⟨t, e, w⟩ => ⟨t, e, sqt_mono gh1 w⟩, fun k ys a hk srt pm ha => ?_⟩
    obtain ⟨w1, w2⟩ := dn_each al hk
    have al2 : DnAll K G1 ys (ys.map fun y => pr2 (k y)) := dn_perm fun y hy => w1 y (pm.mem_iff.mp hy)
    have ga : G1 a = none := gh1.free ha
    have nt : ¬ T a := tape_some tp1 ha
    have st := Step.newM (T := T) (o := .lst ys) gh1 tp1 ha
    refine q (ys.map fun y => pr2 (k y)) a ys G1 _ ⟨ys.map k, ?_, ?_, by rw [List.map_map]; rfl⟩ (s1.trans st) (s1.no ha nt) nt ga upd_same al2
    · rw [← w2]
      exact pm.map k
    · rw [List.pairwise_map]
      exact srt
/-! xs.remove(k) -/
theorem ws_rem {i : Nat} {xs : List Int} {k : Int} {j : Nat} (e : ρ[i]? = some (.ml (xs.map .int))) (h : Pd K te ρ (.int k)) (hj : xs[j]? = some k) (hf : ∀ m, m < j → xs[m]? ≠ some k) (c : E.nx (ρ.set i (.ml ((xs.eraseIdx j).map .int)))) : Ws K (tDrop (tBM K "list" rRemI (tVar i) (tCons te tNil))) ρ E := fun T G0 H0 σ H D a ed => by
  obtain ⟨G, s, D0⟩ := a
  obtain ⟨o, e1, l, vs, rfl, hl, x, gl, h0, nt⟩ := D0.at e
  refine ⟨_, e1, .inl ⟨rfl, vs, sql_of hl⟩, h.bind s.gh s.tp D0 fun d v G1 H1 p1 s1 gh1 tp1 D1 x1 => ?_⟩
  subst p1
  cases x1
  obtain ⟨o, e2, l2, vs2, q2, hl2, xx, _⟩ := D1.at e
  rw [e1] at e2
  cases e2
  cases q2
  have ev := xx.ints
  subst ev
  have al : DnAll K G1 ((xs.eraseIdx j).map V.int) ((xs.eraseIdx j).map PyData.int) := DnAll.of_ints _
  obtain ⟨s2, D2⟩ := D1.mut (s.trans s1) e e1 al
  exact ⟨l, xs, k, j, rfl, rfl, hl2, hj, hf, ed.nx _ _ _ c ⟨G1, s2, D2⟩⟩
/-! d[k] = v, the key told by what it is -/
theorem ws_dputP {i : Nat} {l : Addr} {es : List (Key × PyData)} {ty tv : TE} {PK P : PyData → Prop} (e : ρ[i]? = some (.mx (dkM l es))) (hk : Pe K ty ρ PK) (hK : ∀ d, PK d → ∃ k, d = kD k) (hv : Pe K tv ρ P) (hz : es.length < sizeLine) (c : ∀ k d, PK (kD k) → P d → E.nx (ρ.set i (.mx (dkM l (putD es k d))))) : Ws K (sDPut (tVar i) ty tv) ρ E := fun T G0 H0 σ H D a ed => by
  obtain ⟨G, s, D0⟩ := a
  refine hv.bind s.gh s.tp D0 fun d v G1 H1 p1 s1 gh1 tp1 D1 x1 => ?_
  obtain ⟨o, e1, ⟨rfl, kvs, hl, al⟩, ow⟩ := D1.at e
  refine ⟨_, e1, hk.bind gh1 tp1 D1 fun y w G2 H2 p2 s2 gh2 tp2 D2 x2 => ?_⟩
  obtain ⟨k, rfl⟩ := hK y p2
  have ew := dn_key x2
  subst ew
  have hl2 := s2.h l _ (ow l List.mem_cons_self).2.2.2 hl
  have ln : kvs.length = es.length := Paired.length al
  refine ⟨l, _, rfl, DPut.k hl2 (by rw [ln]; exact hz), ?_⟩
  obtain ⟨s3, D3⟩ := D2.mutx ((s.trans s1).trans s2) e e1 (m' := dkM l (putD es k d)) (H' := upd H2 l (.dK (putK kvs k v))) (fun a u na ea => by rw [upd_ne (fun z => na (by rw [z]; exact List.mem_cons_self))]; exact ea) ⟨rfl, _, upd_same, (al.mono s2.g).put k (x1.mono s2.g)⟩ fun a ha => by
    rw [List.mem_singleton.mp ha]
    exact ⟨(by rw [upd_same]; intro z; cases z), .inl List.mem_cons_self⟩
  exact ed.nx _ _ _ (c k d p2 p1) ⟨G2, s3, D3⟩
theorem ye_toIB {ta : TE} (ha : Pe K ta ρ (fun d => ∃ b : Bool, d = .bool b)) : Pe K (tCB rInt1 (tCons ta tNil)) ρ (fun d => ∃ r : Int, d = .int r ∧ 0 ≤ r ∧ r < 2) := ye_cb1 ha fun x p1 T G H v gh tp x1 Q q => by
  obtain ⟨b, rfl⟩ := p1
  cases x1
  exact .inr ⟨b, rfl, q _ _ G H ⟨_, rfl, by split <;> omega, by split <;> omega⟩ (Step.refl gh tp) (.int _)⟩
end
end PD

set_option maxHeartbeats 2000000
/-! PD54: a list that changes is walked (it stays as it is meanwhile) -/
namespace PD
open PySem PySem.Spec PyProof.Rows L2
section
variable {T : Addr → Prop} {K : PySem.W.Frag} {G0 H0 G H G' H' : Hp} {σ σ' : L2.St} {ρ r : Rho} {E : Ed} {u : TS} {g : TG} {tb : TS} {i : Nat} {l : Addr} {vs : List V} {xs : List PyData}
theorem Step.hide (s : Step T G0 H0 G H) (hl : H l = some (.lst vs)) : Step T G (upd H0 l (.lst vs)) G H := ⟨Same.refl _, s.gh, fun p o nt e => by
  by_cases q : p = l
  · rw [q, upd_same] at e
    rw [q, hl]
    exact e
  · rw [upd_ne q] at e
    exact s.h p o nt e, fun p e _ => e, s.tp⟩
theorem Step.unhide (s : Step T G0 H0 G H) (h0 : H0 l = none) (b : Step T G (upd H0 l (.lst vs)) G' H') : Step T G0 H0 G' H' := ⟨s.g.trans b.g, b.gh, fun p o nt e => b.h p o nt (by rw [upd_ne (ne_of_none e h0)]; exact e), fun p e n => b.fr p (s.fr p e n) (by
  by_cases q : p = l
  · rw [q, upd_same]; intro z; cases z
  · rw [upd_ne q]; exact n), b.tp⟩
theorem Den.hide (D : Den T K H0 G H σ ρ) (e : ρ[i]? = some (.ml xs)) (el : σ[i]? = some (some (.ref l))) : Den T K (upd H0 l (.lst vs)) G H σ (ρ.set i (.rf l)) := by
  have me : ∀ {j : Nat} {x : Sl}, (ρ.set i (.rf l))[j]? = some x → (j = i ∧ x = .rf l) ∨ (j ≠ i ∧ ρ[j]? = some x) := fun {j x} h => by
    by_cases q : i = j
    · subst q
      rw [List.getElem?_set_self (List.getElem?_eq_some_iff.mp e).1] at h
      cases h
      exact .inl ⟨rfl, rfl⟩
    · rw [List.getElem?_set_ne q] at h
      exact .inr ⟨fun z => q z.symm, h⟩
  refine ⟨by rw [List.length_set]; exact D.len, fun j x o e1 e2 => ?_, fun j k x y p q a hjk e1 e2 e3 e4 f1 f2 => ?_⟩
  · rcases me e1 with ⟨rfl, rfl⟩ | ⟨n, r⟩
    · rw [el] at e2
      cases e2
      rfl
    · have old := D.ok j x o r e2
      have far : ∀ a, x.fp o a → a ≠ l := fun a f q => D.one i j _ _ _ _ l (Ne.symm n) e r el e2 (show (Sl.ml xs).fp _ l from rfl) (q ▸ f)
      cases x with
      | no => trivial
      | d x => exact old
      | tp => exact old
      | rf a => exact old
      | rg lo hi => exact old
      | mx w => exact ⟨old.1, fun a ha => by
          obtain ⟨hl, gl, h0, nt⟩ := old.2 a ha
          exact ⟨hl, gl, by rw [upd_ne (far a ha)]; exact h0, nt⟩⟩
      | ml ys =>
        obtain ⟨l', us, rfl, hl, d, gl, h0, nt⟩ := old
        exact ⟨l', us, rfl, hl, d, gl, by rw [upd_ne (far l' rfl)]; exact h0, nt⟩
  · rcases me e1 with ⟨rfl, rfl⟩ | ⟨n1, r1⟩
    · exact f1.elim
    · rcases me e2 with ⟨rfl, rfl⟩ | ⟨n2, r2⟩
      · exact f2.elim
      · exact D.one j k x y p q a hjk r1 r2 e3 e4 f1 f2
theorem Den.unhide (b : Step T G (upd H0 l (.lst vs)) G' H') (gl : G l = none) (h0 : H0 l = none) (nt : ¬ T l) (al : DnAll K G vs xs) (D : Den T K (upd H0 l (.lst vs)) G' H' σ r) (e : r[i]? = some (.rf l)) : Den T K H0 G' H' σ (r.set i (.ml xs)) := by
  obtain ⟨o, el, eo⟩ := D.at e
  have eo : o = some (.ref l) := eo
  subst eo
  have me : ∀ {j : Nat} {x : Sl}, (r.set i (.ml xs))[j]? = some x → (j = i ∧ x = .ml xs) ∨ (j ≠ i ∧ r[j]? = some x) := fun {j x} h => by
    by_cases q : i = j
    · subst q
      rw [List.getElem?_set_self (List.getElem?_eq_some_iff.mp e).1] at h
      cases h
      exact .inl ⟨rfl, rfl⟩
    · rw [List.getElem?_set_ne q] at h
      exact .inr ⟨fun z => q z.symm, h⟩
  have back : ∀ {a : Addr}, (upd H0 l (.lst vs)) a = none → H0 a = none ∧ a ≠ l := fun {a} h => by
    by_cases q : a = l
    · rw [q, upd_same] at h; cases h
    · rw [upd_ne q] at h; exact ⟨h, q⟩
  have far : ∀ {j : Nat} {x : Sl} {o : Option V} {a : Addr}, r[j]? = some x → σ[j]? = some o → x.fp o a → a ≠ l := fun {j x o a} e1 e2 f => by
    have old := D.ok j x o e1 e2
    cases x with
    | ml ys =>
      obtain ⟨l', us, eo, hl, d, gl, h0, nt⟩ := old
      have f : o = some (.ref a) := f
      rw [f] at eo
      cases eo
      exact (back h0).2
    | mx w => exact (back (old.2 a f).2.2.1).2
    | _ => exact f.elim
  refine ⟨by rw [List.length_set]; exact D.len, fun j x o e1 e2 => ?_, fun j k x y p q a hjk e1 e2 e3 e4 f1 f2 => ?_⟩
  · rcases me e1 with ⟨rfl, rfl⟩ | ⟨n, w⟩
    · rw [el] at e2
      cases e2
      exact ⟨l, vs, rfl, b.h l _ nt upd_same, al.mono b.g, b.fr l gl (by rw [upd_same]; intro z; cases z), h0, nt⟩
    · have old := D.ok j x o w e2
      cases x with
      | no => trivial
      | d x => exact old
      | tp => exact old
      | rf a => exact old
      | rg lo hi => exact old
      | mx w => exact ⟨old.1, fun a ha => by
          obtain ⟨hl, gl, h0, nt⟩ := old.2 a ha
          exact ⟨hl, gl, (back h0).1, nt⟩⟩
      | ml ys =>
        obtain ⟨l', us, rfl, hl, d, gl, h0, nt⟩ := old
        exact ⟨l', us, rfl, hl, d, gl, (back h0).1, nt⟩
  · rcases me e1 with ⟨rfl, rfl⟩ | ⟨n1, r1⟩
    · rcases me e2 with ⟨rfl, rfl⟩ | ⟨n2, r2⟩
      · exact hjk rfl
      · have f1 : p = some (.ref a) := f1
        rw [el] at e3
        cases e3
        cases f1
        exact far r2 e4 f2 rfl
    · rcases me e2 with ⟨rfl, rfl⟩ | ⟨n2, r2⟩
      · have f2 : q = some (.ref a) := f2
        rw [el] at e4
        cases e4
        cases f2
        exact far r1 e3 f1 rfl
      · exact D.one j k x y p q a hjk r1 r2 e3 e4 f1 f2
theorem ws_forM (e : ρ[i]? = some (.ml xs)) (W : Addr → Nat → Rho → Prop) (h0 : ∀ l, W l 0 (ρ.set i (.rf l))) (wi : ∀ l j r, W l j r → r[i]? = some (.rf l))
    (hs : ∀ l j x r, xs[j]? = some x → W l j r → ∃ sl r', Pg K g sl x r r' ∧ Ws K tb r' { nx := W l (j + 1), ct := W l (j + 1), bk := fun r => r[i]? = some (.rf l) ∧ E.nx (r.set i (.ml xs)), rt := E.rt, xw := E.xw })
    (hd : ∀ l r, W l xs.length r → E.nx (r.set i (.ml xs))) : Ws K (tFor (iSeq K (tVar i)) g tb) ρ E := fun T G0 H0 σ H D q ed => by
  obtain ⟨G, s, D0⟩ := q
  obtain ⟨o, e1, l, vs, rfl, hl, al, gl, hl0, nt⟩ := D0.at e
  refine ⟨_, e1, l, rfl, .inl ⟨⟨vs, sql_of hl⟩, fun j m σ H => m = xs.length - j ∧ j ≤ xs.length ∧ ∃ r, W l j r ∧ At T K G (upd H0 l (.lst vs)) r σ H, ⟨xs.length, by simp, Nat.zero_le _, ρ.set i (.rf l), h0 l, G, s.hide hl, D0.hide e e1⟩, ?_⟩⟩
  rintro j m σ2 H2 ⟨rfl, hil, r, w, G2, s2, D2⟩
  have hl2 : H2 l = some (.lst vs) := s2.h l _ nt upd_same
  have nxok : ∀ r σ H, r[i]? = some (.rf l) → E.nx (r.set i (.ml xs)) → At T K G (upd H0 l (.lst vs)) r σ H → D.nx σ H := fun r σ H h1 h2 ⟨G3, s3, D3⟩ => ed.nx _ _ _ h2 ⟨G3, s.unhide hl0 s3, D3.unhide s3 gl hl0 nt al h1⟩
  by_cases hlt : j < xs.length
  · have hv : j < vs.length := by rw [al.length]; exact hlt
    refine .inr ⟨⟨vs, vs[j], sql_of hl2, List.getElem?_eq_getElem hv⟩, fun σ' H' => ∃ r, W l (j + 1) r ∧ At T K G (upd H0 l (.lst vs)) r σ' H', fun σ' H' p => ⟨xs.length - (j + 1), by omega, rfl, hlt, p⟩, fun x H' y => ?_⟩
    obtain ⟨rfl, y⟩ := y
    obtain ⟨d, hd1, dx⟩ := (al.mono s2.g).get' (y vs (sql_of hl2))
    obtain ⟨sl, r', hg, hb⟩ := hs l j d r hd1 w
    refine hg T _ G2 _ σ2 x s2.gh D2 dx _ fun σ' D' _ _ => ?_
    refine hb T G _ σ' _ _ ⟨G2, s2, D'⟩ ⟨fun r σ H p a => ⟨r, p, a⟩, fun d v H p a => ed.rt d v H p ?_, fun r σ H p a => nxok r σ H p.1 p.2 a, fun r σ H p a => ⟨r, p, a⟩, fun c f d r σ G H p => p.elim⟩
    obtain ⟨G4, s4, x4⟩ := a
    exact ⟨G4, s.unhide hl0 s4, x4⟩
  · have e1 : j = xs.length := by omega
    subst e1
    exact .inl ⟨⟨vs, sql_of hl2, by rw [al.length]; exact Nat.le_refl _⟩, nxok r σ2 H2 (wi l _ r w) (hd l r w) ⟨G2, s2, D2⟩⟩
end
theorem rl_ofP {K : PySem.W.Frag} {ρ : Rho} {te : TE} {P : PyData → Prop} {PL : List PyData → Prop} (h : Pe K te ρ P) (k : ∀ d, P d → ∃ xs, d = .list xs ∧ PL xs) : Rl K te ρ PL := fun T H0 G H σ gh tp D Q q => h T H0 G H σ gh tp D Q fun d v G' H' p s x => by
  obtain ⟨xs, rfl, hp⟩ := k d p
  cases x with
  | lst e a => exact q xs _ _ G' H' hp s (.inl e) a
end PD

set_option maxHeartbeats 4000000
/-! PD55: dict(d) of a new dict; enumerate(zip(..)) -/
namespace EnZ
open PySem PySem.Spec PyProof.Rows L2 EnS ZN
theorem new_zp (z : Addr) (fs : Array Value) (dd : Option Addr) (sl : Array (Option Value)) (TI TO : Addr) (v : Value) (f : Bool) :
    Meets (Builtin.«enumerate.__new__» ⟨[.type "enumerate", .ref z], []⟩) (fun _ R s => IsZr s.heap z TI TO v f ∧
      R (.ok (.ret (.ref s.heap.objs.size)))
        { s with heap := s.heap.push { cls := .type "enumerate", data := .fields #[.none, .bool false, .ref z, rawInt 0, .none, .none] } }) :=
  .of_wp fun prog w A R s h => by
    obtain ⟨hp, gg, dr, tk, oo⟩ := s
    obtain ⟨ht, h⟩ := h
    have es := sub_enumerate
    wp_walk using wpAny_loadPart' ht
    refine wpAny_stack_any fun _ => wpAny_pure ?_
    split
    · rename_i c _ _ _ _ _
      cases (c == Value.type "enumerate")
      all_goals
        wp_walk using wpAny_loadPart' ht, ZN.pyIter_self ht
        exact ⟨_, rfl, h⟩
    · wp_walk using wpAny_loadPart' ht, ZN.pyIter_self ht
      exact ⟨_, rfl, h⟩
theorem call_zp {prog : Program} {w : World} {A : Around} {E : Value → Shared → Prop} {s : Shared} {z TI TO : Addr} {v : Value} {f : Bool} {Q : Value → Shared → Prop} (hz : IsZr s.heap z TI TO v f)
    (k : ∀ h1, IsEnum h1 s.heap.objs.size z 0 .none → (∀ b o, s.heap.get? b = some o → h1.get? b = some o) → Q (.ref s.heap.objs.size) { s with heap := h1 }) : wpAny (model prog w) A (call (.type "enumerate") [.ref z]) Q E s := by
  refine callType_new F.called_enumerate (by decide) (F.typeCall_enumerate_1 _) (F.newCall_enumerate_1 _) (fun ob => F.args_object_init_2 ob _) F.entry_enumerate_new (new_zp z #[] none #[] TI TO v f) ⟨hz, ?_⟩
  have ge := Heap.get?_push_size s.heap (o := { cls := .type "enumerate", data := .fields #[.none, .bool false, .ref z, rawInt 0, .none, .none] }) rfl
  exact ⟨⟨_, ge, rfl⟩, k _ ge fun b o q => Heap.get?_push_of_some _ q⟩
theorem enum_item {prog : Program} {w : World} {A : Around} {E : Value → Shared → Prop} {s : Shared} {e it : Addr} {i : Int} {old : Value} {Q : Option Value → Shared → Prop} (he : IsEnum s.heap e it i old)
    (hN : wpAny (model prog w) A.in1 (Builtin.SmallTypes.nextOf (.ref it)) (fun x s1 => IsEnum s1.heap e it i old ∧ ∀ h', IsEnumOut h' e it (i + 1) x s1.heap.objs.size → h'.get? s1.heap.objs.size = some { cls := .type "tuple", data := .seq #[.int i s1.toks, x] } → h'.objs.size = s1.heap.objs.size + 1 →
      (∀ b o, b ≠ e → s1.heap.get? b = some o → h'.get? b = some o) → Q (some (.ref s1.heap.objs.size)) { s1 with heap := h', toks := s1.toks + 1 }) (fun _ _ => False) s) :
    wpAny (model prog w) A (pyNext (.ref e)) Q E s := by
  have hT : s.TypeIs (.ref e) "enumerate" := ⟨_, he, rfl⟩
  unfold pyNext
  refine wpAny_bind (wpAny_attempt (wpAny_callSpecial?_slot (name := Str.ofString "__next__") hT F.slot_enumerate_next
    (wpAny_call_entry F.slot_enumerate_next hT F.entry_enumerate_next ?_ (F.args_enumerate_next_1 _))))
  show wpAny _ _ (field (.ref e) 2 >>= _) _ _ _
  refine wpAny_bind (wpAny_field he rfl (x := .ref it) rfl ?_)
  refine wpAny_bind (wpAny_mono hN (fun x s1 h1 => ?_) fun _ _ z => z.elim)
  obtain ⟨hp, g, d, tk, os⟩ := s1
  obtain ⟨he₁, hQ⟩ := h1
  replace he₁ : IsEnum hp e it i old := he₁
  show wpAny _ _ (field (.ref e) 3 >>= _) _ _ ⟨hp, g, d, tk, os⟩
  refine wpAny_bind (wpAny_field he₁ rfl (x := rawInt i) rfl ?_)
  show wpAny _ _ (field (.ref e) 4 >>= _) _ _ ⟨hp, g, d, tk, os⟩
  refine wpAny_bind (wpAny_field he₁ rfl (x := .none) rfl ?_)
  show wpAny _ _ (mkInt i >>= _) _ _ ⟨hp, g, d, tk, os⟩
  refine wpAny_bind (wpAny_mkInt ?_)
  show wpAny _ _ (setField (.ref e) 3 (rawInt (i + 1)) >>= _) _ _ ⟨hp, g, d, tk + 1, os⟩
  refine wpAny_bind (wpAny_setField_rec he₁ (by simp) fun h₂ he₂ hs₂ => ?_)
  replace hs₂ : Heap.SameBut e hp h₂ := hs₂
  replace he₂ : IsEnum h₂ e it (i + 1) old := he₂
  show wpAny _ _ (setField (.ref e) 4 .none >>= _) _ _ ⟨h₂, g, d, tk + 1, os⟩
  refine wpAny_bind (wpAny_setField_rec he₂ (by simp) fun h₃ he₃ hs₃ => ?_)
  replace hs₃ : Heap.SameBut e h₂ h₃ := hs₃
  replace he₃ : IsEnum h₃ e it (i + 1) old := he₃
  show wpAny _ _ (newTuple [.int i tk, x] >>= _) _ _ ⟨h₃, g, d, tk + 1, os⟩
  refine wpAny_bind (wpAny_newTuple ?_)
  have he₄ : IsEnum (h₃.push { cls := .type "tuple", data := .seq #[.int i tk, x] }) e it (i + 1) old := Heap.get?_push_of_some _ he₃
  generalize hh₄ : h₃.push { cls := .type "tuple", data := .seq #[.int i tk, x] } = h₄ at he₄
  have hsz : h₃.objs.size = hp.objs.size := by rw [hs₃.1, hs₂.1]
  have hel : e < hp.objs.size := Heap.lt_size he₁
  have ht₄ : h₄.get? hp.objs.size = some { cls := .type "tuple", data := .seq #[.int i tk, x] } := by rw [← hh₄, ← hsz]; exact Heap.get?_push_size _ rfl
  have hz₄ : h₄.objs.size = hp.objs.size + 1 := by rw [← hh₄, Heap.size_push, hsz]
  have hk₄ : ∀ b o, b ≠ e → hp.get? b = some o → h₄.get? b = some o := fun b o hbe hb => by
    rw [← hh₄]; exact Heap.get?_push_of_some _ (hs₃.extBut b o hbe (hs₂.extBut b o hbe hb))
  show wpAny _ _ (Builtin.SmallTypes.ownedTupleIsFree (.ref e) >>= _) _ _ ⟨h₄, g, d, tk + 1, os⟩
  rw [hsz]
  clear hh₄ he₃ hs₃ he₂ hs₂ hsz h₃ h₂
  refine wpAny_bind ?_
  · unfold Builtin.SmallTypes.ownedTupleIsFree
    refine wpAny_bind (wpAny_field he₄ rfl (x := .none) rfl (wpAny_pure ?_))
    simp only [if_true]
    refine wpAny_bind (wpAny_rule ?_)
    refine wpAny_bind (wpAny_field he₄ rfl (x := old) rfl ?_)
    refine wpAny_bind (wpAny_setField_rec he₄ (by simp) fun h₅ he₅ hs₅ => ?_)
    replace hs₅ : Heap.SameBut e h₄ h₅ := hs₅
    replace he₅ : IsEnum h₅ e it (i + 1) x := he₅
    show wpAny _ _ (Builtin.SmallTypes.ownedTupleHandOut (.ref e) (.ref hp.objs.size) >>= _) _ _ ⟨h₅, g, d, tk + 1, os⟩
    refine wpAny_bind ?_
    · unfold Builtin.SmallTypes.ownedTupleHandOut
      refine wpAny_bind (wpAny_setField_rec he₅ (by simp) fun h₆ he₆ hs₆ => ?_)
      replace hs₆ : Heap.SameBut e h₅ h₆ := hs₆
      replace he₆ : IsEnumOut h₆ e it (i + 1) x hp.objs.size := he₆
      refine wpAny_setField_rec he₆ (by simp) fun h₇ he₇ hs₇ => ?_
      replace hs₇ : Heap.SameBut e h₆ h₇ := hs₇
      replace he₇ : IsEnumOut h₇ e it (i + 1) x hp.objs.size := he₇
      refine wpAny_bind (wpAny_letGo (wpAny_pure ⟨_, rfl, wpAny_pure (hQ h₇ he₇ ?_ ?_ ?_)⟩))
      · exact hs₇.extBut _ _ (Nat.ne_of_gt hel) (hs₆.extBut _ _ (Nat.ne_of_gt hel) (hs₅.extBut _ _ (Nat.ne_of_gt hel) ht₄))
      · show h₇.objs.size = hp.objs.size + 1
        rw [hs₇.1, hs₆.1, hs₅.1, hz₄]
      · exact fun b o hbe hb => hs₇.extBut b o hbe (hs₆.extBut b o hbe (hs₅.extBut b o hbe (hk₄ b o hbe hb)))
theorem enum_end {prog : Program} {w : World} {A : Around} {E : Value → Shared → Prop} {s : Shared} {e it : Addr} {i : Int} {old : Value} {Q : Option Value → Shared → Prop} (he : IsEnum s.heap e it i old)
    (hN : wpAny (model prog w) A.in1 (Builtin.SmallTypes.nextOf (.ref it)) (fun _ _ => False) (fun x s1 => ∃ a o, x = .ref a ∧ s1.heap.get? a = some o ∧ o.cls = .type "StopIteration" ∧ Q none s1) s) :
    wpAny (model prog w) A (pyNext (.ref e)) Q E s := by
  have hT : s.TypeIs (.ref e) "enumerate" := ⟨_, he, rfl⟩
  unfold pyNext
  refine wpAny_bind (wpAny_attempt (wpAny_callSpecial?_slot (name := Str.ofString "__next__") hT F.slot_enumerate_next
    (wpAny_call_entry F.slot_enumerate_next hT F.entry_enumerate_next ?_ (F.args_enumerate_next_1 _))))
  show wpAny _ _ (field (.ref e) 2 >>= _) _ _ _
  refine wpAny_bind (wpAny_field he rfl (x := .ref it) rfl ?_)
  refine wpAny_bind (wpAny_mono hN (fun _ _ h => h.elim) fun x s1 h1 => ?_)
  obtain ⟨a, o, rfl, ho, hc, q⟩ := h1
  refine wpAny_bind (wpAny_isInstance (T := "StopIteration") (b := true) ⟨o, ho, hc⟩ isSubtype_stop ?_)
  exact wpAny_pure q
end EnZ
namespace PD
open PySem PySem.Spec PyProof.Rows L2 ZN EnS
/-! ### dict(d) of a new dict -/
def rDCopy : List V → Hp → VK → Prop := fun xs H Q => ∃ (a : Addr) (kvs : List (Key × V)), xs = [.ref a] ∧ H a = some (.dK kvs) ∧ ∀ p, H p = none → Q (.ref p) (upd H p (.dK kvs))
theorem call_dcopy {X : Cx} : CallR X (.type "dict") rDCopy := by
  intro pins s σ H xs us Q I r q
  obtain ⟨a, kvs, rfl, ha, q⟩ := q
  obtain ⟨u, rfl, rx⟩ := vals1 r
  cases rx
  exact d_copyOf I (.inl ha) fun p s' hp I' => ⟨.ref p, _, I', rfl, q p hp⟩
theorem nx_dcopy {K : PySem.W.Frag} {ρ : Rho} {te : TE} {P : Mo → Prop} {P0 : List (Key × PyData) → Prop} (h : Nx K te ρ (fun m => ∃ l es, m = dkM l es ∧ P0 es)) (k : ∀ es, P0 es → ∀ l, P (dkM l es)) : Nx K (tCB rDCopy (tCons te tNil)) ρ P := fun T H0 G H σ gh tp D Q q =>
  h T H0 G H σ gh tp D _ fun m v G1 H1 p s1 hm ow => by
    obtain ⟨l, es, rfl, hp⟩ := p
    obtain ⟨ev, kvs, hl, al⟩ := hm
    cases ev
    refine ⟨l, kvs, rfl, hl, fun p hp' => ?_⟩
    have nt : ¬ T p := tape_some s1.tp hp'
    refine q (dkM p es) _ _ _ (k es hp p) (s1.trans (Step.newM (o := .dK kvs) s1.gh s1.tp hp')) ⟨rfl, _, upd_same, al⟩ fun c hc => ?_
    rw [List.mem_singleton.mp hc]
    exact ⟨(by rw [upd_same]; intro z; cases z), s1.gh.free hp', s1.no hp' nt, nt⟩
end PD
namespace PD
open PySem PySem.Spec PyProof.Rows L2 ZN EnS
/-! ### enumerate(zip(..)) -/
section
variable {prog : Program} {w : World} {A : Around} {E : Value → Shared → Prop} {s : Shared}
theorem nextZ_item {kd : Addr → Bool} {z TI TO : Addr} {v : Value} {f : Bool} {L : List (Addr × Addr)} {i : Nat} {vals kept : List Value} {Q : Value → Shared → Prop} (D : Ap z TI TO L)
    (hz : IsZr s.heap z TI TO v f) (hv : VOk v) (hTI : IsTu s.heap TI (L.map fun p => Value.ref p.1).toArray) (hTO : IsTu s.heap TO kept.toArray) (hkl : kept.length = L.length) (hne : L ≠ []) (hl : L.length ≤ 1000)
    (hi : ∀ p ∈ L, IsIt kd s.heap p.1 p.2 i) (hr : Paired (Rw kd s.heap i) L vals)
    (hQ : ∀ h' v' f' (kept' : List Value), IsZr h' z TI TO v' f' → VOk v' → IsTu h' TO kept'.toArray → kept'.length = L.length → (∀ p ∈ L, IsIt kd h' p.1 p.2 (i + 1)) → h'.get? s.heap.objs.size = some { cls := .type "tuple", data := .seq vals.toArray } →
      (∀ c o, c ≠ z → c ≠ TO → c ∉ L.map (·.1) → s.heap.get? c = some o → h'.get? c = some o) → Q (.ref s.heap.objs.size) { s with heap := h' }) : wpAny (model prog w) A (Builtin.SmallTypes.nextOf (.ref z)) Q E s := by
  have hT : s.TypeIs (.ref z) "zip" := ⟨_, hz, rfl⟩
  unfold Builtin.SmallTypes.nextOf
  exact wpAny_bind (wpAny_callSpecial?_slot (name := Str.ofString "__next__") hT F.slot_zip_next
    (wpAny_call_entry F.slot_zip_next hT F.entry_zip_next
      (next_item D hz hv hTI hTO hkl hne hl hi hr fun h' v' f' k' a1 a2 a3 a4 a5 a6 a7 => wpAny_pure (hQ h' v' f' k' a1 a2 a3 a4 a5 a6 a7)) (F.args_zip_next_1 _)))
theorem nextZ_end {kd : Addr → Bool} {z TI TO : Addr} {v : Value} {f : Bool} {p : Addr × Addr} {L : List (Addr × Addr)} {i : Nat} {xs : Array Value} {kept : Array Value} {Q : Value → Shared → Prop} (hh : A.handled = none) (D : Ap z TI TO (p :: L))
    (hz : IsZr s.heap z TI TO v f) (hv : VOk v) (hTI : IsTu s.heap TI ((p :: L).map fun p => Value.ref p.1).toArray) (hTO : IsTu s.heap TO kept)
    (hi : IsIt kd s.heap p.1 p.2 i) (hl : IsSq kd s.heap p.2 xs) (hx : xs[i]? = none)
    (hE : ∀ h' e, (∀ c o, c ≠ z → c ≠ TO → c ∉ (p :: L).map (·.1) → s.heap.get? c = some o → h'.get? c = some o) → (∃ o, h'.get? e = some o ∧ o.cls = .type "StopIteration") → E (.ref e) { s with heap := h' }) : wpAny (model prog w) A (Builtin.SmallTypes.nextOf (.ref z)) Q E s := by
  have hT : s.TypeIs (.ref z) "zip" := ⟨_, hz, rfl⟩
  unfold Builtin.SmallTypes.nextOf
  exact wpAny_bind (wpAny_callSpecial?_slot (name := Str.ofString "__next__") hT F.slot_zip_next
    (wpAny_call_entry F.slot_zip_next hT F.entry_zip_next (next_end hh D hz hv hTI hTO hi hl hx hE) (F.args_zip_next_1 _)))
end
def IteZ (kd : Addr → Bool) (K : PySem.W.Frag) (as : List Addr) (rows : List (List V)) (N : Nat) : It := ⟨fun i H => Paired (SqK kd K H) as rows ∧ i < N, fun i H x H' => ∃ (T p : Addr) (ob oe : Obj), x = .ref T ∧ H p = none ∧ H T = none ∧ T ≠ p ∧ ob.dict = none ∧ oe.dict = none ∧ H' = upd (upd H p (.frz ob (.tup (colV rows i)))) T (.frz oe (.tup [.int (i : Nat), .ref p])), fun i H => Paired (SqK kd K H) as rows ∧ N ≤ i⟩
theorem turn_enumZ {kd : Addr → Bool} {P : Program} {w : World} {K : PySem.W.Frag} {elts : List Expr} {kk : Nat} {tpos : Pos} {e z TI TO : Addr} {L : List (Addr × Addr)} {rows : List (List V)} {N : Nat} (D : ZN.Ap z TI TO L) (he : e ∉ z :: TI :: TO :: L.map (·.1)) (hel : ∀ p ∈ L, e ≠ p.2) (hne : L ≠ []) (h6 : L.length ≤ 6) (hn : ∀ r ∈ rows, r.length = N) :
    Turn P w K (.Tuple elts kk tpos) (IteZ kd K (L.map (·.2)) rows N) (e :: z :: TI :: TO :: L.map (·.1)) e (fun i h => (∃ old, IsEnum h e z ((i : Nat) : Int) old) ∧ ∃ (v : Value) (f : Bool) (kept : List Value), IsZr h z TI TO v f ∧ VOk v ∧ IsTu h TI (L.map fun p => Value.ref p.1).toArray ∧ IsTu h TO kept.toArray ∧ kept.length = L.length ∧ ∀ p ∈ L, IsIt kd h p.1 p.2 i) where
  mem := List.mem_cons_self
  obj := fun i h st c hc => by
    obtain ⟨⟨old, hen⟩, v, f, kept, hz, _, hTI, hTO, _, hi⟩ := st
    rcases List.mem_cons.mp hc with rfl | hc
    · exact ⟨_, hen, fun v q => nomatch q⟩
    rcases List.mem_cons.mp hc with rfl | hc
    · exact ⟨_, hz, fun v q => nomatch q⟩
    rcases List.mem_cons.mp hc with rfl | hc
    · exact ⟨_, hTI, fun v q => nomatch q⟩
    rcases List.mem_cons.mp hc with rfl | hc
    · exact ⟨_, hTO, fun v q => nomatch q⟩
    obtain ⟨p, hp, rfl⟩ := List.mem_map.mp hc
    obtain ⟨o, e, vs, d⟩ := (hi p hp).obj
    exact ⟨o, e, fun v q => by rw [d] at q; cases q⟩
  keep := fun i h h' st k => by
    obtain ⟨⟨old, hen⟩, v, f, kept, hz, hv, hTI, hTO, kl, hi⟩ := st
    refine ⟨⟨old, k e (by simp) _ hen⟩, v, f, kept, k z (by simp) _ hz, hv, k TI (by simp) _ hTI, k TO (by simp) _ hTO, kl, fun p hp => (hi p hp).at fun o q => k p.1 ?_ o q⟩
    exact List.mem_cons_of_mem _ (List.mem_cons_of_mem _ (List.mem_cons_of_mem _ (List.mem_cons_of_mem _ (List.mem_map_of_mem hp))))
  item := by
    intro X hP hw hK hc i pins s σ H E I hf st hg
    subst hP hw hK
    obtain ⟨⟨old, hen⟩, v, f, kept, hz, hv, hTI, hTO, kl, hi⟩ := st
    obtain ⟨hrows, hlt⟩ := hg
    obtain ⟨vals, hr, rv⟩ := rows_at I hlt hrows hn
    have vl : vals.length = L.length := (Paired.length hr).symm
    have ez : e ≠ z := fun q => he (by rw [q]; simp)
    have eTI : e ≠ TI := fun q => he (by rw [q]; simp)
    have eTO : e ≠ TO := fun q => he (by rw [q]; simp)
    have eL : e ∉ L.map (·.1) := fun q => he (List.mem_cons_of_mem _ (List.mem_cons_of_mem _ (List.mem_cons_of_mem _ q)))
    have lt : ∀ c ∈ e :: z :: TI :: TO :: L.map (·.1), c < s.heap.objs.size := fun c hc => by
      rcases List.mem_cons.mp hc with rfl | hc
      · exact Heap.lt_size hen
      rcases List.mem_cons.mp hc with rfl | hc
      · exact Heap.lt_size hz
      rcases List.mem_cons.mp hc with rfl | hc
      · exact Heap.lt_size hTI
      rcases List.mem_cons.mp hc with rfl | hc
      · exact Heap.lt_size hTO
      obtain ⟨p, hp, rfl⟩ := List.mem_map.mp hc
      obtain ⟨o, e, _⟩ := (hi p hp).obj
      exact Heap.lt_size e
    refine EnZ.enum_item hen (nextZ_item D hz hv hTI hTO kl hne (by omega) hi hr fun h' v' f' kept' a1 a2 a3 a4 a5 a6 a7 => ⟨a7 _ _ ez eTO eL hen, fun h2 b1 b2 b3 b4 => ?_⟩)
    replace b2 : h2.get? h'.objs.size = some { cls := .type "tuple", data := .seq #[.int i s.toks, .ref s.heap.objs.size] } := b2
    replace b4 : ∀ b o, b ≠ e → h'.get? b = some o → h2.get? b = some o := b4
    refine ⟨_, rfl, wpAny_letOwnedTupleGo_enum (s := { s with heap := h2, toks := s.toks + 1 }) b1 fun h3 he3 sb => ?_⟩
    have elt := lt e (by simp)
    have szl : s.heap.objs.size < h'.objs.size := Heap.lt_size a6
    have up : ∀ b o, b ≠ e → h'.get? b = some o → h3.get? b = some o := fun b o hb q => (sb.2 b hb).trans (b4 b o hb q)
    have g6 := up _ _ (Nat.ne_of_gt elt) a6
    have gT : h3.get? h'.objs.size = some { cls := .type "tuple", data := .seq #[.int i s.toks, .ref s.heap.objs.size] } := (sb.2 _ (Nat.ne_of_gt (Nat.lt_trans elt szl))).trans b2
    have new : ObjOk X.prog X.w (upd H s.heap.objs.size (.frz { cls := .type "tuple", data := .seq vals.toArray } (.tup (colV rows i)))) h3 s.heap.objs.size (.frz { cls := .type "tuple", data := .seq vals.toArray } (.tup (colV rows i))) := ⟨g6, by rw [Paired.length rv, vl, sizeLine_eq]; omega, vals, rv, ⟨_, g6, rfl, _, rfl⟩⟩
    have I1 : Inv X pins σ (upd H s.heap.objs.size (.frz { cls := .type "tuple", data := .seq vals.toArray } (.tup (colV rows i)))) { s with heap := h3, toks := s.toks + 1 } := I.turnedNew (t' := s.toks + 1) (ch := e :: z :: TI :: TO :: L.map (·.1)) (fun c o hb q => up _ _ (fun y => hb (by simp [y])) (a7 c o (fun y => hb (by simp [y])) (fun y => hb (by simp [y])) (fun y => hb (List.mem_cons_of_mem _ (List.mem_cons_of_mem _ (List.mem_cons_of_mem _ (List.mem_cons_of_mem _ y))))) q)) hf (Nat.le_refl _) new
    have nT : H h'.objs.size = none := I.hok.fresh (Nat.le_of_lt szl)
    have nT1 : upd H s.heap.objs.size (.frz { cls := .type "tuple", data := .seq vals.toArray } (.tup (colV rows i))) h'.objs.size = none := by rw [upd_ne (Nat.ne_of_gt szl)]; exact nT
    have I2 := I1.take (h' := h3) (t' := s.toks + 1) (it := h'.objs.size) (o := .frz { cls := .type "tuple", data := .seq #[.int i s.toks, .ref s.heap.objs.size] } (.tup [.int (i : Nat), .ref s.heap.objs.size])) (fun b ob _ q => q) (I.fpOk (Nat.le_of_lt szl) nT1) ⟨gT, by show 2 ≤ sizeLine; decide, [.int i s.toks, .ref s.heap.objs.size], .cons ⟨_, rfl⟩ (.cons rfl .nil), ⟨_, gT, rfl, _, rfl⟩⟩
    refine ⟨.ref h'.objs.size, _, I2, rfl, ⟨_, _, _, _, rfl, I.hok.fresh (Nat.le_refl _), nT, Nat.ne_of_gt szl, rfl, rfl, rfl⟩, ⟨⟨.ref s.heap.objs.size, ?_⟩, v', f', kept', up _ _ ez.symm a1, a2, up _ _ eTI.symm (a7 _ _ D.tz D.tt D.t hTI), up _ _ eTO.symm a3, a4, fun p hp => (a5 p hp).at fun o q => up _ o (fun y => eL (by rw [← y]; exact List.mem_map_of_mem hp)) q⟩, fun c hcm => ?_⟩
    · rw [show ((i + 1 : Nat) : Int) = (i : Int) + 1 by omega]; exact he3
    · have cl := lt c hcm
      rw [upd_ne (Nat.ne_of_lt (Nat.lt_trans cl szl)), upd_ne (Nat.ne_of_lt cl)]
      exact (hf c hcm).1
  done := by
    intro X hP hw hK hc i pins s σ H E I hf st hg
    subst hP hw hK
    obtain ⟨⟨old, hen⟩, v, f, kept, hz, hv, hTI, hTO, kl, hi⟩ := st
    obtain ⟨hrows, hge⟩ := hg
    cases L with
    | nil => exact absurd rfl hne
    | cons p L =>
      rw [List.map_cons] at hrows
      cases hrows with
      | @cons _ r _ rows q t =>
        obtain ⟨its, rv, pl⟩ := sq_at I q
        have hl : its.length = N := by rw [← rv.length]; exact hn r List.mem_cons_self
        refine EnZ.enum_end hen (nextZ_end (show X.A.in1.handled = none from I.ok.hd hc) D hz hv hTI hTO (hi p List.mem_cons_self) pl (by simp; omega) fun h' x hk ⟨o, ho, hcl⟩ => ⟨x, o, rfl, ho, hcl, rfl, I.turnedL (t' := s.toks) (ch := e :: z :: TI :: TO :: (p :: L).map (·.1)) (fun c o hb q => hk c o (fun y => hb (by simp [y])) (fun y => hb (by simp [y])) (fun y => hb (List.mem_cons_of_mem _ (List.mem_cons_of_mem _ (List.mem_cons_of_mem _ (List.mem_cons_of_mem _ y))))) q) hf⟩)
  self := fun A i s Q E st h => let ⟨⟨_, hen⟩, _⟩ := st; wpAny_pyIter_enum hen h
def iEnumZ (K : PySem.W.Frag) (ta : TA) : TI := fun σ H R => ta σ H fun vs H1 => ∃ (ts : List (Addr × Bool)) (rows : List (List V)) (N : Nat), vs = ts.map (fun t => V.ref t.1) ∧ Paired (fun (t : Addr × Bool) r => SqB K H1 t.2 t.1 r) ts rows ∧ (∀ r ∈ rows, r.length = N) ∧ 1 ≤ ts.length ∧ ts.length ≤ 6 ∧ ∀ kd : Addr → Bool, (∀ t ∈ ts, kd t.1 = t.2) → R (IteZ kd K (ts.map (·.1)) rows N) H1
theorem pi_enumZ {X : Cx} {e : Expr} {es : List Expr} {ta : TA} {p pz pos posz tpos : Pos} {elts : List Expr} {kk : Nat} (hg : Gl X "enumerate") (hm : X.mg "enumerate" = none) (hgz : Gl X "zip") (hmz : X.mg "zip" = none) (ha : PA X (e :: es) ta)
    (hst : starEach (e :: es) X.env = (false, eval e X.env) :: starEach es X.env := by rfl) (hpl : (backTo posz (starEach es X.env)).any (·.1) = false := by rfl) (hs : starEach [.Call (.Name "zip" pz) (e :: es) [] posz] X.env = [(false, eval (.Call (.Name "zip" pz) (e :: es) [] posz) X.env)] := by rfl) :
    PI X (.Tuple elts kk tpos) (.Call (.Name "enumerate" p) [.Call (.Name "zip" pz) (e :: es) [] posz] [] pos) (iEnumZ X.K ta) := by
  refine ⟨fun pins s σ H R I h => ?_⟩
  refine Call_ (ld_blt I hg hm boot_enumerate (PyProof.Rows.callWith_type1 ?_ hs rfl))
  rw [hs]
  show wpAny _ _ (spliced [(false, eval (.Call (.Name "zip" pz) (e :: es) [] posz) X.env)]) _ _ s
  refine Calls.spliced_cons (Call_ (ld_blt I hgz hmz PyProof.Rows.boot_zip (PyProof.Rows.callWith_type1 (thn (ha.run posz pins s σ H _ I h) fun us s1 ⟨vs, H1, I2, r1, q1⟩ => ?_) hst hpl)))
  obtain ⟨ts, rows, N, ex, hrows, hn, h1, h6, q⟩ := q1
  have e2 : ts.map (fun t => V.ref t.1) = (ts.map (·.1)).map V.ref := by rw [List.map_map]; rfl
  rw [ex, e2] at r1
  rw [refs_of r1]
  have smm : ∀ {ts : List (Addr × Bool)} {rows : List (List V)}, Paired (fun (t : Addr × Bool) r => SqB X.K H1 t.2 t.1 r) ts rows → ∀ t ∈ ts, ∃ r, SqB X.K H1 t.2 t.1 r := by
    intro ts rows h
    induction h with
    | nil => intro t ht; cases ht
    | cons q _ ih =>
      intro t ht
      rcases List.mem_cons.mp ht with rfl | ht
      · exact ⟨_, q⟩
      · exact ih t ht
  have apart : ∀ a, (a, true) ∈ ts → (a, false) ∈ ts → False := fun a p1 p2 => by
    obtain ⟨r, k1⟩ := smm hrows _ p1
    obtain ⟨r2, k2⟩ := smm hrows _ p2
    unfold SqB at k1 k2
    rw [if_pos rfl] at k1
    rw [if_neg Bool.false_ne_true] at k2
    obtain ⟨_, _, ⟨o, e1, c1, _⟩, _⟩ := I2.tuple k1
    obtain ⟨_, _, pl, _⟩ := I2.list k2
    obtain ⟨o2, e2, c2, _⟩ := pl.isList
    rw [e1] at e2
    cases e2
    rw [c1] at c2
    simp at c2
  obtain ⟨kd, hkd⟩ : ∃ kd : Addr → Bool, ∀ t ∈ ts, kd t.1 = t.2 := by
    refine ⟨fun a => decide ((a, true) ∈ ts), fun t ht => ?_⟩
    obtain ⟨a, b⟩ := t
    cases b with
    | true => exact decide_eq_true ht
    | false => exact decide_eq_false fun z => apart a z ht
  have ll : ∀ l ∈ ts.map (·.1), ∃ xs, IsSq kd s1.heap l xs := fun l hl => by
    obtain ⟨t, ht, rfl⟩ := List.mem_map.mp hl
    obtain ⟨r, k⟩ := smm hrows t ht
    have k2 : SqK kd X.K H1 t.1 r := by
      show SqB X.K H1 (kd t.1) t.1 r
      rw [hkd t ht]
      exact k
    obtain ⟨its, _, pl⟩ := sq_at I2 k2
    exact ⟨_, pl⟩
  refine call_zip (kd := kd) (ts.map (·.1)) ll (by rw [List.length_map]; exact h6) ?_
  intro z TI TO L h' kept eL D hz hTI hTO kl hi hfr kp
  refine Calls.spliced_nil ?_
  have lL : L.length = ts.length := by have := congrArg List.length eL; rw [List.length_map, List.length_map] at this; exact this
  have below : ∀ l ∈ ts.map (·.1), l < h'.objs.size := fun l hl => by
    obtain ⟨xs, hsq⟩ := ll l hl
    obtain ⟨o, ho⟩ := hsq.obj
    exact Heap.lt_size (kp _ _ ho)
  have inn : ∀ c ∈ z :: TI :: TO :: L.map (·.1), c < h'.objs.size := fun c hc => by
    rcases List.mem_cons.mp hc with rfl | hc
    · exact Heap.lt_size hz
    rcases List.mem_cons.mp hc with rfl | hc
    · exact Heap.lt_size hTI
    rcases List.mem_cons.mp hc with rfl | hc
    · exact Heap.lt_size hTO
    obtain ⟨p, hp, rfl⟩ := List.mem_map.mp hc
    obtain ⟨o, e, _⟩ := (hi p hp).obj
    exact Heap.lt_size e
  refine EnZ.call_zp (s := { s1 with heap := h' }) hz fun h2 he hk => ?_
  replace he : IsEnum h2 h'.objs.size z 0 .none := he
  replace hk : ∀ b o, h'.get? b = some o → h2.get? b = some o := hk
  have I3 : Inv X pins σ H1 { s1 with heap := h2 } := I2.kept (t' := s1.toks) fun b o q => hk b o (kp b o q)
  refine wpAny_pyIter_enum he ?_
  have T := turn_enumZ (kd := kd) (P := X.prog) (w := X.w) (K := X.K) (elts := elts) (kk := kk) (tpos := tpos) (rows := rows) (N := N) (e := h'.objs.size) D (fun y => Nat.lt_irrefl _ (inn _ y)) (fun p hp y => Nat.lt_irrefl h'.objs.size (by
    have := below p.2 (by rw [← eL]; exact List.mem_map_of_mem hp)
    rw [← y] at this
    exact this)) (fun q => by rw [q] at lL; simp at lL; omega) (by omega) hn
  rw [eL] at T
  refine ⟨h'.objs.size, _, _, _, H1, rfl, I3, T, ⟨⟨.none, he⟩, .none, false, kept, hk _ _ hz, .inl rfl, hk _ _ hTI, hk _ _ hTO, kl, fun p hp => (hi p hp).at fun o q => hk _ o q⟩, fun c hc => ?_, q kd hkd⟩
  have hle : s1.heap.objs.size ≤ c := by
    rcases List.mem_cons.mp hc with rfl | hc
    · exact Nat.le_trans (hfr z (.inl rfl)) (Nat.le_of_lt (inn z (by simp)))
    · exact hfr c (by simpa using hc)
  exact I2.fpOk hle (I2.hok.fresh hle)
theorem itd_enumZ {kd : Addr → Bool} {K : PySem.W.Frag} {G : Hp} {as : List Addr} {rows : List (List V)} {xss : List (List PyData)} {N : Nat} (h1 : Paired (SqK kd K G) as rows) (h2 : Paired (DnAll K G) rows xss) (hn : ∀ r ∈ xss, r.length = N) : Itd K (IteZ kd K as rows N) G (enumD 0 ((List.range N).map (colD xss))) where
  go := fun i H g hi => by
    rw [enumD_len, List.length_map, List.length_range] at hi
    exact ⟨Paired.mapP h1 fun a us q => sqb_mono g q, hi⟩
  stop := fun i H g hi => by
    rw [enumD_len, List.length_map, List.length_range] at hi
    exact ⟨Paired.mapP h1 fun a us q => sqb_mono g q, hi⟩
  yld := fun i T G' H x H' g1 g2 tp hi y => by
    rw [enumD_len, List.length_map, List.length_range] at hi
    obtain ⟨t, p, ob, oe, rfl, hp, ht, ne, od, oed, rfl⟩ := y
    have up : Same G' (upd G' p (.frz ob (.tup (colV rows i)))) := fun c w e => by rw [upd_ne (ne_of_none e (g2.free hp))]; exact e
    have s1 := Step.new (o := .frz ob (.tup (colV rows i))) g2 tp hp
    have ht1 : upd H p (.frz ob (.tup (colV rows i))) t = none := by rw [upd_ne ne]; exact ht
    have s2 := Step.new (o := .frz oe (.tup [.int (i : Nat), .ref p])) s1.gh s1.tp ht1
    have at_ : ((List.range N).map (colD xss))[i]? = some (colD xss i) := by rw [List.getElem?_map, List.getElem?_range hi]; rfl
    have up2 : Same (upd G' p (.frz ob (.tup (colV rows i)))) (upd (upd G' p (.frz ob (.tup (colV rows i)))) t (.frz oe (.tup [.int (i : Nat), .ref p]))) := fun c w e => by rw [upd_ne (ne_of_none e (s1.gh.free ht1))]; exact e
    have dcol : Dn K (upd G' p (.frz ob (.tup (colV rows i)))) (.ref p) (colD xss i) := .tup (p := .inl ⟨ob, _, upd_same, od⟩) (.inl (.inr ⟨ob, upd_same⟩)) (((col_dn hi h2 hn).mono g1).mono up)
    refine ⟨_, .tuple [.int (i : Nat), colD xss i], ?_, s1.trans s2, .tup (p := .inl ⟨oe, _, upd_same, oed⟩) (.inl (.inr ⟨oe, upd_same⟩)) (.cons (.int _) (.cons (dcol.mono up2) .nil))⟩
    rw [enumD_at 0 _ i _ at_, Nat.zero_add]
theorem it_enumZ {K : PySem.W.Frag} {ρ : Rho} {ta : TA} {N : Nat} (xss : List (Bool × List PyData)) (h : Pasd K ta ρ (xss.map fun p => .d (srcD p))) (hn : ∀ r ∈ xss.map (·.2), r.length = N) (h1 : 1 ≤ xss.length := by decide) (h6 : xss.length ≤ 6 := by decide) : Pitd K (iEnumZ K ta) ρ (enumD 0 ((List.range N).map (colD (xss.map (·.2))))) := fun T H0 G H σ gh tp D R q =>
  h.bind gh tp D fun ss vs G1 H1 e s gh1 tp1 D1 a => by
    subst e
    obtain ⟨ts, rows, e, a1, a2, a3⟩ := arg_rows a
    refine ⟨ts, rows, N, e, Paired.mapP a1 fun a us q => sqb_mono gh1 q, rows_len a2 hn, by omega, by omega, fun kd hkd => q _ _ G1 H1 rfl s (itd_enumZ ?_ a2 hn)⟩
    have go : ∀ {ts : List (Addr × Bool)} {rows : List (List V)}, (∀ t ∈ ts, kd t.1 = t.2) → Paired (fun (t : Addr × Bool) r => SqB K G1 t.2 t.1 r) ts rows → Paired (SqK kd K G1) (ts.map (·.1)) rows := by
      intro ts rows hh h
      induction h with
      | nil => exact .nil
      | @cons t r ts rows q _ ih =>
        refine .cons ?_ (ih fun t ht => hh t (List.mem_cons_of_mem _ ht))
        show SqB K G1 (kd t.1) t.1 r
        rw [hh t List.mem_cons_self]
        exact q
    exact go hkd a1
end PD

set_option maxHeartbeats 2000000
/-! PD56: a changeable list lent to an expression that makes a new list; a new list built by statements and returned -/
namespace PD
open PySem PySem.Spec PyProof.Rows L2
section
variable {K : PySem.W.Frag} {ρ ρ' : Rho} {te : TE} {t u : TS} {P : List PyData → Prop}
theorem dn_atoms {G G1 : Hp} : ∀ {us : List V} {ys : List PyData}, (∀ y ∈ ys, isAtom y) → DnAll K G1 us ys → DnAll K G us ys
  | _, _, _, .nil => .nil
  | _, _, ha, .cons r t => .cons (r.atom (ha _ List.mem_cons_self)) (dn_atoms (fun y hy => ha y (List.mem_cons_of_mem _ hy)) t)
theorem nl_lendL {i : Nat} {xs : List PyData} (e : ρ[i]? = some (.ml xs)) (h : Nl K te (ρ.set i (.d (.list xs))) P) (nd : ∀ ys, P ys → ∀ y ∈ ys, isAtom y) (ht : ρ.any Sl.isTp = false := by rfl) : Nl K te ρ P := fun T H0 G H σ gh tp D Q q => by
  obtain ⟨l, vs, hl, gl, nt, gh', D'⟩ := (D.notape ht).lendL gh e
  refine h (fun _ => False) H0 _ _ σ gh' (fun _ z => z.elim) D' _ fun ys p us G1 H1 hp s hn _ _ hh dn => ?_
  refine q ys p us G H1 hp ⟨Same.refl _, fun a u e => s.h a u id (gh _ _ e), fun a u _ e => s.h a u id e, fun p e _ => e, fun a t => ?_⟩ hn (tape_some tp hn) (gh.free hn) hh (dn_atoms (nd ys hp) dn)
  obtain ⟨b, ns, x0, y0, m0, e0, eb0, ea0, r⟩ := tp a t
  exact ⟨b, ns, x0, y0, m0, s.h a _ id e0, eb0, ea0, r⟩
theorem Nl.le (h : Nl K te ρ' P) (l : Le ρ ρ') : Nl K te ρ P := fun T H0 G H σ gh tp D => h T H0 G H σ gh tp (D.le l)
theorem wf_seq {R : Rho → Prop} (h : Ws K t ρ { nx := R }) (k : ∀ r, R r → WsF K u r P) : WsF K (tSeq t u) ρ P := fun T G0 H0 σ H D a q =>
  h T G0 H0 σ H _ a ⟨fun r σ H p at' => k r p T G0 H0 σ H D at' q, fun _ _ _ z => z.elim, fun _ _ _ z => z.elim, fun _ _ _ z => z.elim, fun _ _ _ _ _ _ _ z => z.elim⟩
theorem wf_le (h : WsF K t ρ' P) (l : Le ρ ρ') : WsF K t ρ P := fun T G0 H0 σ H D a q => h T G0 H0 σ H D (a.le l) q
theorem wf_retm {i : Nat} {xs : List PyData} (e : ρ[i]? = some (.ml xs)) (p : P xs) : WsF K (tRet (tVar i)) ρ P := fun T G0 H0 σ H D a q => by
  obtain ⟨G, s, D0⟩ := a
  obtain ⟨o, e1, w⟩ := D0.at e
  obtain ⟨l, vs, rfl, hl, x, gl, h0, nt⟩ := w
  exact ⟨_, e1, q xs l vs G H p s h0 nt gl hl x⟩
end
end PD

set_option maxHeartbeats 4000000
/-! PD57: super().__init__(..) in an own exception class over ValueError, classes between -/
namespace SuI
open PySem PySem.Spec PyProof.Rows L2
section
variable {X : Cx} {pins : List (Addr × Obj)} {σ : L2.St} {H : Hp} {s : Shared} {u : Addr} {o : Obj}
theorem pinned (I : Inv X pins σ H s) (e : s.heap.get? u = some o) (n : H u = none) (nl : u ≠ X.env.locals) (nf : u ∉ X.fs) (nc : ∀ v, o.data ≠ .cell v) : Inv X ((u, o) :: pins) σ H s := by
  have k : ∀ p ∈ X.pn ++ (u, o) :: pins, s.heap.get? p.1 = some p.2 ∧ H p.1 = none ∧ p.1 ≠ X.env.locals ∧ p.1 ∉ X.fs ∧ ∀ v, p.2.data ≠ .cell v := fun p hp => by
    rcases List.mem_append.mp hp with h | h
    · exact I.pin p (List.mem_append_left _ h)
    · rcases List.mem_cons.mp h with rfl | h
      · exact ⟨e, n, nl, nf, nc⟩
      · exact I.pin p (List.mem_append_right _ h)
  exact { I with pin := k }
theorem unpin (I : Inv X ((u, o) :: pins) σ H s) : Inv X pins σ H s := by
  have k : ∀ p ∈ X.pn ++ pins, s.heap.get? p.1 = some p.2 ∧ H p.1 = none ∧ p.1 ≠ X.env.locals ∧ p.1 ∉ X.fs ∧ ∀ v, p.2.data ≠ .cell v := fun p hp => I.pin p (by
    rcases List.mem_append.mp hp with h | h
    · exact List.mem_append_left _ h
    · exact List.mem_append_right _ (List.mem_cons_of_mem _ h))
  exact { I with pin := k }
end
section
variable {prog : Program} {w : World} {A : Around} {E : Value → Shared → Prop} {h : Heap} {g : Array GenState} {d : Drawn} {t : Nat} {os : OsState}
variable {nm q : Str} {C N : Addr} {bs bm : List Value} {hdct : Bool} {sn : List Str} {sub : List Value} {ab : Bool} {col : Option Bool} {dd : Option Addr} {k0 k1 k2 k3 k5 : Option Value}
theorem call_mw {u e t0 : Addr} {rest : List Value} {Q : Value → Shared → Prop}
    (hC : h.get? C = some (excClassObj nm q C N bs bm hdct sn sub ab col dd k0 k1 k2 k3 k5 "ValueError.__new__")) (he : h.get? e = some (HandSPX.excO C t0)) (hu : h.get? u = some (PySem.W.kxs_mw "ValueError.__init__" e)) (hrest : rest.length ≤ sizeLine)
    (hq : ∀ h' t1, (∀ b o, b ≠ e → h.get? b = some o → h'.get? b = some o) → h'.get? e = some (HandSPX.excO C t1) → Q .none ⟨h', g, d, t, os⟩) :
    wpAny (model prog w) A (call (.ref u) rest) Q E ⟨h, g, d, t, os⟩ := by
  refine wpAny_call (codeAny_of_tree ?_)
  show wpAny _ A.in1 (callAny (.ref u) ⟨rest, []⟩) _ _ _
  simp only [callAny]
  refine wpAny_bind (wpAny_load hu ?_)
  simp only [PySem.W.kxs_mw, show (Value.type "method-wrapper" == Value.type "method" || Value.type "method-wrapper" == Value.type "builtin_function_or_method" || Value.type "method-wrapper" == Value.type "method-wrapper") = true by decide, if_true]
  refine W.KFB.if_so (by decide) ?_
  refine wpAny_bind (ESX.check_bound F.excBase_ValueError hC he rfl ?_)
  refine wpAny_bind (wpAny_pure (wpAny_pure ?_))
  refine ⟨Code.quiet_builtin _ (by decide +kernel), codeAny_builtin F.excBase_ValueError.initEntry ?_⟩
  rw [Around.under_plainId F.excBase_ValueError.init.plain _]
  wp_walk
  refine hq _ h.objs.size (fun b o hb ho => ?_) ?_
  · rw [Heap.get?_update_other _ _ (Ne.symm hb)]
    exact Heap.get?_push_of_some _ ho
  · rw [Heap.get?_update_self _ (Heap.get?_push_of_some _ he) rfl]
    rfl
end
/-- what the written part says of a class and its __init__ -/
structure Su (P : Program) (K : PySem.W.Frag) (f C cc cda : Addr) (fd : FuncData) : Prop where
  ox : OexC K C
  lk : ∃ oc od osl, K.lookup f = some ⟨oc, od, .func fd, osl⟩
  hp : ∃ ar, (fd.params.posonlyargs ++ fd.params.args).head? = some ar ∧ ar.arg = "self"
  code : fd.code = .ref cda
  hcode : ∃ ccl cdd vs ccs file tf, K.lookup cda = some ⟨ccl, cdd, .fields vs, ccs⟩ ∧ vs[2]? = some (.str file tf) ∧ ((P.main.file : Str) == file) = true
  hcell : ∃ cl cld csl, K.lookup cc = some ⟨cl, cld, .cell (some (.ref C)), csl⟩
  clo : fd.closure.lookup ("__class__" : Str) = some cc
  cls : ∃ cd, PySem.W.clsIn K C = some cd
  hm : PySem.W.ks_superIn K C C "__init__" = some (some (.builtin "ValueError.__init__"))
  hB : PySem.W.subIn K (.ref C) (.type "ValueError") = some true
  hsub : PySem.W.mroIn K C (.ref C) = some true
  hst : PySem.W.nsIn K cStatics "thirdparty.any" = some none
  top : (P.main.scope.names.lookup ("super" : Str)).isSome = false
section
variable {X : Cx} {pins : List (Addr × Obj)} {σ : L2.St} {H : Hp} {s : Shared} {f C cc cda a : Addr} {fd : FuncData} {je : Expr} {tj : TA}
theorem su_eval {pl : Sem Bool} {body : List Stmt} {p0 p1 p2 p3 : Pos} {q : Hp → Prop} (I : Inv X pins σ H s) (T : Su X.prog X.K f C cc cda fd) (hfu : X.env.func = some f) (hco : X.env.code = fd.code) (hcl : X.env.cells = fd.closure)
    (hks : X.env.kindOf "super" = some .globalImplicit) (hkc : X.env.kindOf "__class__" = some .free) (hka : X.env.kindOf "self" = some .local) (hmg : X.mg "super" = none) (h0 : X.N[0]? = some ("self" : Str)) (hσ : σ[0]? = some (some (.ref a)))
    (ha : H a = some (exo a C none)) (hj : PA X [je] tj) (hst : starEach [je] X.env = (false, eval je X.env) :: starEach [] X.env)
    (hcc : X.calm = true)
    (he : eval (.Call (.Attribute (.Call (.Name "super" p0) [] [] p1) "__init__" p2) [je] [] p3) X.env = (do
      let ov ← attributeBase (.Call (.Name "super" p0) [] [] p1) "__init__" X.env (eval (.Call (.Name "super" p0) [] [] p1) X.env)
      standAt p2.atName
      let (f, first) ← holding [ov] (getMethod ov "__init__" pl)
      callWith p3 f first (backTo p3 (starEach [je] X.env)) []) := by rfl)
    (ht : tj σ H fun us H1 => us.length ≤ 1000 ∧ H1 a = some (exo a C none) ∧ q H1) :
    _root_.PySem.wpAt (model X.prog X.w) X.A (.func body X.env) (eval (.Call (.Attribute (.Call (.Name "super" p0) [] [] p1) "__init__" p2) [je] [] p3) X.env) (fun _ s' => ∃ H1, Inv X pins σ H1 s' ∧ q H1) X.xe s := by
  obtain ⟨oc, od, osl, lk⟩ := T.lk
  obtain ⟨ar, hp, har⟩ := T.hp
  obtain ⟨ccl, cdd, vs, ccs, file, tf, hcode, hvs, hfile⟩ := T.hcode
  obtain ⟨cl, cld, csl, hcell⟩ := T.hcell
  obtain ⟨cd, hcd⟩ := T.cls
  obtain ⟨nm, qn, N, bs, bm, sn, sub, ab, col, dd, k0, k1, k2, k3, k5, hC, hbm⟩ := T.ox.cls
  obtain ⟨t1, ho⟩ := exo_at I.hok ha
  obtain ⟨m, hns, loc⟩ := I.loc
  obtain ⟨u, ru, lu⟩ := loc 0 "self" (.ref a) h0 hσ (.inl hka)
  obtain rfl : u = Value.ref a := ru
  have hself : m "self" = some (.ref a) := by
    rcases lu with ⟨_, e⟩ | ⟨e, _⟩
    · exact e
    · rcases e with e | e <;> · rw [hka] at e; cases e
  obtain ⟨oD, hD1, hD2⟩ : ∃ oD, s.heap.get? C = some oD ∧ oD.data = .cls cd := by
    unfold PySem.W.clsIn at hcd
    split at hcd
    · rename_i c d cd' sl ho
      cases hcd
      exact ⟨_, I.kIn _ _ ho, rfl⟩
    · cases hcd
  refine ks_wpAt_MethodCall (pl := pl) (ks_wpAt_super_base (f := f) (cc := cda) (fd := fd) hks hkc (by decide) hfu (I.kIn _ _ lk) rfl hp (hco.trans T.code) (I.kIn _ _ hcode) rfl hvs hfile T.top ?_) he
  refine PySem.W.ks_loadName_global I.ok.kind hks ?_
  obtain ⟨mb, b1, b2⟩ := I.mod.blt
  refine Calls.loadGlobal_builtin (by rw [I.ok.glob]; exact I.mod.glob.keeps I.bk) hmg (by rw [I.ok.blt]; exact b1.keeps I.bk) ((b2 _ (by decide +kernel)).trans (by decide +kernel)) ⟨rfl, ?_⟩
  refine wpAny_loadName_free I.ok.kind hkc (by rw [hcl]; exact T.clo) ⟨_, I.kIn _ _ hcell, rfl⟩ ?_
  rw [har]
  refine wpAny_loadName_local I.ok.kind hka hns hself ?_
  obtain ⟨hh, g, d, t, os⟩ := s
  refine ks_wpAny_isType_cls hD1 hD2 ⟨rfl, ?_⟩
  refine ks_wpAny_call_super hD1 hD2 ho rfl (fun c z => nomatch z) (PySem.W.looks_mroIn I.kIn T.hsub) (fun h' e k => ?_)
  have I1 : Inv X pins σ H ⟨h', g, d, t, os⟩ := I.kept (t' := t) k
  have inst : PySem.W.InstAt h' a ({ cls := .ref C, dict := none, data := .fields #[.ref t1, .none, .none, .none, .bool false, .none] } : Obj) C none := ⟨k _ _ ho, rfl, rfl, trivial⟩
  refine PySem.W.kxs_getMethod PySem.W.kxs_ValueError e (PySem.W.looks_opaque I1.kIn T.hst) (l₀ := cd.mro) (fun A Q E s k q => wpAny_bind ((PySem.W.looks_clsIn I1.kIn hcd) A _ E s k (wpAny_pure q))) rfl I1.kIn ?_ (inst.type.andThen (PySem.W.looks_subIn I1.kIn T.hB)) (PySem.W.ks_ne I1.kIn inst hcd) (by decide) ?_
  · have := T.hm
    unfold PySem.W.ks_superIn at this
    rw [hcd] at this
    exact this
  have I2 : Inv X pins σ H ⟨h'.push (PySem.W.kxs_mw "ValueError.__init__" a), g, d, t + 1, os⟩ := I1.kept (t' := t + 1) fun b o q => Heap.get?_push_of_some _ q
  have pm : (h'.push (PySem.W.kxs_mw "ValueError.__init__" a)).get? h'.objs.size = some (PySem.W.kxs_mw "ValueError.__init__" a) := Heap.get?_push_size _ rfl
  have I3 := pinned I2 pm (I1.hok.fresh (Nat.le_refl _)) (Nat.ne_of_gt I1.lt) (I1.nofs (Nat.le_refl _)) (fun v z => nomatch z)
  have run := hj.run p3 _ _ σ H _ I3 ht
  refine PySem.W.kxs_callWith (i := "ValueError.__init__") (x := a) (by rw [hst]; rfl) ?_
  rw [hst] at run ⊢
  refine Calls.evalArgs_plain (thn run fun us s1 ⟨xs, H1, J, r1, hl, ea, q1⟩ => ?_)
  have hu := (J.pin (h'.objs.size, PySem.W.kxs_mw "ValueError.__init__" a) (List.mem_append_right _ List.mem_cons_self)).1
  refine ⟨hu, ?_⟩
  show wpAny _ _ (call (.ref h'.objs.size) us) _ _ s1
  obtain ⟨t2, ho2⟩ := exo_at J.hok ea
  have hul : us.length ≤ sizeLine := by
    rw [← Paired.length r1, sizeLine_eq]
    omega
  obtain ⟨hp2, g2, d2, tk2, os2⟩ := s1
  refine call_mw (J.kIn _ _ hC) ho2 hu hul fun hf t3 kf hx => ?_
  have J1 := (unpin J).write (t' := tk2) (x := a) (e := a) (o := exo a C none) (by rw [ea]; exact True.intro) (.inl rfl) kf ⟨_, hx⟩ (exo_ok hx)
  have eu : upd H1 a (exo a C none) = H1 := by
    funext b
    by_cases hb : b = a
    · rw [hb, upd_same, ea]
    · rw [upd_ne hb]
  rw [eu] at J1
  exact ⟨H1, J1, q1⟩
end
/-- the frame of such an __init__ -/
def cxS (CX : CXT) (P : Program) (w : World) (K : PySem.W.Frag) (mg : Str → Option Value) (base : Heap) (N : List Str) (fd : FuncData) (f : Addr) (A : Around) (outer : List Env) (s : Shared) (H : Hp) (E : XK) : Cx where
  prog := P
  w := w
  K := K
  mg := mg
  base := base
  A := A.deeper (callEnv fd s.heap.objs.size f)
  N := N
  s_0 := s
  H_0 := H
  env := callEnv fd s.heap.objs.size f
  outer := outer
  stack := callEnv fd s.heap.objs.size f :: outer
  ex := []
  calm := true
  fn := fun _ => false
  pn := []
  xe := fun e s' => wpAny (model P w) (A.deeper (callEnv fd s.heap.objs.size f)) (leaving (callEnv fd s.heap.objs.size f) e) (fun _ s'' => CX outer H s E e s'') (fun e' s'' => CX outer H s E e' s'') s'
/-- the scope of such an __init__ -/
structure SuScope (x : Str) (fd : FuncData) (cc : Addr) : Prop where
  co : fd.scope.isCoroutine = false
  gen : fd.scope.isGenerator = false
  kind : fd.scope.kind = .function
  nc : ∀ y ∈ fd.scope.names, y.2 ≠ .cell
  l0 : fd.scope.names.lookup ("self" : Str) = some .local
  l1 : fd.scope.names.lookup x = some .local
  ne : (x == ("self" : Str)) = false
  fr : ∀ y, (fd.scope.names.lookup y = some .cell ∨ fd.scope.names.lookup y = some .free) → y = ("__class__" : Str)
  sup : fd.scope.names.lookup ("super" : Str) = some .globalImplicit
  cl : fd.scope.names.lookup ("__class__" : Str) = some .free
  clo : fd.closure = [(("__class__" : Str), cc)]
  glob : fd.globals = mainGlobals
  blt : fd.builtins = builtinsNs
theorem start_su {CX : CXT} {P : Program} {w : World} {K : PySem.W.Frag} {mg : Str → Option Value} {base : Heap} {f C cc cda : Addr} {fd : FuncData} {x : Str} {A : Around} {outer : List Env} {s : Shared} {H : Hp} {E : XK} {u0 u1 : Value} {v0 v1 : V} {h₀ : Heap} {tk : Nat}
    (T : Su P K f C cc cda fd) (S : SuScope x fd cc) (hd : A.handled = none) (e0 : Env0 P w K mg base A outer s H) (r0 : RelV v0 u0) (r1 : RelV v1 u1)
    (hn : h₀.Ns s.heap.objs.size (fun y => ([(("self" : Str), u0), (x, u1)] : List (Str × Value)).reverse.lookup y)) (hk : ∀ b o, s.heap.get? b = some o → h₀.get? b = some o) :
    Inv (cxS CX P w K mg base [("self" : Str), x] fd f A outer s H E) [] [some v0, some v1] H { s with heap := h₀, toks := tk } := by
  obtain ⟨cl, cld, csl, hcell⟩ := T.hcell
  have bcc := e0.mod.kin _ _ hcell
  have envc : (callEnv fd s.heap.objs.size f).cells = fd.closure := rfl
  have look : ∀ y c, (callEnv fd s.heap.objs.size f).cells.lookup y = some c → y = ("__class__" : Str) ∧ c = cc := fun y c h => by
    rw [envc, S.clo, List.lookup_cons] at h
    split at h
    · rename_i e
      exact ⟨eq_of_beq e, (Option.some.inj h).symm⟩
    · cases h
  have noA : ∀ b : Addr, b ∉ (cxS CX P w K mg base [("self" : Str), x] fd f A outer s H E).ex := fun b z => absurd (show b ∈ ([] : List Addr) from z) (by simp)
  refine ⟨⟨e0.mod, S.kind, S.glob, S.blt, Nat.le_refl _, fun y z c h1 h2 => (look y c h1).1.trans (look z c h2).1.symm, fun y hy => ?_, fun y c h _ => Bool.noConfusion h, fun _ => hd, Around.frames_deeper e0.frames, .inr ⟨rfl, rfl⟩, fun b z => absurd z (noA b), e0.bs, e0.bsz, fun b _ _ => noA b, fun b z => absurd z (noA b), e0.funs, e0.frf⟩,
    rfl, e0.bare, Un.kept hk, ⟨_, hn, fun i y v h1 h2 h3 => ?_⟩, fun y c h => ?_, e0.hok.fresh (Nat.le_refl _), fun y c h => ?_, fun p hp => absurd (show p ∈ ([] : List (Addr × Obj)) from hp) (by simp), e0.hok.kept hk, rfl⟩
  · have e := S.fr y hy
    subst e
    exact ⟨cc, by show (callEnv fd s.heap.objs.size f).cells.lookup _ = _; rw [envc, S.clo]; rfl⟩
  · have ne : (("self" : Str) == x) = false := by
      have := S.ne
      rw [beq_eq_false_iff_ne] at this ⊢
      exact Ne.symm this
    match i, h1, h2 with
    | 0, h1, h2 =>
      have h1 := Option.some.inj h1
      have h2 := Option.some.inj (Option.some.inj h2)
      subst h1 h2
      refine ⟨u0, r0, .inl ⟨S.l0, ?_⟩⟩
      show ([(x, u1), (("self" : Str), u0)] : List (Str × Value)).lookup _ = _
      rw [List.lookup_cons, ne]
      simp
    | 1, h1, h2 =>
      have h1 := Option.some.inj h1
      have h2 := Option.some.inj (Option.some.inj h2)
      subst h1 h2
      refine ⟨u1, r1, .inl ⟨S.l1, ?_⟩⟩
      show ([(x, u1), (("self" : Str), u0)] : List (Str × Value)).lookup _ = _
      simp
    | i + 2, h1, _ => simp [cxS] at h1
  · obtain ⟨_, rfl⟩ := look y c h
    exact ⟨_, _, hk _ _ (e0.bs _ _ bcc).1, rfl⟩
  · obtain ⟨_, rfl⟩ := look y c h
    exact (e0.bs _ _ bcc).2
theorem fn_su {CX : CXT} {P : Program} {w : World} {K : PySem.W.Frag} {mg : Str → Option Value} {base : Heap} {k : Nat} {f C cc cda : Addr} {fd : FuncData} {x : Str} {sp : Sp} {je : Expr} {st2 : Stmt} {p0 p1 p2 p3 p4 : Pos}
    (T : Su P K f C cc cda fd) (S : SuScope x fd cc) (hcd : PySem.W.codeIn K fd.code fd.qualname = true) (hmg : mg "super" = none)
    (hbody : fd.body = .stmts [.Expr (.Call (.Attribute (.Call (.Name "super" p0) [] [] p1) "__init__" p2) [je] [] p3) p4, st2])
    (hb : ∀ (A : Around) (outer : List Env) (s : Shared) (H : Hp) (vs : List V) (Q : VK) (E : XK), Room k (A.deeper (callEnv fd s.heap.objs.size f)) → sp vs H Q E → ∃ (a : Addr) (v : V) (tj : TA) (t2 : TS), vs = [.ref a, v] ∧ H a = some (exo a C none) ∧
      PA (cxS CX P w K mg base [("self" : Str), x] fd f A outer s H E) [je] tj ∧ PSs (cxS CX P w K mg base [("self" : Str), x] fd f A outer s H E) [st2] t2 ∧
      tj [some (.ref a), some v] H fun us H1 => us.length ≤ 1000 ∧ H1 a = some (exo a C none) ∧ t2 { nx := fun _ H' => Q .non H', rt := Q } [some (.ref a), some v] H1)
    (len : ∀ vs H Q E, sp vs H Q E → vs.length = ([("self" : Str), x] : List Str).length) (hst : ∀ env : Env, starEach [je] env = (false, eval je env) :: starEach [] env)
    (he : ∀ env : Env, ∃ pl : Sem Bool, eval (.Call (.Attribute (.Call (.Name "super" p0) [] [] p1) "__init__" p2) [je] [] p3) env = (do
      let ov ← attributeBase (.Call (.Name "super" p0) [] [] p1) "__init__" env (eval (.Call (.Name "super" p0) [] [] p1) env)
      standAt p2.atName
      let (f, first) ← holding [ov] (getMethod ov "__init__" pl)
      callWith p3 f first (backTo p3 (starEach [je] env)) []))
    (hsw : ∀ env : Env, swapsWith (.Call (.Attribute (.Call (.Name "super" p0) [] [] p1) "__init__" p2) [je] [] p3) none p4.line env = pure false) :
    FnOk P w K mg base CX (k + 1) f fd [("self" : Str), x] sp := by
  obtain ⟨oc, od, osl, lk⟩ := T.lk
  refine ⟨len, fun A outer s H args us vs Q E hr e0 hbi r hsp => ?_⟩
  have KX : K.In s.heap := e0.mod.kin.keeps fun b o e => (e0.bs b o e).1
  have lim : s.heap.NoLimit := e0.mod.nolimit.keeps fun b o e => (e0.bs b o e).1
  obtain ⟨a, v, tj, t2, rfl, ha, hj, h2, ht⟩ := hb A outer s H vs Q E (hr.deeper _) hsp
  obtain ⟨u0, u1, rfl, r0, r1⟩ := vals2 r
  refine ks_codeAny_call_defAt (binds := [(("self" : Str), u0), (x, u1)]) hr.depth (KX _ _ lk) rfl lim (PySem.W.codeRec_of KX hcd) hbody hbi S.nc (fun y hy => ?_) (fun h₀ hn hk => ?_) S.co S.gen S.kind
  · simp only [List.mem_cons, List.not_mem_nil, or_false] at hy
    rcases hy with rfl | rfl
    · exact S.l0
    · exact S.l1
  have I := start_su (CX := CX) (E := E) (f := f) (tk := s.toks + 2) T S hr.hd e0 r0 r1 hn hk
  obtain ⟨pl, hpl⟩ := he (callEnv fd s.heap.objs.size f)
  have ev := su_eval (pl := pl) (he := hpl) (body := [.Expr (.Call (.Attribute (.Call (.Name "super" p0) [] [] p1) "__init__" p2) [je] [] p3) p4, st2]) (p0 := p0) (p1 := p1) (p2 := p2) (p3 := p3) (q := fun H1 => t2 { nx := fun _ H' => Q .non H', rt := Q } [some (.ref a), some v] H1) I T rfl rfl rfl S.sup S.cl S.l0 hmg rfl rfl ha hj (hst _) rfl (ht := ht)
  refine PySem.ks_wpAt_execs_cons (PySem.ks_wpAt_Expr_any (PySem.ks_wpAt_mono ev (fun _ s' hs => ?_) fun _ _ z => z) ?_ (hsw _))
  · obtain ⟨H1, J, q1⟩ := hs
    refine _root_.PySem.wpAt_of_wpAny (wpAny_mono (h2.run [] s' _ H1 _ J q1) (fun fl s2 hs => ?_) fun _ _ z => z)
    have fin : ∀ {σ' : L2.St} {H' : Hp} {v : V} {u : Value}, Inv (cxS CX P w K mg base [("self" : Str), x] fd f A outer s H E) [] σ' H' s2 → RelV v u → Q v H' → CE outer P w H s Q u s2 :=
      fun {σ' H' v u} J rv q => ⟨v, H', J.os, J.bare, J.base, J.hok, rv, q⟩
    cases fl with
    | ret u =>
      obtain ⟨v, σ', H', J, rv, q⟩ := hs
      exact fin J rv q
    | next =>
      obtain ⟨σ', H', J, q⟩ := hs
      exact fin (v := V.non) (u := Value.none) J rfl q
    | brk =>
      obtain ⟨_, _, _, q⟩ := hs
      exact False.elim q
    | cont =>
      obtain ⟨_, _, _, q⟩ := hs
      exact False.elim q
  · unfold interactive
    rw [show (callEnv fd s.heap.objs.size f).scope.kind = .function from S.kind]
    rfl
end SuI

set_option maxHeartbeats 4000000
/-! PD58: an own exception class over PlantError: its __init__ says super().__init__(f'a{x}c'), self.f = x; raise C(k) -/
namespace PD
open PySem PySem.Spec PyProof.Rows L2 SuI
/-- C.__init__(self, x), x a number -/
def spSu (C : Addr) (fl : Str) : Sp := fun vs H Q _ => ∃ (a : Addr) (k : Int), vs = [.ref a, .int k] ∧ 0 ≤ k ∧ k < 10 ^ 6 ∧ H a = some (exo a C none) ∧ ∀ d, H d = none → d ≠ a → Q .non (upd (upd H d (exd d [(fl, .int k)])) a (exo a C (some d)))
theorem fn_bad {CX : CXT} {P : Program} {w : World} {K : PySem.W.Frag} {mg : Str → Option Value} {base : Heap} {k : Nat} {f C cc cda : Addr} {fd : FuncData} {x fl pre post : Str} {p0 p1 p2 p3 p4 q1 q2 q3 q4 q5 r1 r2 r3 r4 : Pos} {i1 i2 : Nat}
    (T : Su P K f C cc cda fd) (S : SuScope x fd cc) (hcd : PySem.W.codeIn K fd.code fd.qualname = true) (hmg : mg "super" = none) (hno : PySem.W.findIn K (.ref C) fl = some none) (l1 : pre.length ≤ 1000) (l2 : post.length ≤ 1000) (hln : (p2.endLine == p3.line) = true) (hx1 : (x == ("__debug__" : Str)) = false) (hx2 : (x == ("__classdict__" : Str)) = false)
    (hbody : fd.body = .stmts [.Expr (.Call (.Attribute (.Call (.Name "super" p0) [] [] p1) "__init__" p2) [.JoinedStr [.Constant (.str pre) i1 q1, .FormattedValue (.Name x q2) (-1) none q3, .Constant (.str post) i2 q4] q5] [] p3) p4,
      .Assign [.Attribute (.Name "self" r1) fl r2] (.Name x r3) r4]) :
    FnOk P w K mg base CX (k + 1) f fd [("self" : Str), x] (spSu C fl) := by
  refine fn_su (p0 := p0) (p1 := p1) (p2 := p2) (p3 := p3) (p4 := p4) T S hcd hmg hbody (fun A outer s H vs Q E hr hsp => ?_) (fun vs H Q E ⟨a, kk, e, _⟩ => by rw [e]; rfl) (fun env => rfl) (fun env => ⟨do return (← importBound (.Call (.Name "super" p0) [] [] p1) env).getD true, ?_⟩) (fun env => rfl)
  rotate_left
  · rw [eval]
    have hform : methodCallForm (([Expr.JoinedStr [.Constant (.str pre) i1 q1, .FormattedValue (.Name x q2) (-1) none q3, .Constant (.str post) i2 q4] q5] : List Expr).length + ([] : List Keyword).length) (backTo p3 (starEach [.JoinedStr [.Constant (.str pre) i1 q1, .FormattedValue (.Name x q2) (-1) none q3, .Constant (.str post) i2 q4] q5] env)) (backToKw p3 (keywordEach [] env)) = true := by rfl
    have hpos : methodCallPos true (.Call (.Name "super" p0) [] [] p1) env p2 p3 = pure p3 := by unfold methodCallPos; simp [hln]
    unfold methodCall
    rw [hform, hpos]
    rfl
  obtain ⟨a, kk, rfl, k0, k1, ha, hq⟩ := hsp
  have e0 : PE (cxS CX P w K mg base [("self" : Str), x] fd f A outer s H E) (.Name "self" r1) (tVar 0) := pv 0 rfl (.inl S.l0)
  have e1 : ∀ q, PE (cxS CX P w K mg base [("self" : Str), x] fd f A outer s H E) (.Name x q) (tVar 1) := fun q => pe_var rfl (.inl S.l1) hx1 hx2
  refine ⟨a, .int kk, tCons (fun σ H Q => tJs [tC (.str pre), tFmt (tVar 1), tC (.str post)] Str.empty σ H fun out H1 => Q (.str out) H1) tNil, _, rfl, ha, pa_cons (pe_joined (PJ.cons pe_str (PJ.cons (pe_fmt (e1 q2)) (PJ.cons pe_str PJ.nil)))) pa_nil, pss_one (ps_ost e0 (e1 r3)), ?_⟩
  have t0 : (Str.empty ++ pre).length ≤ 1000 := by
    rw [str_app]
    show 0 + _ ≤ 1000
    omega
  have t1 : (Str.ofString (toString kk)).length ≤ 7 := by
    rw [PySem.ofString_length]
    exact int_text_length_le10 (k := 6) (by decide) (by omega)
  have t2 : (Str.empty ++ pre ++ Str.ofString (toString kk)).length ≤ 1007 := by
    rw [str_app]
    omega
  show tJs _ _ _ _ _
  refine ⟨pre, rfl, Nat.le_trans t0 (by decide), _, rfl, .inr ⟨kk, rfl, ?_, _, rfl, Nat.le_trans t2 (by decide), post, rfl, ?_, ?_⟩⟩
  · have : kk.natAbs < 2 ^ 1920 := Nat.lt_of_lt_of_le (show kk.natAbs < 10 ^ 6 by omega) (by decide +kernel)
    by_cases z : kk.natAbs = 0
    · rw [z]; decide
    · exact (Nat.log2_lt z).mpr this
  · rw [str_app]
    show _ ≤ (16777216 : Nat)
    have : (Str.empty ++ pre ++ (toString kk : Str)).length ≤ 1007 := t2
    omega
  · refine ⟨by show 1 ≤ 1000; decide, ha, _, rfl, _, rfl, a, C, rfl, T.ox, hno, .inl ⟨ha, fun dx n ne => hq dx n ne⟩⟩
/-- raise C(e), C such a class -/
theorem ws_raiseO {K : PySem.W.Frag} {ρ : Rho} {te : TE} {kk : Int} {E : Ed} {C : Addr} {fl : Str} {W : WX} (hW : E.xw = W) (he : Pd K te ρ (.int kk)) (h0 : 0 ≤ kk) (h1 : kk < 10 ^ 6) (h : E.xr (.ref C) [(fl, .int kk)] ρ) : Ws K (fun _ σ H => tMkO C (spSu C fl) [] (tCons te tNil) σ H fun cls d H' => W cls d σ H') ρ E := fun T G0 H0 σ H D a e => by
  subst hW
  refine a.eval he fun d v G1 H1 p1 s D1 y => ?_
  subst p1
  cases y
  refine ⟨by show 1 ≤ 1000; decide, fun a ha => ⟨a, kk, rfl, h0, h1, upd_same, fun d hd ne => ⟨rfl, d, [(fl, .int kk)], upd_same, by rw [upd_ne ne, upd_same], ?_, ?_⟩⟩⟩
  · rw [upd_ne ne] at hd
    exact hd
  · have hd1 : H1 d = none := by rw [upd_ne ne] at hd; exact hd
    have e1 : upd (del (upd (upd (upd H1 a (exo a C none)) d (exd d [(fl, .int kk)])) a (exo a C (some d))) a) d (.xd [(fl, .int kk)]) = upd H1 d (.xd [(fl, .int kk)]) := by
      funext b
      by_cases hb : b = d
      · rw [hb, upd_same, upd_same]
      · rw [upd_ne hb, upd_ne hb]
        by_cases hba : b = a
        · rw [hba, del_same, ha]
        · rw [del_ne hba, upd_ne hba, upd_ne hb, upd_ne hba]
    show E.xw (.ref C) (some d) σ _
    rw [e1]
    have st := Step.new (o := .xd [(fl, .int kk)]) s.gh s.tp hd1
    exact e.xx (.ref C) [(fl, .int kk)] (some d) ρ σ _ _ h (s.trans st) (D1.mono st) (.inr ⟨by simp, d, _, rfl, upd_same, .cons (.int kk) .nil⟩)
/-- the class, its __init__ -/
structure CalO (Pg : Program) (w : World) (K : PySem.W.Frag) (mg : Str → Option Value) (base : Heap) (k : Nat) (x fl : Str) (C : Addr) : Prop where
  ex : ∃ fI fd prm, mg x = some (.ref C) ∧ OexC K C ∧ PySem.W.findIn K (.ref C) "__init__" = some (some (.ref fI)) ∧ PySem.W.typeIn K (.ref fI) = some (.type "function") ∧ FnOk Pg w K mg base CX0 k fI fd [("self" : Str), prm] (spSu C fl) ∧ Binds K fd [("self" : Str), prm] []
theorem ps_raiseO {X : Cx} {W : WX} {x fl : Str} {C : Addr} {k m : Nat} {e : Expr} {te : TE} {p pos pos' : Pos} (hc : X.calm = true) (tk : Takes X W) (c : CalO X.prog X.w X.K X.mg X.base k x fl C) (hr : Room m X.A) (hg : Gl X x) (he : PE X e te) (hm : k + 1 ≤ m := by decide) (hs : starEach [e] X.env = (false, eval e X.env) :: starEach [] X.env := by rfl) (hdb : (x == ("__debug__" : Str)) = false := by decide) :
    PS X (.Raise (some (.Call (.Name x p) [e] [] pos)) none pos') (fun _ σ H => tMkO C (spSu C fl) [] (tCons te tNil) σ H fun cls d H' => W cls d σ H') := by
  obtain ⟨fI, fd, prm, hmg, ox, iC, tI, F1, hb⟩ := c.ex
  exact ps_raise hc tk (pmk_oex ox iC tI F1 (hr.mono hm) hb .nil (fun pins s σ H e s' _ z => z.elim) hg hmg (pa_cons he pa_nil hs) hdb hs)
end PD

set_option maxHeartbeats 4000000
/-! PD59: the facts of such a class, from what is written -/
namespace PD
open PySem PySem.Spec PyProof.Rows L2 SuI
/-- the first statement of a class -/
def initS : Stmt → Stmt
  | .ClassDef _ _ _ (st :: _) _ _ _ _ _ _ _ => st
  | s => s
abbrev suFn (qual : Str) (params : Arguments) (body : List Stmt) (scope : Scope) (cc : Addr) (kV doc pm : Value) (an : Option Addr) (cda : Addr) (ct : Value) : FuncData :=
  { name := "__init__", qualname := qual, params, body := .stmts body, scope, globals := mainGlobals, closure := [("__class__", cc)], defaults := .none, kwdefaults := kV, doc, pyModule := pm, annotations := an, code := .ref cda, closureTuple := ct, builtins := builtinsNs }
def oexB (K : PySem.W.Frag) (C : Addr) : Bool := match K.lookup C with
  | some ⟨.type "type", _, .cls cd, sl⟩ => (match cd.mro, sl.toList with
    | .ref C' :: bm, [_, _, _, _, some (.builtin n), _] => C' == C && n == "ValueError.__new__" && !cd.hasDel && cd.hasDict && PySem.HandSPX.refsVE bm
    | _, _ => false)
  | _ => false
theorem oexB_of {K : PySem.W.Frag} {C : Addr} (q : oexB K C = true) : ∃ nm q N bs bm sn sub ab col dd k0 k1 k2 k3 k5, K.lookup C = some (excClassObj nm q C N bs bm true sn sub ab col dd k0 k1 k2 k3 k5 "ValueError.__new__") ∧ PySem.HandSPX.refsVE bm = true := by
  unfold oexB at q
  split at q
  · rename_i dd cd sl ho
    split at q
    · rename_i C' bm k0 k1 k2 k3 n k5 hm hs
      simp only [Bool.and_eq_true, beq_iff_eq, Bool.not_eq_true'] at q
      obtain ⟨⟨⟨⟨rfl, rfl⟩, hdel⟩, hd⟩, ht⟩ := q
      obtain ⟨nm, bs, mro, ns, qn, hd', sn, sub, ab, col, del⟩ := cd
      dsimp only at hm hdel hd
      subst hm hdel hd
      have hsl : sl = #[k0, k1, k2, k3, some (.builtin "ValueError.__new__"), k5] := by
        obtain ⟨l⟩ := sl
        simp only at hs
        rw [hs]
      subst hsl
      exact ⟨nm, qn, ns, bs, bm, sn, sub, ab, col, dd, k0, k1, k2, k3, k5, ho, ht⟩
    · cases q
  · cases q
def scB (sc : Scope) : Bool := sc.names.all fun p => p.2 != .cell && (p.2 != .free || p.1 == ("__class__" : Str))
theorem scB_nc {sc : Scope} (h : scB sc = true) : ∀ y ∈ sc.names, y.2 ≠ .cell := fun y hy e => by
  have := List.all_eq_true.mp h y hy
  rw [e] at this
  simp at this
theorem scB_fr {sc : Scope} (h : scB sc = true) : ∀ y, (sc.names.lookup y = some .cell ∨ sc.names.lookup y = some .free) → y = ("__class__" : Str) := fun y hy => by
  rcases hy with hy | hy
  · exact absurd rfl (scB_nc h _ (PySem.mem_of_lookup hy))
  · have := List.all_eq_true.mp h _ (PySem.mem_of_lookup hy)
    simp at this
    exact this
structure InitOk (prm : Str) (sc : Scope) : Prop where
  co : sc.isCoroutine = false
  gen : sc.isGenerator = false
  kind : sc.kind = .function
  b : scB sc = true
  l0 : sc.names.lookup ("self" : Str) = some .local
  l1 : sc.names.lookup prm = some .local
  ne : (prm == ("self" : Str)) = false
  sup : sc.names.lookup ("super" : Str) = some .globalImplicit
  cl : sc.names.lookup ("__class__" : Str) = some .free
theorem calO_mk {P : Program} {w : World} {K : PySem.W.Frag} {mg : Str → Option Value} {base : Heap} {x prm fl pre post qual : Str} {params : Arguments} {body : List Stmt} {scope : Scope} {C fi cc cda : Addr} {oc kV doc pm ct cl ccl : Value} {od an cld cdd : Option Addr} {sl csl ccs : Array (Option Value)} {vs : Array Value} {file : Str} {tf : Tok} {ar : Arg}
    {p0 p1 p2 p3 p4 q1 q2 q3 q4 q5 r1 r2 r3 r4 : Pos} {i1 i2 : Nat}
    (hx : mg x = some (.ref C)) (hmg : mg "super" = none) (hox : oexB K C = true) (hsa : PySem.W.findIn K (.ref C) "__setattr__" = some (some (.builtin "object.__setattr__"))) (hex : PySem.W.subIn K (.ref C) (.type "BaseException") = some true) (hty : PySem.W.typeIn K (.ref C) = some (.type "type")) (hkc : PySem.W.keepIn K (.ref C) = true)
    (iC : PySem.W.findIn K (.ref C) "__init__" = some (some (.ref fi))) (lk : K.lookup fi = some ⟨oc, od, .func (suFn qual params body scope cc kV doc pm an cda ct), sl⟩) (tI : PySem.W.typeIn K (.ref fi) = some (.type "function")) (hcd : PySem.W.codeIn K (.ref cda) qual = true)
    (lc : K.lookup cc = some ⟨cl, cld, .cell (some (.ref C)), csl⟩) (ld : K.lookup cda = some ⟨ccl, cdd, .fields vs, ccs⟩) (hvs : vs[2]? = some (.str file tf)) (hfile : ((P.main.file : Str) == file) = true)
    (hm : PySem.W.ks_superIn K C C "__init__" = some (some (.builtin "ValueError.__init__"))) (hB : PySem.W.subIn K (.ref C) (.type "ValueError") = some true) (hsub : PySem.W.mroIn K C (.ref C) = some true) (hst : PySem.W.nsIn K cStatics "thirdparty.any" = some none) (hno : PySem.W.findIn K (.ref C) fl = some none)
    (htop : (P.main.scope.names.lookup ("super" : Str)).isSome = false) (hp : (params.posonlyargs ++ params.args).head? = some ar) (har : ar.arg = "self") (S0 : InitOk prm scope) (l1 : pre.length ≤ 1000) (l2 : post.length ≤ 1000) (hln : (p2.endLine == p3.line) = true) (hx1 : (prm == ("__debug__" : Str)) = false) (hx2 : (prm == ("__classdict__" : Str)) = false)
    (hbody : body = [.Expr (.Call (.Attribute (.Call (.Name "super" p0) [] [] p1) "__init__" p2) [.JoinedStr [.Constant (.str pre) i1 q1, .FormattedValue (.Name prm q2) (-1) none q3, .Constant (.str post) i2 q4] q5] [] p3) p4,
      .Assign [.Attribute (.Name "self" r1) fl r2] (.Name prm r3) r4])
    (hb : ∀ us : List Value, us.length = 2 → bindArgs (suFn qual params body scope cc kV doc pm an cda ct) ⟨us, []⟩ = pure ([("self" : Str), prm].zip us)) : CalO P w K mg base 1 x fl C := by
  have ox : OexC K C := ⟨oexB_of hox, hsa, hex, hty, hkc⟩
  have T : Su P K fi C cc cda (suFn qual params body scope cc kV doc pm an cda ct) := ⟨ox, ⟨_, _, _, lk⟩, ⟨ar, hp, har⟩, rfl, ⟨_, _, _, _, _, _, ld, hvs, hfile⟩, ⟨_, _, _, lc⟩, rfl, by
    obtain ⟨nm, q, N, bs, bm, sn, sub, ab, col, dd, k0, k1, k2, k3, k5, hC, _⟩ := oexB_of hox
    exact ⟨_, by unfold PySem.W.clsIn; rw [hC] <;> rfl⟩, hm, hB, hsub, hst, htop⟩
  have S : SuScope prm (suFn qual params body scope cc kV doc pm an cda ct) cc := ⟨S0.co, S0.gen, S0.kind, scB_nc S0.b, S0.l0, S0.l1, S0.ne, scB_fr S0.b, S0.sup, S0.cl, rfl, rfl, rfl⟩
  exact ⟨fi, _, prm, hx, ox, iC, tI, fn_bad T S hcd hmg hno l1 l2 hln hx1 hx2 (congrArg FuncBody.stmts hbody), .all hb⟩
end PD

set_option maxHeartbeats 4000000
/-! PD60: several except clauses, each with a name or without; the fields of the caught exception -/
namespace PD
open PySem PySem.Spec PyProof.Rows L2
abbrev Cls1 := Value × Option Nat × (Addr → Value → Option Addr → TS)
/-- what the clauses wish, the first one first -/
def wAll (K : PySem.W.Frag) (Wout : WX) (D : Ends) : List Cls1 → WX
  | [] => Wout
  | (c, none, ts) :: r => wOnly K c ts (wAll K Wout D r) D
  | (c, some i, ts) :: r => wAs K c i ts (wAll K Wout D r) D
inductive HdsL (X : Cx) : List ExceptHandler → List Cls1 → Prop
  | nil : HdsL X [] []
  | no {x : Str} {c : Value} {ts : Addr → Value → Option Addr → TS} {b : Stmt} {su : List Stmt} {p q : Pos} {hs : List ExceptHandler} {l : List Cls1} (nm : Names X x c)
      (ok : ∀ (a : Addr) (oe : Obj) (cls : Value) (d : Option Addr) (pn : List (Addr × Obj)), Zc cls d oe → (∃ vs, oe.data = .fields vs) → PSs (X.suite a ((a, oe) :: pn)) (b :: su) (ts a cls d)) (r : HdsL X hs l) :
      HdsL X (.ExceptHandler (some (.Name x p)) none (b :: su) q :: hs) ((c, none, ts) :: l)
  | as {x n : Str} {i : Nat} {c : Value} {ts : Addr → Value → Option Addr → TS} {b : Stmt} {su : List Stmt} {p q : Pos} {hs : List ExceptHandler} {l : List Cls1} (nm : Names X x c) (hi : X.N[i]? = some n) (hl : X.env.kindOf n = some .local)
      (ok : ∀ (a : Addr) (oe : Obj) (cls : Value) (d : Option Addr) (pn : List (Addr × Obj)), Zc cls d oe → (∃ vs, oe.data = .fields vs) → PSs (X.suite a ((a, oe) :: pn)) (b :: su) (ts a cls d)) (r : HdsL X hs l) :
      HdsL X (.ExceptHandler (some (.Name x p)) (some n) (b :: su) q :: hs) ((c, some i, ts) :: l)
section
variable {X : Cx}
theorem names_run {x : Str} {c : Value} {np : Pos} {pins : List (Addr × Obj)} {σ : L2.St} {H : Hp} {s : Shared} {a : Addr} {oe : Obj} (nm : Names X x c) (S : Inv (X.suite a ((a, oe) :: (X.pn ++ pins))) [] σ H s) {Q E : Value → Shared → Prop} (q : Q c s) :
    wpAny (model X.prog X.w) (X.A.mark (some (.ref a))) (eval (.Name x np) X.env) Q E s := by
  rcases nm with ⟨g, db, m | ⟨m, v, nn⟩⟩
  · exact ld_glob (X := X.suite a ((a, oe) :: (X.pn ++ pins))) S g m q db
  · exact ld_blt (X := X.suite a ((a, oe) :: (X.pn ++ pins))) S g m v q nn db
/-- the exception at a flies over the heap h; J is the state without it -/
structure Air (X : Cx) (pins : List (Addr × Obj)) (σ : L2.St) (H : Hp) (a : Addr) (cls : Value) (d : Option Addr) (B : Heap) (sI s : Shared) (h : Heap) : Prop where
  J : Inv X pins σ H sI
  nb : ∀ b o, sI.heap.get? b = some o → b ∉ frs X.stack → B.get? b = some o
  up : sI.heap.UpToSlots h
  fl : HandSPX.FlyingZ B (X.env :: X.outer) a (Zc cls d) h
  na : H a = none
  os : s.os = sI.os
  ag : AllBare s.gens
section
variable {pins : List (Addr × Obj)} {σ : L2.St} {H : Hp} {a : Addr} {cls : Value} {d : Option Addr} {B : Heap} {sI s : Shared} {h h' : Heap}
theorem Air.next (z : Air X pins σ H a cls d B sI s h) (fl : HandSPX.FlyingZ B (X.env :: X.outer) a (Zc cls d) h') (up : h.UpToSlots h') : Air X pins σ H a cls d B sI s h' := { z with fl := fl, up := z.up.trans up }
theorem Air.suite (z : Air X pins σ H a cls d B sI s h) (hst : X.stack = X.env :: X.outer) (hf : X.env.frame = some X.env.locals) : ∃ oe, h.get? a = some oe ∧ Zc cls d oe ∧ (∃ vs, oe.data = .fields vs) ∧ Inv (X.suite a ((a, oe) :: (X.pn ++ pins))) [] σ H { s with heap := h } := by
  have L : Inv X pins σ H { s with heap := h } := z.J.landed z.nb z.fl.1 z.up z.os z.ag
  obtain ⟨oe, vs, g, zc, dt⟩ := z.fl.there
  have away : a ∉ frs (X.env :: X.outer) := fun m => by
    obtain ⟨_, o, go, q⟩ := z.fl.2.2.1.mem m
    cases g.symm.trans go
    exact q _ dt
  refine ⟨oe, g, zc, ⟨vs, dt⟩, L.suite g dt z.na (fun q => away (List.mem_filterMap.mpr ⟨X.env, List.mem_cons_self, by rw [hf, q]⟩)) fun m => ?_⟩
  obtain ⟨e, he, q⟩ := List.mem_filterMap.mp m
  exact away (List.mem_filterMap.mpr ⟨e, List.mem_cons_of_mem _ he, q⟩)
theorem hds_run {Wout : WX} {D : Ends} (hst : X.stack = X.env :: X.outer) (hf : X.env.frame = some X.env.locals) (hN : X.N.Nodup) (tk : Takes X Wout) (ok : X.Ok) :
    ∀ {hs : List ExceptHandler} {l : List Cls1}, HdsL X hs l → Air X pins σ H a cls d B sI s h → wAll X.K Wout D l cls d σ H → wpAny (model X.prog X.w) X.A (handleBy (.ref a) X.env hs) (SP X pins D) X.xe { s with heap := h } := by
  intro hs l hh z
  induction hh with
  | nil =>
    intro w
    refine wpAny_handleBy_nil ?_
    obtain ⟨_, _, _, oe, vs, T, _, _, g, _, dt, q1, _⟩ := id z.fl
    unfold PySem.passOn
    have away : wpAny (model X.prog X.w) X.A (setFlight (.ref a) X.env.frame) (fun _ t => wpAny (model X.prog X.w) X.A (throw (.ref a) : Sem Flow) (SP X pins D) X.xe t) X.xe { s with heap := h } := by
      rw [hf]
      refine HandSPX.setFlight_upZ z.fl fun k hk uk => wpAny_throw (tk _ _ ⟨a, B, sI, pins, σ, H, cls, d, rfl, z.J, z.nb, z.up.trans uk, .inr (.inr ?_), z.na, z.os, z.ag, w⟩)
      rw [hst]
      exact hk
    refine wpAny_bind (wpAny_field g dt q1 ?_)
    rw [if_neg (show ¬ ((Value.ref T == Value.none) = true) from by simp)]
    first
      | exact wpAny_bind (wpAny_pure (wpAny_bind away))
      | exact wpAny_bind away
  | @no x c ts b su p q hs l nm ok2 _ ih =>
    intro ⟨y, he, yes, nay⟩
    obtain ⟨oe, g, zc, dt, S⟩ := z.suite hst hf
    have ty : PySem.W.Looks (model X.prog X.w) h (typeOf (.ref a)) cls := fun _ _ _ _ k r => wpAny_typeOf_ref (k _ _ g) (by rw [zc.1]; exact r)
    have is := PySem.W.exm_one (M := model X.prog X.w) S.kIn ty he
    refine wpAny_handleBy_cons (codeAny_handlers_test (names_run nm S (PySem.W.Looks.here is ?_))) (by intro q; cases q)
    cases y with
    | false => exact ih (nay rfl)
    | true =>
      refine codeAny_handlers_suite (HandSPX.lands_againZ z.fl fun k fk uk => ?_)
      obtain ⟨oe, _, zc, dt, S⟩ := (z.next fk uk).suite hst hf
      refine wpAny_mono ((ok2 a oe cls d (X.pn ++ pins) zc dt).run [] _ _ H _ S (yes rfl a z.na)) (fun f t r => ?_) fun _ _ z => z.elim
      cases f with
      | ret u => exact let ⟨v, _, _, S, rv, r⟩ := r; ⟨v, _, _, S.unsuite ok, rv, r⟩
      | next => exact let ⟨_, _, S, r⟩ := r; ⟨_, _, S.unsuite ok, r⟩
      | brk => exact let ⟨_, _, S, r⟩ := r; ⟨_, _, S.unsuite ok, r⟩
      | cont => exact let ⟨_, _, S, r⟩ := r; ⟨_, _, S.unsuite ok, r⟩
  | @as x n i c ts b su p q hs l nm hi hl ok2 _ ih =>
    intro ⟨y, he, yes, nay⟩
    obtain ⟨oe, g, zc, dt, S⟩ := z.suite hst hf
    have ty : PySem.W.Looks (model X.prog X.w) h (typeOf (.ref a)) cls := fun _ _ _ _ k r => wpAny_typeOf_ref (k _ _ g) (by rw [zc.1]; exact r)
    have is := PySem.W.exm_one (M := model X.prog X.w) S.kIn ty he
    refine wpAny_handleBy_cons (codeAny_handlers_test (names_run nm S (PySem.W.Looks.here is ?_))) (by intro q; cases q)
    cases y with
    | false => exact ih (nay rfl)
    | true =>
      refine codeAny_handlers_suite_as (HandSPX.lands_againZ z.fl fun k fk uk => ?_)
      obtain ⟨oe, _, zc, dt, S⟩ := (z.next fk uk).suite hst hf
      refine store_ok (X := X.suite a ((a, oe) :: (X.pn ++ pins))) (v := .ref a) S hN hi (.inl hl) rfl (fun t S => ?_) (.inr hl)
      refine wpAny_mono ((ok2 a oe cls d (X.pn ++ pins) zc dt).run [] t _ H _ S (yes rfl a z.na)) (fun f t r => ?_) fun _ _ z => z.elim
      cases f with
      | ret u => exact let ⟨v, _, _, S, rv, r⟩ := r; gone_ok (S.unsuite ok) hN hi hl fun _ J => ⟨v, _, _, J, rv, r⟩
      | next => exact let ⟨_, _, S, r⟩ := r; gone_ok (S.unsuite ok) hN hi hl fun _ J => ⟨_, _, J, r⟩
      | brk => exact let ⟨_, _, S, r⟩ := r; gone_ok (S.unsuite ok) hN hi hl fun _ J => ⟨_, _, J, r⟩
      | cont => exact let ⟨_, _, S, r⟩ := r; gone_ok (S.unsuite ok) hN hi hl fun _ J => ⟨_, _, J, r⟩
end
def tTryL (K : PySem.W.Frag) (l : List Cls1) (tb : WX → TS) (Wout : WX) : TS := fun D σ H => tb (wAll K Wout D l) D σ H
theorem ps_tryL {body : List Stmt} {h₀ : ExceptHandler} {hs : List ExceptHandler} {l : List Cls1} {pos : Pos} {tb : WX → TS} {Wout : WX} (hst : X.stack = X.env :: X.outer) (hf : X.env.frame = some X.env.locals) (hN : X.N.Nodup) (tk : Takes X Wout)
    (hb : ∀ (W : WX) (pn : List (Addr × Obj)) (xe : Value → Shared → Prop), Takes (X.tr pn xe) W → PassesOwn (model X.prog X.w) X.A X.env xe → PSs (X.tr pn xe) body (tb W)) (hh : HdsL X (h₀ :: hs) l) :
    PS X (.Try body (h₀ :: hs) [] [] pos) (tTryL X.K l tb Wout) := by
  refine ⟨fun pins s σ H D I w => wpAny_Try_except ?_⟩
  have fr : X.A.frames = some (X.env :: X.outer) := by rw [I.ok.frames, hst]
  refine wpAny_mono ((hb (wAll X.K Wout D l) (X.pn ++ pins) (fun e s1 => wpAny (model X.prog X.w) X.A (noteFrame e X.env) (fun _ s2 => wpAny (model X.prog X.w) X.A (setFlight e none)
    (fun _ s3 => wpAny (model X.prog X.w) X.A (handleBy e X.env (h₀ :: hs)) (SP X pins D) X.xe s3) X.xe s2) X.xe s1) (fun u t x => ?_) PassesOwn.looking).run [] s σ H D (I.toTry _) w) (fun f t r => ?_) fun e t r => r
  · obtain ⟨a, B, sI, _, σ', H', cls, d, rfl, J, nb, up, sky, na, os, ag, w⟩ := x
    have sk : Sky B (X.env :: X.outer) a (Zc cls d) X.env.locals t.heap := by rw [← hst]; exact sky
    exact Sky.land Zc.steady fr hf sk fun h3 fl u3 => hds_run hst hf hN tk I.ok hh ⟨J.ofTry I.ok, nb, up.trans u3, fl, na, os, ag⟩ w
  · cases f with
    | ret u => exact let ⟨v, _, _, S, rv, r⟩ := r; ⟨v, _, _, S.ofTry I.ok, rv, r⟩
    | next => exact let ⟨_, _, S, r⟩ := r; wpAny_execs_nil ⟨_, _, S.ofTry I.ok, r⟩
    | brk => exact let ⟨_, _, S, r⟩ := r; ⟨_, _, S.ofTry I.ok, r⟩
    | cont => exact let ⟨_, _, S, r⟩ := r; ⟨_, _, S.ofTry I.ok, r⟩
end
/-! the clauses by data -/
def HL (K : PySem.W.Frag) (E : Ed) (Wout : WX) (c' : Value) (fs : List (Str × PyData)) (r : Rho) : List Cls1 → Prop
  | [] => E.xr c' fs r ∧ E.xw = Wout
  | (c, none, ts) :: l => ∃ b, PySem.W.exmOne K c' c = some b ∧ (b = true → ∀ a d, Ws K (ts a c' d) r E) ∧ (b = false → HL K E Wout c' fs r l)
  | (c, some i, ts) :: l => ∃ b, PySem.W.exmOne K c' c = some b ∧ (b = true → ∀ a d, Ws K (ts a c' d) (r.set i (.mx (exM a d fs))) { nx := fun q => E.nx (q.set i .no), rt := E.rt, bk := fun q => E.bk (q.set i .no), ct := fun q => E.ct (q.set i .no) }) ∧ (b = false → HL K E Wout c' fs r l)
theorem xfc {K : PySem.W.Frag} {C : Addr} (h : ExcC K C) : XfC K C := ⟨h.hg, h.hk, h.hs, h.hd⟩
theorem ws_tryL {K : PySem.W.Frag} {ρ : Rho} {E : Ed} {l : List Cls1} {tb : WX → TS} {Wout : WX} (XR : Value → List (Str × PyData) → Rho → Prop)
    (hb : ∀ W, Ws K (tb W) ρ { nx := E.nx, rt := E.rt, bk := E.bk, ct := E.ct, xw := W, xr := XR }) (hh : ∀ c' fs r, XR c' fs r → HL K E Wout c' fs r l) : Ws K (tTryL K l tb Wout) ρ E := fun T G0 H0 σ H D a e => by
  refine hb (wAll K Wout D l) T G0 H0 σ H D a ⟨e.nx, e.rt, e.bk, e.ct, fun cls fs d r σ' G' H' x s D' xd => ?_⟩
  have q := hh cls fs r x
  clear hh hb x
  show wAll K Wout D l cls d σ' H'
  induction l with
  | nil =>
    obtain ⟨h4, h5⟩ := q
    subst h5
    exact e.xx cls fs d r σ' G' H' h4 s D' xd
  | cons p l ih =>
    obtain ⟨c, o, ts⟩ := p
    cases o with
    | none =>
      obtain ⟨b, h1, h2, h3⟩ := q
      exact ⟨b, h1, fun z a _ => h2 z a d T G0 H0 σ' H' D ⟨G', s, D'⟩ e, fun z => ih (h3 z)⟩
    | some i =>
      obtain ⟨b, h1, h2, h3⟩ := q
      refine ⟨b, h1, fun z a' na => ?_, fun z => ih (h3 z)⟩
      have go : ∀ {P : Rho → Prop} {R : L2.St → Hp → Prop}, (∀ ρ σ H, P ρ → At T K G0 H0 ρ σ H → R σ H) → ∀ ρ σ H, P (ρ.set i .no) → At T K G0 H0 ρ σ H → R (σ.set i none) H := fun hR ρ σ H p ⟨G, s, dn⟩ => hR _ _ _ p ⟨G, s, dn.set trivial fun _ z => nomatch z⟩
      exact h2 z a' d T G0 H0 _ H' _ ⟨G', s, D'.set (s := .mx (exM a' d fs)) ⟨⟨rfl, xd⟩, fun _ z => nomatch z⟩ fun _ z => nomatch z⟩ ⟨go e.nx, e.rt, go e.bk, go e.ct, fun _ _ _ _ _ _ _ z => z.elim⟩
end PD

set_option maxHeartbeats 4000000
/-! PD61: statements followed by others, in one step -/
namespace PD
open PySem PySem.Spec PyProof.Rows L2
section
variable {K : PySem.W.Frag} {ρ : Rho} {E : Ed} {u : TS} {P : PyData → Prop}
theorem wq_dput {i : Nat} {l : Addr} {es : List (Key × PyData)} {k : Key} {ty tv : TE} {d : PyData} (e : ρ[i]? = some (.mx (dkM l es))) (hk : Pd K ty ρ (kD k)) (hv : Pd K tv ρ d) (hz : es.length < sizeLine) (c : Ws K u (ρ.set i (.mx (dkM l (putD es k d)))) E) : Ws K (tSeq (sDPut (tVar i) ty tv) u) ρ E :=
  ws_seq (fun r => r = ρ.set i (.mx (dkM l (putD es k d)))) (ws_dput e hk hv hz fun x h => by rw [h]) fun r h => h ▸ c
theorem ws_dputd {i : Nat} {l : Addr} {es : List (Key × PyData)} {k : Key} {ty tv : TE} {d : PyData} (e : ρ[i]? = some (.mx (dkM l es))) (hk : Pd K ty ρ (kD k)) (hv : Pd K tv ρ d) (hz : es.length < sizeLine) (c : E.nx (ρ.set i (.mx (dkM l (putD es k d))))) : Ws K (sDPut (tVar i) ty tv) ρ E :=
  ws_dput e hk hv hz fun x h => h ▸ c
theorem ws_appd {i : Nat} {xs : List PyData} {te : TE} {d : PyData} (e : ρ[i]? = some (.ml xs)) (h : Pd K te ρ d) (hz : xs.length < sizeLine) (k : E.nx (ρ.set i (.ml (xs ++ [d])))) : Ws K (tDrop (tBM K "list" rAppend (tVar i) (tCons te tNil))) ρ E := ws_app e h hz fun x q => q ▸ k
theorem wq_appP {i : Nat} {xs : List PyData} {te : TE} (e : ρ[i]? = some (.ml xs)) (h : Pe K te ρ P) (hz : xs.length < sizeLine) (k : ∀ d, P d → Ws K u (ρ.set i (.ml (xs ++ [d]))) E) : Ws K (tSeq (tDrop (tBM K "list" rAppend (tVar i) (tCons te tNil))) u) ρ E :=
  ws_seq (fun r => ∃ d, P d ∧ r = ρ.set i (.ml (xs ++ [d]))) (ws_app e h hz fun d p => ⟨d, p, rfl⟩) fun r ⟨d, p, h⟩ => h ▸ k d p
theorem wq_appd {i : Nat} {xs : List PyData} {te : TE} {d : PyData} (e : ρ[i]? = some (.ml xs)) (h : Pd K te ρ d) (hz : xs.length < sizeLine) (k : Ws K u (ρ.set i (.ml (xs ++ [d]))) E) : Ws K (tSeq (tDrop (tBM K "list" rAppend (tVar i) (tCons te tNil))) u) ρ E := wq_appP e h hz fun x q => q ▸ k
/-- a or b, by a test that is known -/
theorem yd_ifd {t : TT} {ta tb : TE} {b : Bool} {d : PyData} (h : Ptd K t ρ b) (h1 : b = true → Pd K ta ρ d) (h2 : b = false → Pd K tb ρ d) : Pd K (tIf t ta tb) ρ d := ye_if h (fun e => h1 e.symm) fun e => h2 e.symm
/-- an if without else, its test known -/
theorem wq_ifd {c : TT} {b : Bool} {t v : TS} (h : Ptd K c ρ b) (R : Rho → Prop) (h1 : b = true → Ws K t ρ { E with nx := R }) (h2 : b = false → R ρ) (k : ∀ r, R r → Ws K v r E) : Ws K (tSeq (tIfS c t tNext) v) ρ E :=
  wq_if h R (fun e => h1 e.symm) (fun e => ws_next (h2 e.symm)) k
end
/-- a < b <= c, of numbers -/
theorem yd_chain {K : PySem.W.Frag} {ρ : Rho} {ta tb tc : TE} {f g : Int → Int → Bool} {i j k : Int} (ha : Pd K ta ρ (.int i)) (hb : Pd K tb ρ (.int j)) (hc : Pd K tc ρ (.int k)) :
    Pd K (tChain (rI0 fun i j => .bl (f i j)) (rI0 fun i j => .bl (g i j)) ta tb tc) ρ (.bool (f i j && g j k)) := fun T H0 G H σ gh tp D Q q =>
  ha.bind gh tp D fun x v G1 H1 p1 s1 gh1 tp1 D1 x1 => hb.bind gh1 tp1 D1 fun y u G2 H2 p2 s2 gh2 tp2 D2 x2 => by
    subst p1 p2
    cases x1
    cases x2
    refine ⟨i, j, rfl, rfl, f i j, rfl, ?_⟩
    cases hf : f i j with
    | false =>
      rw [if_neg Bool.false_ne_true]
      exact q _ _ G2 H2 (by rw [hf]; rfl) (s1.trans s2) (.bl _)
    | true =>
      rw [if_pos rfl]
      refine hc.bind gh2 tp2 D2 fun z w G3 H3 p3 s3 gh3 tp3 D3 x3 => ?_
      subst p3
      cases x3
      exact ⟨j, k, rfl, rfl, q _ _ G3 H3 (by rw [hf]; rfl) ((s1.trans s2).trans s3) (.bl _)⟩
theorem ye_t1 {K : PySem.W.Frag} {ρ : Rho} {ta : TE} {A P : PyData → Prop} (h1 : Pe K ta ρ A) (k : ∀ a, A a → P (.tuple [a])) : Pe K (tTuq (tCons ta tNil)) ρ P :=
  ye_tup (PA := fun ss => ∃ a, A a ∧ ss = [.d a]) (ya_c h1 ya_n fun d ss ha e => ⟨d, ha, by rw [e]⟩) fun ss ⟨a, ha, e⟩ => ⟨[a], e, by show 1 ≤ (16777216 : Nat); decide, k a ha⟩
/-- t[lo:hi], what is cut known by what it can be -/
theorem ye_slT {K : PySem.W.Frag} {ρ : Rho} {ta : TE} {P Pa : PyData → Prop} {PL PH : Option Int → Prop} {tl th : TO} (ha : Pe K ta ρ Pa) (hl : Po K tl ρ PL) (hh : Po K th ρ PH) (h : ∀ x lo hi, Pa x → PL lo → PH hi → ∃ xs, x = .tuple xs ∧ P (.tuple (cut xs lo hi))) : Pe K (tSl (rSlX K) ta tl th) ρ P := fun T H0 G H σ gh tp D Q q =>
  ha.bind gh tp D fun x v G1 H1 p1 s1 gh1 tp1 D1 x1 => hl.bind gh1 tp1 D1 fun o1 G2 H2 p2 s2 gh2 tp2 D2 => hh.bind gh2 tp2 D2 fun o2 G3 H3 p3 s3 gh3 tp3 D3 => by
    obtain ⟨xs, rfl, hP⟩ := h x o1 o2 p1 p2 p3
    have s := (s1.trans s2).trans s3
    have x1 := (x1.mono s2.g).mono s3.g
    cases x1 with
    | @tup a vs _ pl e1 a1 =>
      refine .inr ⟨a, vs, rfl, sqt_mono gh3 e1, ?_, fun _ => ?_⟩
      · rintro ⟨h1, h2⟩
        have e : cut xs o1 o2 = xs := by
          unfold cut
          rw [← a1.length, h1, h2, a1.length, List.drop_zero, Nat.sub_zero]
          exact List.take_of_length_le (Nat.le_refl _)
        exact q _ _ G3 H3 (by rw [e] at hP; exact hP) s (.tup (p := pl) e1 a1)
      · exact new_tup gh3 tp3 (a1.cut o1 o2) fun v G' H' s' x => q _ v G' H' hP (s.trans s') x
theorem isI_add {K : PySem.W.Frag} {ρ : Rho} {ta tb : TE} {A B C : Int → Prop} (ha : Pe K ta ρ (isI A)) (hb : Pe K tb ρ (isI B)) (h : ∀ x y, A x → B y → C (x + y)) : Pe K (tOp (rPlus K) ta tb) ρ (isI C) :=
  ye_add ha hb fun x y ⟨i, e1, a⟩ ⟨j, e2, b⟩ => ⟨i, j, e1, e2, _, rfl, h i j a b⟩
theorem isI_sub {K : PySem.W.Frag} {ρ : Rho} {ta tb : TE} {A B C : Int → Prop} (ha : Pe K ta ρ (isI A)) (hb : Pe K tb ρ (isI B)) (h : ∀ x y, A x → B y → C (x - y)) : Pe K (tOp rMinus ta tb) ρ (isI C) :=
  ye_sub ha hb fun x y ⟨i, e1, a⟩ ⟨j, e2, b⟩ => ⟨i, j, e1, e2, _, rfl, h i j a b⟩
theorem isI_md {K : PySem.W.Frag} {ρ : Rho} {ta : TE} {A : Int → Prop} {n : Int} (ha : Pe K ta ρ (isI A)) (h : 0 < n) : Pe K (tOp rMd ta (tC (.int n))) ρ (isI fun r => 0 ≤ r ∧ r < n) :=
  ye_md (Pb := fun d => d = .int n) ha ye_i fun x y ⟨i, e1, a⟩ e2 => ⟨i, n, e1, e2, h, _, rfl, Int.emod_nonneg _ (by omega), Int.emod_lt_of_pos _ h⟩
theorem isI_toI {K : PySem.W.Frag} {ρ : Rho} {ta : TE} {A : Int → Prop} (ha : Pe K ta ρ (isI A)) : Pe K (tCB rInt1 (tCons ta tNil)) ρ (isI A) := ye_toI ha fun x ⟨i, e, a⟩ => ⟨i, e, i, rfl, a⟩
theorem isI_min {K : PySem.W.Frag} {ρ : Rho} {ta tb : TE} {A B C : Int → Prop} (ha : Pe K ta ρ (isI A)) (hb : Pe K tb ρ (isI B)) (h : ∀ x y, A x → B y → C (min x y)) : Pe K (tCB (rMinX K) (tCons ta (tCons tb tNil))) ρ (isI C) :=
  ye_min2 ha hb fun x y ⟨i, e1, a⟩ ⟨j, e2, b⟩ => ⟨i, j, e1, e2, _, rfl, h i j a b⟩
theorem isI_max {K : PySem.W.Frag} {ρ : Rho} {ta tb : TE} {A B C : Int → Prop} (ha : Pe K ta ρ (isI A)) (hb : Pe K tb ρ (isI B)) (h : ∀ x y, A x → B y → C (max x y)) : Pe K (tCB (rMaxX K) (tCons ta (tCons tb tNil))) ρ (isI C) :=
  ye_max2 ha hb fun x y ⟨i, e1, a⟩ ⟨j, e2, b⟩ => ⟨i, j, e1, e2, _, rfl, h i j a b⟩
end PD

set_option maxHeartbeats 4000000
/-! PD62: t.index(k) of a tuple of numbers; dict(t).get(k, x); d is None of a dict; a new dict as an argument -/
namespace PD
open PySem PySem.Spec PyProof.Rows L2
def rTIdx (K : PySem.W.Frag) : V → List V → Hp → VK → Prop := fun x xs H Q => ∃ (p : Addr) (ns : List Int) (k : Int), x = .ref p ∧ xs = [.int k] ∧ SqT K H p (ns.map V.int) ∧ k ∈ ns ∧ Q (.int (ns.idxOf k : Nat)) H
theorem mt_tidx {X : Cx} : MtR X "tuple.index" (rTIdx X.K) := by
  intro pins s σ H x xs v us Q I rx rxs h
  obtain ⟨p, ns, k, rfl, rfl, hq, hk, q⟩ := h
  cases rx
  obtain ⟨u, rfl, ru⟩ := vals1 rxs
  obtain ⟨its, r, pl, hz⟩ := I.tuple hq
  have hl : its.length = ns.length := by rw [← r.length, List.length_map]
  have fl : (ns.map V.int).all flatV = true := by
    rw [List.all_map]
    exact List.all_eq_true.mpr fun _ _ => rfl
  refine SeqAt.call_tuple_index (ks := ns) (k := k) pl ⟨hl, fun j h1 h2 => ?_⟩ hk ⟨.int (ns.idxOf k : Nat), H, I.tok _, ⟨_, rfl⟩, q⟩
  have e := mem_eqAt (A := X.A.in1) (s := s) ru (show flatV (V.int k) = true from rfl) r fl its[j] (List.getElem_mem h1)
  obtain ⟨w, hw, rw'⟩ := r.get (i := j) (x := V.int ns[j]) (by rw [List.getElem?_map, List.getElem?_eq_getElem h2]; rfl)
  rw [List.getElem?_eq_getElem h1] at hw
  cases hw
  rw [eqU_of rw' rfl] at e
  have z : eqV (V.int ns[j]) (V.int k) = decide (ns[j] = k) := by
    show (ns[j] == k) = _
    rw [Bool.eq_iff_iff, beq_iff_eq, decide_eq_true_iff]
  rw [z] at e
  exact e
/-- t.index(..), t a plain tuple -/
def tTIdx (K : PySem.W.Frag) (ta : TE) (tr : TA) : TE := fun σ H Q => ta σ H fun x H1 => (∃ a vs, x = .ref a ∧ PlT K H1 a ∧ SqT K H1 a vs) ∧ tr σ H1 fun xs H2 => rTIdx K x xs H2 Q
theorem pe_tidx {X : Cx} {o e : Expr} {ta : TE} {tr : TA} {ap cp : Pos} (ho : PE X o ta) (ha : PA X [e] tr) (hb : attributeBase o "index" X.env (eval o X.env) = eval o X.env := by rfl)
    (few : ((backTo cp (starEach [e] X.env)).all (fun x => !x.1) && (backToKw cp (keywordEach [] X.env)).all (fun x => x.1.isSome) && decide ([e].length + ([] : List Keyword).length + (if ([] : List Keyword).isEmpty then 0 else 1) < 30)) = true := by rfl)
    (line : (ap.endLine == cp.line) = true := by rfl) (st : starEach [e] X.env = (false, eval e X.env) :: starEach [] X.env := by rfl) : PE X (.Call (.Attribute o "index" ap) [e] [] cp) (tTIdx X.K ta tr) := by
  refine ⟨fun pins s σ H Q I h => wpAny_Call_method_late hb few line rfl (thn (ho.run pins s σ H _ I h) fun v s1 ⟨x, H1, I1, r1, ⟨a, vs, ex, pl, sq⟩, q⟩ => ?_)⟩
  subst ex
  cases r1
  obtain ⟨its, ob, n, _, g, c, d, _⟩ := plain_tup I1 pl sq
  refine ⟨"tuple", "tuple.index", PySem.F.plainAttrs_tuple, PySem.F.slot_tuple_index, PySem.F.type_tuple_index, ⟨ob, g, c⟩, fun b eb => by cases eb; exact ⟨ob, g, d⟩, ?_⟩
  have run := ha.run cp pins s1 σ H1 _ I1 q
  rw [st] at run ⊢
  exact Calls.callWith_builtin rfl (Calls.evalArgs_plain (thn run fun us s2 ⟨ys, H2, I2, r2, q2⟩ => mt_tidx pins s2 σ H2 (.ref a) ys (.ref a) us Q I2 rfl r2 q2))
section
variable {K : PySem.W.Frag} {ρ : Rho} {ta tb td ty tx : TE}
theorem yd_tidx {ns : List Int} {k : Int} (ha : Pd K ta ρ (.tuple (ns.map .int))) (hb : Pd K tb ρ (.int k)) (hk : k ∈ ns) : Pd K (tTIdx K ta (tCons tb tNil)) ρ (.int (ns.idxOf k : Nat)) := fun T H0 G H σ gh tp D Q q =>
  ha.bind gh tp D fun x v G1 H1 p1 s1 gh1 tp1 D1 x1 => by
    subst p1
    cases x1 with
    | @tup a vs _ pl e1 a1 =>
      refine ⟨⟨a, vs, rfl, pl.mono gh1, sqt_mono gh1 e1⟩, hb.bind gh1 tp1 D1 fun y u G2 H2 p2 s2 gh2 tp2 D2 x2 => ?_⟩
      subst p2
      cases x2
      have e := a1.ints
      subst e
      exact ⟨a, ns, k, rfl, rfl, sqt_mono gh2 (sqt_mono s2.g e1), hk, q _ _ G2 H2 rfl (s1.trans s2) (.int _)⟩
/-- dict(..).get(k, x), the dict made there -/
theorem yd_nget2 {es : List (Key × PyData)} {k : Key} {x : PyData} (h : Nx K td ρ (fun m => ∃ l, m = dkM l es)) (hk : Pd K ty ρ (kD k)) (hx : Pd K tx ρ x) : Pd K (tDGet2 td ty tx) ρ ((valD es k).getD x) := fun T H0 G H σ gh tp D Q q => by
  refine h T H0 G H σ gh tp D _ fun m v G1 H1 hm s1 ok fr => ?_
  obtain ⟨l, rfl⟩ := hm
  obtain ⟨ev, kvs, hl, al⟩ := ok
  cases ev
  have nt : ¬ T l := (fr l List.mem_cons_self).2.2.2
  refine ⟨l, rfl, .inl ⟨kvs, .inl hl⟩, hk.bind s1.gh s1.tp (D.mono s1) fun y w G2 H2 p2 s2 gh2 tp2 D2 x2 => ?_⟩
  subst p2
  have ew := dn_key x2
  subst ew
  refine hx.bind gh2 tp2 D2 fun z w G3 H3 p3 s3 gh3 tp3 D3 x3 => ?_
  subst p3
  have hl3 := s3.h l _ nt (s2.h l _ nt hl)
  refine ⟨_, DGet.k hl3, ?_⟩
  rcases ((al.mono s2.g).mono s3.g).val k with ⟨v1, v2⟩ | ⟨v, d, v1, v2, x⟩
  · rw [v1]
    exact q _ _ G3 H3 (by rw [v2]; rfl) ((s1.trans s2).trans s3) x3
  · rw [v1]
    exact q _ _ G3 H3 (by rw [v2]; rfl) ((s1.trans s2).trans s3) x
theorem yd_isNx {i : Nat} {l : Addr} {es : List (Key × PyData)} (e : ρ[i]? = some (.mx (dkM l es))) : Pd K (tOp (fun x y H Q => y = .non ∧ Q (.bl (decide (x = .non))) H) (tVar i) (tC .non)) ρ (.bool false) := fun T H0 G H σ gh tp D Q q => by
  obtain ⟨kvs, e1, _⟩ := dk_get e D
  exact ⟨_, e1, rfl, q _ _ G H rfl (Step.refl gh tp) (.bl false)⟩
/-! a new dict, as data -/
def tKeepV (t : TE) : TE := fun σ H Q => t σ H fun x H1 => ∃ d u, H1 d = some u ∧ Mut (some u) ∧ ∀ od, Q x (upd H1 d (.frz od u))
theorem pe_keepV {X : Cx} {e : Expr} {t : TE} (h : PE X e t) : PE X e (tKeepV t) := by
  refine ⟨fun pins s σ H Q I hw => thn (h.run pins s σ H _ I hw) fun v s1 ⟨x, H1, I1, r, d, u, hd, mu, q⟩ => ?_⟩
  obtain ⟨od, I2⟩ := I1.lock hd mu
  exact ⟨x, _, I2, r, q od⟩
theorem ye_keepV {P : List (Key × PyData) → Prop} (h : Nx K td ρ (fun m => ∃ l es, m = dkM l es ∧ P es)) : Pe K (tKeepV td) ρ (fun d => ∃ es, P es ∧ d = dD es) := fun T H0 G H σ gh tp D Q q => by
  refine h T H0 G H σ gh tp D _ fun m v G1 H1 hm s1 ok fr => ?_
  obtain ⟨l, es, rfl, hP⟩ := hm
  obtain ⟨ev, kvs, hl, al⟩ := ok
  cases ev
  obtain ⟨nz, gl, h0, nt⟩ := fr l List.mem_cons_self
  refine ⟨l, _, hl, True.intro, fun od => ?_⟩
  have g1 : Same G1 (upd G1 l (.frz od (.dK kvs))) := fun a u e => by rw [upd_ne (ne_of_none e gl)]; exact e
  refine q (dD es) (.ref l) (upd G1 l (.frz od (.dK kvs))) _ ⟨es, hP, rfl⟩ ⟨s1.g.trans g1, fun a u e => ?_, fun p o np e => ?_, fun p e n => ?_, tp_more s1.tp nt gl nz⟩ (dct_of (o := od) upd_same (al.mono g1))
  · by_cases z : a = l
    · rw [z, upd_same] at e ⊢
      exact e
    · rw [upd_ne z] at e ⊢
      exact s1.gh _ _ e
  · rw [upd_ne (ne_of_none e h0)]
    exact s1.h p o np e
  · rw [upd_ne (fun z => n (by rw [z]; exact h0))]
    exact s1.fr p e n
end
end PD

set_option Elab.async false
set_option linter.all false
set_option maxRecDepth 100000
set_option maxHeartbeats 4000000
namespace PF
open PySem PySem.Spec PyProof.Rows L2 RZ PD
local macro_rules | `(tactic| decreasing_trivial) => `(tactic| first
  | exact ye_v rfl | exact rl_v rfl | exact ye_i | exact ye_b | exact ye_n | exact ye_s
  | (refine yt_d ?_; decreasing_trivial) | (refine yt_B ?_; decreasing_trivial)
  | (refine yt_notd ?_; decreasing_trivial) | (refine yt_andd ?_ (fun _ => ?_) <;> decreasing_trivial) | (refine yt_ord ?_ (fun _ => ?_) <;> decreasing_trivial)
  | (refine yd_add ?_ ?_ <;> decreasing_trivial) | (refine yd_sub ?_ ?_ <;> decreasing_trivial)
  | (refine yd_cp ?_ ?_ <;> decreasing_trivial)
  | (refine yd_eqI ?_ ?_ <;> decreasing_trivial) | (refine yd_neI ?_ ?_ <;> decreasing_trivial)
  | (refine yd_isN ?_; decreasing_trivial) | (refine yd_ntN ?_; decreasing_trivial)
  | (refine yd_lenR ?_; exact rl_v rfl) | (refine yd_lenT ?_; decreasing_trivial) | (refine yd_lenL ?_; decreasing_trivial)
  | (refine yd_max2 ?_ ?_ <;> decreasing_trivial) | (refine yd_min2 ?_ ?_ <;> decreasing_trivial)
  | (refine yd_toI ?_; decreasing_trivial)
  | exact yd_t0 | (refine yd_t1 ?_; decreasing_trivial) | (refine yd_t2 ?_ ?_ <;> decreasing_trivial) | (refine yd_t3 ?_ ?_ ?_ <;> decreasing_trivial) | (refine yd_t4 ?_ ?_ ?_ ?_ <;> decreasing_trivial)
  | (refine yd_ixR (rl_v rfl) ?_ ?_ <;> decreasing_trivial)
  | (refine yd_ixT ?_ ?_ ?_ <;> decreasing_trivial) | (refine yd_ixL ?_ ?_ ?_ <;> decreasing_trivial)
  | exact ya_n | (refine ya_td rfl ?_; decreasing_trivial) | (refine ya_d ?_ ?_ <;> decreasing_trivial)
  | exact yg_n
  | exact atI_nat (by assumption) | exact atI_nat (by simp only [List.getElem?_map, *]; rfl)
  | exact rfl)

def topS (i : Nat) : Stmt := PySem.Challenge.pw_plantrace_k93_expediting.main.body.getD i (.Pass ⟨0, 0, 0, 0⟩)
structure Tx (K : PySem.W.Frag) (mg : Str → Option Value) : Prop where
  b_abs : mg "abs" = none
  b_bool : mg "bool" = none
  b_dict : mg "dict" = none
  b_int : mg "int" = none
  b_isinstance : mg "isinstance" = none
  b_len : mg "len" = none
  b_list : mg "list" = none
  b_max : mg "max" = none
  b_min : mg "min" = none
  b_range : mg "range" = none
  b_str : mg "str" = none
  b_sum : mg "sum" = none
  b_tuple : mg "tuple" = none
  b_zip : mg "zip" = none
/-! orders, sequences, dates -/
structure Od where
  p : Int
  q : Int
  d : Int
instance : Inhabited Od := ⟨⟨0, 0, 0⟩⟩
def odD (o : Od) : PyData := .tuple [.int o.p, .int o.q, .int o.d]
def odsD (os : List Od) : PyData := .tuple (os.map odD)
def niD (i : Nat) : PyData := .int (i : Int)
def sqD (sq : List Nat) : PyData := .tuple (sq.map niD)
def ord (os : List Od) (i : Nat) : Od := os.getD i default
structure OdsOk (os : List Od) : Prop where
  l : os.length ≤ 1000
  q : ∀ o ∈ os, 1 ≤ o.q ∧ o.q ≤ 1000
structure SqOk (os : List Od) (sq : List Nat) : Prop where
  l : sq.length ≤ 1000
  lt : ∀ i ∈ sq, i < os.length
theorem SqOk.at {os : List Od} {sq : List Nat} (h : SqOk os sq) {i j : Nat} (e : sq[i]? = some j) : os[j]? = some (ord os j) := by
  have := h.lt j (List.mem_of_getElem? e)
  unfold ord
  rw [List.getD_eq_getElem?_getD, List.getElem?_eq_getElem this]
  rfl
theorem ord_mem {os : List Od} {j : Nat} {o : Od} (e : os[j]? = some o) : ord os j = o := by
  unfold ord
  rw [List.getD_eq_getElem?_getD, e]
  rfl
/-- how many units of p the orders of sq have -/
def before (os : List Od) (sq : List Nat) (p : Int) : Int := ((sq.filter fun j => decide ((ord os j).p = p)).map fun j => (ord os j).q).sum
theorem before_snoc (os : List Od) (sq : List Nat) (j : Nat) (p : Int) : before os (sq ++ [j]) p = before os sq p + if (ord os j).p = p then (ord os j).q else 0 := by
  unfold before
  rw [List.filter_append, List.map_append, List.sum_append]
  congr 1
  by_cases h : (ord os j).p = p
  · rw [List.filter_cons_of_pos (by rw [decide_eq_true_iff]; exact h), if_pos h]
    exact Int.add_zero _
  · rw [List.filter_cons_of_neg (by rw [decide_eq_true_iff]; exact h), if_neg h]
    rfl
theorem before_nn {os : List Od} (h : OdsOk os) {sq : List Nat} (hs : ∀ i ∈ sq, i < os.length) (p : Int) : 0 ≤ before os sq p := by
  unfold before
  have : ∀ l : List Nat, (∀ i ∈ l, i < os.length) → 0 ≤ (l.map fun j => (ord os j).q).sum := fun l => by
    induction l with
    | nil => intro _; exact Int.le_refl _
    | cons a l ih =>
      intro hl
      rw [List.map_cons, List.sum_cons]
      have h1 := ih fun i hi => hl i (List.mem_cons_of_mem _ hi)
      have h2 := (h.q (ord os a) (by unfold ord; rw [List.getD_eq_getElem?_getD, List.getElem?_eq_getElem (hl a List.mem_cons_self)]; exact List.getElem_mem _)).1
      omega
  exact this _ fun i hi => hs i (List.mem_filter.mp hi).1
def bfK (os : List Od) (sq : List Nat) (k : Nat) : Int := before os (sq.take k) (ord os (sq.getD k 0)).p
def qK (os : List Od) (sq : List Nat) (k : Nat) : Int := (ord os (sq.getD k 0)).q
def spE (os : List Od) (sq : List Nat) (k : Nat) : PyData := .tuple [.int (bfK os sq k + 1), .int (bfK os sq k + qK os sq k)]
def spL (os : List Od) (sq : List Nat) : List PyData := (List.range sq.length).map (spE os sq)
theorem getD_at {α : Type} {l : List α} {i : Nat} {a b : α} (e : l[i]? = some a) : l.getD i b = a := by
  rw [List.getD_eq_getElem?_getD, e]
  rfl
theorem take_snoc {α : Type} {l : List α} {i : Nat} {a : α} (e : l[i]? = some a) : l.take (i + 1) = l.take i ++ [a] := by
  rw [List.take_add_one, e]
  rfl
theorem rmap_snoc {α : Type} (f : Nat → α) (i : Nat) : (List.range (i + 1)).map f = (List.range i).map f ++ [f i] := by
  rw [List.range_succ, List.map_append]
  rfl
theorem before_take {os : List Od} {sq : List Nat} {i j : Nat} (e : sq[i]? = some j) (p : Int) : before os (sq.take (i + 1)) p = before os (sq.take i) p + if (ord os j).p = p then (ord os j).q else 0 := by
  rw [take_snoc e, before_snoc]
/-! availability -/
abbrev Av := List (Int × List Int)
def avE (av : Av) : List (Key × PyData) := av.map fun a => ((.inl a.1 : Key), PyData.tuple (a.2.map .int))
def avD (av : Av) : PyData := .tuple (prD (avE av))
def hrs (av : Av) : Int → List Int := av.foldl (fun f a p => if p = a.1 then a.2 else f p) fun _ => []
theorem hrs_mk (av : Av) (p : Int) : (valD (mkD (avE av)) (.inl p)).getD (.tuple []) = .tuple ((hrs av p).map .int) := by
  have go : ∀ (av : Av) (es : List (Key × PyData)) (f : Int → List Int), (∀ p, (valD es (.inl p)).getD (.tuple []) = .tuple ((f p).map .int)) → ∀ p, (valD ((avE av).foldl (fun es q => putD es q.1 q.2) es) (.inl p)).getD (.tuple []) = .tuple (((av.foldl (fun f a p => if p = a.1 then a.2 else f p) f) p).map .int) := fun av => by
    induction av with
    | nil => exact fun es f h p => h p
    | cons a av ih =>
      intro es f h p
      refine ih (putD es (.inl a.1) (.tuple (a.2.map .int))) (fun p => if p = a.1 then a.2 else f p) (fun p => ?_) p
      rw [valD_put]
      by_cases e : p = a.1
      · rw [if_pos (by rw [e]), if_pos e]
        rfl
      · rw [if_neg (fun z => e (Sum.inl.inj z)), if_neg e]
        exact h p
  exact go av [] (fun _ => []) (fun _ => rfl) p
/-- the date of place k, if it has one -/
def dtK (os : List Od) (av : Av) (sq : List Nat) (k : Nat) : Option Int :=
  let h := hrs av (ord os (sq.getD k 0)).p
  if bfK os sq k + qK os sq k ≤ (h.length : Int) then some (h.getD (bfK os sq k + qK os sq k - 1).toNat 0) else none
def oiD : Option Int → PyData
  | none => .none
  | some x => .int x
def onT (o : Option Int) (d : Int) : Bool := match o with
  | none => false
  | some x => decide (x ≤ d)
def dtE (os : List Od) (av : Av) (sq : List Nat) (k : Nat) : PyData := .tuple [.int (bfK os sq k + 1), .int (bfK os sq k + qK os sq k), oiD (dtK os av sq k), .bool (onT (dtK os av sq k) (ord os (sq.getD k 0)).d)]
def dtL (os : List Od) (av : Av) (sq : List Nat) : List PyData := (List.range sq.length).map (dtE os av sq)
/-- the greatest lateness of the first places -/
def lateN (os : List Od) (av : Av) (sq : List Nat) : Nat → Option Int
  | 0 => some 0
  | k + 1 => match lateN os av sq k, dtK os av sq k with
    | some m, some x => some (max m (x - (ord os (sq.getD k 0)).d))
    | _, _ => none
theorem lateN_none {os : List Od} {av : Av} {sq : List Nat} {k : Nat} (h : dtK os av sq k = none) : ∀ n, k < n → lateN os av sq n = none
  | 0, z => absurd z (Nat.not_lt_zero _)
  | n + 1, z => by
    unfold lateN
    rcases Nat.lt_or_ge k n with q | q
    · rw [lateN_none h n q]
    · rw [show n = k by omega, h]
      cases lateN os av sq k <;> rfl
/-- the first place whose order is of p and has the unit u -/
def ownB (os : List Od) (sq : List Nat) (p u : Int) (k : Nat) : Bool := decide ((ord os (sq.getD k 0)).p = p) && (decide (bfK os sq k + 1 ≤ u) && decide (u ≤ bfK os sq k + qK os sq k))
def Own (os : List Od) (sq : List Nat) (p u : Int) (d : PyData) : Prop := (∃ k j, (∀ i, i < k → ownB os sq p u i = false) ∧ ownB os sq p u k = true ∧ sq[k]? = some j ∧ d = niD j) ∨ ((∀ i, i < sq.length → ownB os sq p u i = false) ∧ d = .none)
theorem Own.hit {os : List Od} {sq : List Nat} {p u : Int} {d : PyData} {k j : Nat} (h : Own os sq p u d) (h1 : ∀ i, i < k → ownB os sq p u i = false) (h2 : ownB os sq p u k = true) (e : sq[k]? = some j) : d = niD j := by
  have kl := (List.getElem?_eq_some_iff.mp e).1
  rcases h with ⟨k', j', a1, a2, a3, rfl⟩ | ⟨a, _⟩
  · rcases Nat.lt_trichotomy k k' with q | q | q
    · have := a1 k q
      rw [h2] at this
      cases this
    · rw [← q, e] at a3
      cases a3
      rfl
    · have := h1 k' q
      rw [a2] at this
      cases this
  · have := a k kl
    rw [h2] at this
    cases this
theorem Own.miss {os : List Od} {sq : List Nat} {p u : Int} {d : PyData} (h : Own os sq p u d) (h1 : ∀ i, i < sq.length → ownB os sq p u i = false) : d = .none := by
  rcases h with ⟨k', j', a1, a2, a3, rfl⟩ | ⟨_, e⟩
  · have := h1 k' (List.getElem?_eq_some_iff.mp a3).1
    rw [a2] at this
    cases this
  · exact e
theorem Own.ex (os : List Od) (sq : List Nat) (p u : Int) : ∃ d, Own os sq p u d := by
  have go : ∀ n, n ≤ sq.length → (∃ k j, (∀ i, i < k → ownB os sq p u i = false) ∧ ownB os sq p u k = true ∧ sq[k]? = some j) ∨ ∀ i, i < n → ownB os sq p u i = false := fun n => by
    induction n with
    | zero => exact fun _ => .inr fun i h => absurd h (Nat.not_lt_zero _)
    | succ n ih =>
      intro h
      rcases ih (by omega) with q | q
      · exact .inl q
      · cases e : ownB os sq p u n with
        | true => exact .inl ⟨n, sq[n], q, e, List.getElem?_eq_getElem (by omega)⟩
        | false =>
          refine .inr fun i hi => ?_
          rcases Nat.lt_or_ge i n with z | z
          · exact q i z
          · rw [show i = n by omega]; exact e
  rcases go sq.length (Nat.le_refl _) with ⟨k, j, h1, h2, h3⟩ | h
  · exact ⟨_, .inl ⟨k, j, h1, h2, h3, rfl⟩⟩
  · exact ⟨_, .inr ⟨h, rfl⟩⟩
theorem avE_snoc (av : Av) (a : Int × List Int) : avE (av ++ [a]) = avE av ++ [((.inl a.1 : Key), PyData.tuple (a.2.map .int))] := by
  unfold avE
  rw [List.map_append]
  rfl
theorem mkD_len (qs : List (Key × PyData)) : (mkD qs).length ≤ qs.length := by
  have go : ∀ (qs es : List (Key × PyData)), (qs.foldl (fun es q => putD es q.1 q.2) es).length ≤ es.length + qs.length := fun qs => by
    induction qs with
    | nil => exact fun es => Nat.le_refl _
    | cons q qs ih =>
      intro es
      refine Nat.le_trans (ih _) ?_
      have h : ((fun es q => putD es q.1 q.2) es q : List (Key × PyData)).length ≤ es.length + 1 := putD_len es q.1 q.2
      rw [List.length_cons]
      omega
  have := go qs []
  rw [List.length_nil, Nat.zero_add] at this
  exact this
/-- drawn orders -/
structure OdD (m : Nat) (os : List Od) : Prop where
  l : os.length = m
  b : ∀ o ∈ os, (0 ≤ o.p ∧ o.p < 20) ∧ (1 ≤ o.q ∧ o.q ≤ 12) ∧ (0 ≤ o.d ∧ o.d ≤ 100)
theorem OdD.ok {m : Nat} {os : List Od} (h : OdD m os) (hm : m ≤ 1000) : OdsOk os := ⟨by rw [h.l]; exact hm, fun o ho => by have := (h.b o ho).2.1; omega⟩
structure AvOk (m : Nat) (av : Av) : Prop where
  l : av.length ≤ m
  h : ∀ a ∈ av, a.2.length ≤ 24 ∧ (∀ x ∈ a.2, 0 ≤ x ∧ x ≤ 10000) ∧ a.2.Pairwise (· ≤ ·)
def avR (a : Int × List Int) : PyData := .tuple [.int a.1, .tuple (a.2.map .int)]
theorem avD_eq (av : Av) : avD av = .tuple (av.map avR) := by
  unfold avD prD avE
  rw [List.map_map]
  rfl
theorem eix_map {α β : Type} (g : α → β) : ∀ (l : List α) (n : Nat), (l.map g).eraseIdx n = (l.eraseIdx n).map g
  | [], _ => rfl
  | _ :: _, 0 => rfl
  | a :: l, n + 1 => by
    show g a :: (l.map g).eraseIdx n = g a :: (l.eraseIdx n).map g
    rw [eix_map g l n]


/-! ### curves -/
structure Cv where
  i : Int
  t : List Int
  p : List Int
def tI (xs : List Int) : PyData := .tuple (xs.map .int)
def cvD (c : Cv) : PyData := .tuple [.int c.i, tI c.t, tI c.p]
/-- element k of a sequence that repeats p behind t -/
def seqAt (t p : List Int) (k : Nat) : Int := if k < t.length then t.getD k 0 else p.getD ((k - t.length) % p.length) 0
def psum (f : Nat → Int) : Nat → Int
  | 0 => 0
  | n + 1 => psum f n + f n
def Cv.inc (c : Cv) (k : Nat) : Int := seqAt c.t c.p k
def Cv.val (c : Cv) (x : Nat) : Int := c.i + psum c.inc x
/-- what is passed -/
structure Cv.Ok (first top : Int) (c : Cv) : Prop where
  i0 : 0 ≤ c.i
  i1 : c.i ≤ first
  t : ∀ x ∈ c.t, 0 ≤ x ∧ x ≤ top
  p : ∀ x ∈ c.p, 0 ≤ x ∧ x ≤ top
  tl : c.t.length ≤ 4
  pl : c.p.length ≤ 4
  p1 : 1 ≤ c.p.length
theorem psum_add (f : Nat → Int) (n m : Nat) : psum f (n + m) = psum f n + psum (fun k => f (n + k)) m := by
  induction m with
  | zero => simp [psum]
  | succ m ih =>
    show psum f (n + m) + f (n + m) = psum f n + (psum (fun k => f (n + k)) m + f (n + m))
    rw [ih]
    omega
theorem psum_congr {f g : Nat → Int} : ∀ (n : Nat), (∀ k, k < n → f k = g k) → psum f n = psum g n
  | 0, _ => rfl
  | n + 1, h => by
    show psum f n + f n = psum g n + g n
    rw [psum_congr n (fun k hk => h k (by omega)), h n (by omega)]
theorem psum_take (l : List Int) : ∀ (n : Nat), n ≤ l.length → psum (fun k => l.getD k 0) n = (l.take n).sum
  | 0, _ => by simp [psum]
  | n + 1, h => by
    show psum (fun k => l.getD k 0) n + l.getD n 0 = _
    have e : l[n]? = some l[n] := List.getElem?_eq_getElem (by omega)
    rw [psum_take l n (by omega), sum_take e, List.getD_eq_getElem?_getD, e]
    rfl
theorem psum_nn {f : Nat → Int} (h : ∀ k, 0 ≤ f k) : ∀ n, 0 ≤ psum f n
  | 0 => Int.le_refl _
  | n + 1 => by
    show 0 ≤ psum f n + f n
    have := psum_nn h n
    have := h n
    omega
/-- a whole number of periods, then some more -/
theorem psum_rep (p : List Int) (hp : 1 ≤ p.length) (q r : Nat) (hr : r ≤ p.length) : psum (fun k => p.getD (k % p.length) 0) (q * p.length + r) = q * p.sum + (p.take r).sum := by
  induction q with
  | zero =>
    rw [Nat.zero_mul, Nat.zero_add]
    rw [psum_congr (g := fun k => p.getD k 0) r (fun k hk => by show p.getD (k % p.length) 0 = _; rw [Nat.mod_eq_of_lt (by omega)]), psum_take p r hr]
    simp
  | succ q ih =>
    rw [show (q + 1) * p.length + r = p.length + (q * p.length + r) by rw [Nat.add_mul]; omega, psum_add]
    rw [psum_congr (g := fun k => p.getD (k % p.length) 0) (q * p.length + r) (fun k hk => by show p.getD ((p.length + k) % p.length) 0 = _; rw [Nat.add_mod_left]), ih]
    rw [psum_congr (g := fun k => p.getD k 0) p.length (fun k hk => by show p.getD (k % p.length) 0 = _; rw [Nat.mod_eq_of_lt hk]), psum_take p p.length (Nat.le_refl _), List.take_of_length_le (Nat.le_refl _)]
    have : ((q + 1 : Nat) : Int) * p.sum = q * p.sum + p.sum := by
      rw [Int.natCast_add, Int.add_mul]
      simp
    rw [this]
    omega
theorem val_t (c : Cv) (x : Nat) (h : x ≤ c.t.length) : c.val x = c.i + (c.t.take x).sum := by
  unfold Cv.val
  rw [psum_congr (g := fun k => c.t.getD k 0) x (fun k hk => by unfold Cv.inc seqAt; rw [if_pos (by omega)]), psum_take c.t x h]
theorem val_p (c : Cv) (hp : 1 ≤ c.p.length) (y : Nat) : c.val (c.t.length + y) = c.i + c.t.sum + (y / c.p.length : Nat) * c.p.sum + (c.p.take (y % c.p.length)).sum := by
  unfold Cv.val
  rw [psum_add]
  rw [psum_congr (g := fun k => c.t.getD k 0) c.t.length (fun k hk => by unfold Cv.inc seqAt; rw [if_pos hk]), psum_take c.t _ (Nat.le_refl _), List.take_of_length_le (Nat.le_refl _)]
  rw [psum_congr (g := fun k => c.p.getD (k % c.p.length) 0) y (fun k hk => by unfold Cv.inc seqAt; rw [if_neg (by omega), Nat.add_sub_cancel_left])]
  have e : y = (y / c.p.length) * c.p.length + y % c.p.length := by
    rw [Nat.mul_comm]
    exact (Nat.div_add_mod y c.p.length).symm
  have h2 : y % c.p.length ≤ c.p.length := Nat.le_of_lt (Nat.mod_lt _ (by omega))
  have := psum_rep c.p hp (y / c.p.length) (y % c.p.length) h2
  rw [← e] at this
  rw [this]
  omega
theorem sum_nn : ∀ {l : List Int}, (∀ x ∈ l, 0 ≤ x) → 0 ≤ l.sum
  | [], _ => by simp
  | x :: r, h => by
    rw [List.sum_cons]
    have := sum_nn (l := r) fun y hy => h y (List.mem_cons_of_mem _ hy)
    have := h x List.mem_cons_self
    omega
theorem sum_le : ∀ {l : List Int} {m : Int}, (∀ x ∈ l, x ≤ m) → l.sum ≤ l.length * m
  | [], m, _ => by simp
  | x :: r, m, h => by
    rw [List.sum_cons, List.length_cons]
    have := sum_le (l := r) (m := m) fun y hy => h y (List.mem_cons_of_mem _ hy)
    have := h x List.mem_cons_self
    have e : ((r.length + 1 : Nat) : Int) * m = r.length * m + m := by
      rw [Int.natCast_add, Int.add_mul]
      simp
    rw [e]
    omega
theorem cut_tI (xs : List Int) (lo hi : Option Int) : PyData.tuple (cut (xs.map .int) lo hi) = tI (cut xs lo hi) := by
  rw [cut_map]
  rfl
theorem len_tI (xs : List Int) : PyData.int ((xs.map PyData.int).length : Int) = .int (xs.length : Int) := by rw [List.length_map]
section
variable {K : PySem.W.Frag} {ρ : Rho} {te ta tb tc td : TE}
/-- of tuples of ints -/
theorem y_len {xs : List Int} (h : Pd K te ρ (tI xs)) : Pd K (tCB (PD.rLen K) (tCons te tNil)) ρ (.int (xs.length : Int)) := (yd_lenT (xs := xs.map .int) h).to (len_tI xs)
theorem y_sum {xs : List Int} (h : Pd K te ρ (tI xs)) : Pd K (tCB (rSumX K) (tCons te tNil)) ρ (.int xs.sum) := yd_sumT h
theorem y_sl {xs : List Int} {tl th : TO} {lo hi : Option Int} (h : Pd K te ρ (tI xs)) (hl : Pod K tl ρ lo) (hh : Pod K th ρ hi) : Pd K (tSl (rSlX K) te tl th) ρ (tI (cut xs lo hi)) := (yd_slT (xs := xs.map .int) h hl hh).to (cut_tI xs lo hi)
theorem y_ix {xs : List Int} {i : Int} {z : Int} (h : Pd K te ρ (tI xs)) (hb : Pd K tb ρ (.int i)) (e : atI xs i = some z) : Pd K (tOp (rIx K) te tb) ρ (.int z) := yd_ixT (xs := xs.map .int) h hb (by rw [atI_map, e]; rfl)
theorem y_cat {xs ys : List Int} (h : Pd K ta ρ (tI xs)) (hb : Pd K tb ρ (tI ys)) (hl : xs.length + ys.length ≤ sizeLine) : Pd K (tOp (rPlus K) ta tb) ρ (tI (xs ++ ys)) := (yd_catT (xs := xs.map .int) (ys := ys.map .int) h hb (by rw [List.length_map, List.length_map]; exact hl)).to (by unfold tI; rw [List.map_append])
/-- curve[1], curve[2] .. -/
theorem y_c0 {c : Cv} (h : Pd K ta ρ (cvD c)) (hb : Pd K tb ρ (.int 0)) : Pd K (tOp (rIx K) ta tb) ρ (.int c.i) := yd_ixT h hb rfl
theorem y_c1 {c : Cv} (h : Pd K ta ρ (cvD c)) (hb : Pd K tb ρ (.int 1)) : Pd K (tOp (rIx K) ta tb) ρ (tI c.t) := yd_ixT h hb rfl
theorem y_c2 {c : Cv} (h : Pd K ta ρ (cvD c)) (hb : Pd K tb ρ (.int 2)) : Pd K (tOp (rIx K) ta tb) ρ (tI c.p) := yd_ixT h hb rfl
end


/-! expediting: an order moved to the first place of its product that has not started -/
theorem hrs_sorted {av : Av} {m : Nat} (h : AvOk m av) (p : Int) : (hrs av p).Pairwise (· ≤ ·) := by
  have go : ∀ (av : Av) (f : Int → List Int), (∀ a ∈ av, a.2.Pairwise (· ≤ ·)) → (∀ p, (f p).Pairwise (· ≤ ·)) → ∀ p, ((av.foldl (fun f a p => if p = a.1 then a.2 else f p) f) p).Pairwise (· ≤ ·) := fun av => by
    induction av with
    | nil => exact fun f _ h p => h p
    | cons a av ih =>
      intro f ha hf p
      refine ih (fun p => if p = a.1 then a.2 else f p) (fun b hb => ha b (List.mem_cons_of_mem _ hb)) (fun p => ?_) p
      show (if p = a.1 then a.2 else f p).Pairwise (· ≤ ·)
      split
      · exact ha a List.mem_cons_self
      · exact hf p
  exact go av (fun _ => []) (fun a ha => (h.h a ha).2.2) (fun _ => .nil) p
abbrev Ts := List (Int × Int)
def tsE (ts : Ts) : List (Key × PyData) := ts.map fun q => ((.inl q.1 : Key), PyData.int q.2)
def tsD (ts : Ts) : PyData := .tuple (prD (tsE ts))
def tsR (q : Int × Int) : PyData := .tuple [.int q.1, .int q.2]
theorem tsD_eq (ts : Ts) : tsD ts = .tuple (ts.map tsR) := by
  unfold tsD prD tsE
  rw [List.map_map]
  rfl
def totT (ts : Ts) : Int → Int := ts.foldl (fun f a p => if p = a.1 then a.2 else f p) fun _ => 0
theorem tot_mk (ts : Ts) (p : Int) : (valD (mkD (tsE ts)) (.inl p)).getD (.int 0) = .int (totT ts p) := by
  have go : ∀ (ts : Ts) (es : List (Key × PyData)) (f : Int → Int), (∀ p, (valD es (.inl p)).getD (.int 0) = .int (f p)) → ∀ p, (valD ((tsE ts).foldl (fun es q => putD es q.1 q.2) es) (.inl p)).getD (.int 0) = .int ((ts.foldl (fun f a p => if p = a.1 then a.2 else f p) f) p) := fun ts => by
    induction ts with
    | nil => exact fun es f h p => h p
    | cons a ts ih =>
      intro es f h p
      refine ih (putD es (.inl a.1) (.int a.2)) (fun p => if p = a.1 then a.2 else f p) (fun p => ?_) p
      rw [valD_put]
      by_cases e : p = a.1
      · rw [if_pos (by rw [e]), if_pos e]
        rfl
      · rw [if_neg (fun z => e (Sum.inl.inj z)), if_neg e]
        exact h p
  exact go ts [] (fun _ => 0) (fun _ => rfl) p
theorem tsE_snoc (ts : Ts) (a : Int × Int) : tsE (ts ++ [a]) = tsE ts ++ [((.inl a.1 : Key), PyData.int a.2)] := by
  unfold tsE
  rw [List.map_append]
  rfl
/-! places in a list of distinct numbers -/
theorem idx_at {l : List Nat} (nd : l.Nodup) {i n : Nat} (h : l[i]? = some n) : l.idxOf n = i := by
  obtain ⟨hi, e⟩ := List.getElem?_eq_some_iff.mp h
  subst e
  exact nd.idxOf_getElem i hi
theorem idx_get {l : List Nat} {n : Nat} (h : n ∈ l) : l[l.idxOf n]? = some n := by
  have hl := List.idxOf_lt_length_iff.mpr h
  rw [List.getElem?_eq_getElem hl, List.getElem_idxOf hl]
theorem idx_int (l : List Nat) (n : Nat) : (l.map fun i : Nat => (i : Int)).idxOf (n : Int) = l.idxOf n := by
  induction l with
  | nil => rfl
  | cons a l ih =>
    rw [List.map_cons, List.idxOf_cons, List.idxOf_cons, ih]
    have : ((a : Int) == (n : Int)) = (a == n) := by
      rw [Bool.eq_iff_iff, beq_iff_eq, beq_iff_eq]
      omega
    rw [this]
theorem icn {a n : Nat} {l : List Nat} (h : a ≠ n) : (a :: l).idxOf n = l.idxOf n + 1 := by
  rw [List.idxOf_cons, show (a == n) = false from beq_eq_false_iff_ne.mpr h]
  rfl
/-- before n -/
def pre (l : List Nat) (n : Nat) : List Nat := l.take (l.idxOf n)
theorem before_app (os : List Od) (a b : List Nat) (p : Int) : before os (a ++ b) p = before os a p + before os b p := by
  unfold before
  rw [List.filter_append, List.map_append, List.sum_append]
theorem before_cons (os : List Od) (n : Nat) (l : List Nat) (p : Int) : before os (n :: l) p = (if (ord os n).p = p then (ord os n).q else 0) + before os l p := by
  rw [← List.singleton_append, before_app]
  congr 1
  have := before_snoc os [] n p
  rw [List.nil_append] at this
  rw [this]
  show 0 + _ = _
  rw [Int.zero_add]
/-- j out of a list -/
def drp (j : Nat) (l : List Nat) : List Nat := l.filter fun x => decide (x ≠ j)
theorem drp_out {j : Nat} {l : List Nat} (h : j ∉ l) : drp j l = l := List.filter_eq_self.mpr fun x hx => decide_eq_true fun e => h (e ▸ hx)
theorem drp_app (j : Nat) (a b : List Nat) : drp j (a ++ b) = drp j a ++ drp j b := List.filter_append ..
theorem before_drp (os : List Od) {j : Nat} {l : List Nat} (nd : l.Nodup) (h : j ∈ l) (p : Int) : (if (ord os j).p = p then (ord os j).q else 0) + before os (drp j l) p = before os l p := by
  induction l with
  | nil => cases h
  | cons a l ih =>
    obtain ⟨n1, n2⟩ := List.nodup_cons.mp nd
    by_cases e : a = j
    · subst e
      have : drp a (a :: l) = l := by
        unfold drp
        rw [List.filter_cons_of_neg (by simp)]
        exact drp_out n1
      rw [this, before_cons]
    · have hl : j ∈ l := (List.mem_cons.mp h).resolve_left fun z => e z.symm
      have : drp j (a :: l) = a :: drp j l := by
        unfold drp
        rw [List.filter_cons_of_pos (by rw [decide_eq_true_iff]; exact e)]
      rw [this, before_cons, before_cons, ← ih n2 hl]
      omega
theorem pre_drp {j n : Nat} (hn : n ≠ j) : ∀ {l : List Nat}, pre (drp j l) n = drp j (pre l n)
  | [] => rfl
  | a :: l => by
    have ih := pre_drp hn (l := l)
    unfold pre at ih ⊢
    by_cases e : a = j
    · have h1 : drp j (a :: l) = drp j l := by
        unfold drp
        rw [List.filter_cons_of_neg (by rw [decide_eq_true_iff]; exact fun z => z e)]
      have h2 : (a :: l).idxOf n = l.idxOf n + 1 := by rw [icn (fun z => hn (by rw [← z, e]))]
      rw [h1, h2, List.take_succ_cons, ih]
      unfold drp
      rw [List.filter_cons_of_neg (by rw [decide_eq_true_iff]; exact fun z => z e)]
    · have h1 : ∀ l : List Nat, drp j (a :: l) = a :: drp j l := fun l => by
        unfold drp
        rw [List.filter_cons_of_pos (by rw [decide_eq_true_iff]; exact e)]
      rw [h1]
      by_cases e2 : a = n
      · subst e2
        rw [List.idxOf_cons_self, List.idxOf_cons_self]
        rfl
      · rw [icn e2, icn e2, List.take_succ_cons, List.take_succ_cons, h1, ih]
theorem pre_app_in {a b : List Nat} {n : Nat} (h : n ∈ a) : pre (a ++ b) n = pre a n := by
  unfold pre
  have hl := List.idxOf_lt_length_iff.mpr h
  rw [List.idxOf_append, if_pos h, List.take_append_of_le_length (by omega)]
theorem pre_app_out {a b : List Nat} {n : Nat} (h : n ∉ a) : pre (a ++ b) n = a ++ pre b n := by
  unfold pre
  rw [List.idxOf_append, if_neg h, Nat.add_comm, List.take_length_add_append]
/-- j moved to place w -/
def mvL (sq : List Nat) (w j : Nat) : List Nat := sq.take w ++ j :: drp j (sq.drop w)
structure MvOk (sq : List Nat) (w k j : Nat) : Prop where
  nd : sq.Nodup
  hk : sq[k]? = some j
  hw : w ≤ k
namespace MvOk
variable {sq : List Nat} {w k j : Nat} (h : MvOk sq w k j)
include h
theorem jd : j ∈ sq.drop w := List.mem_of_getElem? (i := k - w) (by rw [List.getElem?_drop, Nat.add_sub_cancel' h.hw]; exact h.hk)
theorem jt : j ∉ sq.take w := fun z => by
  have nd := h.nd
  rw [← List.take_append_drop w sq] at nd
  exact (List.nodup_append.mp nd).2.2 j z j h.jd rfl
theorem ndd : (sq.drop w).Nodup := h.nd.sublist (List.drop_sublist _ _)
theorem mem (n : Nat) : n ∈ mvL sq w j ↔ n ∈ sq := by
  unfold mvL drp
  rw [List.mem_append, List.mem_cons, List.mem_filter, decide_eq_true_iff]
  constructor
  · rintro (z | z | z)
    · exact List.mem_of_mem_take z
    · rw [z]; exact List.mem_of_mem_drop h.jd
    · exact List.mem_of_mem_drop z.1
  · intro z
    rw [← List.take_append_drop w sq] at z
    rcases List.mem_append.mp z with z | z
    · exact .inl z
    · by_cases e : n = j
      · exact .inr (.inl e)
      · exact .inr (.inr ⟨z, e⟩)
theorem nd' : (mvL sq w j).Nodup := by
  have nd := h.nd
  rw [← List.take_append_drop w sq] at nd
  obtain ⟨n1, n2, n3⟩ := List.nodup_append.mp nd
  unfold mvL
  refine List.nodup_append.mpr ⟨n1, List.nodup_cons.mpr ⟨fun z => ?_, n2.sublist List.filter_sublist⟩, fun a ha b hb e => ?_⟩
  · have := (List.mem_filter.mp z).2
    rw [decide_eq_true_iff] at this
    exact this rfl
  · rcases List.mem_cons.mp hb with rfl | hb
    · exact h.jt (e ▸ ha)
    · exact n3 a ha b (List.mem_filter.mp hb).1 e
theorem len : (mvL sq w j).length = sq.length := by
  have p : (mvL sq w j).Perm sq := (List.perm_ext_iff_of_nodup h.nd' h.nd).mpr h.mem
  exact p.length_eq
theorem take : (mvL sq w j).take w = sq.take w := by
  have kl := (List.getElem?_eq_some_iff.mp h.hk).1
  have := h.hw
  unfold mvL
  rw [List.take_append_of_le_length (by rw [List.length_take]; omega), List.take_take, Nat.min_self]
theorem atw : (mvL sq w j)[w]? = some j := by
  have kl := (List.getElem?_eq_some_iff.mp h.hk).1
  have := h.hw
  unfold mvL
  have e : (sq.take w).length = w := by rw [List.length_take]; omega
  rw [List.getElem?_append_right (by omega), e, Nat.sub_self]
  rfl
theorem pre_j : pre sq j = sq.take w ++ pre (sq.drop w) j := by
  have := pre_app_out (a := sq.take w) (b := sq.drop w) h.jt
  rw [List.take_append_drop] at this
  exact this
/-- other orders keep what stands before them, of another product or behind j -/
theorem keeps (os : List Od) {n : Nat} (hn : n ∈ sq) (hj : n ≠ j) (p : Int) (c : n ∈ sq.take w ∨ (ord os j).p ≠ p ∨ k < sq.idxOf n) : before os (pre (mvL sq w j) n) p = before os (pre sq n) p := by
  by_cases ht : n ∈ sq.take w
  · unfold mvL
    rw [pre_app_in ht]
    have := pre_app_in (b := sq.drop w) ht
    rw [List.take_append_drop] at this
    rw [this]
  · have e1 : pre sq n = sq.take w ++ pre (sq.drop w) n := by
      have := pre_app_out (a := sq.take w) (b := sq.drop w) ht
      rw [List.take_append_drop] at this
      exact this
    have e2 : pre (mvL sq w j) n = sq.take w ++ (j :: drp j (pre (sq.drop w) n)) := by
      unfold mvL
      rw [pre_app_out ht]
      have : pre (j :: drp j (sq.drop w)) n = j :: pre (drp j (sq.drop w)) n := by
        unfold pre
        rw [icn (fun z => hj z.symm), List.take_succ_cons]
      rw [this, pre_drp hj]
    rw [e1, e2, before_app, before_app, before_cons]
    by_cases hp : j ∈ pre (sq.drop w) n
    · rw [before_drp os (l := pre (sq.drop w) n) (h.ndd.sublist (List.take_sublist _ _)) hp]
    · rw [drp_out hp]
      rcases c with c | c | c
      · exact absurd c ht
      · rw [if_neg c, Int.zero_add]
      · exfalso
        apply hp
        have ln : n ∈ sq.drop w := by
          have := hn
          rw [← List.take_append_drop w sq] at this
          exact (List.mem_append.mp this).resolve_left ht
        have e3 : sq.idxOf n = w + (sq.drop w).idxOf n := by
          have := List.idxOf_append (l₁ := sq.take w) (l₂ := sq.drop w) (a := n)
          rw [List.take_append_drop, if_neg ht, List.length_take, Nat.min_eq_left (by have := (List.getElem?_eq_some_iff.mp h.hk).1; have := h.hw; omega)] at this
          omega
        unfold pre
        refine List.mem_of_getElem? (i := k - w) ?_
        have := h.hw
        rw [List.getElem?_take, if_pos (by omega), List.getElem?_drop, Nat.add_sub_cancel' h.hw]
        exact h.hk
end MvOk
theorem bfK_pre {os : List Od} {l : List Nat} {n : Nat} (h : n ∈ l) : bfK os l (l.idxOf n) = before os (pre l n) (ord os n).p := by
  unfold bfK pre
  rw [getD_at (idx_get h)]
theorem bfK_at {os : List Od} {l : List Nat} {i n : Nat} (h : l[i]? = some n) : bfK os l i = before os (l.take i) (ord os n).p := by
  unfold bfK
  rw [getD_at h]
theorem before_mono {os : List Od} (oo : OdsOk os) {l : List Nat} (hl : ∀ i ∈ l, i < os.length) (p : Int) {i j : Nat} (h : i ≤ j) : before os (l.take i) p ≤ before os (l.take j) p := by
  have e : l.take j = l.take i ++ (l.take j).drop i := by
    have := (List.take_append_drop i (l.take j)).symm
    rw [List.take_take, Nat.min_eq_left h] at this
    exact this
  rw [e, before_app]
  have := before_nn oo (sq := (l.take j).drop i) (fun x hx => hl x (List.mem_of_mem_take (List.mem_of_mem_drop hx))) p
  omega
/-- an order of p whose units reach so far -/
theorem own_in {os : List Od} {l : List Nat} (hl : ∀ i ∈ l, i < os.length) {p u : Int} (h1 : 1 ≤ u) : ∀ w, w ≤ l.length → u ≤ before os (l.take w) p → ∃ i, i < w ∧ ownB os l p u i = true
  | 0, _, h => by
    have : before os (l.take 0) p = 0 := rfl
    omega
  | w + 1, hw, h => by
    by_cases q : u ≤ before os (l.take w) p
    · obtain ⟨i, hi, e⟩ := own_in hl h1 w (by omega) q
      exact ⟨i, by omega, e⟩
    · have hk : l[w]? = some l[w] := List.getElem?_eq_getElem (by omega)
      rw [before_take hk] at h
      by_cases e : (ord os l[w]).p = p
      · rw [if_pos e] at h
        refine ⟨w, by omega, ?_⟩
        unfold ownB qK
        rw [bfK_at hk, getD_at hk, e, decide_eq_true rfl, decide_eq_true (by omega), decide_eq_true (by omega)]
        rfl
      · rw [if_neg e] at h
        omega
theorem ownB_take {os : List Od} {a b : List Nat} {w : Nat} (e : a.take w = b.take w) (ha : w ≤ a.length) (hb : w ≤ b.length) {p u : Int} {i : Nat} (hi : i < w) : ownB os a p u i = ownB os b p u i := by
  have t : a.take i = b.take i := by
    have := congrArg (List.take i) e
    rw [List.take_take, List.take_take, Nat.min_eq_left (by omega)] at this
    exact this
  have g : a.getD i 0 = b.getD i 0 := by
    have := congrArg (fun l : List Nat => l[i]?) e
    simp only [List.getElem?_take, if_pos hi] at this
    rw [List.getD_eq_getElem?_getD, List.getD_eq_getElem?_getD, this]
  unfold ownB bfK qK
  rw [t, g]
/-- the same owner, if it stands in a common head -/
theorem own_same {os : List Od} {a b : List Nat} {w : Nat} (e : a.take w = b.take w) (ha : w ≤ a.length) (hb : w ≤ b.length) (hl : ∀ i ∈ a, i < os.length) {p u : Int} (h1 : 1 ≤ u) (h2 : u ≤ before os (a.take w) p) {d : PyData} (h : Own os a p u d) : Own os b p u d := by
  obtain ⟨i, hi, o⟩ := own_in hl h1 w ha h2
  rcases h with ⟨k, j, b1, b2, b3, rfl⟩ | ⟨n, _⟩
  · have kw : k < w := by
      rcases Nat.lt_or_ge k w with q | q
      · exact q
      · have := b1 i (by omega)
        rw [o] at this
        cases this
    refine .inl ⟨k, j, fun i hi => ?_, ?_, ?_, rfl⟩
    · rw [← ownB_take e ha hb (by omega)]
      exact b1 i hi
    · rw [← ownB_take e ha hb kw]
      exact b2
    · have := congrArg (fun l : List Nat => l[k]?) e
      simp only [List.getElem?_take, if_pos kw] at this
      rw [← this]
      exact b3
  · have := n i (by omega)
    rw [o] at this
    cases this
/-! who waits -/
/-- an order of product p that has not started -/
def wtB (os : List Od) (sq : List Nat) (T : Int) (p : Int) (n : Nat) : Bool := decide ((ord os n).p = p) && !decide (bfK os sq (sq.idxOf n) + 1 ≤ T)
theorem head_filter {α : Type} (c : α → Bool) : ∀ (l : List α), (∃ a ∈ l, c a = true) → ∃ (w : Nat) (a : α), l[w]? = some a ∧ c a = true ∧ (∀ (i : Nat) (b : α), i < w → l[i]? = some b → c b = false) ∧ (l.filter c)[0]? = some a
  | [], ⟨_, h, _⟩ => nomatch h
  | x :: l, ⟨a, h, ca⟩ => by
    cases e : c x with
    | true => exact ⟨0, x, rfl, e, fun i b h => absurd h (Nat.not_lt_zero _), by rw [List.filter_cons_of_pos e]; rfl⟩
    | false =>
      have hl : a ∈ l := (List.mem_cons.mp h).resolve_left fun z => by rw [z, e] at ca; cases ca
      obtain ⟨w, b, h1, h2, h3, h4⟩ := head_filter c l ⟨a, hl, ca⟩
      refine ⟨w + 1, b, h1, h2, fun i b' hi hb => ?_, by rw [List.filter_cons_of_neg (by rw [e]; exact Bool.false_ne_true)]; exact h4⟩
      cases i with
      | zero => cases hb; exact e
      | succ i => exact h3 i b' (by omega) hb
/-- what expediting gives -/
inductive Mvd (os : List Od) (sq : List Nat) (T : Int → Int) (j : Nat) : List Nat → Prop
  | started : bfK os sq (sq.idxOf j) + 1 ≤ T (ord os j).p → Mvd os sq T j sq
  | moved {w a : Nat} : ¬ bfK os sq (sq.idxOf j) + 1 ≤ T (ord os j).p → MvOk sq w (sq.idxOf j) j → sq[w]? = some a → wtB os sq (T (ord os j).p) (ord os j).p a = true → (∀ i b, i < w → sq[i]? = some b → wtB os sq (T (ord os j).p) (ord os j).p b = false) →
      (sq.filter (wtB os sq (T (ord os j).p) (ord os j).p))[0]? = some a → Mvd os sq T j (mvL sq w j)
theorem Mvd.ex (os : List Od) {sq : List Nat} (T : Int → Int) {j : Nat} (nd : sq.Nodup) (hj : j ∈ sq) : ∃ l, Mvd os sq T j l := by
  by_cases h : bfK os sq (sq.idxOf j) + 1 ≤ T (ord os j).p
  · exact ⟨_, .started h⟩
  · have cj : wtB os sq (T (ord os j).p) (ord os j).p j = true := by
      unfold wtB
      rw [decide_eq_true rfl, decide_eq_false h]
      rfl
    obtain ⟨w, a, h1, h2, h3, h4⟩ := head_filter (wtB os sq (T (ord os j).p) (ord os j).p) sq ⟨j, hj, cj⟩
    have wk : w ≤ sq.idxOf j := by
      rcases Nat.lt_or_ge (sq.idxOf j) w with q | q
      · have := h3 _ _ q (idx_get hj)
        rw [cj] at this
        cases this
      · exact q
    exact ⟨_, .moved h ⟨nd, idx_get hj, wk⟩ h1 h2 h3 h4⟩
theorem mv_self {sq : List Nat} {w j : Nat} (nd : sq.Nodup) (h : sq[w]? = some j) : mvL sq w j = sq := by
  have wl := (List.getElem?_eq_some_iff.mp h).1
  have e : sq.drop w = j :: sq.drop (w + 1) := by rw [List.drop_eq_getElem_cons wl, (List.getElem?_eq_some_iff.mp h).2]
  have n : j ∉ sq.drop (w + 1) := by
    have := nd.sublist (List.drop_sublist w sq)
    rw [e] at this
    exact (List.nodup_cons.mp this).1
  unfold mvL
  have : drp j (sq.drop w) = sq.drop (w + 1) := by
    rw [e]
    unfold drp
    rw [List.filter_cons_of_neg (by simp)]
    exact drp_out n
  rw [this, ← e, List.take_append_drop]
/-- the same, number by number -/
def mvF (sq : List Nat) (a j : Nat) : List Nat := sq.flatMap fun n => (if n = a then [j] else []) ++ (if n = j then [] else [n])
theorem mvF_out {a j : Nat} : ∀ {l : List Nat}, a ∉ l → mvF l a j = drp j l
  | [], _ => rfl
  | x :: l, h => by
    have h1 : x ≠ a := fun e => h (e ▸ List.mem_cons_self)
    have ih := mvF_out (j := j) (l := l) fun z => h (List.mem_cons_of_mem _ z)
    unfold mvF drp at ih ⊢
    rw [List.flatMap_cons, ih, if_neg h1, List.nil_append]
    by_cases e : x = j
    · rw [if_pos e, List.filter_cons_of_neg (by rw [decide_eq_true_iff]; exact fun z => z e)]
      rfl
    · rw [if_neg e, List.filter_cons_of_pos (by rw [decide_eq_true_iff]; exact e)]
      rfl
theorem mvF_eq {sq : List Nat} {w a j : Nat} (nd : sq.Nodup) (ha : sq[w]? = some a) (haj : a ≠ j) (hj : j ∉ sq.take w) : mvF sq a j = mvL sq w j := by
  have wl := (List.getElem?_eq_some_iff.mp ha).1
  have e : sq.drop w = a :: sq.drop (w + 1) := by rw [List.drop_eq_getElem_cons wl, (List.getElem?_eq_some_iff.mp ha).2]
  have n1 : a ∉ sq.drop (w + 1) := by
    have := nd.sublist (List.drop_sublist w sq)
    rw [e] at this
    exact (List.nodup_cons.mp this).1
  have n2 : a ∉ sq.take w := fun z => by
    have := nd
    rw [← List.take_append_drop w sq] at this
    exact (List.nodup_append.mp this).2.2 a z a (by rw [e]; exact List.mem_cons_self) rfl
  have s : mvF sq a j = mvF (sq.take w) a j ++ mvF (sq.drop w) a j := by
    unfold mvF
    rw [← List.flatMap_append, List.take_append_drop]
  have m : mvF (a :: sq.drop (w + 1)) a j = [j, a] ++ mvF (sq.drop (w + 1)) a j := by
    unfold mvF
    rw [List.flatMap_cons, if_pos rfl, if_neg haj]
    rfl
  rw [s, mvF_out n2, drp_out hj, e, m, mvF_out n1]
  unfold mvL
  rw [e]
  have : drp j (a :: sq.drop (w + 1)) = a :: drp j (sq.drop (w + 1)) := by
    unfold drp
    rw [List.filter_cons_of_pos (by rw [decide_eq_true_iff]; exact haj)]
  rw [this]
  rfl
theorem mvF_snoc (l : List Nat) (n a j : Nat) : mvF (l ++ [n]) a j = mvF l a j ++ ((if n = a then [j] else []) ++ (if n = j then [] else [n])) := by
  unfold mvF
  rw [List.flatMap_append]
  congr 1
  exact List.append_nil _
theorem sq_ints (sq : List Nat) : sqD sq = .tuple ((sq.map fun i : Nat => (i : Int)).map .int) := by
  unfold sqD
  rw [List.map_map]
  rfl
theorem SqOk.of_mem {os : List Od} {sq : List Nat} (h : SqOk os sq) {j : Nat} (e : j ∈ sq) : os[j]? = some (ord os j) := h.at (idx_get e)


/-- data without lists, so deep -/
inductive Plain : Nat → PyData → Prop
  | non {n : Nat} : Plain n .none
  | bool {n : Nat} (b : Bool) : Plain n (.bool b)
  | int {n : Nat} (i : Int) : Plain n (.int i)
  | str {n : Nat} (x : Str) : Plain n (.str x)
  | tup {n : Nat} {xs : List PyData} : xs.length < 2 ^ 23 → (∀ x ∈ xs, Plain n x) → Plain (n + 1) (.tuple xs)
theorem Plain.ints (ns : List Int) (n : Nat) (h : ns.length < 2 ^ 23 := by omega) : Plain (n + 1) (.tuple (ns.map .int)) := .tup (by rw [List.length_map]; exact h) fun x hx => by
  obtain ⟨i, _, rfl⟩ := List.mem_map.mp hx
  exact .int i


abbrev s__law_tape : Stmt := topS 7
theorem sc__law_tape : FnScope ["script", "total", "cell"] ["script"] (defScope s__law_tape) := ⟨rfl, rfl, rfl, by decide +kernel, rfl, by decide +kernel, by decide +kernel⟩
theorem ok__law_tape {Pg : Program} {w : World} {K : PySem.W.Frag} {mg : Str → Option Value} {base : Heap} (T : Tx K mg) {f : Addr} {fd : FuncData} (F : Fun K "_law_tape" "_law_tape" s__law_tape f fd) : FnOk Pg w K mg base CX0 1 f fd ["script"] (spTape K) := by
  refine F.ok sc__law_tape (fun vs H Q E h => ?_) (fun cdv A outer s H vs Q E hr h => ?_)
  · obtain ⟨a, ns, rfl, _⟩ := h
    rfl
  · obtain ⟨a, ns, rfl, hS, q⟩ := h
    refine ⟨_, (pss_cons (ps_set (i := 1) sc__law_tape.nd rfl (Or.inl rfl) pe_int)
    (pss_cons (ps_for PassesOwn.never rfl (pi_seq (pv 0)) (pg_name (i := 2) sc__law_tape.nd rfl (Or.inl rfl))
    (pss_one (ps_set (i := 1) sc__law_tape.nd rfl (Or.inl rfl) (pe_op op_mod (pe_callTy call_int1 (by rfl) T.b_int (by decide +kernel) (pa_cons (pe_op opx_add (pe_op opx_mul (pv 1) pe_int) (pe_callB call_abs (by rfl) T.b_abs (by decide +kernel) (pa_cons (pe_callTy call_int1 (by rfl) T.b_int (by decide +kernel) (pa_cons (pv 2) pa_nil)) pa_nil))) pa_nil)) pe_int))))
    (pss_one (ps_ret (pe_lst (pa_cons (pe_callTy call_list_of (by rfl) T.b_list (by decide +kernel) (pa_cons (pv 0) pa_nil)) (pa_cons pe_int (pa_cons pe_int (pa_cons (pv 1) pa_nil))))))))), ?_⟩
    refine ⟨.ref a, rfl, a, rfl, .inl ⟨⟨_, hS⟩, for_list (xs := ns.map V.int) (fun i σ H' => ∃ m v, σ = [some (.ref a), some (.int m), v] ∧ H' = H ∧ 0 ≤ m ∧ m < 2147483647) ⟨7, none, rfl, rfl, by decide, by decide⟩ (fun i σ H' _ ⟨_, _, _, e, _⟩ => e ▸ hS) ?_ ?_⟩⟩
    · rintro i y σ H' hi ⟨m, v, rfl, rfl, m0, m1⟩
      obtain ⟨z, rfl⟩ : ∃ z, y = V.int z := by
        rw [List.getElem?_map] at hi
        cases e : ns[i]? with
        | none => rw [e] at hi; cases hi
        | some u => rw [e] at hi; exact ⟨u, (Option.some.inj hi).symm⟩
      refine ⟨.int m, rfl, .inl ⟨m, 31, rfl, rfl, .inr ⟨by decide, by decide⟩, .int z, rfl, .inl ⟨z, rfl, z, rfl, .inl ⟨_, _, rfl, rfl, .inl ⟨_, rfl, _, _, rfl, rfl, (by decide : (0 : Int) < 2147483647), ?_⟩⟩⟩⟩⟩
      exact ⟨_, _, rfl, rfl, Int.emod_nonneg _ (by decide), Int.emod_lt_of_pos _ (by decide)⟩
    · rintro σ H' ⟨m, v, rfl, rfl, m0, m1⟩
      refine ⟨.ref a, rfl, a, ns.map V.int, rfl, .inl hS, fun b hb => ⟨.int m, rfl, by show 4 ≤ (16777216 : Nat); decide, fun p hp => ?_⟩⟩
      have hpb : p ≠ b := fun z => by
        subst z
        rw [upd_same] at hp
        cases hp
      have hp0 : H' p = none := by
        rw [upd_ne hpb] at hp
        exact hp
      refine q p b _ m hp0 hb hpb (fun c o e => ?_) upd_same ?_ m0 m1
      · rw [upd_ne (ne_of_none e hp0), upd_ne (ne_of_none e hb)]
        exact e
      · rw [upd_ne hpb.symm, upd_same]

def R__law_draw : Pr := fun ss P => ∃ many : Int, ss = [.tp, .d (.int many)] ∧ many < 2 ^ 199 ∧ ∀ d, (∃ r : Int, d = .int r ∧ 0 ≤ r ∧ r < max many 1) → P d
theorem draw_max {many c : Int} (h : many < 2 ^ 199) (hc : 0 < c) (hc2 : c ≤ 2) : CDivW 0 (if c > many then c else many) := by
  refine cdiv_of ?_ ?_ <;> split <;> omega
theorem draw_mod {n many : Int} : 0 ≤ n % (if (1 : Int) > many then 1 else many) ∧ n % (if (1 : Int) > many then 1 else many) < max many 1 := by
  have h : (0 : Int) < (if (1 : Int) > many then 1 else many) := by split <;> omega
  have h1 := Int.emod_nonneg n (show (if (1 : Int) > many then 1 else many) ≠ 0 by omega)
  have h2 := Int.emod_lt_of_pos n h
  refine ⟨h1, ?_⟩
  have : (if (1 : Int) > many then (1 : Int) else many) = max many 1 := by split <;> omega
  omega
section
variable {K : PySem.W.Frag} {ρ : Rho}
theorem ye_draw {i : Nat} {te : TE} {E : XK} {many : Int} (e : ρ[i]? = some .tp) (h : Pd K te ρ (.int many)) (hm : many < 2 ^ 199 := by decide) : Pe K (tCall (spR K 2 R__law_draw) [] E (tCons (tVar i) (tCons te tNil))) ρ (fun d => ∃ r : Int, d = .int r ∧ 0 ≤ r ∧ r < max many 1) :=
  ye_cl (ya_td e (ya_d h ya_n)) rfl ⟨many, rfl, hm, fun _ p => p⟩
theorem ye_drawP {i : Nat} {te : TE} {E : XK} {C : Int → Prop} (e : ρ[i]? = some .tp) (h : Pe K te ρ (fun d => ∃ m : Int, d = .int m ∧ C m)) (hm : ∀ m, C m → m < 2 ^ 199) : Pe K (tCall (spR K 2 R__law_draw) [] E (tCons (tVar i) (tCons te tNil))) ρ (fun d => ∃ m r : Int, d = .int r ∧ C m ∧ 0 ≤ r ∧ r < max m 1) :=
  ye_call (PA := fun ss => ∃ m : Int, ss = [.tp, .d (.int m)] ∧ C m) (ya_t (PA := fun ss => ∃ m : Int, ss = [.d (.int m)] ∧ C m) e (ya_c h ya_n fun d ss ⟨m, e1, c⟩ e2 => ⟨m, by rw [e1, e2], c⟩) fun ss ⟨m, e1, c⟩ => ⟨m, by rw [e1], c⟩) fun ss ⟨m, e1, c⟩ => by
    subst e1
    refine ⟨rfl, ?_⟩
    exact ⟨m, rfl, hm m c, fun d ⟨r, e2, h1, h2⟩ => ⟨m, r, e2, c, h1, h2⟩⟩
/-- a draw, of a drawn many -/
theorem y_drw {i : Nat} {te : TE} {E : XK} {C D : Int → Prop} (e : ρ[i]? = some .tp) (h : Pe K te ρ (isI C)) (hm : ∀ m, C m → m < 2 ^ 199) (hd : ∀ m r, C m → 0 ≤ r → r < max m 1 → D r) : Pe K (tCall (spR K 2 R__law_draw) [] E (tCons (tVar i) (tCons te tNil))) ρ (isI D) :=
  (ye_drawP e h hm).imp fun d ⟨m, r, e, c, h1, h2⟩ => ⟨r, e, hd m r c h1 h2⟩
theorem y_drd {i : Nat} {te : TE} {E : XK} {D : Int → Prop} {many : Int} (e : ρ[i]? = some .tp) (h : Pd K te ρ (.int many)) (hd : ∀ r, 0 ≤ r → r < max many 1 → D r) (hm : many < 2 ^ 199 := by decide) : Pe K (tCall (spR K 2 R__law_draw) [] E (tCons (tVar i) (tCons te tNil))) ρ (isI D) :=
  (ye_draw e h hm).imp fun d ⟨r, e, h1, h2⟩ => ⟨r, e, hd r h1 h2⟩
/-- a draw compared with a number -/
theorem ye_imp0 {te : TE} {n : Int} {C : Int → Prop} (h : Pe K te ρ (fun d => ∃ r : Int, d = .int r ∧ C r)) : Pe K (tOp (rEqX K) te (tC (.int n))) ρ (fun d => ∃ b, d = .bool b) := fun T H0 G H σ gh tp D Q q =>
  h.bind gh tp D fun x v G1 H1 p1 s1 gh1 tp1 D1 x1 => by
    obtain ⟨r, rfl, _⟩ := p1
    cases x1
    exact .inl ⟨rfl, q _ _ G1 H1 ⟨_, rfl⟩ s1 (.bl _)⟩
/-- .., and what it says -/
theorem ye_eqn {te : TE} {n : Int} {C : Int → Prop} (h : Pe K te ρ (fun d => ∃ r : Int, d = .int r ∧ C r)) : Pe K (tOp (rEqX K) te (tC (.int n))) ρ (fun d => ∃ r : Int, d = .bool (decide (r = n)) ∧ C r) := fun T H0 G H σ gh tp D Q q =>
  h.bind gh tp D fun x v G1 H1 p1 s1 gh1 tp1 D1 x1 => by
    obtain ⟨r, rfl, c⟩ := p1
    cases x1
    refine .inl ⟨rfl, ?_⟩
    rw [show decide (V.int r = V.int n) = decide (r = n) by simp]
    exact q _ _ G1 H1 ⟨r, rfl, c⟩ s1 (.bl _)
end

abbrev s__law_draw : Stmt := topS 8
theorem sc__law_draw : FnScope ["tape", "many", "place", "number"] ["tape", "many"] (defScope s__law_draw) := ⟨rfl, rfl, rfl, by decide +kernel, rfl, by decide +kernel, by decide +kernel⟩
theorem ok__law_draw {Pg : Program} {w : World} {K : PySem.W.Frag} {mg : Str → Option Value} {base : Heap} (T : Tx K mg) {f : Addr} {fd : FuncData} (F : Fun K "_law_draw" "_law_draw" s__law_draw f fd) : FnOk Pg w K mg base CX0 1 f fd ["tape", "many"] (spR K 2 R__law_draw) := by
  refine F.ok sc__law_draw (fun vs H Q E h => ?_) (fun cdv A outer s H vs Q E hr h => ?_)
  · obtain ⟨T', G, ss, P, gh, tp, a, hl, _⟩ := h
    rw [← Paired.length a, hl]
    rfl
  · obtain ⟨T', G, ss, P, gh, tp, ar, hl, ⟨many, rfl, hm, hP⟩, q⟩ := h
    obtain ⟨vt, vm, rfl, ⟨a, rfl, ta⟩, am⟩ : ∃ vt vm, vs = [vt, vm] ∧ ArgOk T' K G .tp vt ∧ ArgOk T' K G (.d (.int many)) vm := by
      cases ar with
      | cons r1 r2 =>
        cases r2 with
        | cons r2 r3 =>
          cases r3
          exact ⟨_, _, rfl, r1, r2⟩
    obtain rfl : vm = .int many := by
      cases am
      rfl
    obtain ⟨b, ns, place, rest, mixed, ea, eb, ga, p0, r0, m0, m1⟩ := tp a ta
    have s0 : Step T' G H G H := Step.refl gh tp
    have hbH : ∀ {x y z : Int}, (upd H a (.lst [.ref b, .int x, .int y, .int z])) b = some (.lst (ns.map V.int)) := by
      intro x y z
      rw [upd_ne (ne_of_none eb ga)]
      exact gh _ _ eb
    have an : H a ≠ none := by rw [ea]; intro z; cases z
    have st : ∀ {x y z : Int}, 0 ≤ x → 0 ≤ y → 0 ≤ z → z < 2147483647 → Step T' G H G (upd H a (.lst [.ref b, .int x, .int y, .int z])) := fun h1 h2 h3 h4 => tape_step s0 eb ga an ta h1 h2 h3 h4
    refine ⟨_, (pss_cons (ps_if (pt_cmpR (opx_eq hr) (pe_ix ix_seq (pv 0) pe_int (fun _ _ => rfl)) pe_int (nomark _)) (pss_cons (ps_set (i := 2) sc__law_draw.nd rfl (Or.inl rfl) (pe_ix ix_seq (pv 0) pe_int (fun _ _ => rfl)))
    (pss_cons (ps_set (i := 3) sc__law_draw.nd rfl (Or.inl rfl) pe_int)
    (pss_cons (ps_if (pt_cmpR op_lt (pv 2) (pe_callB call_len_seq (by rfl) T.b_len (by decide +kernel) (pa_cons (pe_ix ix_seq (pv 0) pe_int (fun _ _ => rfl)) pa_nil)) (nomark _)) (pss_one (ps_set (i := 3) sc__law_draw.nd rfl (Or.inl rfl) (pe_callB call_abs (by rfl) T.b_abs (by decide +kernel) (pa_cons (pe_callTy call_int1 (by rfl) T.b_int (by decide +kernel) (pa_cons (pe_ix ix_seq (pe_ix ix_seq (pv 0) pe_int (fun _ _ => rfl)) (pv 2) (fun _ _ => rfl)) pa_nil)) pa_nil)))) (pss_cons (ps_asg (pe_op op_mod (pe_callTy call_int1 (by rfl) T.b_int (by decide +kernel) (pa_cons (pe_op opx_add (pe_op opx_add (pe_op opx_mul (pe_ix ix_seq (pv 0) pe_int (fun _ _ => rfl)) pe_int) (pv 2)) pe_int) pa_nil)) pe_int) (pg_sub (pv 0) pe_int set_list))
    (pss_one (ps_set (i := 3) sc__law_draw.nd rfl (Or.inl rfl) (pe_ix ix_seq (pv 0) pe_int (fun _ _ => rfl))))))
    (pss_cons (ps_asg (pe_op opx_add (pv 2) pe_int) (pg_sub (pv 0) pe_int set_list))
    (pss_cons (ps_if (pt_cmpR op_lt (pv 3) (pe_op op_pow pe_int pe_int) (nomark _)) (pss_cons (ps_set (i := 3) sc__law_draw.nd rfl (Or.inl rfl) (pe_op op_mod (pe_callTy call_int1 (by rfl) T.b_int (by decide +kernel) (pa_cons (pe_op opx_add (pe_op opx_add (pe_op opx_mul (pv 3) pe_int) (pe_op opx_mul (pv 2) pe_int)) pe_int) pa_nil)) pe_int))
    (pss_cons (ps_set (i := 3) sc__law_draw.nd rfl (Or.inl rfl) (pe_op op_mod (pe_callTy call_int1 (by rfl) T.b_int (by decide +kernel) (pa_cons (pe_op opx_mul (pv 3) pe_int) pa_nil)) pe_int))
    (pss_one (ps_ret (pe_op op_mod (pe_callTy call_int1 (by rfl) T.b_int (by decide +kernel) (pa_cons (pv 3) pa_nil)) (pe_callB (callx_max rfl) (by rfl) T.b_max (by decide +kernel) (pa_cons (pv 1) (pa_cons pe_int pa_nil)))))))) pss_nil)
    (pss_one (ps_asg (pv 3) (pg_sub (pv 0) pe_int set_list)))))))) pss_nil)
    (pss_cons (ps_set (i := 3) sc__law_draw.nd rfl (Or.inl rfl) (pe_ix ix_seq (pv 0) pe_int (fun _ _ => rfl)))
    (pss_cons (ps_asg (pe_op op_fdivW (pv 3) (pe_callB (callx_max rfl) (by rfl) T.b_max (by decide +kernel) (pa_cons (pv 1) (pa_cons pe_int pa_nil)))) (pg_sub (pv 0) pe_int set_list))
    (pss_one (ps_ret (pe_op op_mod (pe_callTy call_int1 (by rfl) T.b_int (by decide +kernel) (pa_cons (pv 3) pa_nil)) (pe_callB (callx_max rfl) (by rfl) T.b_max (by decide +kernel) (pa_cons (pv 1) (pa_cons pe_int pa_nil))))))))), ?_⟩
    refine ⟨.ref a, rfl, .inl ⟨a, _, 2, .int rest, rfl, rfl, .inl (.inl ea), rfl, .inl ⟨rfl, _, rfl, ite2 (fun e => ?_) (fun e => ?_)⟩⟩⟩
    · -- nothing left of a number
      refine ⟨.ref a, rfl, .inl ⟨a, _, 1, .int place, rfl, rfl, .inl (.inl ea), rfl, ?_⟩⟩
      refine ⟨.int place, rfl, .ref a, rfl, .inl ⟨a, _, 0, .ref b, rfl, rfl, .inl (.inl ea), rfl, b, ns.map V.int, rfl, .inl (.inl (.inl (gh _ _ eb))), place, _, rfl, rfl, _, rfl, ?_⟩⟩
      rw [List.length_map]
      refine ite2 (fun hlt => ?_) (fun hge => ?_)
      · have hlt : place < (ns.length : Int) := of_decide_eq_true hlt
        obtain ⟨j, rfl⟩ : ∃ j : Nat, place = (j : Int) := ⟨place.toNat, by omega⟩
        have hj : j < ns.length := by omega
        have gj : (ns.map V.int)[j]? = some (.int ns[j]) := by
          rw [List.getElem?_map, List.getElem?_eq_getElem hj]
          rfl
        refine ⟨.ref a, rfl, .inl ⟨a, _, 0, .ref b, rfl, rfl, .inl (.inl ea), rfl, .int (j : Int), rfl, .inl ⟨b, _, (j : Int), .int ns[j], rfl, rfl, .inl (.inl (gh _ _ eb)), atI_nat gj, .inl ⟨_, rfl, _, rfl, ?_⟩⟩⟩⟩
        generalize hx : (if ns[j] < 0 then -ns[j] else ns[j]) = x
        have x0 : 0 ≤ x := by rw [← hx]; split <;> omega
        -- tape[1] = place + 1
        refine ⟨.int (j : Int), rfl, .inl ⟨_, _, rfl, rfl, .ref a, rfl, a, _, 1, 1, rfl, rfl, ea, rfl, ?_⟩⟩
        -- number < 10 ** 18
        refine ⟨.int x, rfl, _, _, rfl, rfl, ⟨by decide, by decide, by decide⟩, _, _, rfl, rfl, _, rfl, ite2 (fun hsm => ?_) (fun hbig => ?_)⟩
        · have hsm : x < 10 ^ 18 := of_decide_eq_true hsm
          refine ⟨.int x, rfl, .inl ⟨_, _, rfl, rfl, .inr ⟨by decide, by decide⟩, .int (j : Int), rfl, .inl ⟨_, _, rfl, rfl, .inr ⟨by decide, by decide⟩, .inl ⟨_, _, rfl, rfl, .inl ⟨_, _, rfl, rfl, .inl ⟨_, rfl, _, _, rfl, rfl, (by decide : (0 : Int) < 2147483647), ?_⟩⟩⟩⟩⟩⟩
          refine ⟨_, rfl, .inl ⟨_, _, rfl, rfl, .inr ⟨by decide, by decide⟩, .inl ⟨_, rfl, _, _, rfl, rfl, (by decide : (0 : Int) < 2147483629), ?_⟩⟩⟩
          refine ⟨_, rfl, .inl ⟨_, rfl, .int many, rfl, .inl ⟨_, _, rfl, _, _, rfl, rfl, (by split <;> omega), ?_⟩⟩⟩
          exact q _ _ G _ (hP _ ⟨_, rfl, draw_mod⟩) (st (by omega) r0 m0 m1) (.int _)
        · refine ⟨.int x, rfl, .ref a, rfl, a, _, 2, 2, rfl, rfl, upd_same, rfl, ?_⟩
          rw [upd_upd]
          refine ⟨.ref a, rfl, .inl ⟨a, _, 2, _, rfl, rfl, .inl (.inl upd_same), rfl, ?_⟩⟩
          refine ⟨_, rfl, .int many, rfl, .inl ⟨_, _, rfl, _, _, rfl, rfl, draw_max hm (by decide) (by decide), .ref a, rfl, a, _, 2, 2, rfl, rfl, upd_same, rfl, ?_⟩⟩
          rw [upd_upd]
          refine ⟨_, rfl, .inl ⟨_, rfl, .int many, rfl, .inl ⟨_, _, rfl, _, _, rfl, rfl, (by split <;> omega), ?_⟩⟩⟩
          exact q _ _ G _ (hP _ ⟨_, rfl, draw_mod⟩) (st (by omega) (Int.ediv_nonneg x0 (by split <;> omega)) m0 m1) (.int _)
      · -- the mixed one
        refine ⟨.ref a, rfl, .inl ⟨a, _, 3, .int mixed, rfl, rfl, .inl (.inl ea), rfl, .inl ⟨_, _, rfl, rfl, .inr ⟨by decide, by decide⟩, .int place, rfl, .inl ⟨_, _, rfl, rfl, .inl ⟨_, _, rfl, rfl, .inl ⟨_, rfl, _, _, rfl, rfl, (by decide : (0 : Int) < 2147483647), .ref a, rfl, a, _, 3, 3, rfl, rfl, ea, rfl, ?_⟩⟩⟩⟩⟩⟩
        refine ⟨.ref a, rfl, .inl ⟨a, _, 3, _, rfl, rfl, .inl (.inl upd_same), rfl, ?_⟩⟩
        have x0 : 0 ≤ (mixed * 48271 + place + 1) % 2147483647 := Int.emod_nonneg _ (by decide)
        have x1 : (mixed * 48271 + place + 1) % 2147483647 < 2147483647 := Int.emod_lt_of_pos _ (by decide)
        refine ⟨.int place, rfl, .inl ⟨_, _, rfl, rfl, .ref a, rfl, a, _, 1, 1, rfl, rfl, upd_same, rfl, ?_⟩⟩
        rw [upd_upd]
        refine ⟨_, rfl, _, _, rfl, rfl, ⟨by decide, by decide, by decide⟩, _, _, rfl, rfl, _, rfl, ite2 (fun hsm => ?_) (fun hbig => ?_)⟩
        · refine ⟨_, rfl, .inl ⟨_, _, rfl, rfl, .inr ⟨by decide, by decide⟩, .int place, rfl, .inl ⟨_, _, rfl, rfl, .inr ⟨by decide, by decide⟩, .inl ⟨_, _, rfl, rfl, .inl ⟨_, _, rfl, rfl, .inl ⟨_, rfl, _, _, rfl, rfl, (by decide : (0 : Int) < 2147483647), ?_⟩⟩⟩⟩⟩⟩
          refine ⟨_, rfl, .inl ⟨_, _, rfl, rfl, .inr ⟨by decide, by decide⟩, .inl ⟨_, rfl, _, _, rfl, rfl, (by decide : (0 : Int) < 2147483629), ?_⟩⟩⟩
          refine ⟨_, rfl, .inl ⟨_, rfl, .int many, rfl, .inl ⟨_, _, rfl, _, _, rfl, rfl, (by split <;> omega), ?_⟩⟩⟩
          exact q _ _ G _ (hP _ ⟨_, rfl, draw_mod⟩) (st (by omega) r0 x0 x1) (.int _)
        · exact absurd (decide_eq_true (show (mixed * 48271 + place + 1) % 2147483647 < 10 ^ 18 by omega)) hbig
    · -- what is left of a number
      refine ⟨.ref a, rfl, .inl ⟨a, _, 2, _, rfl, rfl, .inl (.inl ea), rfl, ?_⟩⟩
      refine ⟨_, rfl, .int many, rfl, .inl ⟨_, _, rfl, _, _, rfl, rfl, draw_max hm (by decide) (by decide), .ref a, rfl, a, _, 2, 2, rfl, rfl, ea, rfl, ?_⟩⟩
      refine ⟨_, rfl, .inl ⟨_, rfl, .int many, rfl, .inl ⟨_, _, rfl, _, _, rfl, rfl, (by split <;> omega), ?_⟩⟩⟩
      exact q _ _ G _ (hP _ ⟨_, rfl, draw_mod⟩) (st p0 (Int.ediv_nonneg r0 (by split <;> omega)) m0 m1) (.int _)

/-- twenty numbers below 20 -/
structure Pool (ns : List Int) : Prop where
  l : ns.length = 20
  b : ∀ n ∈ ns, 0 ≤ n ∧ n < 20
def R__law_numbers : Pr := fun ss P => ss = [.tp] ∧ ∀ ns, Pool ns → P (.list (ns.map .int))

abbrev s__law_numbers : Stmt := topS 12
theorem sc__law_numbers : FnScope ["tape", "start", "stride", "k"] ["tape"] (defScope s__law_numbers) := ⟨rfl, rfl, rfl, by decide +kernel, rfl, by decide +kernel, by decide +kernel⟩
theorem ok__law_numbers {Pg : Program} {w : World} {K : PySem.W.Frag} {mg : Str → Option Value} {base : Heap} (T : Tx K mg) (C__law_draw : Cal Pg w K mg base 1 "_law_draw" ["tape", "many"] (spR K 2 R__law_draw)) {f : Addr} {fd : FuncData} (F : Fun K "_law_numbers" "_law_numbers" s__law_numbers f fd) : FnOk Pg w K mg base CX0 2 f fd ["tape"] (spR K 1 R__law_numbers) := by
  refine fn_ok (n := 1) F sc__law_numbers rfl (by decide) (fun cdv A outer s H E hr => ⟨_, (pss_cons (ps_set (i := 1) sc__law_numbers.nd rfl (Or.inr rfl) (pe_cal C__law_draw hr (pa_cons (pv 0) (pa_cons pe_int pa_nil))))
    (pss_cons (ps_set (i := 2) sc__law_numbers.nd rfl (Or.inr rfl) (pe_ix ix_seq (pe_lst (pa_cons pe_int (pa_cons pe_int (pa_cons pe_int (pa_cons pe_int (pa_cons pe_int (pa_cons pe_int (pa_cons pe_int (pa_cons pe_int pa_nil))))))))) (pe_cal C__law_draw hr (pa_cons (pv 0) (pa_cons pe_int pa_nil))) (fun _ _ => rfl)))
    (pss_one (ps_ret (pe_lc (own := [("k", 3)]) (g := (gName 3)) (tt := tYes) rfl sc__law_numbers.nd (pi_range1 rfl T.b_range (pa_cons pe_int pa_nil)) (blkOk_by (own := [("k", 3)]) (N := ["tape", "start", "stride", "k"]) (sc := defScope s__law_numbers) (by decide +kernel)) (fun _ _ _ _ _ => (pg_name (i := 3) sc__law_numbers.nd rfl (Or.inl rfl))) (fun _ _ _ _ _ => pts_nil) (fun _ _ _ _ _ => (pe_op op_mod (pe_callTy call_int1 (by rfl) T.b_int (by decide +kernel) (pa_cons (pe_op (opx_addK (K := K) rfl) (pv 1) (pe_op (opx_mulK (K := K) rfl) (pv 3) (pv 2))) pa_nil)) pe_int))))))), ?_⟩)
  intro ss P hl hR
  obtain ⟨rfl, hP⟩ := hR
  refine wq_set (P := isI fun r => True) (y_drd rfl ye_i fun r h1 h2 => trivial) ?_
  rintro _ ⟨a, rfl, _⟩
  refine wq_set (P := isI fun r => 0 ≤ r ∧ r ≤ 20) (ye_menu (n := 8) (ya_1 (isI_of ye_i (by decide)) (ya_1 (isI_of ye_i (by decide)) (ya_1 (isI_of ye_i (by decide)) (ya_1 (isI_of ye_i (by decide)) (ya_1 (isI_of ye_i (by decide)) (ya_1 (isI_of ye_i (by decide)) (ya_1 (isI_of ye_i (by decide)) (ya_1 (isI_of ye_i (by decide)) ya_0)))))))) (y_drd rfl ye_i fun r h1 h2 => ⟨h1, by omega⟩)) ?_
  rintro _ ⟨b, rfl, b0, b1⟩
  refine ws_ret (P := fun d => ∃ ns, Pool ns ∧ d = .list (ns.map .int)) ((nl_lcI (PL := fun xs => xs = rgD 0 20) (sl := [3]) (C := fun r => 0 ≤ r ∧ r < 20) (it_r1 ye_i (by decide) (by decide)) (fun i h => h) (fun xs e => by rw [e, rg_len]; show _ < (16777216 : Nat); decide) (fun xs x e hx => ?_)).pe.imp ?_) fun d ⟨ns, h, e⟩ => e ▸ hP ns h
  · subst e
    obtain ⟨i, hi⟩ := List.getElem?_of_mem hx
    have il := (List.getElem?_eq_some_iff.mp hi).1
    rw [rg_at _ _ _ il] at hi
    rw [rg_len] at il
    cases hi
    rw [Int.zero_add]
    exact ⟨_, yg_n, isI_of (yd_md (yd_toI (yd_add (ye_v rfl) (yd_mul (ye_v (d := .int (i : Int)) rfl) (ye_v rfl) (.inl (.inr (by omega)))))) ye_i (by decide)) ⟨Int.emod_nonneg _ (by decide), Int.emod_lt_of_pos _ (by decide)⟩⟩
  · rintro d ⟨ys, rfl, xs, ns, rfl, rfl, h1, h2⟩
    exact ⟨ns, ⟨by rw [h1, rg_len]; rfl, h2⟩, rfl⟩


def R__law_spread : Pr := fun ss P => ∃ (ns : List Int) (os : List Od) (m : Nat), ss = [.tp, .d (.list (ns.map .int)), .d (odsD os)] ∧ (6 ≤ ns.length ∧ ∀ n ∈ ns, 0 ≤ n ∧ n < 20) ∧ m ≤ 6 ∧ OdD m os ∧ ∀ os', OdD m os' → P (odsD os')

abbrev s__law_spread : Stmt := topS 22
theorem sc__law_spread : FnScope ["tape", "pool", "orders", "k"] ["tape", "pool", "orders"] (defScope s__law_spread) := ⟨rfl, rfl, rfl, by decide +kernel, rfl, by decide +kernel, by decide +kernel⟩
theorem ok__law_spread {Pg : Program} {w : World} {K : PySem.W.Frag} {mg : Str → Option Value} {base : Heap} (T : Tx K mg) (C__law_draw : Cal Pg w K mg base 1 "_law_draw" ["tape", "many"] (spR K 2 R__law_draw)) {f : Addr} {fd : FuncData} (F : Fun K "_law_spread" "_law_spread" s__law_spread f fd) : FnOk Pg w K mg base CX0 2 f fd ["tape", "pool", "orders"] (spR K 3 R__law_spread) := by
  refine fn_ok (n := 3) F sc__law_spread rfl (by decide) (fun cdv A outer s H E hr => ⟨_, (pss_cons (ps_if (pt_cmpR op_gt (pe_cal C__law_draw hr (pa_cons (pv 0) (pa_cons pe_int pa_nil))) pe_int (nomark _)) (pss_one (ps_ret (pv 2))) pss_nil)
    (pss_one (ps_ret (pe_callTy call_tupQ (by rfl) T.b_tuple (by decide +kernel) (pa_cons (pe_lc (own := [("k", 3)]) (g := (gName 3)) (tt := tYes) rfl sc__law_spread.nd (pi_range1 rfl T.b_range (pa_cons (pe_callB call_len_seq (by rfl) T.b_len (by decide +kernel) (pa_cons (pv 2) pa_nil)) pa_nil)) (blkOk_by (own := [("k", 3)]) (N := ["tape", "pool", "orders", "k"]) (sc := defScope s__law_spread) (by decide +kernel)) (fun _ _ _ _ _ => (pg_name (i := 3) sc__law_spread.nd rfl (Or.inl rfl))) (fun _ _ _ _ _ => pts_nil) (fun _ _ _ _ _ => (pe_op (opx_addK (K := K) rfl) (pe_tuq (pa_cons (pe_ix (ix_seqK (K := K) rfl) (pv 1) (pv 3) (fun _ _ => rfl)) pa_nil)) (pe_slice (slxK (K := K) rfl) (pe_ix (ix_seqK (K := K) rfl) (pv 2) (pv 3) (fun _ _ => rfl)) (po_some pe_int) po_none)))) pa_nil))))), ?_⟩)
  intro ss P hl hR
  obtain ⟨ns, os, m, rfl, ⟨nl, nb⟩, m6, ok, hP⟩ := hR
  have ol := ok.l
  refine wq_when (Pb := fun _ => True) (yt_v (Pa := fun d => ∃ b, d = .bool b) (ye_cp (f := fun i j => decide (j < i)) (Pa := isI fun _ => True) (Pb := fun d => d = .int 0) (y_drd rfl ye_i fun r h1 h2 => trivial) ye_i fun x y ⟨r, e, _⟩ e2 => ⟨r, 0, e, e2, _, rfl⟩) fun x ⟨b, e⟩ => ⟨b, e, trivial⟩) (fun _ => ws_retd (ye_v rfl) (hP os ok)) fun _ => ?_
  let f : Nat → Od := fun k => ⟨ns.getD k 0, (ord os k).q, (ord os k).d⟩
  refine ws_retd ((yd_tupR (nd_lcf (xs := rgD 0 (os.length : Int)) (sl := [3]) (fun d => match d with | .int k => odD (f k.toNat) | d => d) (it_r1 ((yd_lenT (xs := os.map odD) (ye_v (d := odsD os) rfl)).to (by rw [List.length_map])) (by omega) (by omega)) (fun i h => h) ?_ ?_).rl).to (e := odsD ((List.range os.length).map f)) ?_) (hP _ ⟨by rw [List.length_map, List.length_range]; exact ol, fun o ho => ?_⟩)
  · rw [rg_len]; show _ < (16777216 : Nat); omega
  · intro x hx
    obtain ⟨i, hi⟩ := List.getElem?_of_mem hx
    have il := (List.getElem?_eq_some_iff.mp hi).1
    rw [rg_at _ _ _ il] at hi
    rw [rg_len] at il
    cases hi
    rw [Int.zero_add]
    have il : i < os.length := by omega
    have hn : ns[i]? = some (ns.getD i 0) := by rw [List.getD_eq_getElem?_getD, List.getElem?_eq_getElem (by omega)]; rfl
    have ho : os[i]? = some (ord os i) := by unfold ord; rw [List.getD_eq_getElem?_getD, List.getElem?_eq_getElem il]; rfl
    exact ⟨_, yg_n, (yd_catT (xs := [.int (ns.getD i 0)]) (ys := [.int (ord os i).q, .int (ord os i).d]) (yd_t1 (yd_ixL (xs := ns.map .int) (ye_v rfl) (ye_v (d := .int (i : Int)) rfl) (atI_nat (by rw [List.getElem?_map, hn]; rfl)))) ((yd_slT (xs := [.int (ord os i).p, .int (ord os i).q, .int (ord os i).d]) (yd_ixT (xs := os.map odD) (d := odD (ord os i)) (ye_v (d := odsD os) rfl) (ye_v (d := .int (i : Int)) rfl) (atI_nat (by rw [List.getElem?_map, ho]; rfl))) (yo_i ye_i) yo_n).to rfl) (by show 1 + 2 ≤ (16777216 : Nat); decide)).to (by rfl)⟩
  · unfold odsD rgD
    rw [show ((os.length : Int) - 0).toNat = os.length by omega, List.map_map, List.map_map]
    congr 1
    refine List.map_congr_left fun k _ => ?_
    show odD (f (0 + (k : Int)).toNat) = odD (f k)
    rw [Int.zero_add, Int.toNat_natCast]
  · obtain ⟨k, hk, rfl⟩ := List.mem_map.mp ho
    have kl := List.mem_range.mp hk
    have b := ok.b (ord os k) (by unfold ord; rw [List.getD_eq_getElem?_getD, List.getElem?_eq_getElem kl]; exact List.getElem_mem _)
    refine ⟨nb _ ?_, b.2⟩
    show ns.getD k 0 ∈ ns
    rw [List.getD_eq_getElem?_getD, List.getElem?_eq_getElem (by omega)]
    exact List.getElem_mem _


def R__law_orders_drawn : Pr := fun ss P => ∃ (ns : List Int) (m : Nat), ss = [.tp, .d (.list (ns.map .int)), .d (.int (m : Int))] ∧ (3 ≤ ns.length ∧ ∀ n ∈ ns, 0 ≤ n ∧ n < 20) ∧ m ≤ 6 ∧ ∀ os, OdD m os → P (odsD os)

abbrev s__law_orders_drawn : Stmt := topS 13
theorem sc__law_orders_drawn : FnScope ["tape", "pool", "many", "rows", "kinds", "top", "k", "due"] ["tape", "pool", "many"] (defScope s__law_orders_drawn) := ⟨rfl, rfl, rfl, by decide +kernel, rfl, by decide +kernel, by decide +kernel⟩
theorem ok__law_orders_drawn {Pg : Program} {w : World} {K : PySem.W.Frag} {mg : Str → Option Value} {base : Heap} (T : Tx K mg) (C__law_draw : Cal Pg w K mg base 1 "_law_draw" ["tape", "many"] (spR K 2 R__law_draw)) {f : Addr} {fd : FuncData} (F : Fun K "_law_orders_drawn" "_law_orders_drawn" s__law_orders_drawn f fd) : FnOk Pg w K mg base CX0 2 f fd ["tape", "pool", "many"] (spR K 3 R__law_orders_drawn) := by
  refine fn_ok (n := 3) F sc__law_orders_drawn rfl (by decide) (fun cdv A outer s H E hr => ⟨_, (pss_cons (ps_set (i := 3) sc__law_orders_drawn.nd rfl (Or.inl rfl) (pe_lst pa_nil))
    (pss_cons (ps_set (i := 4) sc__law_orders_drawn.nd rfl (Or.inl rfl) (pe_op opx_add pe_int (pe_cal C__law_draw hr (pa_cons (pv 0) (pa_cons pe_int pa_nil)))))
    (pss_cons (ps_set (i := 5) sc__law_orders_drawn.nd rfl (Or.inl rfl) (pe_ix ix_seq (pe_lst (pa_cons pe_int (pa_cons pe_int (pa_cons pe_int pa_nil)))) (pe_cal C__law_draw hr (pa_cons (pv 0) (pa_cons pe_int pa_nil))) (fun _ _ => rfl)))
    (pss_cons (ps_for PassesOwn.never rfl (pi_range1 rfl T.b_range (pa_cons (pv 2) pa_nil)) (pg_name (i := 6) sc__law_orders_drawn.nd rfl (Or.inl rfl))
    (pss_cons (ps_set (i := 7) sc__law_orders_drawn.nd rfl (Or.inl rfl) (pe_ix ix_seq (pe_lst (pa_cons pe_int (pa_cons (pe_cal C__law_draw hr (pa_cons (pv 0) (pa_cons pe_int pa_nil))) (pa_cons (pe_cal C__law_draw hr (pa_cons (pv 0) (pa_cons pe_int pa_nil))) pa_nil)))) (pe_cal C__law_draw hr (pa_cons (pv 0) (pa_cons pe_int pa_nil))) (fun _ _ => rfl)))
    (pss_one (ps_expr (pe_bm PySem.F.plainAttrs_list PySem.F.slot_list_append PySem.F.type_list_append mt_append (pv 3) (pa_cons (pe_tuq (pa_cons (pe_ix ix_seq (pv 1) (pe_cal C__law_draw hr (pa_cons (pv 0) (pa_cons (pv 4) pa_nil))) (fun _ _ => rfl)) (pa_cons (pe_op opx_add pe_int (pe_cal C__law_draw hr (pa_cons (pv 0) (pa_cons (pv 5) pa_nil)))) (pa_cons (pv 7) pa_nil)))) pa_nil))))))
    (pss_one (ps_ret (pe_callTy call_tupQ (by rfl) T.b_tuple (by decide +kernel) (pa_cons (pv 3) pa_nil)))))))), ?_⟩)
  intro ss P hl hR
  obtain ⟨ns, m, rfl, ⟨nl, nb⟩, m6, hP⟩ := hR
  refine wq_setmd nd_l0 ?_
  refine wq_set (P := isI fun r => 1 ≤ r ∧ r ≤ 3) (isI_add (isI_of (C := fun r => r = 1) ye_i rfl) (y_drd (D := fun r => 0 ≤ r ∧ r < 3) rfl ye_i fun r h1 h2 => ⟨h1, by omega⟩) fun x y h1 h2 => by omega) ?_
  rintro _ ⟨kd, rfl, k0, k1⟩
  refine wq_set (P := isI fun r => 1 ≤ r ∧ r ≤ 12) (ye_menu (n := 3) (ya_1 (isI_of ye_i (by decide)) (ya_1 (isI_of ye_i (by decide)) (ya_1 (isI_of ye_i (by decide)) ya_0))) (y_drd rfl ye_i fun r h1 h2 => ⟨h1, by omega⟩)) ?_
  rintro _ ⟨tp, rfl, t0, t1⟩
  let B : List Od → Rho := fun os => [.tp, .d (.list (ns.map .int)), .d (.int (m : Int)), .ml (os.map odD), .d (.int kd), .d (.int tp), .no, .no]
  refine ws_seq (fun r => ∃ os, OdD m os ∧ Le r (B os)) (ws_ford (it_r1 (n := (m : Int)) (ye_v rfl) (by omega) (by omega)) (fun i r => ∃ os, OdD i os ∧ Le r (B os)) ⟨[], ⟨rfl, fun o h => nomatch h⟩, (by repeat' first | exact Le.nil | refine Le.cons ?_ ?_ | exact rfl | exact trivial)⟩ ?_ (fun r h => by rw [rg_len, Int.sub_zero, Int.toNat_natCast] at h; exact h)) ?_
  · rintro i z r hi ⟨os, ok, le⟩
    have il := (List.getElem?_eq_some_iff.mp hi).1
    rw [rg_at _ _ _ il] at hi
    rw [rg_len] at il
    cases hi
    refine ⟨_, _, yg_n, Ws.le ?_ (le.seta (j := 6) (x := .d (.int (0 + (i : Int)))))⟩
    refine wq_set (P := isI fun r => 0 ≤ r ∧ r ≤ 100) (ye_menu (n := 3) (ya_1 (isI_of ye_i (by decide)) (ya_1 (y_drd rfl ye_i fun r h1 h2 => ⟨h1, by omega⟩) (ya_1 (y_drd rfl ye_i fun r h1 h2 => ⟨h1, by omega⟩) ya_0))) (y_drd rfl ye_i fun r h1 h2 => ⟨h1, by omega⟩)) ?_
    rintro _ ⟨du, rfl, d0, d1⟩
    refine ws_app (P := fun d => ∃ o : Od, ((0 ≤ o.p ∧ o.p < 20) ∧ (1 ≤ o.q ∧ o.q ≤ 12) ∧ (0 ≤ o.d ∧ o.d ≤ 100)) ∧ d = odD o) rfl (ye_t3 (A := isI fun r => 0 ≤ r ∧ r < 20) (B := isI fun r => 1 ≤ r ∧ r ≤ 12) (C := fun d => d = .int du) (ye_ixT (Pa := fun d => d = .list (ns.map .int)) (Pb := isI fun r => 0 ≤ r ∧ r < 3) (ye_v rfl) (y_drd rfl (ye_v rfl) (fun r h1 h2 => ⟨h1, by omega⟩) (by omega)) ?_) (isI_add (isI_of (C := fun r => r = 1) ye_i rfl) (y_drd (D := fun r => 0 ≤ r ∧ r < 12) rfl (ye_v rfl) (fun r h1 h2 => ⟨h1, by omega⟩) (by omega)) fun x y h1 h2 => by omega) (ye_v rfl) ?_) (by have := ok.l; rw [List.length_map]; show _ < (16777216 : Nat); omega) ?_
    · rintro x y rfl ⟨r, rfl, r0, r1⟩
      obtain ⟨r, rfl⟩ : ∃ j : Nat, r = (j : Int) := ⟨r.toNat, by omega⟩
      have rl : r < ns.length := by omega
      exact ⟨ns.map .int, _, .int ns[r], .inr rfl, rfl, atI_nat (by rw [List.getElem?_map, List.getElem?_eq_getElem rl]; rfl), _, rfl, nb _ (List.getElem_mem rl)⟩
    · rintro _ _ _ ⟨p, rfl, hp⟩ ⟨q, rfl, hq⟩ rfl
      exact ⟨⟨p, q, du⟩, ⟨hp, hq, d0, d1⟩, rfl⟩
    · rintro _ ⟨o, ho, rfl⟩
      refine ⟨os ++ [o], ⟨by rw [List.length_append, ok.l]; rfl, fun x hx => ?_⟩, ?_⟩
      · rcases List.mem_append.mp hx with hx | hx
        · exact ok.b x hx
        · rw [List.mem_singleton.mp hx]; exact ho
      · show Le _ [.tp, .d (.list (ns.map .int)), .d (.int (m : Int)), .ml ((os ++ [o]).map odD), .d (.int kd), .d (.int tp), .no, .no]
        rw [List.map_append]
        exact (by repeat' first | exact Le.nil | refine Le.cons ?_ ?_ | exact rfl | exact trivial)
  rintro r ⟨os, ok, le⟩
  exact Ws.le (ws_retd (yd_tupR (rl_v rfl)) (hP os ok)) le


def nZ (k : Nat) : PyData := .int (k : Int)
theorem erase_map {α β : Type} (g : α → β) : ∀ (l : List α) (n : Nat), (l.map g).eraseIdx n = (l.eraseIdx n).map g
  | [], _ => rfl
  | _ :: _, 0 => rfl
  | a :: l, n + 1 => by
    show g a :: (l.map g).eraseIdx n = g a :: (l.eraseIdx n).map g
    rw [erase_map g l n]
theorem erase_sum (f : Nat → Int) : ∀ (l : List Nat) (n : Nat) (h : n < l.length), ((l.eraseIdx n).map f).sum + f l[n] = (l.map f).sum
  | [], _, h => absurd h (Nat.not_lt_zero _)
  | a :: l, 0, _ => by
    show (l.map f).sum + f a = ((a :: l).map f).sum
    rw [List.map_cons, List.sum_cons]
    omega
  | a :: l, n + 1, h => by
    have hn : n < l.length := by simpa using h
    have := erase_sum f l n hn
    show ((a :: l.eraseIdx n).map f).sum + f (l[n]'hn) = ((a :: l).map f).sum
    rw [List.map_cons, List.sum_cons, List.map_cons, List.sum_cons]
    omega
/-- 0 to m - 1 in some order -/
structure Order (m : Nat) (ns : List Nat) : Prop where
  len : ns.length = m
  lt : ∀ k ∈ ns, k < m
  sum : ∀ f : Nat → Int, (ns.map f).sum = ((List.range m).map f).sum
def R__law_order : Pr := fun ss P => ∃ m : Nat, ss = [.tp, .d (.int (m : Int))] ∧ m ≤ 1000 ∧ ∀ ns, Order m ns → P (.list (ns.map nZ))

abbrev s__law_order : Stmt := topS 11
theorem sc__law_order : FnScope ["tape", "many", "left", "order", "k"] ["tape", "many"] (defScope s__law_order) := ⟨rfl, rfl, rfl, by decide +kernel, rfl, by decide +kernel, by decide +kernel⟩
theorem ok__law_order {Pg : Program} {w : World} {K : PySem.W.Frag} {mg : Str → Option Value} {base : Heap} (T : Tx K mg) (C__law_draw : Cal Pg w K mg base 1 "_law_draw" ["tape", "many"] (spR K 2 R__law_draw)) {f : Addr} {fd : FuncData} (F : Fun K "_law_order" "_law_order" s__law_order f fd) : FnOk Pg w K mg base CX0 2 f fd ["tape", "many"] (spR K 2 R__law_order) := by
  refine fn_ok (n := 2) F sc__law_order rfl (by decide) (fun cdv A outer s H E hr => ⟨_, (pss_cons (ps_set (i := 2) sc__law_order.nd rfl (Or.inl rfl) (pe_listRg rfl (by rfl) T.b_list (prg_1 (by rfl) T.b_range (pv 1))))
    (pss_cons (ps_set (i := 3) sc__law_order.nd rfl (Or.inl rfl) (pe_lst pa_nil))
    (pss_cons (ps_for PassesOwn.never rfl (pi_range1 rfl T.b_range (pa_cons (pv 1) pa_nil)) (pg_name (i := 4) sc__law_order.nd rfl (Or.inl rfl))
    (pss_one (ps_expr (pe_bm PySem.F.plainAttrs_list PySem.F.slot_list_append PySem.F.type_list_append mt_append (pv 3) (pa_cons (pe_bm PySem.F.plainAttrs_list PySem.F.slot_list_pop PySem.F.type_list_pop mt_popAt (pv 2) (pa_cons (pe_cal C__law_draw hr (pa_cons (pv 0) (pa_cons (pe_callB call_len_seq (by rfl) T.b_len (by decide +kernel) (pa_cons (pv 2) pa_nil)) pa_nil))) pa_nil)) pa_nil)))))
    (pss_one (ps_ret (pv 3)))))), ?_⟩)
  intro ss P hl hR
  obtain ⟨m, rfl, hm, hP⟩ := hR
  have e0 : rgD 0 (m : Int) = (List.range m).map nZ := by
    unfold rgD
    rw [show ((m : Int) - 0).toNat = m by omega]
    refine List.map_congr_left fun k _ => ?_
    show PyData.int (0 + (k : Int)) = .int (k : Int)
    rw [Int.zero_add]
  refine wq_setmd (nd_rg1 (ye_v rfl) ⟨by omega, by omega, by omega, by omega, by omega⟩) ?_
  refine wq_setmd nd_l0 ?_
  rw [e0]
  let B : List Nat → List Nat → Rho := fun ls os => [.tp, .d (.int (m : Int)), .ml (ls.map nZ), .ml (os.map nZ), .no]
  refine ws_seq (fun r => ∃ os, Order m os ∧ Le r (B [] os)) (ws_ford (it_r1 (n := (m : Int)) (ye_v rfl) (by omega) (by omega)) (fun i r => i ≤ m ∧ ∃ ls os : List Nat, ls.length + i = m ∧ os.length = i ∧ (∀ k ∈ ls, k < m) ∧ (∀ k ∈ os, k < m) ∧ (∀ f : Nat → Int, (ls.map f).sum + (os.map f).sum = ((List.range m).map f).sum) ∧ Le r (B ls os)) ⟨Nat.zero_le _, List.range m, [], by rw [List.length_range]; omega, rfl, fun k hk => List.mem_range.mp hk, (fun k hk => nomatch hk), (fun f => by simp), Le.refl _⟩ ?_ ?_) ?_
  · rintro i z r hi ⟨_, ls, os, h1, h2, h3, h4, h5, le⟩
    have hi2 := (List.getElem?_eq_some_iff.mp hi).1
    rw [rg_len] at hi2
    refine ⟨[4], r.set 4 (.d z), yg_n, Ws.le ?_ (le.seta (j := 4) (x := .d z))⟩
    refine ws_appPop (i := 3) (j := 2) (xs := ls.map nZ) (ys := os.map nZ) (C := fun z => 0 ≤ z ∧ z < ls.length) rfl rfl (by decide) ((ye_draw rfl (yd_lenR (rl_v rfl)) (by rw [List.length_map]; omega)).imp fun d ⟨r, e, a, b⟩ => ⟨r, e, a, by rw [List.length_map] at b; omega⟩) (fun z h => by rw [List.length_map]; exact h) (by rw [List.length_map]; omega) (by rw [List.length_map]; show _ < (16777216 : Nat); omega) ?_
    intro n hn
    rw [List.length_map] at hn
    refine ⟨by omega, ls.eraseIdx n, os ++ [ls[n]], by rw [List.length_eraseIdx, if_pos hn]; omega, by rw [List.length_append, h2]; rfl, fun k hk => h3 k (List.mem_of_mem_eraseIdx hk), fun k hk => ?_, fun f => ?_, ?_⟩
    · rcases List.mem_append.mp hk with hk | hk
      · exact h4 k hk
      · rw [List.mem_singleton.mp hk]
        exact h3 _ (List.getElem_mem hn)
    · have a := h5 f
      have b := erase_sum f ls n hn
      rw [List.map_append, List.sum_append, List.map_singleton, List.sum_singleton]
      omega
    · show Le [.tp, .d (.int (m : Int)), .ml ((ls.map nZ).eraseIdx n), .ml (os.map nZ ++ [(ls.map nZ)[n]]), .d z] [.tp, .d (.int (m : Int)), .ml ((ls.eraseIdx n).map nZ), .ml ((os ++ [ls[n]]).map nZ), .no]
      rw [erase_map, List.map_append, List.getElem_map]
      exact .cons rfl (.cons rfl (.cons rfl (.cons rfl (.cons trivial .nil))))
  · rintro r ⟨_, ls, os, h1, h2, h3, h4, h5, le⟩
    rw [rg_len] at h1 h2
    have : ls = [] := List.length_eq_zero_iff.mp (by omega)
    subst this
    exact ⟨os, ⟨by omega, h4, fun f => by have := h5 f; rw [List.map_nil, List.sum_nil] at this; omega⟩, le⟩
  rintro r ⟨os, ho, le⟩
  exact Ws.le (ws_retm rfl (hP os ho)) le


def R__law_first_unit : Pr := fun ss P => ∃ (os : List Od) (sq : List Nat) (k : Nat), ss = [.d (odsD os), .d (sqD sq), .d (.int (k : Int))] ∧ SqOk os sq ∧ k < sq.length ∧ P (.int (bfK os sq k + 1))

abbrev s__law_first_unit : Stmt := topS 15
theorem sc__law_first_unit : FnScope ["orders", "sequence", "k", "j"] ["orders", "sequence", "k"] (defScope s__law_first_unit) := ⟨rfl, rfl, rfl, by decide +kernel, rfl, by decide +kernel, by decide +kernel⟩
theorem ok__law_first_unit {Pg : Program} {w : World} {K : PySem.W.Frag} {mg : Str → Option Value} {base : Heap} (T : Tx K mg) {f : Addr} {fd : FuncData} (F : Fun K "_law_first_unit" "_law_first_unit" s__law_first_unit f fd) : FnOk Pg w K mg base CX0 1 f fd ["orders", "sequence", "k"] (spR K 3 R__law_first_unit) := by
  refine fn_ok (n := 3) F sc__law_first_unit rfl (by decide) (fun cdv A outer s H E hr => ⟨_, (pss_one (ps_ret (pe_op opx_add pe_int (pe_callB (callx_sum rfl) (by rfl) T.b_sum (by decide +kernel) (pa_cons (pe_lc (own := [("j", 3)]) (g := (gName 3)) rfl sc__law_first_unit.nd (pi_seq (pe_slice slx (pv 1) po_none (po_some (pv 2)))) (blkOk_by (own := [("j", 3)]) (N := ["orders", "sequence", "k", "j"]) (sc := defScope s__law_first_unit) (by decide +kernel)) (fun _ _ _ _ _ => (pg_name (i := 3) sc__law_first_unit.nd rfl (Or.inl rfl))) (fun _ _ _ _ _ => (pts_one (pt_cmpR (eqK (K := K) rfl hr) (pe_ix (ix_seqK (K := K) rfl) (pe_ix (ix_seqK (K := K) rfl) (pv 0) (pv 3) (fun _ _ => rfl)) pe_int (fun _ _ => rfl)) (pe_ix (ix_seqK (K := K) rfl) (pe_ix (ix_seqK (K := K) rfl) (pv 0) (pe_ix (ix_seqK (K := K) rfl) (pv 1) (pv 2) (fun _ _ => rfl)) (fun _ _ => rfl)) pe_int (fun _ _ => rfl)) (nomark _)))) (fun _ _ _ _ _ => (pe_ix (ix_seqK (K := K) rfl) (pe_ix (ix_seqK (K := K) rfl) (pv 0) (pv 3) (fun _ _ => rfl)) pe_int (fun _ _ => rfl)))) pa_nil))))), ?_⟩)
  intro ss P hl hR
  obtain ⟨os, sq, i, rfl, ok, il, hP⟩ := hR
  have sl := ok.l
  obtain ⟨j, hj⟩ : ∃ j, sq[i]? = some j := ⟨_, List.getElem?_eq_getElem il⟩
  have ho := ok.at hj
  obtain ⟨o, eo⟩ : ∃ o, o = ord os j := ⟨_, rfl⟩
  rw [← eo] at ho
  have fst : ∀ {ρ : Rho}, ρ[0]? = some (.d (odsD os)) → ρ[1]? = some (.d (sqD sq)) → ρ[2]? = some (.d (.int (i : Int))) → Pd K (tOp (rIx K) (tOp (rIx K) (tVar 0) (tOp (rIx K) (tVar 1) (tVar 2))) (tC (.int 0))) ρ (.int o.p) := fun e1 e2 e3 => yd_ixT (xs := [.int o.p, .int o.q, .int o.d]) (yd_ixT (xs := os.map odD) (d := odD o) (ye_v e1) (yd_ixT (xs := sq.map niD) (d := .int (j : Int)) (ye_v e2) (ye_v e3) (atI_nat (by rw [List.getElem?_map, hj]; rfl))) (atI_nat (by rw [List.getElem?_map, ho]; rfl))) ye_i rfl
  refine ws_retd ((yd_add ye_i (yd_sumR (ns := ((sq.take i).filter fun j => decide ((ord os j).p = o.p)).map fun j => (ord os j).q) ((nd_lcff (xs := (sq.take i).map niD) (sl := [3]) (fun d => match d with | .int n => decide ((ord os n.toNat).p = o.p) | _ => false) (fun d => match d with | .int n => .int (ord os n.toNat).q | d => d) (it_t (yd_slT (xs := sq.map niD) (ye_v (d := sqD sq) rfl) yo_n (yo_i (ye_v (d := .int (i : Int)) rfl)) |>.to ?_)) (fun i h => h) ?_ ?_).imp ?_).rl)).to ?_) hP
  · rw [cut_to, List.map_take]
  · rw [List.length_map, List.length_take]; show _ < (16777216 : Nat); omega
  · intro x hx
    obtain ⟨n, hn, rfl⟩ := List.mem_map.mp hx
    have nl := ok.lt n (List.mem_of_mem_take hn)
    have hq : os[n]? = some (ord os n) := by unfold ord; rw [List.getD_eq_getElem?_getD, List.getElem?_eq_getElem nl]; rfl
    have ix : ∀ {ρ : Rho} {k : Int} {x : PyData}, ρ[0]? = some (.d (odsD os)) → ρ[3]? = some (.d (.int (n : Int))) → atI [PyData.int (ord os n).p, .int (ord os n).q, .int (ord os n).d] k = some x → Pd K (tOp (rIx K) (tOp (rIx K) (tVar 0) (tVar 3)) (tC (.int k))) ρ x := fun e1 e2 h => yd_ixT (xs := [.int (ord os n).p, .int (ord os n).q, .int (ord os n).d]) (yd_ixT (xs := os.map odD) (d := odD (ord os n)) (ye_v e1) (ye_v e2) (atI_nat (by rw [List.getElem?_map, hq]; rfl))) ye_i h
    exact ⟨_, yg_n, yt_d (yd_eqI (ix rfl rfl rfl) (fst rfl rfl rfl)), fun _ => ix rfl rfl rfl⟩
  · rintro x rfl
    rw [List.filter_map, List.map_map, List.map_map]
    rfl
  · unfold bfK before
    rw [getD_at hj, ← eo, Int.add_comm]


def R__law_pick : Pr := fun ss P => ∃ xs : List PyData, ss = [.tp, .d (.list xs)] ∧ 1 ≤ xs.length ∧ xs.length ≤ 1000 ∧ ∀ x ∈ xs, P x

abbrev s__law_pick : Stmt := topS 10
theorem sc__law_pick : FnScope ["tape", "rows"] ["tape", "rows"] (defScope s__law_pick) := ⟨rfl, rfl, rfl, by decide +kernel, rfl, by decide +kernel, by decide +kernel⟩
theorem ok__law_pick {Pg : Program} {w : World} {K : PySem.W.Frag} {mg : Str → Option Value} {base : Heap} (T : Tx K mg) (C__law_draw : Cal Pg w K mg base 1 "_law_draw" ["tape", "many"] (spR K 2 R__law_draw)) {f : Addr} {fd : FuncData} (F : Fun K "_law_pick" "_law_pick" s__law_pick f fd) : FnOk Pg w K mg base CX0 2 f fd ["tape", "rows"] (spR K 2 R__law_pick) := by
  refine fn_ok (n := 2) F sc__law_pick rfl (by decide) (fun cdv A outer s H E hr => ⟨_, (pss_one (ps_ret (pe_ix ix_seq (pv 1) (pe_cal C__law_draw hr (pa_cons (pv 0) (pa_cons (pe_callB call_len_seq (by rfl) T.b_len (by decide +kernel) (pa_cons (pv 1) pa_nil)) pa_nil))) (fun _ _ => rfl)))), ?_⟩)
  intro ss P hl hR
  obtain ⟨xs, rfl, l1, l2, hP⟩ := hR
  refine ws_ret (ye_ixT (ye_v rfl) (y_drd (D := fun r => 0 ≤ r ∧ r < (xs.length : Int)) rfl (yd_lenL (ye_v rfl)) (fun r h1 h2 => ⟨h1, by omega⟩) (by omega)) ?_) fun d p => p
  rintro x y rfl ⟨r, rfl, r0, r1⟩
  obtain ⟨j, rfl⟩ : ∃ j : Nat, r = (j : Int) := ⟨r.toNat, by omega⟩
  exact ⟨xs, _, xs[j], .inr rfl, rfl, atI_nat (List.getElem?_eq_getElem (by omega)), hP _ (List.getElem_mem _)⟩


def R__law_totals_drawn : Pr := fun ss P => ∃ (ns : List Int) (os : List Od) (sq : List Nat), ss = [.tp, .d (.list (ns.map .int)), .d (odsD os), .d (sqD sq)] ∧ OdsOk os ∧ SqOk os sq ∧ sq.length ≤ 900 ∧ ∀ ts : Ts, ts.length ≤ 7 → (∀ q ∈ ts, 0 ≤ q.2) → P (tsD ts)

abbrev s__law_totals_drawn : Stmt := topS 17
theorem sc__law_totals_drawn : FnScope ["tape", "pool", "orders", "sequence", "rows", "product", "amounts", "k"] ["tape", "pool", "orders", "sequence"] (defScope s__law_totals_drawn) := ⟨rfl, rfl, rfl, by decide +kernel, rfl, by decide +kernel, by decide +kernel⟩
theorem ok__law_totals_drawn {Pg : Program} {w : World} {K : PySem.W.Frag} {mg : Str → Option Value} {base : Heap} (T : Tx K mg) (C__law_draw : Cal Pg w K mg base 1 "_law_draw" ["tape", "many"] (spR K 2 R__law_draw)) (C__law_first_unit : Cal Pg w K mg base 1 "_law_first_unit" ["orders", "sequence", "k"] (spR K 3 R__law_first_unit)) (C__law_pick : Cal Pg w K mg base 2 "_law_pick" ["tape", "rows"] (spR K 2 R__law_pick)) {f : Addr} {fd : FuncData} (F : Fun K "_law_totals_drawn" "_law_totals_drawn" s__law_totals_drawn f fd) : FnOk Pg w K mg base CX0 3 f fd ["tape", "pool", "orders", "sequence"] (spR K 4 R__law_totals_drawn) := by
  refine fn_ok (n := 4) F sc__law_totals_drawn rfl (by decide) (fun cdv A outer s H E hr => ⟨_, (pss_cons (ps_set (i := 4) sc__law_totals_drawn.nd rfl (Or.inl rfl) (pe_lst pa_nil))
    (pss_cons (ps_for PassesOwn.never rfl (pi_seq (pe_slice slx (pv 1) po_none (po_some pe_int))) (pg_name (i := 5) sc__law_totals_drawn.nd rfl (Or.inl rfl))
    (pss_cons (ps_set (i := 6) sc__law_totals_drawn.nd rfl (Or.inl rfl) (pe_lst (pa_cons pe_int (pa_cons (pe_cal C__law_draw hr (pa_cons (pv 0) (pa_cons pe_int pa_nil))) (pa_cons (pe_cal C__law_draw hr (pa_cons (pv 0) (pa_cons pe_int pa_nil))) pa_nil)))))
    (pss_cons (ps_for PassesOwn.never rfl (pi_range1 rfl T.b_range (pa_cons (pe_callB call_len_seq (by rfl) T.b_len (by decide +kernel) (pa_cons (pv 3) pa_nil)) pa_nil)) (pg_name (i := 7) sc__law_totals_drawn.nd rfl (Or.inl rfl))
    (pss_one (ps_if (pt_cmpR (opx_eq hr) (pe_ix ix_seq (pe_ix ix_seq (pv 2) (pe_ix ix_seq (pv 3) (pv 7) (fun _ _ => rfl)) (fun _ _ => rfl)) pe_int (fun _ _ => rfl)) (pv 5) (nomark _)) (pss_one (ps_expr (pe_bm PySem.F.plainAttrs_list PySem.F.slot_list_append PySem.F.type_list_append mt_append (pv 6) (pa_cons (pe_op op_sub (pe_cal C__law_first_unit hr (pa_cons (pv 2) (pa_cons (pv 3) (pa_cons (pv 7) pa_nil)))) (pe_cal C__law_draw hr (pa_cons (pv 0) (pa_cons pe_int pa_nil)))) pa_nil)))) pss_nil)))
    (pss_one (ps_if (pt_cmpR op_gt (pe_cal C__law_draw hr (pa_cons (pv 0) (pa_cons pe_int pa_nil))) pe_int (nomark _)) (pss_one (ps_expr (pe_bm PySem.F.plainAttrs_list PySem.F.slot_list_append PySem.F.type_list_append mt_append (pv 4) (pa_cons (pe_tuq (pa_cons (pv 5) (pa_cons (pe_callB (callx_min rfl) (by rfl) T.b_min (by decide +kernel) (pa_cons pe_int (pa_cons (pe_cal C__law_pick hr (pa_cons (pv 0) (pa_cons (pv 6) pa_nil))) pa_nil))) pa_nil))) pa_nil)))) pss_nil)))))
    (pss_one (ps_ret (pe_callTy call_tupQ (by rfl) T.b_tuple (by decide +kernel) (pa_cons (pv 4) pa_nil)))))), ?_⟩)
  intro ss P hl hR
  obtain ⟨ns, os, sq, rfl, oo, ok, sl, hP⟩ := hR
  refine wq_setmd nd_l0 ?_
  let B : Ts → Rho := fun ts => [.tp, .d (.list (ns.map .int)), .d (odsD os), .d (sqD sq), .ml (ts.map tsR), .no, .no, .no]
  refine ws_seq (fun r => ∃ ts : Ts, ts.length ≤ 7 ∧ (∀ q ∈ ts, 0 ≤ q.2) ∧ Le r (B ts)) (ws_ford (xs := (ns.take 7).map .int) (it_l ((nl_slR (PM := fun xs => xs = (ns.take 7).map .int) (rl_of (xs := ns.map .int) (ye_v rfl)) yo_n (yo_i ye_i) fun xs e => by rw [e]; exact (cut_to (ns.map PyData.int) 7).trans List.map_take.symm).pe.imp fun d ⟨xs, e, e2⟩ => by rw [e, e2])) (fun i r => ∃ ts : Ts, ts.length ≤ i ∧ (∀ q ∈ ts, 0 ≤ q.2) ∧ Le r (B ts)) ⟨[], Nat.le_refl _, (fun q h => nomatch h), (by repeat' first | exact Le.nil | refine Le.cons ?_ ?_ | exact rfl | exact trivial)⟩ ?_ (fun r ⟨ts, h, h2, le⟩ => ⟨ts, Nat.le_trans h (by rw [List.length_map, List.length_take]; omega), h2, le⟩)) ?_
  · rintro i z r hi ⟨ts, tl, tn, le⟩
    rw [List.getElem?_map] at hi
    obtain ⟨p, hp, rfl⟩ := Option.map_eq_some_iff.mp hi
    have i7 := (List.getElem?_eq_some_iff.mp hp).1
    rw [List.length_take] at i7
    refine ⟨_, _, yg_n, Ws.le ?_ (le.seta (j := 5) (x := .d (.int p)))⟩
    refine wq_setm (nl_all (n := 3) (Q := isI fun r => 0 ≤ r) (ya_1 (isI_of ye_i (by decide)) (ya_1 (y_drd rfl ye_i fun r h1 h2 => h1) (ya_1 (y_drd rfl ye_i fun r h1 h2 => h1) ya_0)))) ?_
    rintro xs ⟨x3, xi⟩
    let C : List PyData → Rho := fun xs => [.tp, .d (.list (ns.map .int)), .d (odsD os), .d (sqD sq), .ml (ts.map tsR), .d (.int p), .ml xs, .no]
    refine ws_seq (fun r => ∃ xs, (3 ≤ xs.length ∧ xs.length ≤ 3 + sq.length) ∧ (∀ x ∈ xs, isI (fun r => 0 ≤ r) x) ∧ Le r (C xs)) (ws_ford (it_r1 (n := (sq.length : Int)) ((yd_lenT (xs := sq.map niD) (ye_v (d := sqD sq) rfl)).to (by rw [List.length_map])) (by omega) (by omega)) (fun k r => ∃ xs, (3 ≤ xs.length ∧ xs.length ≤ 3 + k) ∧ (∀ x ∈ xs, isI (fun r => 0 ≤ r) x) ∧ Le r (C xs)) ⟨xs, by omega, xi, (by repeat' first | exact Le.nil | refine Le.cons ?_ ?_ | exact rfl | exact trivial)⟩ ?_ (fun r h => by rw [rg_len, Int.sub_zero, Int.toNat_natCast] at h; exact h)) ?_
    · rintro k z r hk ⟨xs, xl, xi, le⟩
      have kl := (List.getElem?_eq_some_iff.mp hk).1
      rw [rg_at _ _ _ kl] at hk
      rw [rg_len] at kl
      cases hk
      rw [Int.zero_add]
      have kl : k < sq.length := by omega
      obtain ⟨n, hn⟩ : ∃ n, sq[k]? = some n := ⟨_, List.getElem?_eq_getElem kl⟩
      have ho := ok.at hn
      refine ⟨_, _, yg_n, Ws.le ?_ (le.seta (j := 7) (x := .d (.int (k : Int))))⟩
      refine ws_ifd (b := decide ((ord os n).p = p)) (yt_d (yd_eqI (yd_ixT (xs := [.int (ord os n).p, .int (ord os n).q, .int (ord os n).d]) (yd_ixT (xs := os.map odD) (d := odD (ord os n)) (ye_v (d := odsD os) rfl) (yd_ixT (xs := sq.map niD) (d := .int (n : Int)) (ye_v (d := sqD sq) rfl) (ye_v (d := .int (k : Int)) rfl) (atI_nat (by rw [List.getElem?_map, hn]; rfl))) (atI_nat (by rw [List.getElem?_map, ho]; rfl))) ye_i rfl) (ye_v rfl))) (fun _ => ?_) fun _ => ws_next ⟨xs, by omega, xi, (by repeat' first | exact Le.nil | refine Le.cons ?_ ?_ | exact rfl | exact trivial)⟩
      refine ws_app (P := isI fun r => 0 ≤ r) rfl (isI_sub (A := fun r => r = bfK os sq k + 1) (B := fun r => 0 ≤ r ∧ r < 2) (isI_of (ye_cl (P := fun d => d = .int (bfK os sq k + 1)) (ya_d (ye_v rfl) (ya_d (ye_v rfl) (ya_d (ye_v rfl) ya_n))) rfl ⟨os, sq, k, rfl, ok, kl, rfl⟩) rfl) (y_drd rfl ye_i fun r h1 h2 => ⟨h1, by omega⟩) fun x y h1 h2 => by have := before_nn oo (sq := sq.take k) (fun i hi => ok.lt i (List.mem_of_mem_take hi)) (ord os (sq.getD k 0)).p; unfold bfK at h1; omega) (by show _ < (16777216 : Nat); omega) fun d hd => ⟨xs ++ [d], by rw [List.length_append]; show 3 ≤ xs.length + 1 ∧ xs.length + 1 ≤ _; omega, fun x hx => ?_, (by repeat' first | exact Le.nil | refine Le.cons ?_ ?_ | exact rfl | exact trivial)⟩
      rcases List.mem_append.mp hx with hx | hx
      · exact xi x hx
      · rw [List.mem_singleton.mp hx]; exact hd
    clear x3 xi xs
    rintro r ⟨xs, xl, xi, le⟩
    refine Ws.le ?_ le
    refine ws_freeze 6 rfl ?_
    refine ws_if (Pb := fun _ => True) (yt_v (Pa := fun d => ∃ b, d = .bool b) (ye_cp (f := fun i j => decide (j < i)) (Pa := isI fun _ => True) (Pb := fun d => d = .int 0) (y_drd rfl ye_i fun r h1 h2 => trivial) ye_i fun x y ⟨r, e, _⟩ e2 => ⟨r, 0, e, e2, _, rfl⟩) fun x ⟨b, e⟩ => ⟨b, e, trivial⟩) (fun _ => ?_) fun _ => ws_next ⟨ts, by omega, tn, (by repeat' first | exact Le.nil | refine Le.cons ?_ ?_ | exact rfl | exact trivial)⟩
    refine ws_app (P := fun d => ∃ v : Int, 0 ≤ v ∧ d = tsR (p, v)) rfl (ye_t2 (A := fun d => d = .int p) (B := isI fun r => 0 ≤ r) (ye_v rfl) (isI_min (A := fun r => r = 99) (B := fun r => 0 ≤ r) (isI_of ye_i rfl) (ye_cl (ya_td rfl (ya_d (ye_v rfl) ya_n)) rfl ⟨xs, rfl, by omega, by omega, fun x hx => xi x hx⟩) fun x y h1 h2 => by omega) fun a b e ⟨v, e2, h⟩ => ⟨v, h, by rw [e, e2]; rfl⟩) (by rw [List.length_map]; show _ < (16777216 : Nat); omega) ?_
    rintro _ ⟨v, v0, rfl⟩
    refine ⟨ts ++ [(p, v)], by rw [List.length_append]; exact Nat.succ_le_succ tl, fun q hq => (List.mem_append.mp hq).elim (tn q) fun h => by rw [List.mem_singleton.mp h]; exact v0, ?_⟩
    show Le _ [.tp, .d (.list (ns.map .int)), .d (odsD os), .d (sqD sq), .ml ((ts ++ [(p, v)]).map tsR), .no, .no, .no]
    rw [List.map_append]
    exact (by repeat' first | exact Le.nil | refine Le.cons ?_ ?_ | exact rfl | exact trivial)
  rintro r ⟨ts, tl, tn, le⟩
  refine Ws.le (ws_retd (yd_tupR (rl_v rfl)) ?_) le
  rw [← tsD_eq]
  exact hP ts tl tn


def R__law_available : Pr := fun ss P => ∃ (ns : List Int) (os : List Od), ss = [.tp, .d (.list (ns.map .int)), .d (odsD os)] ∧ OdsOk os ∧ ∀ av, AvOk 4 av → P (avD av)

abbrev s__law_available : Stmt := topS 14
theorem sc__law_available : FnScope ["tape", "pool", "orders", "rows", "product", "need", "count", "hour", "hours", "k", "order"] ["tape", "pool", "orders"] (defScope s__law_available) := ⟨rfl, rfl, rfl, by decide +kernel, rfl, by decide +kernel, by decide +kernel⟩
theorem ok__law_available {Pg : Program} {w : World} {K : PySem.W.Frag} {mg : Str → Option Value} {base : Heap} (T : Tx K mg) (C__law_draw : Cal Pg w K mg base 1 "_law_draw" ["tape", "many"] (spR K 2 R__law_draw)) {f : Addr} {fd : FuncData} (F : Fun K "_law_available" "_law_available" s__law_available f fd) : FnOk Pg w K mg base CX0 2 f fd ["tape", "pool", "orders"] (spR K 3 R__law_available) := by
  refine fn_ok (n := 3) F sc__law_available rfl (by decide) (fun cdv A outer s H E hr => ⟨_, (pss_cons (ps_set (i := 3) sc__law_available.nd rfl (Or.inl rfl) (pe_lst pa_nil))
    (pss_cons (ps_for PassesOwn.never rfl (pi_seq (pe_slice slx (pv 1) po_none (po_some pe_int))) (pg_name (i := 4) sc__law_available.nd rfl (Or.inr rfl))
    (pss_cons (ps_set (i := 5) sc__law_available.nd rfl (Or.inl rfl) (pe_callB (callx_sum rfl) (by rfl) T.b_sum (by decide +kernel) (pa_cons (pe_lc (own := [("order", 10)]) (g := (gName 10)) rfl sc__law_available.nd (pi_seq (pv 2)) (blkOk_by (own := [("order", 10)]) (N := ["tape", "pool", "orders", "rows", "product", "need", "count", "hour", "hours", "k", "order"]) (sc := defScope s__law_available) (by decide +kernel)) (fun _ _ _ _ _ => (pg_name (i := 10) sc__law_available.nd rfl (Or.inl rfl))) (fun _ _ _ _ _ => (pts_one (pt_cmpR (eqK (K := K) rfl hr) (pe_ix (ix_seqK (K := K) rfl) (pv 10) pe_int (fun _ _ => rfl)) (pv 4) (nomark _)))) (fun _ _ _ _ _ => (pe_ix (ix_seqK (K := K) rfl) (pv 10) pe_int (fun _ _ => rfl)))) pa_nil)))
    (pss_cons (ps_set (i := 6) sc__law_available.nd rfl (Or.inl rfl) (pe_ix ix_seq (pe_lst (pa_cons (pv 5) (pa_cons (pv 5) (pa_cons (pv 5) (pa_cons (pe_callB (callx_max rfl) (by rfl) T.b_max (by decide +kernel) (pa_cons pe_int (pa_cons (pe_op op_sub (pv 5) pe_int) pa_nil))) (pa_cons (pe_cal C__law_draw hr (pa_cons (pv 0) (pa_cons pe_int pa_nil))) pa_nil)))))) (pe_cal C__law_draw hr (pa_cons (pv 0) (pa_cons pe_int pa_nil))) (fun _ _ => rfl)))
    (pss_cons (ps_set (i := 7) sc__law_available.nd rfl (Or.inl rfl) pe_int)
    (pss_cons (ps_set (i := 8) sc__law_available.nd rfl (Or.inl rfl) (pe_lst pa_nil))
    (pss_cons (ps_for PassesOwn.never rfl (pi_range1 rfl T.b_range (pa_cons (pe_callB (callx_min rfl) (by rfl) T.b_min (by decide +kernel) (pa_cons pe_int (pa_cons (pv 6) pa_nil))) pa_nil)) (pg_name (i := 9) sc__law_available.nd rfl (Or.inl rfl))
    (pss_cons (ps_set (i := 7) sc__law_available.nd rfl (Or.inl rfl) (pe_callB (callx_min rfl) (by rfl) T.b_min (by decide +kernel) (pa_cons pe_int (pa_cons (pe_op opx_add (pv 7) (pe_ix ix_seq (pe_lst (pa_cons pe_int (pa_cons pe_int (pa_cons pe_int (pa_cons (pe_cal C__law_draw hr (pa_cons (pv 0) (pa_cons pe_int pa_nil))) (pa_cons (pe_cal C__law_draw hr (pa_cons (pv 0) (pa_cons pe_int pa_nil))) pa_nil)))))) (pe_cal C__law_draw hr (pa_cons (pv 0) (pa_cons pe_int pa_nil))) (fun _ _ => rfl))) pa_nil))))
    (pss_one (ps_expr (pe_bm PySem.F.plainAttrs_list PySem.F.slot_list_append PySem.F.type_list_append mt_append (pv 8) (pa_cons (pv 7) pa_nil))))))
    (pss_one (ps_if (PW.pt (pw_or (pt_tru (pv 8) (by intro _; rfl)) (pw_or1 (pt_cmpR (opx_eq hr) (pe_cal C__law_draw hr (pa_cons (pv 0) (pa_cons pe_int pa_nil))) pe_int (nomark _))))) (pss_one (ps_set (i := 3) sc__law_available.nd rfl (Or.inl rfl) (pe_ix ix_seq (pe_lst (pa_cons (pe_op opx_add (pe_lst (pa_cons (pe_tuq (pa_cons (pv 4) (pa_cons (pe_callTy call_tupQ (by rfl) T.b_tuple (by decide +kernel) (pa_cons (pv 8) pa_nil)) pa_nil))) pa_nil)) (pv 3)) (pa_cons (pe_op opx_add (pv 3) (pe_lst (pa_cons (pe_tuq (pa_cons (pv 4) (pa_cons (pe_callTy call_tupQ (by rfl) T.b_tuple (by decide +kernel) (pa_cons (pv 8) pa_nil)) pa_nil))) pa_nil))) pa_nil))) (pe_cal C__law_draw hr (pa_cons (pv 0) (pa_cons pe_int pa_nil))) (fun _ _ => rfl)))) pss_nil))))))))
    (pss_one (ps_ret (pe_callTy call_tupQ (by rfl) T.b_tuple (by decide +kernel) (pa_cons (pv 3) pa_nil)))))), ?_⟩)
  intro ss P hl hR
  obtain ⟨ns, os, rfl, oo, hP⟩ := hR
  have ol := oo.l
  refine wq_setmd nd_l0 ?_
  refine ws_freeze 3 rfl ?_
  let B : Av → Rho := fun av => [.tp, .d (.list (ns.map .int)), .d (odsD os), .d (.list (av.map avR)), .no, .no, .no, .no, .no, .no, .no]
  refine ws_seq (fun r => ∃ av, AvOk 4 av ∧ Le r (B av)) (ws_ford (xs := (ns.take 4).map .int) (it_l ((nl_slR (PM := fun xs => xs = (ns.take 4).map .int) (rl_of (xs := ns.map .int) (ye_v rfl)) yo_n (yo_i ye_i) fun xs e => by rw [e]; exact (cut_to (ns.map PyData.int) 4).trans List.map_take.symm).pe.imp fun d ⟨xs, e, e2⟩ => by rw [e, e2])) (fun i r => ∃ av, AvOk i av ∧ Le r (B av)) ⟨[], ⟨Nat.le_refl _, fun a h => nomatch h⟩, (by repeat' first | exact Le.nil | refine Le.cons ?_ ?_ | exact rfl | exact trivial)⟩ ?_ (fun r ⟨av, ok, le⟩ => ⟨av, ⟨Nat.le_trans ok.l (by rw [List.length_map, List.length_take]; omega), ok.h⟩, le⟩)) ?_
  · rintro i z r hi ⟨av, ok, le⟩
    rw [List.getElem?_map] at hi
    obtain ⟨p, hp, rfl⟩ := Option.map_eq_some_iff.mp hi
    have i4 := (List.getElem?_eq_some_iff.mp hp).1
    rw [List.length_take] at i4
    have al := ok.l
    refine ⟨_, _, yg_n, Ws.le ?_ (le.seta (j := 4) (x := .d (.int p)))⟩
    refine wq_set (P := isI fun r => 0 ≤ r) (Pe.imp (yd_sumR (ns := (os.filter fun o => decide (o.p = p)).map (·.q)) ((nd_lcff (xs := os.map odD) (sl := [10]) (fun d => match d with | .tuple [.int q, _, _] => decide (q = p) | _ => false) (fun d => match d with | .tuple [_, q, _] => q | d => d) (it_t (ye_v (d := odsD os) rfl)) (fun i h => h) ?_ ?_).imp ?_).rl) fun d e => ⟨_, e, ?_⟩) ?_
    · rw [List.length_map]; show _ < (16777216 : Nat); omega
    · intro x hx
      obtain ⟨o, ho, rfl⟩ := List.mem_map.mp hx
      exact ⟨_, yg_n, yt_d (yd_eqI (yd_ixT (xs := [.int o.p, .int o.q, .int o.d]) (ye_v (d := odD o) rfl) ye_i rfl) (ye_v rfl)), fun _ => yd_ixT (xs := [.int o.p, .int o.q, .int o.d]) (ye_v (d := odD o) rfl) ye_i rfl⟩
    · rintro x rfl
      rw [List.filter_map, List.map_map, List.map_map]
      rfl
    · have : ∀ l : List Od, (∀ o ∈ l, 1 ≤ o.q) → 0 ≤ (l.map (·.q)).sum := fun l => by
        induction l with
        | nil => exact fun _ => Int.le_refl _
        | cons a l ih =>
          intro h
          rw [List.map_cons, List.sum_cons]
          have h1 := ih fun o ho => h o (List.mem_cons_of_mem _ ho)
          have h2 := h a List.mem_cons_self
          omega
      exact this _ fun o ho => (oo.q o (List.mem_filter.mp ho).1).1
    rintro _ ⟨nd, rfl, nd0⟩
    refine wq_set (P := isI fun r => 0 ≤ r) (ye_menu (n := 5) (ya_1 (isI_of (ye_v rfl) nd0) (ya_1 (isI_of (ye_v rfl) nd0) (ya_1 (isI_of (ye_v rfl) nd0) (ya_1 (isI_of (yd_max2 ye_i (yd_sub (ye_v rfl) ye_i)) (by omega)) (ya_1 (y_drd rfl ye_i fun r h1 h2 => h1) ya_0))))) (y_drd rfl ye_i fun r h1 h2 => ⟨h1, by omega⟩)) ?_
    rintro _ ⟨ct, rfl, ct0⟩
    refine wq_setd (d := .int 0) ye_i ?_
    refine wq_setmd nd_l0 ?_
    obtain ⟨ndS, hnd⟩ : ∃ x, x = Sl.d (.int nd) := ⟨_, rfl⟩
    let C : Int → List Int → Rho := fun h hs => [.tp, .d (.list (ns.map .int)), .d (odsD os), .d (.list (av.map avR)), .d (.int p), .no, .d (.int ct), .d (.int h), .ml (hs.map .int), .no, .no]
    refine ws_seq (fun r => ∃ h hs, hs.length ≤ 24 ∧ ((∀ x ∈ hs, 0 ≤ x ∧ x ≤ 10000) ∧ hs.Pairwise (· ≤ ·)) ∧ Le r (C h hs)) (ws_ford (it_r1 (n := min 24 ct) (yd_min2 ye_i (ye_v rfl)) (by omega) (by omega)) (fun i r => ∃ h hs, (0 ≤ h ∧ h ≤ 10000) ∧ hs.length ≤ i ∧ ((∀ x ∈ hs, 0 ≤ x ∧ x ≤ h) ∧ hs.Pairwise (· ≤ ·)) ∧ Le r (C h hs)) ⟨0, [], by decide, Nat.le_refl _, ⟨(fun x hx => nomatch hx), .nil⟩, (by repeat' first | exact Le.nil | refine Le.cons ?_ ?_ | exact rfl | exact trivial)⟩ ?_ (fun r ⟨h, hs, hb, h2, ⟨h3, h4⟩, le⟩ => ⟨h, hs, by rw [rg_len] at h2; omega, ⟨fun x hx => by have := h3 x hx; omega, h4⟩, le⟩)) ?_
    · rintro k z r hk ⟨h, hs, hb, hl, ⟨hh, hp⟩, le⟩
      have kl := (List.getElem?_eq_some_iff.mp hk).1
      rw [rg_len] at kl
      refine ⟨_, _, yg_n, Ws.le ?_ (le.seta (j := 9) (x := .d z))⟩
      refine wq_set (P := isI fun r => h ≤ r ∧ r ≤ 10000) (isI_min (isI_of (C := fun r => r = 10000) ye_i rfl) (isI_add (isI_of (C := fun r => r = h) (ye_v rfl) rfl) (ye_menu (Q := isI fun r => 0 ≤ r) (n := 5) (ya_1 (isI_of ye_i (by decide)) (ya_1 (isI_of ye_i (by decide)) (ya_1 (isI_of ye_i (by decide)) (ya_1 (y_drd rfl ye_i fun r h1 h2 => h1) (ya_1 (y_drd rfl ye_i fun r h1 h2 => h1) ya_0))))) (y_drd rfl ye_i fun r h1 h2 => ⟨h1, by omega⟩)) (C := fun r => h ≤ r) fun x y h1 h2 => by omega) fun x y h1 h2 => by omega) ?_
      rintro _ ⟨h', rfl, h0, h1⟩
      refine ws_appd (d := .int h') rfl (ye_v rfl) (by rw [List.length_map]; show _ < (16777216 : Nat); omega) ⟨h', hs ++ [h'], ⟨by omega, h1⟩, by rw [List.length_append]; exact Nat.succ_le_succ hl, ⟨fun x hx => ?_, List.pairwise_append.mpr ⟨hp, List.pairwise_singleton _ _, fun x hx y hy => by rw [List.mem_singleton.mp hy]; have := hh x hx; omega⟩⟩, ?_⟩
      · rcases List.mem_append.mp hx with hx | hx
        · have := hh x hx; omega
        · rw [List.mem_singleton.mp hx]; omega
      · show Le _ [.tp, .d (.list (ns.map .int)), .d (odsD os), .d (.list (av.map avR)), .d (.int p), .no, .d (.int ct), .d (.int h'), .ml ((hs ++ [h']).map .int), .no, .no]
        rw [List.map_append]
        exact (by repeat' first | exact Le.nil | refine Le.cons ?_ ?_ | exact rfl | exact trivial)
    rintro r ⟨h, hs, hl, hh, le⟩
    refine Ws.le ?_ le
    refine ws_if (Pb := fun _ => True) (yt_or (Pb := fun _ => True) (Pc := fun _ => True) ((yt_truR (xs := hs.map .int) (rl_v rfl)).imp fun _ _ => trivial) (fun _ => (yt_v (Pb := fun _ => True) (ye_imp0 (ye_draw rfl ye_i)) fun x ⟨b, e⟩ => ⟨b, e, trivial⟩)) (fun _ => trivial) fun _ _ _ => trivial) (fun _ => ?_) fun _ => ws_next ⟨av, ⟨by omega, ok.h⟩, (by repeat' first | exact Le.nil | refine Le.cons ?_ ?_ | exact rfl | exact trivial)⟩
    have row : ∀ {ρ : Rho}, ρ[4]? = some (.d (.int p)) → ρ[8]? = some (.ml (hs.map .int)) → Pd K (tTuq (tCons (tVar 4) (tCons (tCB (rTupOf K) (tCons (tVar 8) tNil)) tNil))) ρ (avR (p, hs)) := fun e1 e2 => yd_t2 (ye_v e1) (yd_tupR (rl_v e2))
    have ok2 : ∀ av', (av' = (p, hs) :: av ∨ av' = av ++ [(p, hs)]) → AvOk (i + 1) av' := fun av' e => by
      rcases e with rfl | rfl
      · refine ⟨Nat.succ_le_succ al, fun a ha => ?_⟩
        rcases List.mem_cons.mp ha with rfl | ha
        · exact ⟨hl, hh⟩
        · exact ok.h a ha
      · refine ⟨by rw [List.length_append]; exact Nat.succ_le_succ al, fun a ha => ?_⟩
        rcases List.mem_append.mp ha with ha | ha
        · exact ok.h a ha
        · rw [List.mem_singleton.mp ha]; exact ⟨hl, hh⟩
    refine ws_set (P := fun d => ∃ av', AvOk (i + 1) av' ∧ d = .list (av'.map avR)) (ye_menu (n := 2) (ya_1 (yd_of (nd_cat (xs := [avR (p, hs)]) (ys := av.map avR) (nd_l1 (row rfl rfl)).rl (rl_of (ye_v rfl)) (by rw [List.length_map]; show _ ≤ (16777216 : Nat); show 1 + _ ≤ _; omega)).pd ⟨(p, hs) :: av, ok2 _ (.inl rfl), rfl⟩) (ya_1 (yd_of (nd_cat (xs := av.map avR) (ys := [avR (p, hs)]) (rl_of (ye_v rfl)) (nd_l1 (row rfl rfl)).rl (by rw [List.length_map]; show _ ≤ (16777216 : Nat); show _ + 1 ≤ _; omega)).pd ⟨av ++ [(p, hs)], ok2 _ (.inr rfl), by rw [List.map_append]; rfl⟩) ya_0)) (y_drd rfl ye_i fun r h1 h2 => ⟨h1, by omega⟩)) ?_
    rintro _ ⟨av', ok', rfl⟩
    exact ⟨av', ok', (by repeat' first | exact Le.nil | refine Le.cons ?_ ?_ | exact rfl | exact trivial)⟩
  rintro r ⟨av, ok, le⟩
  refine Ws.le (ws_retd (yd_tupR (rl_of (xs := av.map avR) (ye_v rfl))) ?_) le
  rw [← avD_eq]
  exact hP av ok


def R__law_all_available : Pr := fun ss P => ∃ (ns : List Int) (os : List Od), ss = [.tp, .d (.list (ns.map .int)), .d (odsD os)] ∧ OdsOk os ∧ ∀ av, AvOk 8 av → P (avD av)

abbrev s__law_all_available : Stmt := topS 23
theorem sc__law_all_available : FnScope ["tape", "pool", "orders", "rows", "order"] ["tape", "pool", "orders"] (defScope s__law_all_available) := ⟨rfl, rfl, rfl, by decide +kernel, rfl, by decide +kernel, by decide +kernel⟩
theorem ok__law_all_available {Pg : Program} {w : World} {K : PySem.W.Frag} {mg : Str → Option Value} {base : Heap} (T : Tx K mg) (C__law_available : Cal Pg w K mg base 2 "_law_available" ["tape", "pool", "orders"] (spR K 3 R__law_available)) {f : Addr} {fd : FuncData} (F : Fun K "_law_all_available" "_law_all_available" s__law_all_available f fd) : FnOk Pg w K mg base CX0 3 f fd ["tape", "pool", "orders"] (spR K 3 R__law_all_available) := by
  refine fn_ok (n := 3) F sc__law_all_available rfl (by decide) (fun cdv A outer s H E hr => ⟨_, (pss_cons (ps_set (i := 3) sc__law_all_available.nd rfl (Or.inl rfl) (pe_cal C__law_available hr (pa_cons (pv 0) (pa_cons (pv 1) (pa_cons (pv 2) pa_nil)))))
    (pss_cons (ps_if (pt_cmpR op_gt (pe_callB call_len_seq (by rfl) T.b_len (by decide +kernel) (pa_cons (pe_lc (own := [("order", 4)]) (g := (gName 4)) rfl sc__law_all_available.nd (pi_seq (pv 2)) (blkOk_by (own := [("order", 4)]) (N := ["tape", "pool", "orders", "rows", "order"]) (sc := defScope s__law_all_available) (by decide +kernel)) (fun _ _ _ _ _ => (pg_name (i := 4) sc__law_all_available.nd rfl (Or.inl rfl))) (fun _ _ _ _ _ => (pts_one (pt_cmpR (op_in_seqK (K := K) rfl) (pe_ix (ix_seqK (K := K) rfl) (pv 4) pe_int (fun _ _ => rfl)) (pe_slice (slxK (K := K) rfl) (pv 1) (po_some pe_int) po_none) (by rfl)))) (fun _ _ _ _ _ => (pv 4))) pa_nil)) pe_int (nomark _)) (pss_one (ps_set (i := 3) sc__law_all_available.nd rfl (Or.inl rfl) (pe_op opx_add (pe_cal C__law_available hr (pa_cons (pv 0) (pa_cons (pe_slice slx (pv 1) (po_some pe_int) po_none) (pa_cons (pv 2) pa_nil)))) (pv 3)))) pss_nil)
    (pss_one (ps_ret (pv 3))))), ?_⟩)
  intro ss P hl hR
  obtain ⟨ns, os, rfl, oo, hP⟩ := hR
  have ol := oo.l
  refine wq_set (P := fun d => ∃ av, AvOk 4 av ∧ d = avD av) (ye_cl (ya_td rfl (ya_d (ye_v rfl) (ya_d (ye_v rfl) ya_n))) rfl ⟨ns, os, rfl, oo, fun av h => ⟨av, h, rfl⟩⟩) ?_
  rintro _ ⟨av, ok, rfl⟩
  have al := ok.l
  have sl : ∀ {ρ : Rho}, ρ[1]? = some (.d (.list (ns.map .int))) → Nl K (tSl (rSlX K) (tVar 1) (tPart (tC (.int 4))) tNoPart) ρ (fun xs => xs = (ns.drop 4).map .int) := fun e => nl_slR (rl_of (xs := ns.map .int) (ye_v e)) (yo_i ye_i) yo_n fun xs e => by rw [e]; exact (cut_from (ns.map PyData.int) 4).trans List.map_drop.symm
  refine ws_seq (fun r => ∃ av, AvOk 8 av ∧ Le r [.no, .no, .no, .d (avD av), .no]) (ws_if (Pb := fun _ => True) (yt_v (Pa := fun d => ∃ b, d = .bool b) (ye_cp (f := fun i j => decide (j < i)) (Pa := isI fun _ => True) (Pb := fun d => d = .int 0) ((ye_lenR (PL := fun _ => True) ((nd_lcff (xs := os.map odD) (sl := [4]) (fun d => match d with | .tuple [.int p, _, _] => decide (p ∈ ns.drop 4) | _ => false) (fun d => d) (it_t (ye_v (d := odsD os) rfl)) (fun i h => h) (by rw [List.length_map]; show _ < (16777216 : Nat); omega) ?_).imp fun _ _ => trivial).rl fun xs _ => ⟨_, rfl, trivial⟩)) ye_i fun x y ⟨r, e, _⟩ e2 => ⟨r, 0, e, e2, _, rfl⟩) fun x ⟨b, e⟩ => ⟨b, e, trivial⟩) (fun _ => ?_) fun _ => ws_next ⟨av, ⟨by omega, ok.h⟩, (by repeat' first | exact Le.nil | refine Le.cons ?_ ?_ | exact rfl | exact trivial)⟩) ?_
  · intro x hx
    obtain ⟨o, ho, rfl⟩ := List.mem_map.mp hx
    exact ⟨_, yg_n, yt_d ((yd_inR (neg := false) (x := o.p) (ns := ns.drop 4) (yd_ixT (xs := [.int o.p, .int o.q, .int o.d]) (ye_v (d := odD o) rfl) ye_i rfl) (sl rfl).rl).to rfl), fun _ => ye_v (d := odD o) rfl⟩
  · refine ws_set (P := fun d => ∃ av', AvOk 8 av' ∧ d = avD av') (ye_catT (Pa := fun d => ∃ av', AvOk 4 av' ∧ d = avD av') (Pb := fun d => d = avD av) (ye_call (PA := fun ss => ss = [.tp, .d (.list ((ns.drop 4).map .int)), .d (odsD os)]) (ya_t (PA := fun ss => ss = [.d (.list ((ns.drop 4).map .int)), .d (odsD os)]) rfl (ya_c (P := fun d => d = .list ((ns.drop 4).map .int)) ((sl rfl).pe.imp fun d ⟨xs, e, e2⟩ => by rw [e, e2]) (ya_d (ye_v rfl) ya_n) fun d ss e1 e2 => by rw [e1, e2]) fun ss e => by rw [e]) fun ss e => by
      subst e
      exact ⟨rfl, ns.drop 4, os, rfl, oo, fun av h => ⟨av, h, rfl⟩⟩) (ye_v rfl) ?_) ?_
    · rintro _ _ ⟨av', ok', rfl⟩ rfl
      have al' := ok'.l
      refine ⟨_, _, avD_eq av', avD_eq av, by rw [List.length_map, List.length_map]; show _ ≤ (16777216 : Nat); omega, av' ++ av, ⟨by rw [List.length_append]; omega, fun a ha => (List.mem_append.mp ha).elim (ok'.h a) (ok.h a)⟩, by rw [avD_eq, List.map_append]⟩
    · rintro _ ⟨av', ok', rfl⟩
      exact ⟨av', ok', (by repeat' first | exact Le.nil | refine Le.cons ?_ ?_ | exact rfl | exact trivial)⟩
  rintro r ⟨av, ok, le⟩
  exact Ws.le (ws_retd (ye_v rfl) (hP av ok)) le


def RM__law_table : PrM := fun ss P => ∃ ts : Ts, ss = [.d (tsD ts)] ∧ ts.length ≤ 1000 ∧ ∀ l, P (dkM l (mkD (tsE ts)))

abbrev s__law_table : Stmt := topS 20
theorem sc__law_table : FnScope ["totals", "table", "pair"] ["totals"] (defScope s__law_table) := ⟨rfl, rfl, rfl, by decide +kernel, rfl, by decide +kernel, by decide +kernel⟩
theorem ok__law_table {Pg : Program} {w : World} {K : PySem.W.Frag} {mg : Str → Option Value} {base : Heap} (T : Tx K mg) {f : Addr} {fd : FuncData} (F : Fun K "_law_table" "_law_table" s__law_table f fd) : FnOk Pg w K mg base CX0 1 f fd ["totals"] (spM K 1 RM__law_table) := by
  refine fn_okM (n := 1) F sc__law_table rfl (by decide) (fun cdv A outer s H E hr => ⟨_, (pss_cons (ps_set (i := 1) sc__law_table.nd rfl (Or.inl rfl) pe_dnewK)
    (pss_cons (ps_for PassesOwn.never rfl (pi_seq (pv 0)) (pg_name (i := 2) sc__law_table.nd rfl (Or.inl rfl))
    (pss_one (ps_dput (room_u hr) (pv 1) (pe_ix ix_seq (pv 2) pe_int (fun _ _ => rfl)) (pe_ix ix_seq (pv 2) pe_int (fun _ _ => rfl)) (by rfl))))
    (pss_one (ps_ret (pv 1))))), ?_⟩)
  intro ss P hl hR
  obtain ⟨ts, rfl, tl, hP⟩ := hR
  rw [tsD_eq]
  refine wx_seq (R := fun r => ∃ l, r = [.d (.tuple (ts.map tsR)), .mx (dkM l []), .no]) (ws_dnew fun l => ⟨l, rfl⟩) ?_
  rintro _ ⟨l, rfl⟩
  refine wx_seq (R := fun r => Le r [.no, .mx (dkM l (mkD (tsE (ts.take ts.length)))), .no]) (ws_ford (it_t (xs := ts.map tsR) (ye_v rfl)) (fun i r => Le r [.d (.tuple (ts.map tsR)), .mx (dkM l (mkD (tsE (ts.take i)))), .no]) (by repeat' first | exact Le.nil | refine Le.cons ?_ ?_ | exact rfl | exact trivial) ?_ (fun r h => by rw [List.length_map] at h; exact h.trans (by repeat' first | exact Le.nil | refine Le.cons ?_ ?_ | exact rfl | exact trivial))) ?_
  · rintro i z r hi le
    rw [List.getElem?_map] at hi
    obtain ⟨a, ha, rfl⟩ := Option.map_eq_some_iff.mp hi
    refine ⟨_, _, yg_n, Ws.le ?_ (le.seta (j := 2) (x := .d (tsR a)))⟩
    refine ws_dputd (k := .inl a.1) rfl (yd_ixT (xs := [.int a.1, .int a.2]) (ye_v (d := tsR a) rfl) ye_i rfl) (yd_ixT (xs := [.int a.1, .int a.2]) (ye_v (d := tsR a) rfl) ye_i rfl) ?_ ?_
    · refine Nat.lt_of_le_of_lt (mkD_len _) ?_
      unfold tsE
      rw [List.length_map, List.length_take]
      show _ < (16777216 : Nat)
      omega
    · show Le _ [.d (.tuple (ts.map tsR)), .mx (dkM l (mkD (tsE (ts.take (i + 1))))), .no]
      rw [take_snoc ha, tsE_snoc, mkD_snoc]
      exact (by repeat' first | exact Le.nil | refine Le.cons ?_ ?_ | exact rfl | exact trivial)
  intro r le
  rw [List.take_length] at le
  exact wx_le (wx_ret rfl (hP l) fun K G H o h => ⟨_, h.1⟩) le


def R_spans : Pr := fun ss P => ∃ (os : List Od) (sq : List Nat), ss = [.d (odsD os), .d (sqD sq)] ∧ SqOk os sq ∧ P (.list (spL os sq))

abbrev s_spans : Stmt := topS 2
theorem sc_spans : FnScope ["orders", "sequence", "given", "rows", "order", "product", "quantity", "_", "before"] ["orders", "sequence"] (defScope s_spans) := ⟨rfl, rfl, rfl, by decide +kernel, rfl, by decide +kernel, by decide +kernel⟩
theorem ok_spans {Pg : Program} {w : World} {K : PySem.W.Frag} {mg : Str → Option Value} {base : Heap} (T : Tx K mg) {f : Addr} {fd : FuncData} (F : Fun K "spans" "spans" s_spans f fd) : FnOk Pg w K mg base CX0 1 f fd ["orders", "sequence"] (spR K 2 R_spans) := by
  refine fn_ok (n := 2) F sc_spans rfl (by decide) (fun cdv A outer s H E hr => ⟨_, (pss_cons (ps_set (i := 2) sc_spans.nd rfl (Or.inl rfl) pe_dnewK)
    (pss_cons (ps_set (i := 3) sc_spans.nd rfl (Or.inl rfl) (pe_lst pa_nil))
    (pss_cons (ps_for PassesOwn.never rfl (pi_seq (pv 1)) (pg_name (i := 4) sc_spans.nd rfl (Or.inl rfl))
    (pss_cons (ps_asg (pe_ix ix_seq (pv 0) (pv 4) (fun _ _ => rfl)) (pg_tup rfl (pgs_cons (pg_name (i := 5) sc_spans.nd rfl (Or.inl rfl)) (pgs_cons (pg_name (i := 6) sc_spans.nd rfl (Or.inl rfl)) (pgs_cons (pg_name (i := 7) sc_spans.nd rfl (Or.inl rfl)) pgs_nil)))))
    (pss_cons (ps_set (i := 8) sc_spans.nd rfl (Or.inl rfl) (pe_dget2 (room_u hr) (pv 2) (pv 5) pe_int ⟨by rfl, by rfl, by rfl, by rfl⟩))
    (pss_cons (ps_dput (room_u hr) (pv 2) (pv 5) (pe_op opx_add (pv 8) (pv 6)) (by rfl))
    (pss_one (ps_expr (pe_bm PySem.F.plainAttrs_list PySem.F.slot_list_append PySem.F.type_list_append mt_append (pv 3) (pa_cons (pe_tuq (pa_cons (pe_op opx_add (pv 8) pe_int) (pa_cons (pe_op opx_add (pv 8) (pv 6)) pa_nil))) pa_nil))))))))
    (pss_one (ps_ret (pv 3)))))), ?_⟩)
  intro ss P hl hR
  obtain ⟨os, sq, rfl, ok, hP⟩ := hR
  refine wq_dnew fun l => ?_
  refine wq_setmd nd_l0 ?_
  let B : List (Key × PyData) → Nat → Rho := fun es i => [.d (odsD os), .d (sqD sq), .mx (dkM l es), .ml ((List.range i).map (spE os sq)), .no, .no, .no, .no, .no]
  refine ws_seq (fun r => ∃ es, Le r (B es sq.length)) (ws_ford (it_t (xs := sq.map niD) (ye_v (d := sqD sq) rfl)) (fun i r => ∃ es, es.length ≤ i ∧ (∀ p, (valD es (.inl p)).getD (.int 0) = .int (before os (sq.take i) p)) ∧ Le r (B es i)) ⟨[], Nat.le_refl _, fun p => rfl, (by repeat' first | exact Le.nil | refine Le.cons ?_ ?_ | exact rfl | exact trivial)⟩ ?_ (fun r ⟨es, _, _, le⟩ => ⟨es, by rw [List.length_map] at le; exact le⟩)) ?_
  · rintro i z r hi ⟨es, el, he, le⟩
    rw [List.getElem?_map] at hi
    obtain ⟨j, hj, rfl⟩ := Option.map_eq_some_iff.mp hi
    have ho := ok.at hj
    have il := (List.getElem?_eq_some_iff.mp hj).1
    have := ok.l
    obtain ⟨o, eo⟩ : ∃ o, o = ord os j := ⟨_, rfl⟩
    have eb : bfK os sq i = before os (sq.take i) o.p := by unfold bfK; rw [getD_at hj, eo]
    have eq : qK os sq i = o.q := by unfold qK; rw [getD_at hj, eo]
    rw [← eo] at ho
    refine ⟨_, _, yg_n, Ws.le ?_ (le.seta (j := 4) (x := .d (.int (j : Int))))⟩
    refine wq_asg (x := odD o) (yd_ixT (xs := os.map odD) (ye_v (d := odsD os) rfl) (ye_v (d := .int (j : Int)) rfl) (atI_nat (by rw [List.getElem?_map, ho]; rfl))) (yg_t (ygs_1 yg_n (ygs_1 yg_n (ygs_1 yg_n ygs_0)))) ?_
    refine wq_setd (d := .int (before os (sq.take i) o.p)) ((yd_dget2 (l := l) (es := es) (k := .inl o.p) rfl (ye_v (d := .int o.p) rfl) ye_i).to (he o.p)) ?_
    refine wq_dput (k := .inl o.p) rfl (ye_v (d := .int o.p) rfl) (yd_add (ye_v rfl) (ye_v rfl)) (by show _ < (16777216 : Nat); omega) ?_
    refine ws_appd (d := spE os sq i) rfl ((yd_t2 (yd_add (ye_v rfl) ye_i) (yd_add (ye_v rfl) (ye_v rfl))).to (by unfold spE; rw [eb, eq])) (by rw [List.length_map, List.length_range]; show _ < (16777216 : Nat); omega) ?_
    refine ⟨putD es (.inl o.p) (.int (before os (sq.take i) o.p + o.q)), Nat.le_trans (putD_len _ _ _) (by omega), fun p => ?_, ?_⟩
    · rw [valD_put, before_take hj, ← eo]
      by_cases e : p = o.p
      · rw [if_pos (by rw [e]), if_pos e.symm, e]
        rfl
      · rw [if_neg (fun z => e (Sum.inl.inj z)), if_neg (fun z => e z.symm), Int.add_zero]
        exact he p
    · show Le _ [.d (odsD os), .d (sqD sq), .mx (dkM l _), .ml ((List.range (i + 1)).map (spE os sq)), .no, .no, .no, .no, .no]
      rw [rmap_snoc]
      exact (by repeat' first | exact Le.nil | refine Le.cons ?_ ?_ | exact rfl | exact trivial)
  rintro r ⟨es, le⟩
  exact Ws.le (ws_retm rfl hP) le


def R_has_started : Pr := fun ss P => ∃ (os : List Od) (sq : List Nat) (ts : Ts) (j : Nat), ss = [.d (odsD os), .d (sqD sq), .d (.int (j : Int)), .d (tsD ts)] ∧ SqOk os sq ∧ j ∈ sq ∧ P (.bool (decide (bfK os sq (sq.idxOf j) + 1 ≤ totT ts (ord os j).p)))

abbrev s_has_started : Stmt := topS 5
theorem sc_has_started : FnScope ["orders", "sequence", "order", "totals", "product", "_", "first"] ["orders", "sequence", "order", "totals"] (defScope s_has_started) := ⟨rfl, rfl, rfl, by decide +kernel, rfl, by decide +kernel, by decide +kernel⟩
theorem ok_has_started {Pg : Program} {w : World} {K : PySem.W.Frag} {mg : Str → Option Value} {base : Heap} (T : Tx K mg) (C_spans : Cal Pg w K mg base 1 "spans" ["orders", "sequence"] (spR K 2 R_spans)) {f : Addr} {fd : FuncData} (F : Fun K "has_started" "has_started" s_has_started f fd) : FnOk Pg w K mg base CX0 2 f fd ["orders", "sequence", "order", "totals"] (spR K 4 R_has_started) := by
  refine fn_ok (n := 4) F sc_has_started rfl (by decide) (fun cdv A outer s H E hr => ⟨_, (pss_cons (ps_asg (pe_ix ix_seq (pv 0) (pv 2) (fun _ _ => rfl)) (pg_tup rfl (pgs_cons (pg_name (i := 4) sc_has_started.nd rfl (Or.inl rfl)) (pgs_cons (pg_name (i := 5) sc_has_started.nd rfl (Or.inl rfl)) (pgs_cons (pg_name (i := 5) sc_has_started.nd rfl (Or.inl rfl)) pgs_nil)))))
    (pss_cons (ps_asg (pe_ix ix_seq (pe_cal C_spans hr (pa_cons (pv 0) (pa_cons (pv 1) pa_nil))) (pe_tidx (pv 1) (pa_cons (pv 2) pa_nil)) (fun _ _ => rfl)) (pg_tup rfl (pgs_cons (pg_name (i := 6) sc_has_started.nd rfl (Or.inl rfl)) (pgs_cons (pg_name (i := 5) sc_has_started.nd rfl (Or.inl rfl)) pgs_nil))))
    (pss_one (ps_ret (pe_cmpR op_le (pv 6) (pe_dget2 (room_u hr) (pe_callTy (call_dictT rfl) (by rfl) T.b_dict (by decide +kernel) (pa_cons (pv 3) pa_nil)) (pv 4) pe_int ⟨by rfl, by rfl, by rfl, by rfl⟩) (nomark _)))))), ?_⟩)
  intro ss P hl hR
  obtain ⟨os, sq, ts, j, rfl, ok, hj, hP⟩ := hR
  have ho := ok.of_mem hj
  obtain ⟨o, eo⟩ : ∃ o, o = ord os j := ⟨_, rfl⟩
  rw [← eo] at ho hP
  have kl := List.idxOf_lt_length_iff.mpr hj
  obtain ⟨k, hk⟩ : ∃ k, k = sq.idxOf j := ⟨_, rfl⟩
  rw [← hk] at hP kl
  refine wq_asg (x := odD o) (yd_ixT (xs := os.map odD) (ye_v (d := odsD os) rfl) (ye_v (d := .int (j : Int)) rfl) (atI_nat (by rw [List.getElem?_map, ho]; rfl))) (yg_t (ygs_1 yg_n (ygs_1 yg_n (ygs_1 yg_n ygs_0)))) ?_
  refine wq_asg (x := spE os sq k) (yd_ixL (xs := spL os sq) (ye_cl (P := fun d => d = .list (spL os sq)) (ya_d (ye_v rfl) (ya_d (ye_v rfl) ya_n)) rfl ⟨os, sq, rfl, ok, rfl⟩) ((yd_tidx (ns := sq.map fun i : Nat => (i : Int)) (k := (j : Int)) ((ye_v (d := sqD sq) rfl).to (sq_ints sq)) (ye_v rfl) (List.mem_map_of_mem hj)).to (e := .int (k : Int)) (by rw [idx_int, hk])) (atI_nat (by unfold spL; rw [List.getElem?_map, List.getElem?_range kl]; rfl))) (yg_t (ygs_1 yg_n (ygs_1 yg_n ygs_0))) ?_
  exact ws_retd (yd_cp (f := fun i j => decide (i ≤ j)) (ye_v rfl) ((yd_nget2 (es := mkD (tsE ts)) (k := .inl o.p) (nx_dictT (es := tsE ts) (ye_v (d := tsD ts) rfl) fun l => ⟨l, rfl⟩) (ye_v (d := .int o.p) rfl) ye_i).to (tot_mk ts o.p))) hP


def R_expedited : Pr := fun ss P => ∃ (os : List Od) (sq : List Nat) (ts : Ts) (j : Nat) (l : List Nat), ss = [.d (odsD os), .d (sqD sq), .d (.int (j : Int)), .d (tsD ts)] ∧ SqOk os sq ∧ sq.Nodup ∧ j ∈ sq ∧ Mvd os sq (totT ts) j l ∧ P (sqD l)

abbrev s_expedited : Stmt := topS 4
theorem sc_expedited : FnScope ["orders", "sequence", "order", "totals", "waiting", "place", "rest", "other"] ["orders", "sequence", "order", "totals"] (defScope s_expedited) := ⟨rfl, rfl, rfl, by decide +kernel, rfl, by decide +kernel, by decide +kernel⟩
theorem ok_expedited {Pg : Program} {w : World} {K : PySem.W.Frag} {mg : Str → Option Value} {base : Heap} (T : Tx K mg) (C_has_started : Cal Pg w K mg base 2 "has_started" ["orders", "sequence", "order", "totals"] (spR K 4 R_has_started)) {f : Addr} {fd : FuncData} (F : Fun K "expedited" "expedited" s_expedited f fd) : FnOk Pg w K mg base CX0 3 f fd ["orders", "sequence", "order", "totals"] (spR K 4 R_expedited) := by
  refine fn_ok (n := 4) F sc_expedited rfl (by decide) (fun cdv A outer s H E hr => ⟨_, (pss_cons (ps_if (pt_val (pe_cal C_has_started hr (pa_cons (pv 0) (pa_cons (pv 1) (pa_cons (pv 2) (pa_cons (pv 3) pa_nil)))))) (pss_one (ps_ret (pv 1))) pss_nil)
    (pss_cons (ps_setLc (i := 4) (own := [("other", 7)]) (g := (gName 7)) rfl sc_expedited.nd rfl rfl (sw_true rfl rfl rfl (by decide +kernel)) (pi_seq (pv 1)) (blkOk_by (own := [("other", 7)]) (N := ["orders", "sequence", "order", "totals", "waiting", "place", "rest", "other"]) (sc := defScope s_expedited) (by decide +kernel)) (fun _ _ _ _ _ => (pg_name (i := 7) sc_expedited.nd rfl (Or.inl rfl))) (fun _ _ _ _ _ => (pts_one (PW.pt (pw_and (pt_cmpR (eqK (K := K) rfl hr) (pe_ix (ix_seqK (K := K) rfl) (pe_ix (ix_seqK (K := K) rfl) (pv 0) (pv 7) (fun _ _ => rfl)) pe_int (fun _ _ => rfl)) (pe_ix (ix_seqK (K := K) rfl) (pe_ix (ix_seqK (K := K) rfl) (pv 0) (pv 2) (fun _ _ => rfl)) pe_int (fun _ _ => rfl)) (nomark _)) (pw_and1 (pt_not (pt_val (pe_cal C_has_started hr (pa_cons (pv 0) (pa_cons (pv 1) (pa_cons (pv 7) (pa_cons (pv 3) pa_nil)))))))))))) (fun _ _ _ _ _ => (pv 7)))
    (pss_cons (ps_set (i := 5) sc_expedited.nd rfl (Or.inl rfl) (pe_tidx (pv 1) (pa_cons (pe_ix ix_seq (pv 4) pe_int (fun _ _ => rfl)) pa_nil)))
    (pss_cons (ps_set (i := 6) sc_expedited.nd rfl (Or.inl rfl) (pe_callTy call_tupQ (by rfl) T.b_tuple (by decide +kernel) (pa_cons (pe_lc (own := [("other", 7)]) (g := (gName 7)) rfl sc_expedited.nd (pi_seq (pv 1)) (blkOk_by (own := [("other", 7)]) (N := ["orders", "sequence", "order", "totals", "waiting", "place", "rest", "other"]) (sc := defScope s_expedited) (by decide +kernel)) (fun _ _ _ _ _ => (pg_name (i := 7) sc_expedited.nd rfl (Or.inl rfl))) (fun _ _ _ _ _ => (pts_one (pt_cmpR (neK (K := K) rfl hr) (pv 7) (pv 2) (nomark _)))) (fun _ _ _ _ _ => (pv 7))) pa_nil)))
    (pss_one (ps_ret (pe_op opx_add (pe_op opx_add (pe_slice slx (pv 6) po_none (po_some (pv 5))) (pe_tuq (pa_cons (pv 2) pa_nil))) (pe_slice slx (pv 6) (po_some (pv 5)) po_none)))))))), ?_⟩)
  intro ss P hl hR
  obtain ⟨os, sq, ts, j, l, rfl, ok, nd, hj, mv, hP⟩ := hR
  have sl := ok.l
  obtain ⟨b, hb⟩ : ∃ b, b = decide (bfK os sq (sq.idxOf j) + 1 ≤ totT ts (ord os j).p) := ⟨_, rfl⟩
  refine wq_when (Pb := fun x => x = b) (yt_B (ye_cl (P := fun d => d = .bool b) (ya_d (ye_v rfl) (ya_d (ye_v rfl) (ya_d (ye_v rfl) (ya_d (ye_v rfl) ya_n)))) rfl ⟨os, sq, ts, j, rfl, ok, hj, by rw [hb]⟩)) (fun e => ?_) fun e => ?_
  · have e := of_decide_eq_true ((hb.symm.trans e.symm))
    cases mv with
    | started => exact ws_retd (ye_v rfl) hP
    | moved h => exact absurd e h
  have e := of_decide_eq_false ((hb.symm.trans e.symm))
  cases mv with
  | started h => exact absurd h e
  | @moved w a _ ok2 ha ca hbf hF =>
  obtain ⟨o, eo⟩ : ∃ o, o = ord os j := ⟨_, rfl⟩
  have ho := ok.of_mem hj
  rw [← eo] at ho ca hbf hF
  let c := wtB os sq (totT ts o.p) o.p
  have fst : ∀ {ρ : Rho} {i n : Nat}, n ∈ sq → ρ[0]? = some (.d (odsD os)) → ρ[i]? = some (.d (.int (n : Int))) → Pd K (tOp (rIx K) (tOp (rIx K) (tVar 0) (tVar i)) (tC (.int 0))) ρ (.int (ord os n).p) := fun {ρ i n} hn e1 e2 => yd_ixT (xs := [.int (ord os n).p, .int (ord os n).q, .int (ord os n).d]) (yd_ixT (xs := os.map odD) (d := odD (ord os n)) (ye_v e1) (ye_v e2) (atI_nat (by rw [List.getElem?_map, ok.of_mem hn]; rfl))) ye_i rfl
  refine wq_setmd ((nd_lcff (xs := sq.map niD) (sl := [7]) (fun d => match d with | .int n => c n.toNat | _ => false) (fun d => d) (it_t (ye_v (d := sqD sq) rfl)) (fun i h => h) ?_ ?_).imp (PL' := fun x => x = (sq.filter c).map niD) ?_) ?_
  · rw [List.length_map]; show _ < (16777216 : Nat); omega
  · intro x hx
    obtain ⟨n, hn, rfl⟩ := List.mem_map.mp hx
    refine ⟨_, yg_n, Pt.to (yt_andd (a := decide ((ord os n).p = o.p)) (b := !decide (bfK os sq (sq.idxOf n) + 1 ≤ totT ts (ord os n).p)) (yt_d (yd_eqI (fst hn rfl rfl) ((fst hj rfl rfl).to (by rw [eo])))) fun _ => yt_notd (yt_B (ye_cl (P := fun d => d = .bool (decide (bfK os sq (sq.idxOf n) + 1 ≤ totT ts (ord os n).p))) (ya_d (ye_v rfl) (ya_d (ye_v rfl) (ya_d (ye_v rfl) (ya_d (ye_v rfl) ya_n)))) rfl ⟨os, sq, ts, n, rfl, ok, hn, rfl⟩))) ?_, fun _ => ye_v (d := .int (n : Int)) rfl⟩
    show _ = wtB os sq (totT ts o.p) o.p n
    unfold wtB
    by_cases q : (ord os n).p = o.p
    · rw [q]
    · rw [decide_eq_false q, Bool.false_and, Bool.false_and]
  · rintro x rfl
    rw [List.map_id', List.filter_map]
    rfl
  have wl := (List.getElem?_eq_some_iff.mp ha).1
  have aw : sq.idxOf a = w := idx_at nd ha
  have am : a ∈ sq := List.mem_of_getElem? ha
  refine wq_setd (d := .int (w : Int)) ((yd_tidx (ns := sq.map fun i : Nat => (i : Int)) (k := (a : Int)) ((ye_v (d := sqD sq) rfl).to (sq_ints sq)) (yd_ixR (xs := (sq.filter c).map niD) (rl_v rfl) ye_i (by exact atI_nat (j := 0) (by rw [List.getElem?_map, hF]; rfl))) (List.mem_map_of_mem am)).to (by rw [idx_int, aw])) ?_
  refine wq_setd (d := sqD (drp j sq)) ((yd_tupR ((nd_lcff (xs := sq.map niD) (sl := [7]) (fun d => match d with | .int n => decide (n ≠ (j : Int)) | _ => false) (fun d => d) (it_t (ye_v (d := sqD sq) rfl)) (fun i h => h) ?_ ?_).imp (PL' := fun x => x = (drp j sq).map niD) ?_).rl).to rfl) ?_
  · rw [List.length_map]; show _ < (16777216 : Nat); omega
  · intro x hx
    obtain ⟨n, hn, rfl⟩ := List.mem_map.mp hx
    exact ⟨_, yg_n, yt_d ((yd_neI (ye_v (d := .int (n : Int)) rfl) (ye_v rfl)).to (by show PyData.bool (!decide ((n : Int) = (j : Int))) = PyData.bool (decide ((n : Int) ≠ (j : Int))); rw [decide_not])), fun _ => ye_v (d := .int (n : Int)) rfl⟩
  · rintro x rfl
    rw [List.map_id', List.filter_map]
    unfold drp
    congr 1
    refine List.filter_congr fun n _ => ?_
    show decide ((n : Int) ≠ (j : Int)) = decide (n ≠ j)
    rw [Bool.eq_iff_iff, decide_eq_true_iff, decide_eq_true_iff]
    omega
  have e1 : drp j sq = sq.take w ++ drp j (sq.drop w) := by
    have := drp_app j (sq.take w) (sq.drop w)
    rw [List.take_append_drop, drp_out ok2.jt] at this
    exact this
  have lw : (sq.take w).length = w := by rw [List.length_take]; omega
  have c1 : (drp j sq).take w = sq.take w := by rw [e1, List.take_append_of_le_length (by omega), List.take_take, Nat.min_self]
  have c2 : (drp j sq).drop w = drp j (sq.drop w) := by
    rw [e1, List.drop_append_of_le_length (by omega), List.drop_eq_nil_of_le (by omega)]
    rfl
  refine ws_retd ((yd_catT (xs := (sq.take w).map niD ++ [niD j]) (ys := (drp j (sq.drop w)).map niD) (yd_catT (xs := (sq.take w).map niD) (ys := [niD j]) ((yd_slT (xs := (drp j sq).map niD) (ye_v (d := sqD (drp j sq)) rfl) yo_n (yo_i (ye_v (d := .int (w : Int)) rfl))).to (by rw [cut_to, ← List.map_take, c1])) (yd_t1 (ye_v rfl)) ?_) ((yd_slT (xs := (drp j sq).map niD) (ye_v (d := sqD (drp j sq)) rfl) (yo_i (ye_v (d := .int (w : Int)) rfl)) yo_n).to (by rw [cut_from, ← List.map_drop, c2])) ?_).to (e := sqD (mvL sq w j)) ?_) hP
  · rw [List.length_map, lw]; show _ ≤ (16777216 : Nat); show _ + 1 ≤ _; omega
  · have : (drp j (sq.drop w)).length ≤ sq.length := Nat.le_trans (List.length_filter_le _ _) (by rw [List.length_drop]; omega)
    rw [List.length_append, List.length_map, List.length_map, lw]; show _ ≤ (16777216 : Nat); show _ + 1 + _ ≤ _; omega
  · unfold sqD mvL
    rw [List.map_append, List.map_cons, List.append_assoc]
    rfl


def R__law_same : Nat → Pr
  | 0 => fun _ _ => False
  | n + 1 => fun ss P => ∃ x : PyData, ss = [.d x, .d x] ∧ Plain n x ∧ P = fun d => d = .bool true
section
variable {K : PySem.W.Frag} {ρ : Rho} {ta tb : TE} {x : PyData} {E : XK}
theorem y_sameV (h1 : Pd K ta ρ x) (h2 : Pd K tb ρ x) (hp : Plain 5 x) : Pd K (tCall (spR K 2 (R__law_same 6)) [] E (tCons ta (tCons tb tNil))) ρ (.bool true) := ye_cl (ya_d h1 (ya_d h2 ya_n)) rfl ⟨x, rfl, hp, rfl⟩
theorem y_same (h1 : Pd K ta ρ x) (h2 : Pd K tb ρ x) (hp : Plain 5 x) : Ptd K (tNot (tB (tCall (spR K 2 (R__law_same 6)) [] E (tCons ta (tCons tb tNil))))) ρ false := yt_notd (b := true) (yt_B (y_sameV h1 h2 hp))
end

abbrev s__law_same : Stmt := topS 9
theorem sc__law_same : FnScope ["told", "due", "k"] ["told", "due"] (defScope s__law_same) := ⟨rfl, rfl, rfl, by decide +kernel, rfl, by decide +kernel, by decide +kernel⟩
theorem ok__law_same {Pg : Program} {w : World} {K : PySem.W.Frag} {mg : Str → Option Value} {base : Heap} (T : Tx K mg) {f : Addr} {fd : FuncData} (F : Fun K "_law_same" "_law_same" s__law_same f fd) (gs : mg "_law_same" = some (.ref f)) (kp : PySem.W.keepIn K (.ref f) = true) (b : Binds K fd ["told", "due"] []) :
    ∀ n : Nat, FnOk Pg w K mg base CX0 n f fd ["told", "due"] (spR K 2 (R__law_same n))
  | 0 => ⟨fun vs H Q E ⟨_, _, _, _, _, _, _, _, h, _⟩ => h.elim, fun A outer s H args us vs Q E _ _ _ _ ⟨_, _, _, _, _, _, _, _, h, _⟩ => h.elim⟩
  | n + 1 => by
    have C__law_same : Cal Pg w K mg base n "_law_same" ["told", "due"] (spR K 2 (R__law_same n)) := ⟨f, fd, ok__law_same T F gs kp b n, gs, kp, b⟩
    refine fn_ok (n := 2) F sc__law_same rfl (by decide) (fun cdv A outer s H E hr => ⟨_, (pss_cons (ps_if (pt_cmpR op_isN (pv 1) pe_non (nomark _)) (pss_one (ps_ret (pe_cmpR op_isN (pv 0) pe_non (nomark _)))) pss_nil)
    (pss_cons (ps_if (pt_val (pe_callB call_isi (by rfl) T.b_isinstance (by decide +kernel) (pa_cons (pv 1) (pa_cons (pe_bltn (v := .ty "tuple") (by rfl) T.b_tuple (by decide +kernel) rfl) pa_nil)))) (pss_cons (ps_if (PW.pt (pw_or (pt_not (pt_val (pe_callB call_isi (by rfl) T.b_isinstance (by decide +kernel) (pa_cons (pv 0) (pa_cons (pe_bltn (v := .ty "tuple") (by rfl) T.b_tuple (by decide +kernel) rfl) pa_nil))))) (pw_or1 (pt_cmpR (opx_ne hr) (pe_callB call_len_seq (by rfl) T.b_len (by decide +kernel) (pa_cons (pv 0) pa_nil)) (pe_callB call_len_seq (by rfl) T.b_len (by decide +kernel) (pa_cons (pv 1) pa_nil)) (nomark _))))) (pss_one (ps_ret pe_bl)) pss_nil)
    (pss_one (ps_ret (pe_cmpR (opx_eq hr) (pe_callB call_len_seq (by rfl) T.b_len (by decide +kernel) (pa_cons (pe_lc (own := [("k", 2)]) (g := (gName 2)) rfl sc__law_same.nd (pi_range1 rfl T.b_range (pa_cons (pe_callB call_len_seq (by rfl) T.b_len (by decide +kernel) (pa_cons (pv 1) pa_nil)) pa_nil)) (blkOk_by (own := [("k", 2)]) (N := ["told", "due", "k"]) (sc := defScope s__law_same) (by decide +kernel)) (fun _ _ _ _ _ => (pg_name (i := 2) sc__law_same.nd rfl (Or.inl rfl))) (fun _ _ _ _ _ => (pts_one (pt_not (pt_val (pe_cal C__law_same hr (pa_cons (pe_ix (ix_seqK (K := K) rfl) (pv 0) (pv 2) (fun _ _ => rfl)) (pa_cons (pe_ix (ix_seqK (K := K) rfl) (pv 1) (pv 2) (fun _ _ => rfl)) pa_nil)) (hk := Nat.le_refl _)))))) (fun _ _ _ _ _ => (pv 2))) pa_nil)) pe_int (nomark _))))) pss_nil)
    (pss_cons (ps_if (pt_val (pe_callB call_isi (by rfl) T.b_isinstance (by decide +kernel) (pa_cons (pv 1) (pa_cons (pe_bltn (v := .ty "str") (by rfl) T.b_str (by decide +kernel) rfl) pa_nil)))) (pss_one (ps_ret (pe_and (pe_callB call_isi (by rfl) T.b_isinstance (by decide +kernel) (pa_cons (pv 0) (pa_cons (pe_bltn (v := .ty "str") (by rfl) T.b_str (by decide +kernel) rfl) pa_nil))) (pe_one (pe_cmpR (opx_eq hr) (pv 0) (pv 1) (nomark _)))))) pss_nil)
    (pss_one (ps_ret (pe_and (pe_callB call_isi (by rfl) T.b_isinstance (by decide +kernel) (pa_cons (pv 0) (pa_cons (pe_bltn (v := .ty "int") (by rfl) T.b_int (by decide +kernel) rfl) pa_nil))) (pe_and (pe_cmpR (opx_eq hr) (pe_callB call_isi (by rfl) T.b_isinstance (by decide +kernel) (pa_cons (pv 0) (pa_cons (pe_bltn (v := .ty "bool") (by rfl) T.b_bool (by decide +kernel) rfl) pa_nil))) (pe_callB call_isi (by rfl) T.b_isinstance (by decide +kernel) (pa_cons (pv 1) (pa_cons (pe_bltn (v := .ty "bool") (by rfl) T.b_bool (by decide +kernel) rfl) pa_nil))) (nomark _)) (pe_one (pe_cmpR (opx_eq hr) (pv 0) (pv 1) (nomark _)))))))))), ?_⟩)
    rintro ss P hl ⟨x, rfl, hx, rfl⟩
    refine wq_when (yt_v (yd_isN (ye_v rfl)) fun y e => ⟨isNone x, e, (rfl : isNone x = isNone x)⟩) (fun e => ?_) (fun e => ?_)
    · cases hx with
      | non => exact ws_retd (yd_isN (ye_v rfl)) rfl
      | bool b => exact nomatch e
      | int i => exact nomatch e
      | str i => exact nomatch e
      | tup _ _ => exact nomatch e
    cases hx with
    | non => exact nomatch e
    | bool b =>
      refine wq_skip (yt_B (yd_isi (k := "bool") (n := "tuple") (b := false) (ye_v rfl) rfl (by decide +kernel))) ?_
      refine wq_skip (yt_B (yd_isi (k := "bool") (n := "str") (b := false) (ye_v rfl) rfl (by decide +kernel))) ?_
      exact ws_retd ((yd_andV (a := true) (b := true) (yd_isi (k := "bool") (n := "int") (ye_v rfl) rfl (by decide +kernel)) fun _ => yd_andV (a := true) (b := true) ((yd_eqS (yd_isi (k := "bool") (n := "bool") (b := true) (ye_v rfl) rfl (by decide +kernel)) (yd_isi (k := "bool") (n := "bool") (b := true) (ye_v rfl) rfl (by decide +kernel)) rfl).to rfl) fun _ => (yd_eqS (ye_v rfl) (ye_v rfl) rfl).to (by show PyData.bool (decide (b = b)) = _; rw [decide_eq_true rfl]))) rfl
    | int i =>
      refine wq_skip (yt_B (yd_isi (k := "int") (n := "tuple") (b := false) (ye_v rfl) rfl (by decide +kernel))) ?_
      refine wq_skip (yt_B (yd_isi (k := "int") (n := "str") (b := false) (ye_v rfl) rfl (by decide +kernel))) ?_
      exact ws_retd ((yd_andV (a := true) (b := true) (yd_isi (k := "int") (n := "int") (ye_v rfl) rfl (by decide +kernel)) fun _ => yd_andV (a := true) (b := true) ((yd_eqS (yd_isi (k := "int") (n := "bool") (b := false) (ye_v rfl) rfl (by decide +kernel)) (yd_isi (k := "int") (n := "bool") (b := false) (ye_v rfl) rfl (by decide +kernel)) rfl).to rfl) fun _ => (yd_eqS (ye_v rfl) (ye_v rfl) rfl).to (by show PyData.bool (decide (i = i)) = _; rw [decide_eq_true rfl]))) rfl
    | str i =>
      refine wq_skip (yt_B (yd_isi (k := "str") (n := "tuple") (b := false) (ye_v rfl) rfl (by decide +kernel))) ?_
      refine wq_when (yt_B (yd_isi (k := "str") (n := "str") (b := true) (ye_v rfl) rfl (by decide +kernel))) (fun _ => ?_) (fun e => nomatch e)
      exact ws_retd ((yd_andV (a := true) (b := true) (yd_isi (k := "str") (n := "str") (ye_v rfl) rfl (by decide +kernel)) fun _ => (yd_eqS (ye_v rfl) (ye_v rfl) rfl).to (by show PyData.bool (decide (i = i)) = _; rw [decide_eq_true rfl]))) rfl
    | @tup m xs hlen hxs =>
      refine wq_when (yt_B (yd_isi (k := "tuple") (n := "tuple") (b := true) (ye_v rfl) rfl (by decide +kernel))) (fun _ => ?_) (fun e => nomatch e)
      refine wq_skip (yt_ord (a := false) (b := false) (yt_notd (b := true) (yt_B (yd_isi (k := "tuple") (n := "tuple") (ye_v rfl) rfl (by decide +kernel)))) fun _ => yt_d ((yd_neS (yd_lenT (ye_v rfl)) (yd_lenT (ye_v rfl)) rfl).to (by show PyData.bool (!decide _) = _; rw [decide_eq_true rfl]; rfl))) ?_
      refine ws_retd ((yd_eqS (x := .int 0) (y := .int 0) (yd_lenR ((nd_lcff (xs := rgD 0 (xs.length : Int)) (sl := [2]) (fun _ => false) id (it_r1 (yd_lenT (ye_v rfl)) (by omega) (by omega)) (fun i h => h) (by rw [rg_len]; show _ < (16777216 : Nat); omega) ?_).rl.imp (PL' := fun x => x = []) fun ys e => by rw [e]; simp)) ye_i rfl).to rfl) rfl
      intro x hx
      obtain ⟨k, hk, rfl⟩ := List.mem_map.mp hx
      have hk := List.mem_range.mp hk
      have hi3 : k < xs.length := by omega
      have gi : atI xs (0 + (k : Int)) = some xs[k] := by
        rw [Int.zero_add]
        exact atI_nat (List.getElem?_eq_getElem hi3)
      exact ⟨_, yg_n, yt_notd (b := true) (yt_B (ye_cl (P := fun d => d = .bool true) (ya_d (yd_ixT (ye_v rfl) (ye_v rfl) gi) (ya_d (yd_ixT (ye_v rfl) (ye_v rfl) gi) ya_n)) rfl ⟨xs[k], rfl, hxs _ (List.getElem_mem hi3), rfl⟩)), fun e => nomatch e⟩

def R__law_moved : Pr := fun ss P => ∃ (os : List Od) (sq : List Nat) (ts : Ts) (j : Nat) (l : List Nat), ss = [.d (odsD os), .d (sqD sq), .d (.int (j : Int)), .d (dD (mkD (tsE ts)))] ∧ SqOk os sq ∧ sq.Nodup ∧ j ∈ sq ∧ Mvd os sq (totT ts) j l ∧ P (sqD l)

abbrev s__law_moved : Stmt := topS 16
theorem sc__law_moved : FnScope ["orders", "sequence", "order", "table", "waiting", "k", "product", "rows", "number"] ["orders", "sequence", "order", "table"] (defScope s__law_moved) := ⟨rfl, rfl, rfl, by decide +kernel, rfl, by decide +kernel, by decide +kernel⟩
theorem ok__law_moved {Pg : Program} {w : World} {K : PySem.W.Frag} {mg : Str → Option Value} {base : Heap} (T : Tx K mg) (C__law_first_unit : Cal Pg w K mg base 1 "_law_first_unit" ["orders", "sequence", "k"] (spR K 3 R__law_first_unit)) {f : Addr} {fd : FuncData} (F : Fun K "_law_moved" "_law_moved" s__law_moved f fd) : FnOk Pg w K mg base CX0 2 f fd ["orders", "sequence", "order", "table"] (spR K 4 R__law_moved) := by
  refine fn_ok (n := 4) F sc__law_moved rfl (by decide) (fun cdv A outer s H E hr => ⟨_, (pss_cons (ps_set (i := 4) sc__law_moved.nd rfl (Or.inl rfl) (pe_lst pa_nil))
    (pss_cons (ps_for PassesOwn.never rfl (pi_range1 rfl T.b_range (pa_cons (pe_callB call_len_seq (by rfl) T.b_len (by decide +kernel) (pa_cons (pv 1) pa_nil)) pa_nil)) (pg_name (i := 5) sc__law_moved.nd rfl (Or.inl rfl))
    (pss_cons (ps_set (i := 6) sc__law_moved.nd rfl (Or.inl rfl) (pe_ix ix_seq (pe_ix ix_seq (pv 0) (pe_ix ix_seq (pv 1) (pv 5) (fun _ _ => rfl)) (fun _ _ => rfl)) pe_int (fun _ _ => rfl)))
    (pss_one (ps_if (PW.pt (pw_and (pt_cmpR (opx_eq hr) (pv 6) (pe_ix ix_seq (pe_ix ix_seq (pv 0) (pv 2) (fun _ _ => rfl)) pe_int (fun _ _ => rfl)) (nomark _)) (pw_and1 (pt_cmpR op_gt (pe_cal C__law_first_unit hr (pa_cons (pv 0) (pa_cons (pv 1) (pa_cons (pv 5) pa_nil)))) (pe_dget2 (room_u hr) (pv 3) (pv 6) pe_int ⟨by rfl, by rfl, by rfl, by rfl⟩) (nomark _))))) (pss_one (ps_expr (pe_bm PySem.F.plainAttrs_list PySem.F.slot_list_append PySem.F.type_list_append mt_append (pv 4) (pa_cons (pe_ix ix_seq (pv 1) (pv 5) (fun _ _ => rfl)) pa_nil)))) pss_nil))))
    (pss_cons (ps_if (PW.pt (pw_or (pt_cmpR op_notIn_seq (pv 2) (pv 4) (by rfl)) (pw_or1 (pt_cmpR (opx_eq hr) (pe_ix ix_seq (pv 4) pe_int (fun _ _ => rfl)) (pv 2) (nomark _))))) (pss_one (ps_ret (pe_callTy call_tupQ (by rfl) T.b_tuple (by decide +kernel) (pa_cons (pv 1) pa_nil)))) pss_nil)
    (pss_cons (ps_set (i := 7) sc__law_moved.nd rfl (Or.inl rfl) (pe_lst pa_nil))
    (pss_cons (ps_for PassesOwn.never rfl (pi_seq (pv 1)) (pg_name (i := 8) sc__law_moved.nd rfl (Or.inl rfl))
    (pss_cons (ps_if (pt_cmpR (opx_eq hr) (pv 8) (pe_ix ix_seq (pv 4) pe_int (fun _ _ => rfl)) (nomark _)) (pss_one (ps_expr (pe_bm PySem.F.plainAttrs_list PySem.F.slot_list_append PySem.F.type_list_append mt_append (pv 7) (pa_cons (pv 2) pa_nil)))) pss_nil)
    (pss_one (ps_if (pt_cmpR (opx_ne hr) (pv 8) (pv 2) (nomark _)) (pss_one (ps_expr (pe_bm PySem.F.plainAttrs_list PySem.F.slot_list_append PySem.F.type_list_append mt_append (pv 7) (pa_cons (pv 8) pa_nil)))) pss_nil))))
    (pss_one (ps_ret (pe_callTy call_tupQ (by rfl) T.b_tuple (by decide +kernel) (pa_cons (pv 7) pa_nil))))))))), ?_⟩)
  intro ss P hl hR
  obtain ⟨os, sq, ts, j, l, rfl, ok, nd, hj, mv, hP⟩ := hR
  have sl := ok.l
  obtain ⟨o, eo⟩ : ∃ o, o = ord os j := ⟨_, rfl⟩
  have ho := ok.of_mem hj
  rw [← eo] at ho
  let c := wtB os sq (totT ts o.p) o.p
  have fst : ∀ {ρ : Rho} {t : TE} {n : Nat}, n ∈ sq → ρ[0]? = some (.d (odsD os)) → Pd K t ρ (.int (n : Int)) → Pd K (tOp (rIx K) (tOp (rIx K) (tVar 0) t) (tC (.int 0))) ρ (.int (ord os n).p) := fun {ρ t n} hn e1 e2 => yd_ixT (xs := [.int (ord os n).p, .int (ord os n).q, .int (ord os n).d]) (yd_ixT (xs := os.map odD) (d := odD (ord os n)) (ye_v e1) e2 (atI_nat (by rw [List.getElem?_map, ok.of_mem hn]; rfl))) ye_i rfl
  refine wq_setmd nd_l0 ?_
  let B : Nat → Rho := fun i => [.d (odsD os), .d (sqD sq), .d (.int (j : Int)), .d (dD (mkD (tsE ts))), .ml (((sq.take i).filter c).map niD), .no, .no, .no, .no]
  refine ws_seq (fun r => Le r (B sq.length)) (ws_ford (it_r1 (n := (sq.length : Int)) ((yd_lenT (xs := sq.map niD) (ye_v (d := sqD sq) rfl)).to (by rw [List.length_map])) (by omega) (by omega)) (fun i r => Le r (B i)) (by repeat' first | exact Le.nil | refine Le.cons ?_ ?_ | exact rfl | exact trivial) ?_ (fun r h => by rw [rg_len, Int.sub_zero, Int.toNat_natCast] at h; exact h)) ?_
  · rintro i z r hi le
    have il := (List.getElem?_eq_some_iff.mp hi).1
    rw [rg_at _ _ _ il] at hi
    rw [rg_len] at il
    cases hi
    rw [Int.zero_add]
    have il : i < sq.length := by omega
    obtain ⟨n, hn⟩ : ∃ n, sq[i]? = some n := ⟨_, List.getElem?_eq_getElem il⟩
    have nm : n ∈ sq := List.mem_of_getElem? hn
    have ni : sq.idxOf n = i := idx_at nd hn
    refine ⟨_, _, yg_n, Ws.le ?_ (le.seta (j := 5) (x := .d (.int (i : Int))))⟩
    have sqi : ∀ {ρ : Rho}, ρ[1]? = some (.d (sqD sq)) → ρ[5]? = some (.d (.int (i : Int))) → Pd K (tOp (rIx K) (tVar 1) (tVar 5)) ρ (.int (n : Int)) := fun e1 e2 => yd_ixT (xs := sq.map niD) (d := .int (n : Int)) (ye_v e1) (ye_v e2) (atI_nat (by rw [List.getElem?_map, hn]; rfl))
    refine wq_setd (d := .int (ord os n).p) (fst nm rfl (sqi rfl rfl)) ?_
    have cN : (decide ((ord os n).p = o.p) && decide (totT ts (ord os n).p < bfK os sq i + 1)) = c n := by
      show _ = wtB os sq (totT ts o.p) o.p n
      unfold wtB
      rw [ni]
      by_cases q : (ord os n).p = o.p
      · rw [q, decide_eq_true rfl, Bool.true_and, Bool.true_and, Bool.eq_iff_iff, decide_eq_true_iff, Bool.not_eq_true', decide_eq_false_iff_not]
        omega
      · rw [decide_eq_false q, Bool.false_and, Bool.false_and]
    refine ws_ifd (b := c n) (Pt.to (yt_andd (yt_d (yd_eqI (ye_v rfl) ((fst hj rfl (ye_v rfl)).to (by rw [eo])))) fun _ => yt_d (yd_cp (f := fun i j => decide (j < i)) (ye_cl (P := fun d => d = .int (bfK os sq i + 1)) (ya_d (ye_v rfl) (ya_d (ye_v rfl) (ya_d (ye_v rfl) ya_n))) rfl ⟨os, sq, i, rfl, ok, il, rfl⟩) ((yd_kget2 (es := mkD (tsE ts)) (k := .inl (ord os n).p) (ye_v rfl) (ye_v rfl) ye_i).to (tot_mk ts (ord os n).p)))) cN) (fun z => ?_) fun z => ?_
    · refine ws_appd (d := niD n) rfl (sqi rfl rfl) ?_ ?_
      · have := List.length_filter_le c (sq.take i)
        rw [List.length_take] at this
        rw [List.length_map]; show _ < (16777216 : Nat); omega
      · show Le _ [.d (odsD os), .d (sqD sq), .d (.int (j : Int)), .d (dD (mkD (tsE ts))), .ml (((sq.take (i + 1)).filter c).map niD), .no, .no, .no, .no]
        rw [take_snoc hn, List.filter_append, List.filter_cons_of_pos z, List.map_append]
        exact (by repeat' first | exact Le.nil | refine Le.cons ?_ ?_ | exact rfl | exact trivial)
    · refine ws_next ?_
      show Le _ [.d (odsD os), .d (sqD sq), .d (.int (j : Int)), .d (dD (mkD (tsE ts))), .ml (((sq.take (i + 1)).filter c).map niD), .no, .no, .no, .no]
      rw [take_snoc hn, List.filter_append, List.filter_cons_of_neg (by rw [z]; exact Bool.false_ne_true), List.filter_nil, List.append_nil]
      exact (by repeat' first | exact Le.nil | refine Le.cons ?_ ?_ | exact rfl | exact trivial)
  intro r le
  refine Ws.le ?_ le
  show Ws K _ [.d (odsD os), .d (sqD sq), .d (.int (j : Int)), .d (dD (mkD (tsE ts))), .ml (((sq.take sq.length).filter c).map niD), .no, .no, .no, .no] _
  rw [List.take_length]
  have fl := List.length_filter_le c sq
  have inn : Pd K (tOp (rIn K true) (tVar 2) (tVar 4)) [.d (odsD os), .d (sqD sq), .d (.int (j : Int)), .d (dD (mkD (tsE ts))), .ml ((sq.filter c).map niD), .no, .no, .no, .no] (.bool (!decide (j ∈ sq.filter c))) := (yd_inR (neg := true) (x := (j : Int)) (ns := (sq.filter c).map fun i : Nat => (i : Int)) (ye_v rfl) ((rl_v rfl).imp fun xs e => by rw [e, List.map_map]; rfl)).to (by
    show PyData.bool (!decide _) = _
    congr 2
    rw [decide_eq_decide]
    constructor
    · intro h
      obtain ⟨n, hn, e⟩ := List.mem_map.mp h
      rw [show j = n by omega]
      exact hn
    · exact fun h => List.mem_map_of_mem h)
  have ret : Ws K (tRet (tCB (rTupOf K) (tCons (tVar 1) tNil))) [.d (odsD os), .d (sqD sq), .d (.int (j : Int)), .d (dD (mkD (tsE ts))), .ml ((sq.filter c).map niD), .no, .no, .no, .no] { nx := fun x => False, rt := fun d => d = sqD sq } := ws_retd (yd_tupT (xs := sq.map niD) (ye_v (d := sqD sq) rfl)) rfl
  cases mv with
  | started h =>
    have cj : j ∉ sq.filter c := fun z => by
      have := (List.mem_filter.mp z).2
      have e : c j = false := by
        show wtB os sq (totT ts o.p) o.p j = false
        unfold wtB
        rw [eo, decide_eq_true h]
        exact Bool.and_false _
      rw [e] at this
      cases this
    refine wq_when (Pb := fun b => b = true) ((yt_ord (a := true) (b := true) (yt_d (inn.to (by rw [decide_eq_false cj]; rfl))) fun z => nomatch z).to rfl) (fun _ => ret.imp (fun _ z => z.elim) (fun d e => e ▸ hP) (fun _ z => z) fun _ z => z) fun z => nomatch z
  | @moved w a hs ok2 ha ca hbf hF =>
    rw [← eo] at hs ca hbf hF
    have cj : j ∈ sq.filter c := List.mem_filter.mpr ⟨hj, by
      show wtB os sq (totT ts o.p) o.p j = true
      unfold wtB
      rw [eo] at hs ⊢
      rw [decide_eq_true rfl, decide_eq_false hs]
      rfl⟩
    have w0 : ∀ {ρ : Rho}, ρ[4]? = some (.ml ((sq.filter c).map niD)) → Pd K (tOp (rIx K) (tVar 4) (tC (.int 0))) ρ (.int (a : Int)) := fun e => yd_ixR (xs := (sq.filter c).map niD) (rl_v e) ye_i (by exact atI_nat (j := 0) (by rw [List.getElem?_map, hF]; rfl))
    have dn : decide ((a : Int) = (j : Int)) = decide (a = j) := by rw [decide_eq_decide]; omega
    by_cases aj : a = j
    · refine wq_when (Pb := fun b => b = true) ((yt_ord (a := false) (b := true) (yt_d (inn.to (by rw [decide_eq_true cj]; rfl))) fun _ => yt_d ((yd_eqI (w0 rfl) (ye_v rfl)).to (by rw [dn, decide_eq_true aj]))).to rfl) (fun _ => ret.imp (fun _ z => z.elim) (fun d e => ?_) (fun _ z => z) fun _ z => z) fun z => nomatch z
      rw [e]
      rw [aj] at ha
      rw [mv_self nd ha] at hP
      exact hP
    refine wq_skip ((yt_ord (a := false) (b := false) (yt_d (inn.to (by rw [decide_eq_true cj]; rfl))) fun _ => yt_d ((yd_eqI (w0 rfl) (ye_v rfl)).to (by rw [dn, decide_eq_false aj]))).to rfl) ?_
    refine wq_setmd nd_l0 ?_
    have fle : ∀ l : List Nat, (mvF l a j).length ≤ 2 * l.length := fun l => by
      induction l with
      | nil => exact Nat.le_refl _
      | cons x l ih =>
        unfold mvF at ih ⊢
        rw [List.flatMap_cons, List.length_append, List.length_append, List.length_cons]
        have h1 : (if x = a then [j] else []).length ≤ 1 := by split <;> simp
        have h2 : (if x = j then [] else [x]).length ≤ 1 := by split <;> simp
        omega
    let C : Nat → Rho := fun i => [.d (odsD os), .d (sqD sq), .d (.int (j : Int)), .d (dD (mkD (tsE ts))), .ml ((sq.filter c).map niD), .no, .no, .ml ((mvF (sq.take i) a j).map niD), .no]
    refine ws_seq (fun r => Le r (C sq.length)) (ws_ford (it_t (xs := sq.map niD) (ye_v (d := sqD sq) rfl)) (fun i r => Le r (C i)) (by repeat' first | exact Le.nil | refine Le.cons ?_ ?_ | exact rfl | exact trivial) ?_ (fun r h => by rw [List.length_map] at h; exact h)) ?_
    · rintro i z r hi le
      rw [List.getElem?_map] at hi
      obtain ⟨n, hn, rfl⟩ := Option.map_eq_some_iff.mp hi
      have fi := fle (sq.take i)
      rw [List.length_take] at fi
      refine ⟨_, _, yg_n, Ws.le ?_ (le.seta (j := 8) (x := .d (.int (n : Int))))⟩
      let D : List Nat → Rho := fun l => [.d (odsD os), .d (sqD sq), .d (.int (j : Int)), .d (dD (mkD (tsE ts))), .ml ((sq.filter c).map niD), .no, .no, .ml (l.map niD), .d (.int (n : Int))]
      refine ws_seq (fun r => r = D (mvF (sq.take i) a j ++ if n = a then [j] else [])) (ws_ifd (b := decide (n = a)) (yt_d ((yd_eqI (ye_v rfl) (w0 rfl)).to (by congr 1; rw [decide_eq_decide]; omega))) (fun z => ?_) fun z => ?_) ?_
      · rw [if_pos (of_decide_eq_true z)]
        refine ws_appd (d := niD j) rfl (ye_v rfl) (by rw [List.length_map]; show _ < (16777216 : Nat); omega) ?_
        show _ = ([.d (odsD os), .d (sqD sq), .d (.int (j : Int)), .d (dD (mkD (tsE ts))), .ml ((sq.filter c).map niD), .no, .no, .ml ((mvF (sq.take i) a j ++ [j]).map niD), .d (.int (n : Int))] : Rho)
        rw [List.map_append]
        rfl
      · rw [if_neg (of_decide_eq_false z), List.append_nil]
        exact ws_next rfl
      rintro _ rfl
      have e3 : mvF (sq.take (i + 1)) a j = (mvF (sq.take i) a j ++ if n = a then [j] else []) ++ if n = j then [] else [n] := by rw [take_snoc hn, mvF_snoc, List.append_assoc]
      show Ws K _ [.d (odsD os), .d (sqD sq), .d (.int (j : Int)), .d (dD (mkD (tsE ts))), .ml ((sq.filter c).map niD), .no, .no, .ml ((mvF (sq.take i) a j ++ if n = a then [j] else []).map niD), .d (.int (n : Int))] _
      have l2 : (mvF (sq.take i) a j ++ if n = a then [j] else []).length ≤ 3000 := by
        rw [List.length_append]
        have : (if n = a then [j] else []).length ≤ 1 := by split <;> simp
        omega
      refine ws_ifd (b := !decide (n = j)) (yt_d ((yd_neI (ye_v rfl) (ye_v rfl)).to (by congr 2; rw [decide_eq_decide]; omega))) (fun z => ?_) fun z => ?_
      · have nj : ¬ n = j := of_decide_eq_false ((Bool.not_eq_true' _).mp z)
        refine ws_appd (d := niD n) rfl (ye_v rfl) (by rw [List.length_map]; show _ < (16777216 : Nat); omega) ?_
        show Le _ [.d (odsD os), .d (sqD sq), .d (.int (j : Int)), .d (dD (mkD (tsE ts))), .ml ((sq.filter c).map niD), .no, .no, .ml ((mvF (sq.take (i + 1)) a j).map niD), .no]
        rw [e3, if_neg nj, List.map_append (l₂ := [n])]
        exact (by repeat' first | exact Le.nil | refine Le.cons ?_ ?_ | exact rfl | exact trivial)
      · have nj : n = j := by simpa using z
        refine ws_next ?_
        show Le _ [.d (odsD os), .d (sqD sq), .d (.int (j : Int)), .d (dD (mkD (tsE ts))), .ml ((sq.filter c).map niD), .no, .no, .ml ((mvF (sq.take (i + 1)) a j).map niD), .no]
        rw [e3, if_pos nj, List.append_nil]
        exact (by repeat' first | exact Le.nil | refine Le.cons ?_ ?_ | exact rfl | exact trivial)
    intro r le
    refine Ws.le (ws_retd (yd_tupR (rl_v (xs := (mvF (sq.take sq.length) a j).map niD) rfl)) ?_) le
    rw [List.take_length, mvF_eq nd ha aj ok2.jt]
    exact hP


def R_dates : Pr := fun ss P => ∃ (os : List Od) (sq : List Nat) (av : Av), ss = [.d (odsD os), .d (sqD sq), .d (avD av)] ∧ OdsOk os ∧ SqOk os sq ∧ P (.tuple (dtL os av sq))

abbrev s_dates : Stmt := topS 3
theorem sc_dates : FnScope ["orders", "sequence", "availability", "hours", "rows", "order", "first", "last", "product", "_", "due", "there", "date"] ["orders", "sequence", "availability"] (defScope s_dates) := ⟨rfl, rfl, rfl, by decide +kernel, rfl, by decide +kernel, by decide +kernel⟩
theorem ok_dates {Pg : Program} {w : World} {K : PySem.W.Frag} {mg : Str → Option Value} {base : Heap} (T : Tx K mg) (C_spans : Cal Pg w K mg base 1 "spans" ["orders", "sequence"] (spR K 2 R_spans)) {f : Addr} {fd : FuncData} (F : Fun K "dates" "dates" s_dates f fd) : FnOk Pg w K mg base CX0 2 f fd ["orders", "sequence", "availability"] (spR K 3 R_dates) := by
  refine fn_ok (n := 3) F sc_dates rfl (by decide) (fun cdv A outer s H E hr => ⟨_, (pss_cons (ps_set (i := 3) sc_dates.nd rfl (Or.inl rfl) (pe_callTy (call_dictT rfl) (by rfl) T.b_dict (by decide +kernel) (pa_cons (pv 2) pa_nil)))
    (pss_cons (ps_set (i := 4) sc_dates.nd rfl (Or.inl rfl) (pe_lst pa_nil))
    (pss_cons (ps_for PassesOwn.never rfl (pi_zipM (by rfl) T.b_zip (pa_cons (pv 1) (pa_cons (pe_cal C_spans hr (pa_cons (pv 0) (pa_cons (pv 1) pa_nil))) pa_nil))) (pg_tup rfl (pgs_cons (pg_name (i := 5) sc_dates.nd rfl (Or.inl rfl)) (pgs_cons (pg_tup rfl (pgs_cons (pg_name (i := 6) sc_dates.nd rfl (Or.inl rfl)) (pgs_cons (pg_name (i := 7) sc_dates.nd rfl (Or.inl rfl)) pgs_nil))) pgs_nil)))
    (pss_cons (ps_asg (pe_ix ix_seq (pv 0) (pv 5) (fun _ _ => rfl)) (pg_tup rfl (pgs_cons (pg_name (i := 8) sc_dates.nd rfl (Or.inl rfl)) (pgs_cons (pg_name (i := 9) sc_dates.nd rfl (Or.inl rfl)) (pgs_cons (pg_name (i := 10) sc_dates.nd rfl (Or.inl rfl)) pgs_nil)))))
    (pss_cons (ps_set (i := 11) sc_dates.nd rfl (Or.inl rfl) (pe_dget2 (room_u hr) (pv 3) (pv 8) (pe_tuq pa_nil) ⟨by rfl, by rfl, by rfl, by rfl⟩))
    (pss_cons (ps_set (i := 12) sc_dates.nd rfl (Or.inl rfl) (pe_ifExp (pt_cmpR op_le (pv 7) (pe_callB call_len_seq (by rfl) T.b_len (by decide +kernel) (pa_cons (pv 11) pa_nil)) (nomark _)) (pe_ix ix_seq (pv 11) (pe_op op_sub (pv 7) pe_int) (fun _ _ => rfl)) pe_non))
    (pss_one (ps_expr (pe_bm PySem.F.plainAttrs_list PySem.F.slot_list_append PySem.F.type_list_append mt_append (pv 4) (pa_cons (pe_tuq (pa_cons (pv 6) (pa_cons (pv 7) (pa_cons (pv 12) (pa_cons (pe_and (pe_cmpR op_notN (pv 12) pe_non (nomark _)) (pe_one (pe_cmpR op_le (pv 12) (pv 10) (nomark _)))) pa_nil))))) pa_nil))))))))
    (pss_one (ps_ret (pe_callTy call_tupQ (by rfl) T.b_tuple (by decide +kernel) (pa_cons (pv 4) pa_nil))))))), ?_⟩)
  intro ss P hl hR
  obtain ⟨os, sq, av, rfl, oo, ok, hP⟩ := hR
  refine wq_setx (P := fun m => ∃ l, m = dkM l (mkD (avE av))) (nx_dictT (es := avE av) (ye_v (d := avD av) rfl) fun l => ⟨l, rfl⟩) ?_
  rintro _ ⟨l, rfl⟩
  refine wq_setmd nd_l0 ?_
  let B : Nat → Rho := fun i => [.d (odsD os), .d (sqD sq), .d (avD av), .mx (dkM l (mkD (avE av))), .ml ((List.range i).map (dtE os av sq)), .no, .no, .no, .no, .no, .no, .no, .no]
  have sl := ok.l
  refine ws_seq (fun r => Le r (B sq.length)) (ws_ford (it_zipM (h1 := Nat.le_of_ble_eq_true rfl) (h6 := Nat.le_of_ble_eq_true rfl) (N := sq.length) [(true, sq.map niD), (false, spL os sq)] (ya_d (ye_v rfl) (ya_d (ye_cl (P := fun d => d = .list (spL os sq)) (ya_d (ye_v rfl) (ya_d (ye_v rfl) ya_n)) rfl ⟨os, sq, rfl, ok, rfl⟩) ya_n)) (by
    intro r hr
    rcases List.mem_cons.mp hr with rfl | hr
    · exact List.length_map ..
    · rw [List.mem_singleton.mp hr]
      unfold spL
      rw [List.length_map, List.length_range])) (fun i r => Le r (B i)) (by repeat' first | exact Le.nil | refine Le.cons ?_ ?_ | exact rfl | exact trivial) ?_ (fun r h => by rw [List.length_map, List.length_range] at h; exact h)) ?_
  · rintro i z r hi le
    rw [List.getElem?_map] at hi
    obtain ⟨i', hi', rfl⟩ := Option.map_eq_some_iff.mp hi
    have il := (List.getElem?_eq_some_iff.mp hi').1
    rw [List.length_range] at il
    rw [List.getElem?_range il] at hi'
    cases hi'
    obtain ⟨j, hj⟩ : ∃ j, sq[i]? = some j := ⟨_, List.getElem?_eq_getElem il⟩
    have ho := ok.at hj
    obtain ⟨o, eo⟩ : ∃ o, o = ord os j := ⟨_, rfl⟩
    rw [← eo] at ho
    have q1 := oo.q o (List.mem_of_getElem? ho)
    have ek : ord os (sq.getD i 0) = o := by rw [getD_at hj, eo]
    have c1 : colD [sq.map niD, spL os sq] i = .tuple [.int (j : Int), .tuple [.int (bfK os sq i + 1), .int (bfK os sq i + qK os sq i)]] := by
      have a1 : (sq.map niD).getD i .none = .int (j : Int) := getD_at (by rw [List.getElem?_map, hj]; rfl)
      have a2 : (spL os sq).getD i .none = spE os sq i := getD_at (by unfold spL; rw [List.getElem?_map, List.getElem?_range il]; rfl)
      show PyData.tuple [(sq.map niD).getD i .none, (spL os sq).getD i .none] = _
      rw [a1, a2]
      rfl
    show ∃ sl r', PD.Pg K _ sl (colD [sq.map niD, spL os sq] i) r r' ∧ _
    rw [c1]
    have eq : qK os sq i = o.q := by unfold qK; rw [ek]
    have b0 : 0 ≤ bfK os sq i := before_nn oo (fun x hx => ok.lt x (List.mem_of_mem_take hx)) _
    obtain ⟨b, hb⟩ : ∃ b, b = bfK os sq i := ⟨_, rfl⟩
    have ed : dtK os av sq i = if b + o.q ≤ ((hrs av o.p).length : Int) then some ((hrs av o.p).getD (b + o.q - 1).toNat 0) else none := by unfold dtK; rw [ek, eq, hb]
    have ee : dtE os av sq i = .tuple [.int (b + 1), .int (b + o.q), oiD (dtK os av sq i), .bool (onT (dtK os av sq i) o.d)] := by unfold dtE; rw [ek, eq, hb]
    rw [eq, ← hb]
    rw [← hb] at b0
    refine ⟨_, _, yg_t (ygs_1 yg_n (ygs_1 (yg_t (ygs_1 yg_n (ygs_1 yg_n ygs_0))) ygs_0)), Ws.le ?_ (((le.seta (j := 5) (x := .d (.int (j : Int)))).seta (j := 6) (x := .d (.int (b + 1)))).seta (j := 7) (x := .d (.int (b + o.q))))⟩
    refine wq_asg (x := odD o) (yd_ixT (xs := os.map odD) (ye_v (d := odsD os) rfl) (ye_v (d := .int (j : Int)) rfl) (atI_nat (by rw [List.getElem?_map, ho]; rfl))) (yg_t (ygs_1 yg_n (ygs_1 yg_n (ygs_1 yg_n ygs_0)))) ?_
    refine wq_setd (d := .tuple ((hrs av o.p).map .int)) ((yd_dget2 (l := l) (es := mkD (avE av)) (k := .inl o.p) rfl (ye_v (d := .int o.p) rfl) yd_t0).to (hrs_mk av o.p)) ?_
    refine wq_setd (d := oiD (dtK os av sq i)) (yd_ifd (b := decide (b + o.q ≤ ((hrs av o.p).length : Int))) (yt_d (yd_cp (f := fun i j => decide (i ≤ j)) (ye_v rfl) ((yd_lenT (xs := (hrs av o.p).map .int) (ye_v rfl)).to (by rw [List.length_map])))) (fun e => ?_) fun e => ?_) ?_
    · have e := of_decide_eq_true e
      rw [ed, if_pos e]
      obtain ⟨n, hn⟩ : ∃ n : Nat, b + o.q - 1 = (n : Int) := ⟨(b + o.q - 1).toNat, by omega⟩
      have nl : n < (hrs av o.p).length := by omega
      rw [hn, Int.toNat_natCast]
      exact yd_ixT (xs := (hrs av o.p).map .int) (ye_v rfl) ((yd_sub (ye_v (d := .int (b + o.q)) rfl) ye_i).to (by rw [hn])) (atI_nat (by rw [List.getElem?_map, List.getElem?_eq_getElem nl, List.getD_eq_getElem?_getD, List.getElem?_eq_getElem nl]; rfl))
    · have e := of_decide_eq_false e
      rw [ed, if_neg e]
      exact ye_n
    refine ws_appd (d := dtE os av sq i) rfl (Pe.to (d := .tuple [.int (b + 1), .int (b + o.q), oiD (dtK os av sq i), .bool (onT (dtK os av sq i) o.d)]) (yd_t4 (ye_v rfl) (ye_v rfl) (ye_v rfl) ?_) ee.symm) (by rw [List.length_map, List.length_range]; show _ < (16777216 : Nat); omega) ?_
    · cases dtK os av sq i with
      | none => exact yd_andV (a := false) (b := true) (yd_ntN (ye_v (d := .none) rfl)) fun z => nomatch z
      | some x => exact yd_andV (a := true) (b := decide (x ≤ o.d)) (yd_ntN (ye_v (d := .int x) rfl)) fun _ => yd_cp (f := fun i j => decide (i ≤ j)) (ye_v rfl) (ye_v rfl)
    · show Le _ [.d (odsD os), .d (sqD sq), .d (avD av), .mx (dkM l (mkD (avE av))), .ml ((List.range (i + 1)).map (dtE os av sq)), .no, .no, .no, .no, .no, .no, .no, .no]
      rw [rmap_snoc]
      exact (by repeat' first | exact Le.nil | refine Le.cons ?_ ?_ | exact rfl | exact trivial)
  intro r le
  exact Ws.le (ws_retd (yd_tupR (rl_v rfl)) hP) le


def RM__law_dated : PrM := fun ss P => ∃ (os : List Od) (sq : List Nat) (av : Av), ss = [.d (odsD os), .d (sqD sq), .d (avD av)] ∧ OdsOk os ∧ SqOk os sq ∧ sq.Nodup ∧ ∀ l es, (∀ n ∈ sq, valD es (.inl (n : Int)) = some (dtE os av sq (sq.idxOf n))) → P (dkM l es)

abbrev s__law_dated : Stmt := topS 18
theorem sc__law_dated : FnScope ["orders", "sequence", "availability", "told", "table", "k"] ["orders", "sequence", "availability"] (defScope s__law_dated) := ⟨rfl, rfl, rfl, by decide +kernel, rfl, by decide +kernel, by decide +kernel⟩
theorem ok__law_dated {Pg : Program} {w : World} {K : PySem.W.Frag} {mg : Str → Option Value} {base : Heap} (T : Tx K mg) (C_dates : Cal Pg w K mg base 2 "dates" ["orders", "sequence", "availability"] (spR K 3 R_dates)) {f : Addr} {fd : FuncData} (F : Fun K "_law_dated" "_law_dated" s__law_dated f fd) : FnOk Pg w K mg base CX0 3 f fd ["orders", "sequence", "availability"] (spM K 3 RM__law_dated) := by
  refine fn_okM (n := 3) F sc__law_dated rfl (by decide) (fun cdv A outer s H E hr => ⟨_, (pss_cons (ps_set (i := 3) sc__law_dated.nd rfl (Or.inl rfl) (pe_cal C_dates hr (pa_cons (pv 0) (pa_cons (pv 1) (pa_cons (pv 2) pa_nil)))))
    (pss_cons (ps_if (PW.pt (pw_or (pt_not (pt_val (pe_callB call_isi (by rfl) T.b_isinstance (by decide +kernel) (pa_cons (pv 3) (pa_cons (pe_bltn (v := .ty "tuple") (by rfl) T.b_tuple (by decide +kernel) rfl) pa_nil))))) (pw_or1 (pt_cmpR (opx_ne hr) (pe_callB call_len_seq (by rfl) T.b_len (by decide +kernel) (pa_cons (pv 3) pa_nil)) (pe_callB call_len_seq (by rfl) T.b_len (by decide +kernel) (pa_cons (pv 1) pa_nil)) (nomark _))))) (pss_one (ps_ret pe_non)) pss_nil)
    (pss_cons (ps_set (i := 4) sc__law_dated.nd rfl (Or.inl rfl) pe_dnewK)
    (pss_cons (ps_for PassesOwn.never rfl (pi_range1 rfl T.b_range (pa_cons (pe_callB call_len_seq (by rfl) T.b_len (by decide +kernel) (pa_cons (pv 1) pa_nil)) pa_nil)) (pg_name (i := 5) sc__law_dated.nd rfl (Or.inl rfl))
    (pss_cons (ps_if (PW.pt (pw_or (pt_not (pt_val (pe_callB call_isi (by rfl) T.b_isinstance (by decide +kernel) (pa_cons (pe_ix ix_seq (pv 3) (pv 5) (fun _ _ => rfl)) (pa_cons (pe_bltn (v := .ty "tuple") (by rfl) T.b_tuple (by decide +kernel) rfl) pa_nil))))) (pw_or1 (pt_cmpR (opx_ne hr) (pe_callB call_len_seq (by rfl) T.b_len (by decide +kernel) (pa_cons (pe_ix ix_seq (pv 3) (pv 5) (fun _ _ => rfl)) pa_nil)) pe_int (nomark _))))) (pss_one (ps_ret pe_non)) pss_nil)
    (pss_cons (ps_if (PW.pt (pw_and (pt_cmpR op_notN (pe_ix ix_seq (pe_ix ix_seq (pv 3) (pv 5) (fun _ _ => rfl)) pe_int (fun _ _ => rfl)) pe_non (nomark _)) (pw_and1 (pt_not (pt_val (pe_callB call_isi (by rfl) T.b_isinstance (by decide +kernel) (pa_cons (pe_ix ix_seq (pe_ix ix_seq (pv 3) (pv 5) (fun _ _ => rfl)) pe_int (fun _ _ => rfl)) (pa_cons (pe_bltn (v := .ty "int") (by rfl) T.b_int (by decide +kernel) rfl) pa_nil)))))))) (pss_one (ps_ret pe_non)) pss_nil)
    (pss_one (ps_dput (room_u hr) (pv 4) (pe_ix ix_seq (pv 1) (pv 5) (fun _ _ => rfl)) (pe_ix ix_seq (pv 3) (pv 5) (fun _ _ => rfl)) (by rfl))))))
    (pss_one (ps_ret (pv 4))))))), ?_⟩)
  intro ss P hl hR
  obtain ⟨os, sq, av, rfl, oo, ok, nd, hP⟩ := hR
  have sl := ok.l
  let A : Rho := [.d (odsD os), .d (sqD sq), .d (avD av), .d (.tuple (dtL os av sq)), .no, .no]
  refine wx_seq (R := fun r => r = A) (ws_set (P := fun d => d = .tuple (dtL os av sq)) (ye_cl (ya_d (ye_v rfl) (ya_d (ye_v rfl) (ya_d (ye_v rfl) ya_n))) rfl ⟨os, sq, av, rfl, oo, ok, rfl⟩) fun d e => by rw [e]; rfl) ?_
  rintro _ rfl
  refine wx_seq (R := fun r => r = A) (ws_ifd (b := false) ((yt_ord (a := false) (b := false) (yt_notd (b := true) (yt_B (yd_isi (ye_v rfl) rfl rfl))) fun _ => yt_d ((yd_neI (yd_lenT (xs := dtL os av sq) (ye_v rfl)) (yd_lenT (xs := sq.map niD) (ye_v (d := sqD sq) rfl))).to (by unfold dtL; rw [List.length_map, List.length_map, List.length_range, decide_eq_true rfl]; rfl))).to rfl) (fun z => nomatch z) fun _ => ws_next rfl) ?_
  rintro _ rfl
  refine wx_seq (R := fun r => ∃ l, r = [.d (odsD os), .d (sqD sq), .d (avD av), .d (.tuple (dtL os av sq)), .mx (dkM l []), .no]) (ws_dnew fun l => ⟨l, rfl⟩) ?_
  rintro _ ⟨l, rfl⟩
  refine wx_seq (R := fun r => ∃ es, (∀ n ∈ sq, valD es (.inl (n : Int)) = some (dtE os av sq (sq.idxOf n))) ∧ Le r [.no, .no, .no, .no, .mx (dkM l es), .no]) (ws_ford (it_r1 (n := (sq.length : Int)) ((yd_lenT (xs := sq.map niD) (ye_v (d := sqD sq) rfl)).to (by rw [List.length_map])) (by omega) (by omega)) (fun i r => ∃ es, es.length ≤ i ∧ (∀ k n, k < i → sq[k]? = some n → valD es (.inl (n : Int)) = some (dtE os av sq k)) ∧ Le r [.d (odsD os), .d (sqD sq), .d (avD av), .d (.tuple (dtL os av sq)), .mx (dkM l es), .no]) ⟨[], Nat.le_refl _, fun k n h => absurd h (Nat.not_lt_zero _), (by repeat' first | exact Le.nil | refine Le.cons ?_ ?_ | exact rfl | exact trivial)⟩ ?_ ?_) ?_
  · rintro i z r hi ⟨es, el, he, le⟩
    have il := (List.getElem?_eq_some_iff.mp hi).1
    rw [rg_at _ _ _ il] at hi
    rw [rg_len] at il
    cases hi
    rw [Int.zero_add]
    have il : i < sq.length := by omega
    obtain ⟨n, hn⟩ : ∃ n, sq[i]? = some n := ⟨_, List.getElem?_eq_getElem il⟩
    refine ⟨_, _, yg_n, Ws.le ?_ (le.seta (j := 5) (x := .d (.int (i : Int))))⟩
    have rw1 : ∀ {ρ : Rho}, ρ[3]? = some (.d (.tuple (dtL os av sq))) → ρ[5]? = some (.d (.int (i : Int))) → Pd K (tOp (rIx K) (tVar 3) (tVar 5)) ρ (dtE os av sq i) := fun e1 e2 => yd_ixT (xs := dtL os av sq) (ye_v e1) (ye_v e2) (atI_nat (by unfold dtL; rw [List.getElem?_map, List.getElem?_range il]; rfl))
    have rw2 : ∀ {ρ : Rho}, ρ[3]? = some (.d (.tuple (dtL os av sq))) → ρ[5]? = some (.d (.int (i : Int))) → Pd K (tOp (rIx K) (tOp (rIx K) (tVar 3) (tVar 5)) (tC (.int 2))) ρ (oiD (dtK os av sq i)) := fun e1 e2 => yd_ixT (xs := [.int (bfK os sq i + 1), .int (bfK os sq i + qK os sq i), oiD (dtK os av sq i), .bool (onT (dtK os av sq i) (ord os (sq.getD i 0)).d)]) (rw1 e1 e2) ye_i rfl
    refine wq_skip ((yt_ord (a := false) (b := false) (yt_notd (b := true) (yt_B (yd_isi (k := "tuple") (rw1 rfl rfl) rfl rfl))) fun _ => yt_d ((yd_neI (yd_lenT (xs := [.int (bfK os sq i + 1), .int (bfK os sq i + qK os sq i), oiD (dtK os av sq i), .bool (onT (dtK os av sq i) (ord os (sq.getD i 0)).d)]) (rw1 rfl rfl)) ye_i).to (by rfl))).to rfl) ?_
    refine wq_skip ?_ ?_
    · cases hd : dtK os av sq i with
      | none =>
        rw [hd] at rw2
        exact (yt_andd (a := false) (b := true) (yt_d ((yd_ntN (rw2 rfl rfl)).to rfl)) fun z => nomatch z).to rfl
      | some x =>
        rw [hd] at rw2
        exact (yt_andd (a := true) (b := false) (yt_d ((yd_ntN (rw2 rfl rfl)).to rfl)) fun _ => yt_notd (b := true) (yt_B (yd_isi (rw2 rfl rfl) rfl rfl))).to rfl
    refine ws_dputd (k := .inl (n : Int)) rfl (yd_ixT (xs := sq.map niD) (d := .int (n : Int)) (ye_v (d := sqD sq) rfl) (ye_v (d := .int (i : Int)) rfl) (atI_nat (by rw [List.getElem?_map, hn]; rfl))) (rw1 rfl rfl) (by show _ < (16777216 : Nat); omega) ⟨putD es (.inl (n : Int)) (dtE os av sq i), Nat.le_trans (putD_len _ _ _) (by omega), fun k m hk hm => ?_, (by repeat' first | exact Le.nil | refine Le.cons ?_ ?_ | exact rfl | exact trivial)⟩
    rw [valD_put]
    by_cases e : m = n
    · subst e
      have : k = i := (idx_at nd hm).symm.trans (idx_at nd hn)
      rw [if_pos rfl, this]
    · rw [if_neg (fun z => e (by have := Sum.inl.inj z; omega))]
      refine he k m ?_ hm
      rcases Nat.lt_or_ge k i with q | q
      · exact q
      · have : k = i := by omega
        rw [this, hn] at hm
        cases hm
        exact absurd rfl e
  · rintro r ⟨es, _, he, le⟩
    rw [rg_len, Int.sub_zero, Int.toNat_natCast] at he
    exact ⟨es, fun n hn => he _ n (List.idxOf_lt_length_iff.mpr hn) (idx_get hn), le.trans (show Le [.d (odsD os), .d (sqD sq), .d (avD av), .d (.tuple (dtL os av sq)), .mx (dkM l es), .no] [.no, .no, .no, .no, .mx (dkM l es), .no] from (by repeat' first | exact Le.nil | refine Le.cons ?_ ?_ | exact rfl | exact trivial))⟩
  rintro r ⟨es, he, le⟩
  exact wx_le (wx_ret rfl (hP l es he) fun _ _ _ _ h => ⟨_, h.1⟩) le


theorem dtE_plain (os : List Od) (av : Av) (sq : List Nat) (k : Nat) : Plain 5 (dtE os av sq k) := .tup (by show 4 < 2 ^ 23; decide) fun y hy => by
  rcases List.mem_cons.mp hy with rfl | hy
  · exact .int _
  rcases List.mem_cons.mp hy with rfl | hy
  · exact .int _
  rcases List.mem_cons.mp hy with rfl | hy
  · cases dtK os av sq k with
    | none => exact .non
    | some x => exact .int x
  rw [List.mem_singleton.mp hy]
  exact .bool _
/-- the same row at another place -/
theorem dtE_same {os : List Od} {av : Av} {a b : List Nat} {i k n : Nat} (ha : a[i]? = some n) (hb : b[k]? = some n) (h : bfK os a i = bfK os b k) : dtE os av a i = dtE os av b k := by
  have e1 : qK os a i = qK os b k := by unfold qK; rw [getD_at ha, getD_at hb]
  have e2 : dtK os av a i = dtK os av b k := by unfold dtK; rw [getD_at ha, getD_at hb, h, e1]
  unfold dtE
  rw [e2, h, e1, getD_at ha, getD_at hb]
/-- an earlier unit is there earlier -/
theorem dtK_mono {os : List Od} {av : Av} {m : Nat} (avo : AvOk m av) {a b : List Nat} {i k n : Nat} (ha : a[i]? = some n) (hb : b[k]? = some n) (h : bfK os a i ≤ bfK os b k) (h0 : 0 ≤ bfK os a i) (q1 : 1 ≤ (ord os n).q) {x : Int} (hx : dtK os av b k = some x) : ∃ y, dtK os av a i = some y ∧ y ≤ x := by
  have e1 : qK os a i = (ord os n).q := by unfold qK; rw [getD_at ha]
  have e2 : qK os b k = (ord os n).q := by unfold qK; rw [getD_at hb]
  unfold dtK at hx ⊢
  rw [getD_at ha, e1]
  rw [getD_at hb, e2] at hx
  dsimp only at hx ⊢
  have srt := hrs_sorted avo (ord os n).p
  generalize hrs av (ord os n).p = H at hx srt ⊢
  split at hx
  · rename_i c
    rw [if_pos (by omega)]
    refine ⟨_, rfl, ?_⟩
    cases hx
    obtain ⟨u, hu⟩ : ∃ u : Nat, bfK os a i + (ord os n).q - 1 = (u : Int) := ⟨(bfK os a i + (ord os n).q - 1).toNat, by omega⟩
    obtain ⟨v, hv⟩ : ∃ v : Nat, bfK os b k + (ord os n).q - 1 = (v : Int) := ⟨(bfK os b k + (ord os n).q - 1).toNat, by omega⟩
    rw [hu, hv, Int.toNat_natCast, Int.toNat_natCast]
    have ul : u < H.length := by omega
    have vl : v < H.length := by omega
    rw [List.getD_eq_getElem?_getD, List.getD_eq_getElem?_getD, List.getElem?_eq_getElem ul, List.getElem?_eq_getElem vl]
    show H[u] ≤ H[v]
    rcases Nat.lt_or_ge u v with q | q
    · exact List.pairwise_iff_getElem.mp srt u v ul vl q
    · have : u = v := by omega
      subst this
      exact Int.le_refl _
  · cases hx
def R__law_keeps : Pr := fun ss P => ∃ (os : List Od) (sq mv : List Nat) (j : Nat) (ts : Ts) (av : Av) (m : Nat), ss = [.d (odsD os), .d (sqD sq), .d (sqD mv), .d (.int (j : Int)), .d (dD (mkD (tsE ts))), .d (avD av)] ∧ OdsOk os ∧ SqOk os sq ∧ sq.Nodup ∧ j ∈ sq ∧ AvOk m av ∧ Mvd os sq (totT ts) j mv ∧ P (.bool true)
/-- what expediting leaves, row by row -/
theorem Mvd.rows {os : List Od} {sq mv : List Nat} {T : Int → Int} {j : Nat} (oo : OdsOk os) (ok : SqOk os sq) (nd : sq.Nodup) (hj : j ∈ sq) (h : Mvd os sq T j mv) :
    SqOk os mv ∧ mv.Nodup ∧ (∀ n, n ∈ mv ↔ n ∈ sq) ∧ bfK os mv (mv.idxOf j) ≤ bfK os sq (sq.idxOf j) ∧
    ∀ (av : Av) (i n : Nat), sq[i]? = some n → (bfK os sq i + 1 ≤ T (ord os n).p ∨ (ord os n).p ≠ (ord os j).p ∨ sq.idxOf j < i) → dtE os av mv (mv.idxOf n) = dtE os av sq i := by
  cases h with
  | started h => exact ⟨ok, nd, fun n => Iff.rfl, Int.le_refl _, fun av i n hi _ => by rw [idx_at nd hi]⟩
  | @moved w a hs ok2 ha ca hbf hF =>
    have mm := ok2.mem
    have nd' := ok2.nd'
    refine ⟨⟨by rw [ok2.len]; exact ok.l, fun i hi => ok.lt i ((mm i).mp hi)⟩, nd', mm, ?_, fun av i n hi c => ?_⟩
    · rw [idx_at nd' ok2.atw, bfK_at ok2.atw, bfK_at (idx_get hj), ok2.take]
      exact before_mono oo ok.lt _ ok2.hw
    · have nm : n ∈ sq := List.mem_of_getElem? hi
      have ii : sq.idxOf n = i := idx_at nd hi
      have nmv : n ∈ mvL sq w j := (mm n).mpr nm
      refine dtE_same (idx_get nmv) hi ?_
      have wi : wtB os sq (T (ord os j).p) (ord os j).p j = true := by
        unfold wtB
        rw [decide_eq_true rfl, decide_eq_false hs]
        rfl
      by_cases nj : n = j
      · exfalso
        subst nj
        rcases c with c | c | c
        · rw [ii] at hs; exact hs c
        · exact c rfl
        · omega
      have cc : n ∈ sq.take w ∨ (ord os j).p ≠ (ord os n).p ∨ sq.idxOf j < sq.idxOf n := by
        rcases c with c | c | c
        · by_cases ht : n ∈ sq.take w
          · exact .inl ht
          · refine .inr (.inl fun e => ?_)
            have wle : w ≤ i := by
              rcases Nat.lt_or_ge i w with q | q
              · exact absurd (List.mem_of_getElem? (i := i) (by rw [List.getElem?_take, if_pos q]; exact hi)) ht
              · exact q
            have aw : sq.idxOf a = w := idx_at nd ha
            unfold wtB at ca
            rw [aw, Bool.and_eq_true, decide_eq_true_iff, Bool.not_eq_true', decide_eq_false_iff_not] at ca
            have b1 := bfK_at (os := os) ha
            have b2 := bfK_at (os := os) hi
            have := before_mono oo ok.lt (ord os j).p wle
            rw [ca.1] at b1
            rw [← e] at b2 c
            omega
        · exact .inr (.inl fun e => c e.symm)
        · exact .inr (.inr (by omega))
      rw [bfK_pre nmv, ← ii, bfK_pre nm]
      exact ok2.keeps os nm nj _ cc

abbrev s__law_keeps : Stmt := topS 19
theorem sc__law_keeps : FnScope ["orders", "sequence", "moved", "order", "table", "availability", "old", "new", "k", "number", "started", "same"] ["orders", "sequence", "moved", "order", "table", "availability"] (defScope s__law_keeps) := ⟨rfl, rfl, rfl, by decide +kernel, rfl, by decide +kernel, by decide +kernel⟩
theorem ok__law_keeps {Pg : Program} {w : World} {K : PySem.W.Frag} {mg : Str → Option Value} {base : Heap} (T : Tx K mg) (C__law_dated : Cal Pg w K mg base 3 "_law_dated" ["orders", "sequence", "availability"] (spM K 3 RM__law_dated)) (C__law_first_unit : Cal Pg w K mg base 1 "_law_first_unit" ["orders", "sequence", "k"] (spR K 3 R__law_first_unit)) (C__law_same : Cal Pg w K mg base 6 "_law_same" ["told", "due"] (spR K 2 (R__law_same 6))) {f : Addr} {fd : FuncData} (F : Fun K "_law_keeps" "_law_keeps" s__law_keeps f fd) : FnOk Pg w K mg base CX0 7 f fd ["orders", "sequence", "moved", "order", "table", "availability"] (spR K 6 R__law_keeps) := by
  refine fn_ok (n := 6) F sc__law_keeps rfl (by decide) (fun cdv A outer s H E hr => ⟨_, (pss_cons (ps_set (i := 6) sc__law_keeps.nd rfl (Or.inl rfl) (pe_cal C__law_dated hr (pa_cons (pv 0) (pa_cons (pv 1) (pa_cons (pv 5) pa_nil)))))
    (pss_cons (ps_set (i := 7) sc__law_keeps.nd rfl (Or.inl rfl) (pe_cal C__law_dated hr (pa_cons (pv 0) (pa_cons (pv 2) (pa_cons (pv 5) pa_nil)))))
    (pss_cons (ps_if (PW.pt (pw_or (pt_cmpR op_isN (pv 6) pe_non (nomark _)) (pw_or1 (pt_cmpR op_isN (pv 7) pe_non (nomark _))))) (pss_one (ps_ret pe_bl)) pss_nil)
    (pss_cons (ps_if (PW.pt (pw_and (pt_cmpR op_notN (pe_ix ix_seq (pe_dget (room_u hr) (pv 6) (pv 3) (fun _ _ => rfl)) pe_int (fun _ _ => rfl)) pe_non (nomark _)) (pw_and1 (PW.pt (pw_or (pt_cmpR op_isN (pe_ix ix_seq (pe_dget (room_u hr) (pv 7) (pv 3) (fun _ _ => rfl)) pe_int (fun _ _ => rfl)) pe_non (nomark _)) (pw_or1 (pt_cmpR op_gt (pe_ix ix_seq (pe_dget (room_u hr) (pv 7) (pv 3) (fun _ _ => rfl)) pe_int (fun _ _ => rfl)) (pe_ix ix_seq (pe_dget (room_u hr) (pv 6) (pv 3) (fun _ _ => rfl)) pe_int (fun _ _ => rfl)) (nomark _)))))))) (pss_one (ps_ret pe_bl)) pss_nil)
    (pss_cons (ps_for PassesOwn.never rfl (pi_range1 rfl T.b_range (pa_cons (pe_callB call_len_seq (by rfl) T.b_len (by decide +kernel) (pa_cons (pv 1) pa_nil)) pa_nil)) (pg_name (i := 8) sc__law_keeps.nd rfl (Or.inl rfl))
    (pss_cons (ps_set (i := 9) sc__law_keeps.nd rfl (Or.inl rfl) (pe_ix ix_seq (pv 1) (pv 8) (fun _ _ => rfl)))
    (pss_cons (ps_set (i := 10) sc__law_keeps.nd rfl (Or.inl rfl) (pe_cmpR op_le (pe_cal C__law_first_unit hr (pa_cons (pv 0) (pa_cons (pv 1) (pa_cons (pv 8) pa_nil)))) (pe_dget2 (room_u hr) (pv 4) (pe_ix ix_seq (pe_ix ix_seq (pv 0) (pv 9) (fun _ _ => rfl)) pe_int (fun _ _ => rfl)) pe_int ⟨by rfl, by rfl, by rfl, by rfl⟩) (nomark _)))
    (pss_cons (ps_set (i := 11) sc__law_keeps.nd rfl (Or.inl rfl) (pe_or (pe_cmpR (opx_ne hr) (pe_ix ix_seq (pe_ix ix_seq (pv 0) (pv 9) (fun _ _ => rfl)) pe_int (fun _ _ => rfl)) (pe_ix ix_seq (pe_ix ix_seq (pv 0) (pv 3) (fun _ _ => rfl)) pe_int (fun _ _ => rfl)) (nomark _)) (pe_one (pe_cmpR op_gt (pv 8) (pe_tidx (pv 1) (pa_cons (pv 3) pa_nil)) (nomark _)))))
    (pss_one (ps_if (PW.pt (pw_and (PW.pt (pw_or (pt_val (pv 10)) (pw_or1 (pt_val (pv 11))))) (pw_and1 (pt_not (pt_val (pe_cal C__law_same hr (pa_cons (pe_dget (room_u hr) (pv 7) (pv 9) (fun _ _ => rfl)) (pa_cons (pe_dget (room_u hr) (pv 6) (pv 9) (fun _ _ => rfl)) pa_nil)))))))) (pss_one (ps_ret pe_bl)) pss_nil))))))
    (pss_one (ps_ret pe_bl))))))), ?_⟩)
  intro ss P hl hR
  obtain ⟨os, sq, mv, j, ts, av, m, rfl, oo, ok, nd, hj, avo, md, hP⟩ := hR
  obtain ⟨okm, ndm, mm, bm, rows⟩ := md.rows oo ok nd hj
  have sl := ok.l
  have hjm := (mm j).mpr hj
  refine wq_setx (nx_call (P := fun m => ∃ l es, m = dkM l es ∧ ∀ n ∈ sq, valD es (.inl (n : Int)) = some (dtE os av sq (sq.idxOf n))) (ya_d (ye_v rfl) (ya_d (ye_v rfl) (ya_d (ye_v rfl) ya_n))) rfl ⟨os, sq, av, rfl, oo, ok, nd, fun l es h => ⟨l, es, rfl, h⟩⟩) ?_
  rintro _ ⟨l1, e1, rfl, ho1⟩
  refine wq_setx (nx_call (P := fun m => ∃ l es, m = dkM l es ∧ ∀ n ∈ mv, valD es (.inl (n : Int)) = some (dtE os av mv (mv.idxOf n))) (ya_d (ye_v rfl) (ya_d (ye_v rfl) (ya_d (ye_v rfl) ya_n))) rfl ⟨os, mv, av, rfl, oo, okm, ndm, fun l es h => ⟨l, es, rfl, h⟩⟩) ?_
  rintro _ ⟨l2, e2, rfl, ho2⟩
  refine wq_skip ((yt_ord (a := false) (b := false) (yt_d (yd_isNx rfl)) fun _ => yt_d (yd_isNx rfl)).to rfl) ?_
  let B : Rho := [.d (odsD os), .d (sqD sq), .d (sqD mv), .d (.int (j : Int)), .d (dD (mkD (tsE ts))), .d (avD av), .mx (dkM l1 e1), .mx (dkM l2 e2), .no, .no, .no, .no]
  have old : ∀ {ρ : Rho} {t : TE} {n : Nat}, n ∈ sq → ρ[6]? = some (.mx (dkM l1 e1)) → Pd K t ρ (.int (n : Int)) → Pd K (tDGet (tVar 6) t) ρ (dtE os av sq (sq.idxOf n)) := fun {ρ t n} hn e h => yd_dget (k := .inl (n : Int)) e h (ho1 n hn)
  have new : ∀ {ρ : Rho} {t : TE} {n : Nat}, n ∈ sq → ρ[7]? = some (.mx (dkM l2 e2)) → Pd K t ρ (.int (n : Int)) → Pd K (tDGet (tVar 7) t) ρ (dtE os av mv (mv.idxOf n)) := fun {ρ t n} hn e h => yd_dget (k := .inl (n : Int)) e h (ho2 n ((mm n).mpr hn))
  have c2 : ∀ {ρ : Rho} {t : TE} {s : List Nat} {k : Nat}, Pd K t ρ (dtE os av s k) → Pd K (tOp (rIx K) t (tC (.int 2))) ρ (oiD (dtK os av s k)) := fun {ρ t s k} h => yd_ixT (xs := [.int (bfK os s k + 1), .int (bfK os s k + qK os s k), oiD (dtK os av s k), .bool (onT (dtK os av s k) (ord os (s.getD k 0)).d)]) h ye_i rfl
  refine wq_skip ?_ ?_
  · have o2 : Pd K (tOp (rIx K) (tDGet (tVar 6) (tVar 3)) (tC (.int 2))) B (oiD (dtK os av sq (sq.idxOf j))) := c2 (old hj rfl (ye_v rfl))
    have n2 : Pd K (tOp (rIx K) (tDGet (tVar 7) (tVar 3)) (tC (.int 2))) B (oiD (dtK os av mv (mv.idxOf j))) := c2 (new hj rfl (ye_v rfl))
    cases hx : dtK os av sq (sq.idxOf j) with
    | none =>
      rw [hx] at o2
      exact (yt_andd (a := false) (b := true) (yt_d ((yd_ntN o2).to rfl)) fun z => nomatch z).to rfl
    | some x =>
      obtain ⟨y, hy, yx⟩ := dtK_mono avo (idx_get hjm) (idx_get hj) bm (before_nn oo (fun i hi => okm.lt i (List.mem_of_mem_take hi)) _) (oo.q _ (List.mem_of_getElem? (ok.of_mem hj))).1 hx
      rw [hx] at o2
      rw [hy] at n2
      exact (yt_andd (a := true) (b := false) (yt_d ((yd_ntN o2).to rfl)) fun _ => (yt_ord (a := false) (b := false) (yt_d ((yd_isN n2).to rfl)) fun _ => yt_d ((yd_cp (f := fun i j => decide (j < i)) n2 o2).to (by rw [decide_eq_false (by omega)]))).to rfl).to rfl
  refine ws_seq (fun r => True) (ws_ford (it_r1 (n := (sq.length : Int)) ((yd_lenT (xs := sq.map niD) (ye_v (d := sqD sq) rfl)).to (by rw [List.length_map])) (by omega) (by omega)) (fun i r => Le r B) (by repeat' first | exact Le.nil | refine Le.cons ?_ ?_ | exact rfl | exact trivial) ?_ (fun r h => trivial)) fun r _ => ws_retd ye_b hP
  rintro i z r hi le
  have il := (List.getElem?_eq_some_iff.mp hi).1
  rw [rg_at _ _ _ il] at hi
  rw [rg_len] at il
  cases hi
  rw [Int.zero_add]
  have il : i < sq.length := by omega
  obtain ⟨n, hn⟩ : ∃ n, sq[i]? = some n := ⟨_, List.getElem?_eq_getElem il⟩
  have nm : n ∈ sq := List.mem_of_getElem? hn
  have ii : sq.idxOf n = i := idx_at nd hn
  refine ⟨_, _, yg_n, Ws.le ?_ (le.seta (j := 8) (x := .d (.int (i : Int))))⟩
  refine wq_setd (d := .int (n : Int)) (yd_ixT (xs := sq.map niD) (d := .int (n : Int)) (ye_v (d := sqD sq) rfl) (ye_v (d := .int (i : Int)) rfl) (atI_nat (by rw [List.getElem?_map, hn]; rfl))) ?_
  have fst : ∀ {ρ : Rho} {k x : Nat}, x ∈ sq → ρ[0]? = some (.d (odsD os)) → ρ[k]? = some (.d (.int (x : Int))) → Pd K (tOp (rIx K) (tOp (rIx K) (tVar 0) (tVar k)) (tC (.int 0))) ρ (.int (ord os x).p) := fun {ρ k x} hx e1 e2 => yd_ixT (xs := [.int (ord os x).p, .int (ord os x).q, .int (ord os x).d]) (yd_ixT (xs := os.map odD) (d := odD (ord os x)) (ye_v e1) (ye_v e2) (atI_nat (by rw [List.getElem?_map, ok.of_mem hx]; rfl))) ye_i rfl
  refine wq_setd (d := .bool (decide (bfK os sq i + 1 ≤ totT ts (ord os n).p))) (yd_cp (f := fun i j => decide (i ≤ j)) (ye_cl (P := fun d => d = .int (bfK os sq i + 1)) (ya_d (ye_v rfl) (ya_d (ye_v rfl) (ya_d (ye_v rfl) ya_n))) rfl ⟨os, sq, i, rfl, ok, il, rfl⟩) ((yd_kget2 (es := mkD (tsE ts)) (k := .inl (ord os n).p) (ye_v rfl) (fst nm rfl rfl) ye_i).to (tot_mk ts (ord os n).p))) ?_
  refine wq_setd (d := .bool (!decide ((ord os n).p = (ord os j).p) || decide (sq.idxOf j < i))) ((yd_orV (a := !decide ((ord os n).p = (ord os j).p)) (b := decide (sq.idxOf j < i)) (yd_neI (fst nm rfl rfl) (fst hj rfl rfl)) fun _ => (yd_cp (f := fun i j => decide (j < i)) (ye_v (d := .int (i : Int)) rfl) ((yd_tidx (ns := sq.map fun i : Nat => (i : Int)) (k := (j : Int)) ((ye_v (d := sqD sq) rfl).to (sq_ints sq)) (ye_v rfl) (List.mem_map_of_mem hj)).to (e := .int ((sq.idxOf j : Nat) : Int)) (by rw [idx_int]))).to (by congr 1; rw [decide_eq_decide]; omega))) ?_
  refine ws_ifd (b := false) ?_ (fun z => nomatch z) fun _ => ws_next (by repeat' first | exact Le.nil | refine Le.cons ?_ ?_ | exact rfl | exact trivial)
  obtain ⟨sb, hsb⟩ : ∃ b, b = decide (bfK os sq i + 1 ≤ totT ts (ord os n).p) := ⟨_, rfl⟩
  obtain ⟨mb, hmb⟩ : ∃ b, b = (!decide ((ord os n).p = (ord os j).p) || decide (sq.idxOf j < i)) := ⟨_, rfl⟩
  show Ptd K _ [.d (odsD os), .d (sqD sq), .d (sqD mv), .d (.int (j : Int)), .d (dD (mkD (tsE ts))), .d (avD av), .mx (dkM l1 e1), .mx (dkM l2 e2), .d (.int (i : Int)), .d (.int (n : Int)), .d (.bool (decide (bfK os sq i + 1 ≤ totT ts (ord os n).p))), .d (.bool (!decide ((ord os n).p = (ord os j).p) || decide (sq.idxOf j < i)))] _
  rw [← hsb, ← hmb]
  refine (yt_andd (a := sb || mb) (b := false) (yt_ord (yt_B (ye_v rfl)) fun _ => yt_B (ye_v rfl)) fun h => ?_).to (Bool.and_false _)
  have e := rows av i n hn (by
    rw [Bool.or_eq_true, hsb, hmb, decide_eq_true_iff, Bool.or_eq_true, Bool.not_eq_true', decide_eq_false_iff_not, decide_eq_true_iff] at h
    exact h)
  exact yt_notd (b := true) (yt_B (ye_cl (P := fun d => d = .bool true) (ya_d ((new nm rfl (ye_v rfl)).to e) (ya_d ((old nm rfl (ye_v rfl)).to (by rw [ii])) ya_n)) rfl ⟨_, rfl, dtE_plain _ _ _ _, rfl⟩))


def R_order_of : Pr := fun ss P => ∃ (os : List Od) (sq : List Nat) (p u : Int) (d : PyData), ss = [.d (odsD os), .d (sqD sq), .d (.int p), .d (.int u)] ∧ SqOk os sq ∧ Own os sq p u d ∧ P d

abbrev s_order_of : Stmt := topS 1
theorem sc_order_of : FnScope ["orders", "sequence", "product", "unit", "order", "first", "last"] ["orders", "sequence", "product", "unit"] (defScope s_order_of) := ⟨rfl, rfl, rfl, by decide +kernel, rfl, by decide +kernel, by decide +kernel⟩
theorem ok_order_of {Pg : Program} {w : World} {K : PySem.W.Frag} {mg : Str → Option Value} {base : Heap} (T : Tx K mg) (C_spans : Cal Pg w K mg base 1 "spans" ["orders", "sequence"] (spR K 2 R_spans)) {f : Addr} {fd : FuncData} (F : Fun K "order_of" "order_of" s_order_of f fd) : FnOk Pg w K mg base CX0 2 f fd ["orders", "sequence", "product", "unit"] (spR K 4 R_order_of) := by
  refine fn_ok (n := 4) F sc_order_of rfl (by decide) (fun cdv A outer s H E hr => ⟨_, (pss_cons (ps_for PassesOwn.never rfl (pi_zipM (by rfl) T.b_zip (pa_cons (pv 1) (pa_cons (pe_cal C_spans hr (pa_cons (pv 0) (pa_cons (pv 1) pa_nil))) pa_nil))) (pg_tup rfl (pgs_cons (pg_name (i := 4) sc_order_of.nd rfl (Or.inl rfl)) (pgs_cons (pg_tup rfl (pgs_cons (pg_name (i := 5) sc_order_of.nd rfl (Or.inl rfl)) (pgs_cons (pg_name (i := 6) sc_order_of.nd rfl (Or.inl rfl)) pgs_nil))) pgs_nil)))
    (pss_one (ps_if (PW.pt (pw_and (pt_cmpR (opx_eq hr) (pe_ix ix_seq (pe_ix ix_seq (pv 0) (pv 4) (fun _ _ => rfl)) pe_int (fun _ _ => rfl)) (pv 2) (nomark _)) (pw_and1 (pt_chain op_le op_le (pv 5) (pv 3) (pv 6))))) (pss_one (ps_ret (pv 4))) pss_nil)))
    (pss_one (ps_ret pe_non))), ?_⟩)
  intro ss P hl hR
  obtain ⟨os, sq, p, u, d, rfl, ok, own, hP⟩ := hR
  let B : Rho := [.d (odsD os), .d (sqD sq), .d (.int p), .d (.int u), .no, .no, .no]
  refine ws_seq (fun r => (∀ k, k < sq.length → ownB os sq p u k = false)) (ws_ford (it_zipM (h1 := Nat.le_of_ble_eq_true rfl) (h6 := Nat.le_of_ble_eq_true rfl) (N := sq.length) [(true, sq.map niD), (false, spL os sq)] (ya_d (ye_v rfl) (ya_d (ye_cl (P := fun d => d = .list (spL os sq)) (ya_d (ye_v rfl) (ya_d (ye_v rfl) ya_n)) rfl ⟨os, sq, rfl, ok, rfl⟩) ya_n)) (by
    intro r hr
    rcases List.mem_cons.mp hr with rfl | hr
    · exact List.length_map ..
    · rw [List.mem_singleton.mp hr]
      unfold spL
      rw [List.length_map, List.length_range])) (fun i r => (∀ k, k < i → ownB os sq p u k = false) ∧ Le r B) ⟨fun k h => absurd h (Nat.not_lt_zero _), (by repeat' first | exact Le.nil | refine Le.cons ?_ ?_ | exact rfl | exact trivial)⟩ ?_ (fun r h => by rw [List.length_map, List.length_range] at h; exact h.1)) fun r h => ws_retd ye_n (by rw [← own.miss h]; exact hP)
  rintro i z r hi ⟨hn, le⟩
  rw [List.getElem?_map] at hi
  obtain ⟨i', hi', rfl⟩ := Option.map_eq_some_iff.mp hi
  have il := (List.getElem?_eq_some_iff.mp hi').1
  rw [List.length_range] at il
  rw [List.getElem?_range il] at hi'
  cases hi'
  obtain ⟨j, hj⟩ : ∃ j, sq[i]? = some j := ⟨_, List.getElem?_eq_getElem il⟩
  have ho := ok.at hj
  obtain ⟨o, eo⟩ : ∃ o, o = ord os j := ⟨_, rfl⟩
  rw [← eo] at ho
  have ek : ord os (sq.getD i 0) = o := by rw [getD_at hj, eo]
  have c1 : colD [sq.map niD, spL os sq] i = .tuple [.int (j : Int), .tuple [.int (bfK os sq i + 1), .int (bfK os sq i + qK os sq i)]] := by
    have a1 : (sq.map niD).getD i .none = .int (j : Int) := getD_at (by rw [List.getElem?_map, hj]; rfl)
    have a2 : (spL os sq).getD i .none = spE os sq i := getD_at (by unfold spL; rw [List.getElem?_map, List.getElem?_range il]; rfl)
    show PyData.tuple [(sq.map niD).getD i .none, (spL os sq).getD i .none] = _
    rw [a1, a2]
    rfl
  show ∃ sl r', PD.Pg K _ sl (colD [sq.map niD, spL os sq] i) r r' ∧ _
  rw [c1]
  refine ⟨_, _, yg_t (ygs_1 yg_n (ygs_1 (yg_t (ygs_1 yg_n (ygs_1 yg_n ygs_0))) ygs_0)), Ws.le ?_ (((le.seta (j := 4) (x := .d (.int (j : Int)))).seta (j := 5) (x := .d (.int (bfK os sq i + 1)))).seta (j := 6) (x := .d (.int (bfK os sq i + qK os sq i))))⟩
  refine ws_ifd (b := ownB os sq p u i) (Pt.to (yt_andd (a := decide (o.p = p)) (b := decide (bfK os sq i + 1 ≤ u) && decide (u ≤ bfK os sq i + qK os sq i)) (yt_d (yd_eqI (yd_ixT (xs := [.int o.p, .int o.q, .int o.d]) (yd_ixT (xs := os.map odD) (d := odD o) (ye_v (d := odsD os) rfl) (ye_v (d := .int (j : Int)) rfl) (atI_nat (by rw [List.getElem?_map, ho]; rfl))) ye_i rfl) (ye_v rfl))) fun _ => yt_d (yd_chain (f := fun i j => decide (i ≤ j)) (g := fun i j => decide (i ≤ j)) (ye_v rfl) (ye_v rfl) (ye_v rfl))) (by unfold ownB; rw [ek])) (fun z => ws_retd (ye_v (d := niD j) rfl) ?_) fun z => ws_next ⟨fun k hk => ?_, (by repeat' first | exact Le.nil | refine Le.cons ?_ ?_ | exact rfl | exact trivial)⟩
  · rw [← own.hit hn z hj]; exact hP
  · rcases Nat.lt_or_ge k i with q | q
    · exact hn k q
    · rw [show k = i by omega]; exact z


def R__law_again : Pr := fun ss P => ∃ (ns : List Int) (os : List Od) (m : Nat) (sq : List Nat) (ts : Ts), ss = [.tp, .d (.list (ns.map .int)), .d (odsD os), .d (sqD sq), .d (tsD ts)] ∧ (4 ≤ ns.length ∧ ∀ n ∈ ns, 0 ≤ n ∧ n < 20) ∧ 1 ≤ m ∧ m ≤ 6 ∧ OdD m os ∧ SqOk os sq ∧ sq.Nodup ∧ sq ≠ [] ∧ ts.length ≤ 7 ∧ P (.bool true)
theorem cut_setL {α : Type} {l : List α} {k : Nat} (h : k < l.length) (a : α) : l.take k ++ [a] ++ l.drop (k + 1) = l.set k a := by
  rw [List.set_eq_take_append_cons_drop, if_pos h, List.append_assoc]
  rfl
theorem OdD.put {m : Nat} {os : List Od} (h : OdD m os) {k : Nat} {o : Od} (ho : (0 ≤ o.p ∧ o.p < 20) ∧ (1 ≤ o.q ∧ o.q ≤ 12) ∧ (0 ≤ o.d ∧ o.d ≤ 100)) : OdD m (os.set k o) := ⟨by rw [List.length_set]; exact h.l, fun x hx => by
  rcases List.mem_or_eq_of_mem_set hx with hx | rfl
  · exact h.b x hx
  · exact ho⟩
def r3T (x : List Od × List Nat × Ts) : PyData := .tuple [odsD x.1, sqD x.2.1, tsD x.2.2]
theorem swap_perm {l : List Nat} {k : Nat} (h : k + 1 < l.length) : (l.take k ++ [l[k + 1], l[k]] ++ l.drop (k + 2)).Perm l := by
  have e : l = l.take k ++ [l[k], l[k + 1]] ++ l.drop (k + 2) := by
    have e1 : l.drop k = l[k] :: l.drop (k + 1) := List.drop_eq_getElem_cons (by omega)
    have e2 : l.drop (k + 1) = l[k + 1] :: l.drop (k + 2) := List.drop_eq_getElem_cons h
    have := (List.take_append_drop k l).symm
    rw [e1, e2] at this
    rw [List.append_assoc]
    exact this
  have p : (l.take k ++ [l[k + 1], l[k]] ++ l.drop (k + 2)).Perm (l.take k ++ [l[k], l[k + 1]] ++ l.drop (k + 2)) := ((List.Perm.swap _ _ []).append_left _).append_right _
  rw [← e] at p
  exact p
theorem sq_plain (l : List Nat) (h : l.length ≤ 2000) : Plain 5 (sqD l) := .tup (by rw [List.length_map]; omega) fun x hx => by
  obtain ⟨n, _, rfl⟩ := List.mem_map.mp hx
  exact .int _
theorem Mvd.len {os : List Od} {sq mv : List Nat} {T : Int → Int} {j : Nat} (h : Mvd os sq T j mv) : mv.length = sq.length := by
  cases h with
  | started => rfl
  | moved _ ok2 => exact ok2.len

abbrev s__law_again : Stmt := topS 21
theorem sc__law_again : FnScope ["tape", "pool", "orders", "sequence", "totals", "k", "order", "others", "turned", "at", "more", "rows", "row", "due"] ["tape", "pool", "orders", "sequence", "totals"] (defScope s__law_again) := ⟨rfl, rfl, rfl, by decide +kernel, rfl, by decide +kernel, by decide +kernel⟩
theorem ok__law_again {Pg : Program} {w : World} {K : PySem.W.Frag} {mg : Str → Option Value} {base : Heap} (T : Tx K mg) (C__law_draw : Cal Pg w K mg base 1 "_law_draw" ["tape", "many"] (spR K 2 R__law_draw)) (C__law_moved : Cal Pg w K mg base 2 "_law_moved" ["orders", "sequence", "order", "table"] (spR K 4 R__law_moved)) (C__law_table : Cal Pg w K mg base 1 "_law_table" ["totals"] (spM K 1 RM__law_table)) (C__law_same : Cal Pg w K mg base 6 "_law_same" ["told", "due"] (spR K 2 (R__law_same 6))) (C_expedited : Cal Pg w K mg base 3 "expedited" ["orders", "sequence", "order", "totals"] (spR K 4 R_expedited)) {f : Addr} {fd : FuncData} (F : Fun K "_law_again" "_law_again" s__law_again f fd) : FnOk Pg w K mg base CX0 7 f fd ["tape", "pool", "orders", "sequence", "totals"] (spR K 5 R__law_again) := by
  refine fn_ok (n := 5) F sc__law_again rfl (by decide) (fun cdv A outer s H E hr => ⟨_, (pss_cons (ps_set (i := 5) sc__law_again.nd rfl (Or.inl rfl) (pe_cal C__law_draw hr (pa_cons (pv 0) (pa_cons (pe_callB call_len_seq (by rfl) T.b_len (by decide +kernel) (pa_cons (pv 2) pa_nil)) pa_nil))))
    (pss_cons (ps_set (i := 6) sc__law_again.nd rfl (Or.inl rfl) (pe_tuq (pa_cons (pe_ix ix_seq (pe_ix ix_seq (pv 2) (pv 5) (fun _ _ => rfl)) pe_int (fun _ _ => rfl)) (pa_cons (pe_op opx_add (pe_op op_mod (pe_callTy call_int1 (by rfl) T.b_int (by decide +kernel) (pa_cons (pe_op opx_add (pe_ix ix_seq (pe_ix ix_seq (pv 2) (pv 5) (fun _ _ => rfl)) pe_int (fun _ _ => rfl)) (pe_cal C__law_draw hr (pa_cons (pv 0) (pa_cons pe_int pa_nil)))) pa_nil)) pe_int) pe_int) (pa_cons (pe_ix ix_seq (pe_ix ix_seq (pv 2) (pv 5) (fun _ _ => rfl)) pe_int (fun _ _ => rfl)) pa_nil)))))
    (pss_cons (ps_if (pt_cmpR (opx_eq hr) (pe_cal C__law_draw hr (pa_cons (pv 0) (pa_cons pe_int pa_nil))) pe_int (nomark _)) (pss_one (ps_set (i := 6) sc__law_again.nd rfl (Or.inl rfl) (pe_op opx_add (pe_tuq (pa_cons (pe_ix ix_seq (pv 1) (pe_cal C__law_draw hr (pa_cons (pv 0) (pa_cons pe_int pa_nil))) (fun _ _ => rfl)) pa_nil)) (pe_slice slx (pe_ix ix_seq (pv 2) (pv 5) (fun _ _ => rfl)) (po_some pe_int) po_none)))) pss_nil)
    (pss_cons (ps_set (i := 7) sc__law_again.nd rfl (Or.inl rfl) (pe_op opx_add (pe_op opx_add (pe_slice slx (pv 2) po_none (po_some (pv 5))) (pe_tuq (pa_cons (pv 6) pa_nil))) (pe_slice slx (pv 2) (po_some (pe_op opx_add (pv 5) pe_int)) po_none)))
    (pss_cons (ps_set (i := 8) sc__law_again.nd rfl (Or.inl rfl) (pv 3))
    (pss_cons (ps_if (pt_cmpR op_gt (pe_callB call_len_seq (by rfl) T.b_len (by decide +kernel) (pa_cons (pv 3) pa_nil)) pe_int (nomark _)) (pss_cons (ps_set (i := 9) sc__law_again.nd rfl (Or.inl rfl) (pe_cal C__law_draw hr (pa_cons (pv 0) (pa_cons (pe_op op_sub (pe_callB call_len_seq (by rfl) T.b_len (by decide +kernel) (pa_cons (pv 3) pa_nil)) pe_int) pa_nil))))
    (pss_one (ps_set (i := 8) sc__law_again.nd rfl (Or.inl rfl) (pe_op opx_add (pe_op opx_add (pe_slice slx (pv 3) po_none (po_some (pv 9))) (pe_tuq (pa_cons (pe_ix ix_seq (pv 3) (pe_op opx_add (pv 9) pe_int) (fun _ _ => rfl)) (pa_cons (pe_ix ix_seq (pv 3) (pv 9) (fun _ _ => rfl)) pa_nil)))) (pe_slice slx (pv 3) (po_some (pe_op opx_add (pv 9) pe_int)) po_none))))) pss_nil)
    (pss_cons (ps_set (i := 10) sc__law_again.nd rfl (Or.inl rfl) (pv 4))
    (pss_cons (ps_if (pt_tru (pv 4) (by intro _; rfl)) (pss_cons (ps_set (i := 9) sc__law_again.nd rfl (Or.inl rfl) (pe_cal C__law_draw hr (pa_cons (pv 0) (pa_cons (pe_callB call_len_seq (by rfl) T.b_len (by decide +kernel) (pa_cons (pv 4) pa_nil)) pa_nil))))
    (pss_one (ps_set (i := 10) sc__law_again.nd rfl (Or.inl rfl) (pe_op opx_add (pe_op opx_add (pe_slice slx (pv 4) po_none (po_some (pv 9))) (pe_tuq (pa_cons (pe_tuq (pa_cons (pe_ix ix_seq (pe_ix ix_seq (pv 4) (pv 9) (fun _ _ => rfl)) pe_int (fun _ _ => rfl)) (pa_cons (pe_cal C__law_draw hr (pa_cons (pv 0) (pa_cons pe_int pa_nil))) pa_nil))) pa_nil))) (pe_slice slx (pv 4) (po_some (pe_op opx_add (pv 9) pe_int)) po_none))))) pss_nil)
    (pss_cons (ps_set (i := 11) sc__law_again.nd rfl (Or.inl rfl) (pe_lst (pa_cons (pe_tuq (pa_cons (pv 2) (pa_cons (pv 3) (pa_cons (pv 4) pa_nil)))) (pa_cons (pe_tuq (pa_cons (pv 2) (pa_cons (pv 3) (pa_cons (pv 10) pa_nil)))) (pa_cons (pe_tuq (pa_cons (pv 2) (pa_cons (pv 8) (pa_cons (pv 10) pa_nil)))) (pa_cons (pe_tuq (pa_cons (pv 7) (pa_cons (pv 8) (pa_cons (pv 10) pa_nil)))) pa_nil))))))
    (pss_cons (ps_set (i := 11) sc__law_again.nd rfl (Or.inl rfl) (pe_op opx_add (pv 11) (pe_lst (pa_cons (pe_tuq (pa_cons (pv 7) (pa_cons (pv 8) (pa_cons (pv 4) pa_nil)))) (pa_cons (pe_tuq (pa_cons (pv 7) (pa_cons (pv 3) (pa_cons (pv 4) pa_nil)))) (pa_cons (pe_tuq (pa_cons (pv 2) (pa_cons (pv 3) (pa_cons (pv 4) pa_nil)))) pa_nil))))))
    (pss_cons (ps_for PassesOwn.never rfl (pi_seq (pv 11)) (pg_name (i := 12) sc__law_again.nd rfl (Or.inl rfl))
    (pss_cons (ps_set (i := 13) sc__law_again.nd rfl (Or.inl rfl) (pe_cal C__law_moved hr (pa_cons (pe_ix ix_seq (pv 12) pe_int (fun _ _ => rfl)) (pa_cons (pe_ix ix_seq (pv 12) pe_int (fun _ _ => rfl)) (pa_cons (pe_ix ix_seq (pv 3) (pe_un un_neg pe_int) (fun _ _ => rfl)) (pa_cons (pe_keepV (pe_cal C__law_table hr (pa_cons (pe_ix ix_seq (pv 12) pe_int (fun _ _ => rfl)) pa_nil))) pa_nil))))))
    (pss_one (ps_if (pt_not (pt_val (pe_cal C__law_same hr (pa_cons (pe_cal C_expedited hr (pa_cons (pe_ix ix_seq (pv 12) pe_int (fun _ _ => rfl)) (pa_cons (pe_ix ix_seq (pv 12) pe_int (fun _ _ => rfl)) (pa_cons (pe_ix ix_seq (pv 3) (pe_un un_neg pe_int) (fun _ _ => rfl)) (pa_cons (pe_ix ix_seq (pv 12) pe_int (fun _ _ => rfl)) pa_nil))))) (pa_cons (pv 13) pa_nil))))) (pss_one (ps_ret pe_bl)) pss_nil))))
    (pss_one (ps_ret pe_bl))))))))))))), ?_⟩)
  intro ss P hl hR
  obtain ⟨ns, os, m, sq, ts, rfl, ⟨nl, nb⟩, m1, m6, od, ok, nd, ne, tl, hP⟩ := hR
  have ol := od.l
  have sl := ok.l
  have l1 : 1 ≤ sq.length := List.length_pos_iff.mpr ne
  let OB : Od → Prop := fun o => (0 ≤ o.p ∧ o.p < 20) ∧ (1 ≤ o.q ∧ o.q ≤ 12) ∧ (0 ≤ o.d ∧ o.d ≤ 100)
  let PO : PyData → Prop := fun d => ∃ o : Od, OB o ∧ d = odD o
  refine wq_set (P := isI fun r => 0 ≤ r ∧ r < (os.length : Int)) (y_drd rfl ((yd_lenT (xs := os.map odD) (ye_v (d := odsD os) rfl)).to (e := .int (os.length : Int)) (by rw [List.length_map])) (fun r h1 h2 => ⟨h1, by omega⟩) (by omega)) ?_
  rintro _ ⟨k, rfl, k0, k1⟩
  obtain ⟨k, rfl⟩ : ∃ j : Nat, k = (j : Int) := ⟨k.toNat, by omega⟩
  have kl : k < os.length := by omega
  obtain ⟨o, ho⟩ : ∃ o, os[k]? = some o := ⟨_, List.getElem?_eq_getElem kl⟩
  have ob := od.b o (List.mem_of_getElem? ho)
  have ixo : ∀ {ρ : Rho}, ρ[2]? = some (.d (odsD os)) → ρ[5]? = some (.d (.int (k : Int))) → Pd K (tOp (rIx K) (tVar 2) (tVar 5)) ρ (odD o) := fun e1 e2 => yd_ixT (xs := os.map odD) (d := odD o) (ye_v e1) (ye_v e2) (atI_nat (by rw [List.getElem?_map, ho]; rfl))
  have ix : ∀ {ρ : Rho} {j : Int} {x : PyData}, ρ[2]? = some (.d (odsD os)) → ρ[5]? = some (.d (.int (k : Int))) → atI [PyData.int o.p, .int o.q, .int o.d] j = some x → Pd K (tOp (rIx K) (tOp (rIx K) (tVar 2) (tVar 5)) (tC (.int j))) ρ x := fun e1 e2 h => yd_ixT (xs := [.int o.p, .int o.q, .int o.d]) (ixo e1 e2) ye_i h
  refine wq_set (P := PO) (ye_t3 (A := fun d => d = .int o.p) (B := isI fun r => 1 ≤ r ∧ r ≤ 12) (C := fun d => d = .int o.d) (ix rfl rfl rfl) (isI_add (isI_md (isI_toI (isI_add (isI_of (C := fun r => True) (ix rfl rfl rfl) trivial) (y_drd (D := fun r => True) rfl ye_i fun r h1 h2 => trivial) (C := fun r => True) fun _ _ _ _ => trivial)) (by decide)) (isI_of (C := fun r => r = 1) ye_i rfl) fun x y h1 h2 => by omega) (ix rfl rfl rfl) ?_) ?_
  · rintro _ _ _ rfl ⟨q, rfl, hq⟩ rfl
    exact ⟨⟨o.p, q, o.d⟩, ⟨ob.1, hq, ob.2.2⟩, rfl⟩
  rintro _ ⟨o1', ho1, rfl⟩
  let B : Od → Rho := fun x => [.tp, .d (.list (ns.map .int)), .d (odsD os), .d (sqD sq), .d (tsD ts), .d (.int (k : Int)), .d (odD x), .no, .no, .no, .no, .no, .no, .no]
  refine ws_seq (fun r => ∃ x, OB x ∧ r = B x) (ws_if (Pb := fun _ => True) ((yt_v (Pb := fun _ => True) (ye_imp0 (ye_draw rfl ye_i)) fun x ⟨b, e⟩ => ⟨b, e, trivial⟩)) (fun _ => ws_set (P := PO) (ye_catT (Pa := fun d => ∃ r : Int, (0 ≤ r ∧ r < 20) ∧ d = .tuple [.int r]) (Pb := fun d => d = .tuple [.int o.q, .int o.d]) (ye_t1 (A := isI fun r => 0 ≤ r ∧ r < 20) (ye_ixT (Pa := fun d => d = .list (ns.map .int)) (Pb := isI fun r => 0 ≤ r ∧ r < 4) (ye_v rfl) (y_drd rfl ye_i fun r h1 h2 => ⟨h1, by omega⟩) ?_) fun a ⟨r, e, h⟩ => ⟨r, h, by rw [e]⟩) ((yd_slT (xs := [.int o.p, .int o.q, .int o.d]) (ixo rfl rfl) (yo_i ye_i) yo_n).to rfl) ?_) ?_) fun _ => ws_next ⟨o1', ho1, rfl⟩) ?_
  · rintro x y rfl ⟨r, rfl, r0, r1⟩
    obtain ⟨r, rfl⟩ : ∃ j : Nat, r = (j : Int) := ⟨r.toNat, by omega⟩
    have rl : r < ns.length := by omega
    exact ⟨ns.map .int, _, .int ns[r], .inr rfl, rfl, atI_nat (by rw [List.getElem?_map, List.getElem?_eq_getElem rl]; rfl), _, rfl, nb _ (List.getElem_mem rl)⟩
  · rintro _ _ ⟨r, hr, rfl⟩ rfl
    exact ⟨_, _, rfl, rfl, by show 1 + 2 ≤ (16777216 : Nat); decide, ⟨r, o.q, o.d⟩, ⟨hr, ob.2.1, ob.2.2⟩, rfl⟩
  · rintro _ ⟨x, hx, rfl⟩
    exact ⟨x, hx, rfl⟩
  rintro _ ⟨x, hx, rfl⟩
  obtain ⟨ot, hot⟩ : ∃ ot, ot = os.set k x := ⟨_, rfl⟩
  have od2 : OdD m ot := hot ▸ od.put hx
  refine wq_setd (d := odsD ot) ((yd_catT (xs := (os.take k).map odD ++ [odD x]) (ys := (os.drop (k + 1)).map odD) (yd_catT (xs := (os.take k).map odD) (ys := [odD x]) ((yd_slT (xs := os.map odD) (ye_v (d := odsD os) rfl) yo_n (yo_i (ye_v (d := .int (k : Int)) rfl))).to (by rw [cut_to, List.map_take])) (yd_t1 (ye_v rfl)) ?_) ((yd_slT (xs := os.map odD) (ye_v (d := odsD os) rfl) (yo_i (yd_add (ye_v (d := .int (k : Int)) rfl) ye_i)) yo_n).to ?_) ?_).to (e := odsD ot) ?_) ?_
  · rw [List.length_map, List.length_take]; show _ ≤ (16777216 : Nat); show _ + 1 ≤ _; omega
  · rw [show (k : Int) + 1 = ((k + 1 : Nat) : Int) by omega, cut_from, List.map_drop]
  · rw [List.length_append, List.length_map, List.length_map, List.length_take, List.length_drop]; show _ ≤ (16777216 : Nat); show _ + 1 + _ ≤ _; omega
  · unfold odsD
    rw [hot, ← cut_setL kl x, List.map_append, List.map_append]
    rfl
  refine wq_setd (d := sqD sq) (ye_v rfl) ?_
  let C : Sl → Sl → Rho := fun t mo => [.tp, .no, .d (odsD os), .d (sqD sq), .d (tsD ts), .no, .no, .d (odsD ot), t, .no, mo, .no, .no, .no]
  have ln : ∀ {ρ : Rho}, ρ[3]? = some (.d (sqD sq)) → Pd K (tCB (PD.rLen K) (tCons (tVar 3) tNil)) ρ (.int (sq.length : Int)) := fun e => (yd_lenT (xs := sq.map niD) (ye_v e)).to (by rw [List.length_map])
  refine ws_seq (fun r => ∃ tn : List Nat, tn.Perm sq ∧ Le r (C (.d (sqD tn)) .no)) (ws_ifd (b := decide ((1 : Int) < (sq.length : Int))) (yt_d (yd_cp (f := fun i j => decide (j < i)) (ln rfl) ye_i)) (fun z => ?_) fun _ => ws_next ⟨sq, .refl _, (by repeat' first | exact Le.nil | refine Le.cons ?_ ?_ | exact rfl | exact trivial)⟩) ?_
  · have l2 := of_decide_eq_true z
    refine wq_set (i := 9) (P := isI fun r => 0 ≤ r ∧ r < (sq.length : Int) - 1) (y_drd rfl (yd_sub (ln rfl) ye_i) (fun r h1 h2 => ⟨h1, by omega⟩) (by omega)) ?_
    rintro _ ⟨q, rfl, q0, q1⟩
    obtain ⟨q, rfl⟩ : ∃ j : Nat, q = (j : Int) := ⟨q.toNat, by omega⟩
    have h1 : sq[q + 1]? = some sq[q + 1] := List.getElem?_eq_getElem (by omega)
    have h2 : sq[q]? = some sq[q] := List.getElem?_eq_getElem (by omega)
    refine ws_setd (d := sqD (sq.take q ++ [sq[q + 1], sq[q]] ++ sq.drop (q + 2))) ((yd_catT (xs := (sq.take q).map niD ++ [niD sq[q + 1], niD sq[q]]) (ys := (sq.drop (q + 2)).map niD) (yd_catT (xs := (sq.take q).map niD) (ys := [niD sq[q + 1], niD sq[q]]) ((yd_slT (xs := sq.map niD) (ye_v (d := sqD sq) rfl) yo_n (yo_i (ye_v (d := .int (q : Int)) rfl))).to (by rw [cut_to, List.map_take])) (yd_t2 (yd_ixT (xs := sq.map niD) (ye_v (d := sqD sq) rfl) (yd_add (ye_v (d := .int (q : Int)) rfl) ye_i) (by rw [show (q : Int) + 1 = ((q + 1 : Nat) : Int) by omega]; exact atI_nat (by rw [List.getElem?_map, h1]; rfl))) (yd_ixT (xs := sq.map niD) (ye_v (d := sqD sq) rfl) (ye_v (d := .int (q : Int)) rfl) (atI_nat (by rw [List.getElem?_map, h2]; rfl)))) ?_) ((yd_slT (xs := sq.map niD) (ye_v (d := sqD sq) rfl) (yo_i (yd_add (ye_v (d := .int (q : Int)) rfl) ye_i)) yo_n).to ?_) ?_).to ?_) ⟨sq.take q ++ [sq[q + 1], sq[q]] ++ sq.drop (q + 2), swap_perm (k := q) (by omega), (by repeat' first | exact Le.nil | refine Le.cons ?_ ?_ | exact rfl | exact trivial)⟩
    · rw [List.length_map, List.length_take]; show _ ≤ (16777216 : Nat); show _ + 2 ≤ _; omega
    · rw [show (q : Int) + 2 = ((q + 2 : Nat) : Int) by omega, cut_from, List.map_drop]
    · rw [List.length_append, List.length_map, List.length_map, List.length_take, List.length_drop]; show _ ≤ (16777216 : Nat); show _ + 2 + _ ≤ _; omega
    · unfold sqD
      rw [List.map_append, List.map_append]
      rfl
  rintro r ⟨tn, pm, le⟩
  refine Ws.le ?_ le
  refine wq_setd (d := tsD ts) (ye_v rfl) ?_
  have etD := tsD_eq ts
  refine ws_seq (fun r => ∃ t2 : Ts, t2.length ≤ 7 ∧ Le r (C (.d (sqD tn)) (.d (tsD t2)))) (ws_ifd (b := !ts.isEmpty) ((yt_truT (xs := ts.map tsR) ((ye_v (d := tsD ts) rfl).to etD)).to (by rw [List.isEmpty_map])) (fun z => ?_) fun _ => ws_next ⟨ts, tl, (by repeat' first | exact Le.nil | refine Le.cons ?_ ?_ | exact rfl | exact trivial)⟩) ?_
  · have t1 : 1 ≤ ts.length := by
      cases hh : ts with
      | nil => rw [hh] at z; exact nomatch z
      | cons a l => exact Nat.succ_le_succ (Nat.zero_le _)
    refine wq_set (i := 9) (P := isI fun r => 0 ≤ r ∧ r < (ts.length : Int)) (y_drd rfl ((yd_lenT (xs := ts.map tsR) ((ye_v (d := tsD ts) rfl).to etD)).to (e := .int (ts.length : Int)) (by rw [List.length_map])) (fun r h1 h2 => ⟨h1, by omega⟩) (by omega)) ?_
    rintro _ ⟨q, rfl, q0, q1⟩
    obtain ⟨q, rfl⟩ : ∃ j : Nat, q = (j : Int) := ⟨q.toNat, by omega⟩
    have ql : q < ts.length := by omega
    obtain ⟨a, ha⟩ : ∃ a, ts[q]? = some a := ⟨_, List.getElem?_eq_getElem ql⟩
    refine ws_set (P := fun d => ∃ t2 : Ts, t2.length ≤ 7 ∧ d = tsD t2) (ye_catT (Pa := fun d => ∃ v : Int, d = .tuple ((ts.take q).map tsR ++ [tsR (a.1, v)])) (Pb := fun d => d = .tuple ((ts.drop (q + 1)).map tsR)) (ye_catT (Pa := fun d => d = .tuple ((ts.take q).map tsR)) (Pb := fun d => ∃ v : Int, d = .tuple [tsR (a.1, v)]) ((yd_slT (xs := ts.map tsR) ((ye_v (d := tsD ts) rfl).to etD) yo_n (yo_i (ye_v (d := .int (q : Int)) rfl))).to (by rw [cut_to, List.map_take])) (ye_t1 (A := fun d => ∃ v : Int, d = tsR (a.1, v)) (ye_t2 (A := fun d => d = .int a.1) (B := isI fun _ => True) (yd_ixT (xs := [.int a.1, .int a.2]) (yd_ixT (xs := ts.map tsR) (d := tsR a) ((ye_v (d := tsD ts) rfl).to etD) (ye_v (d := .int (q : Int)) rfl) (atI_nat (by rw [List.getElem?_map, ha]; rfl))) ye_i rfl) (y_drd rfl ye_i fun r h1 h2 => trivial) fun x y e ⟨v, e2, _⟩ => ⟨v, by rw [e, e2]; rfl⟩) fun x ⟨v, e⟩ => ⟨v, by rw [e]⟩) fun x y e ⟨v, e2⟩ => ⟨_, _, e, e2, ?_, v, rfl⟩) ((yd_slT (xs := ts.map tsR) ((ye_v (d := tsD ts) rfl).to etD) (yo_i (yd_add (ye_v (d := .int (q : Int)) rfl) ye_i)) yo_n).to ?_) fun x y ⟨v, e⟩ e2 => ⟨_, _, e, e2, ?_, ts.set q (a.1, v), by rw [List.length_set]; exact tl, ?_⟩) fun d ⟨t2, h, e⟩ => ⟨t2, h, by rw [e]; exact (by repeat' first | exact Le.nil | refine Le.cons ?_ ?_ | exact rfl | exact trivial)⟩
    · rw [List.length_map, List.length_take]; show _ ≤ (16777216 : Nat); show _ + 1 ≤ _; omega
    · rw [show (q : Int) + 1 = ((q + 1 : Nat) : Int) by omega, cut_from, List.map_drop]
    · rw [List.length_append, List.length_map, List.length_map, List.length_take, List.length_drop]; show _ ≤ (16777216 : Nat); show _ + 1 + _ ≤ _; omega
    · rw [tsD_eq, ← cut_setL ql (a.1, v), List.map_append, List.map_append]
      rfl
  rintro r ⟨t2, t2l, le⟩
  refine Ws.le ?_ le
  let R1 : List (List Od × List Nat × Ts) := [(os, sq, ts), (os, sq, t2), (os, tn, t2), (ot, tn, t2)]
  let R2 : List (List Od × List Nat × Ts) := [(ot, tn, ts), (ot, sq, ts), (os, sq, ts)]
  refine wq_setmd (xs := R1.map r3T) (nd_l4 (yd_t3 (ye_v rfl) (ye_v rfl) (ye_v rfl)) (yd_t3 (ye_v rfl) (ye_v rfl) (ye_v rfl)) (yd_t3 (ye_v rfl) (ye_v rfl) (ye_v rfl)) (yd_t3 (ye_v rfl) (ye_v rfl) (ye_v rfl))) ?_
  refine wq_setmd (nd_cat (xs := R1.map r3T) (ys := R2.map r3T) (rl_v rfl) (nd_l3 (yd_t3 (ye_v rfl) (ye_v rfl) (ye_v rfl)) (yd_t3 (ye_v rfl) (ye_v rfl) (ye_v rfl)) (yd_t3 (ye_v rfl) (ye_v rfl) (ye_v rfl))).rl (by show 4 + 3 ≤ (16777216 : Nat); decide)) ?_
  refine ws_freeze 11 rfl ?_
  obtain ⟨j, hj⟩ : ∃ j, sq[sq.length - 1]? = some j := ⟨_, List.getElem?_eq_getElem (by omega)⟩
  have jm : j ∈ sq := List.mem_of_getElem? hj
  have okS : ∀ {os' : List Od} {sq' : List Nat}, OdD m os' → sq'.Perm sq → SqOk os' sq' ∧ sq'.Nodup ∧ j ∈ sq' := fun h1 h2 => ⟨⟨by rw [h2.length_eq]; exact sl, fun i hi => by rw [h1.l, ← od.l]; exact ok.lt i (h2.mem_iff.mp hi)⟩, h2.nodup_iff.mpr nd, h2.mem_iff.mpr jm⟩
  have all : ∀ x ∈ R1 ++ R2, SqOk x.1 x.2.1 ∧ x.2.1.Nodup ∧ j ∈ x.2.1 ∧ x.2.2.length ≤ 7 ∧ x.2.1.length ≤ 2000 := fun x hx => by
    have key : OdD m x.1 ∧ x.2.1.Perm sq ∧ x.2.2.length ≤ 7 := by
      rcases List.mem_append.mp hx with hx | hx
      · rcases List.mem_cons.mp hx with rfl | hx
        · exact ⟨od, .refl _, tl⟩
        rcases List.mem_cons.mp hx with rfl | hx
        · exact ⟨od, .refl _, t2l⟩
        rcases List.mem_cons.mp hx with rfl | hx
        · exact ⟨od, pm, t2l⟩
        rw [List.mem_singleton.mp hx]
        exact ⟨od2, pm, t2l⟩
      · rcases List.mem_cons.mp hx with rfl | hx
        · exact ⟨od2, pm, tl⟩
        rcases List.mem_cons.mp hx with rfl | hx
        · exact ⟨od2, .refl _, tl⟩
        rw [List.mem_singleton.mp hx]
        exact ⟨od, .refl _, tl⟩
    obtain ⟨a, b, c⟩ := okS key.1 key.2.1
    exact ⟨a, b, c, key.2.2, by have := a.l; omega⟩
  let E : Rho := [.no, .no, .no, .d (sqD sq), .no, .no, .no, .no, .no, .no, .no, .d (.list ((R1 ++ R2).map r3T)), .no, .no]
  have lst : ∀ {ρ : Rho}, ρ[3]? = some (.d (sqD sq)) → Pd K (tOp (rIx K) (tVar 3) (tUn (rU fun i => .int (-i)) (tC (.int 1)))) ρ (.int (j : Int)) := fun e => yd_ixT (xs := sq.map niD) (ye_v e) (yd_ng ye_i) (by
    have e1 : ixN (sq.map niD).length (-1) = some (sq.length - 1) := by
      unfold ixN
      rw [List.length_map, if_neg (by omega), if_pos (by omega)]
      congr 1
      omega
    unfold atI
    rw [e1]
    show (sq.map niD)[sq.length - 1]? = _
    rw [List.getElem?_map, hj]
    rfl)
  refine ws_seq (fun r => True) (ws_ford (xs := (R1 ++ R2).map r3T) (it_l (xs := (R1 ++ R2).map r3T) ((ye_v (d := .list (R1.map r3T ++ R2.map r3T)) rfl).to (by rw [List.map_append]))) (fun _ r => Le r E) (show Le _ [.no, .no, .no, .d (sqD sq), .no, .no, .no, .no, .no, .no, .no, .d (.list ((R1 ++ R2).map r3T)), .no, .no] by rw [List.map_append]; exact (by repeat' first | exact Le.nil | refine Le.cons ?_ ?_ | exact rfl | exact trivial)) ?_ fun r h => trivial) fun r _ => ws_retd ye_b hP
  intro i z r hi le
  rw [List.getElem?_map] at hi
  obtain ⟨x, hx, rfl⟩ := Option.map_eq_some_iff.mp hi
  obtain ⟨a1, a2, a3, a4, a5⟩ := all x (List.mem_of_getElem? hx)
  obtain ⟨l, md⟩ := Mvd.ex x.1 (totT x.2.2) a2 a3
  have c0 : ∀ {ρ : Rho}, ρ[12]? = some (.d (r3T x)) → Pd K (tOp (rIx K) (tVar 12) (tC (.int 0))) ρ (odsD x.1) := fun {ρ} e => yd_ixT (xs := [odsD x.1, sqD x.2.1, tsD x.2.2]) (ye_v e) ye_i rfl
  have c1 : ∀ {ρ : Rho}, ρ[12]? = some (.d (r3T x)) → Pd K (tOp (rIx K) (tVar 12) (tC (.int 1))) ρ (sqD x.2.1) := fun {ρ} e => yd_ixT (xs := [odsD x.1, sqD x.2.1, tsD x.2.2]) (ye_v e) ye_i rfl
  have c2 : ∀ {ρ : Rho}, ρ[12]? = some (.d (r3T x)) → Pd K (tOp (rIx K) (tVar 12) (tC (.int 2))) ρ (tsD x.2.2) := fun {ρ} e => yd_ixT (xs := [odsD x.1, sqD x.2.1, tsD x.2.2]) (ye_v e) ye_i rfl
  refine ⟨_, _, yg_n, Ws.le ?_ (le.seta (j := 12) (x := .d (r3T x)))⟩
  refine wq_setd (d := sqD l) (ye_cl (ya_d (c0 rfl) (ya_d (c1 rfl) (ya_d (lst rfl) (ya_d ((ye_keepV (P := fun es => es = mkD (tsE x.2.2)) (nx_call (P := fun m => ∃ l es, m = dkM l es ∧ es = mkD (tsE x.2.2)) (ya_d (c2 rfl) ya_n) rfl ⟨x.2.2, rfl, by omega, fun l => ⟨l, _, rfl, rfl⟩⟩)).imp fun d ⟨es, h, e⟩ => by rw [e, h]) ya_n)))) rfl ⟨_, _, _, j, l, rfl, a1, a2, a3, md, rfl⟩) ?_
  exact ws_ifd (b := false) (yt_notd (b := true) (yt_B (ye_cl (P := fun d => d = .bool true) (ya_d (ye_cl (P := fun d => d = sqD l) (ya_d (c0 rfl) (ya_d (c1 rfl) (ya_d (lst rfl) (ya_d (c2 rfl) ya_n)))) rfl ⟨_, _, _, j, l, rfl, a1, a2, a3, md, rfl⟩) (ya_d (ye_v rfl) ya_n)) rfl ⟨_, rfl, sq_plain l (by rw [md.len]; exact a5), rfl⟩))) (fun z => nomatch z) fun _ => ws_next (by repeat' first | exact Le.nil | refine Le.cons ?_ ?_ | exact rfl | exact trivial)


def indN (k : Nat) : Nat → Int := fun x => if x = k then 1 else 0
theorem ind_nn (k : Nat) : ∀ l : List Nat, 0 ≤ (l.map (indN k)).sum
  | [] => Int.le_refl _
  | a :: l => by
    rw [List.map_cons, List.sum_cons]
    have := ind_nn k l
    unfold indN at this ⊢
    split <;> omega
theorem ind_one {k : Nat} : ∀ {l : List Nat} {i : Nat}, l[i]? = some k → 1 ≤ (l.map (indN k)).sum
  | [], i, h => by simp at h
  | a :: l, 0, h => by
    have e : a = k := by simpa using h
    rw [List.map_cons, List.sum_cons]
    have := ind_nn k l
    have : indN k a = 1 := if_pos e
    omega
  | a :: l, i + 1, h => by
    have := ind_one (l := l) (i := i) (by simpa using h)
    rw [List.map_cons, List.sum_cons]
    have : 0 ≤ indN k a := by unfold indN; split <;> omega
    omega
theorem ind_two {k : Nat} : ∀ {l : List Nat} {i j : Nat}, i < j → l[i]? = some k → l[j]? = some k → 2 ≤ (l.map (indN k)).sum
  | [], i, j, _, h, _ => by simp at h
  | a :: l, 0, 0, hij, _, _ => absurd hij (Nat.lt_irrefl _)
  | a :: l, 0, j + 1, _, h1, h2 => by
    have e : a = k := by simpa using h1
    have := ind_one (l := l) (i := j) (by simpa using h2)
    rw [List.map_cons, List.sum_cons]
    have : indN k a = 1 := if_pos e
    omega
  | a :: l, i + 1, 0, hij, _, _ => absurd hij (Nat.not_lt_zero _)
  | a :: l, i + 1, j + 1, hij, h1, h2 => by
    have := ind_two (l := l) (i := i) (j := j) (by omega) (by simpa using h1) (by simpa using h2)
    rw [List.map_cons, List.sum_cons]
    have : 0 ≤ indN k a := by unfold indN; split <;> omega
    omega
theorem ind_mem {k : Nat} : ∀ {l : List Nat}, 0 < (l.map (indN k)).sum → k ∈ l
  | [], h => absurd h (Int.lt_irrefl 0)
  | a :: l, h => by
    rw [List.map_cons, List.sum_cons] at h
    by_cases e : a = k
    · rw [e]
      exact List.mem_cons_self
    · have : indN k a = 0 := if_neg e
      exact List.mem_cons_of_mem _ (ind_mem (by omega))
theorem ind_range (k m : Nat) : ((List.range m).map (indN k)).sum = if k < m then 1 else 0 := by
  induction m with
  | zero => rfl
  | succ m ih =>
    rw [List.range_succ, List.map_append, List.sum_append, ih]
    show _ + (indN k m + 0) = _
    unfold indN
    by_cases a : k < m
    · rw [if_pos a, if_neg (by omega), if_pos (by omega)]
      rfl
    · by_cases b : m = k
      · rw [if_neg a, if_pos b, if_pos (by omega)]
        rfl
      · rw [if_neg a, if_neg b, if_neg (by omega)]
        rfl
theorem nd_at {gs : List Int} (nd : gs.Nodup) {i j : Nat} {g : Int} (h1 : gs[i]? = some g) (h2 : gs[j]? = some g) : i = j := by
  obtain ⟨a, ea⟩ := List.getElem?_eq_some_iff.mp h1
  obtain ⟨b, eb⟩ := List.getElem?_eq_some_iff.mp h2
  rw [List.nodup_iff_pairwise_ne, List.pairwise_iff_getElem] at nd
  rcases Nat.lt_trichotomy i j with h | h | h
  · exact absurd (ea.trans eb.symm) (nd i j a b h)
  · exact h
  · exact absurd (eb.trans ea.symm) (nd j i b a h)


theorem ord_inj {m : Nat} {os : List Nat} (h : Order m os) {i j k : Nat} (h1 : os[i]? = some k) (h2 : os[j]? = some k) : i = j := by
  have s := h.sum (indN k)
  rw [ind_range] at s
  have le : (if k < m then (1 : Int) else 0) ≤ 1 := by split <;> omega
  rcases Nat.lt_trichotomy i j with q | q | q
  · have := ind_two q h1 h2
    omega
  · exact q
  · have := ind_two q h2 h1
    omega
theorem ord_sur {m : Nat} {os : List Nat} (h : Order m os) {k : Nat} (hk : k < m) : ∃ j : Nat, os[j]? = some k := by
  have s := h.sum (indN k)
  rw [ind_range, if_pos hk] at s
  exact List.getElem?_of_mem (ind_mem (by omega))


theorem order_nd {m : Nat} {ns : List Nat} (inj : ∀ {i j k : Nat}, ns[i]? = some k → ns[j]? = some k → i = j) : ns.Nodup := by
  rw [List.nodup_iff_pairwise_ne, List.pairwise_iff_getElem]
  intro i j hi hj hij e
  have := inj (List.getElem?_eq_getElem hi) (e ▸ List.getElem?_eq_getElem hj)
  omega
theorem eqS_self {d : PyData} (h : (∃ n, d = niD n) ∨ d = .none) : scalD d d = true ∧ eqS d d = true := by
  rcases h with ⟨n, rfl⟩ | rfl
  · exact ⟨rfl, by show ((n : Int) == (n : Int)) = true; exact beq_self_eq_true _⟩
  · exact ⟨rfl, rfl⟩
theorem Own.kind {os : List Od} {sq : List Nat} {p u : Int} {d : PyData} (h : Own os sq p u d) : (∃ n, d = niD n) ∨ d = .none := by
  rcases h with ⟨k, j, _, _, _, e⟩ | ⟨_, e⟩
  · exact .inl ⟨j, e⟩
  · exact .inr e
/-- units that are there belong to the same orders -/
theorem Mvd.own {os : List Od} {sq mv : List Nat} {T : Int → Int} {j : Nat} (oo : OdsOk os) (ok : SqOk os sq) (nd : sq.Nodup) (h : Mvd os sq T j mv) {u : Int} (h1 : 1 ≤ u) (h2 : u ≤ T (ord os j).p) {d : PyData} (ow : Own os sq (ord os j).p u d) : Own os mv (ord os j).p u d := by
  cases h with
  | started => exact ow
  | @moved w a hs ok2 ha ca hbf hF =>
    have wl := (List.getElem?_eq_some_iff.mp ha).1
    refine own_same (w := w) ok2.take.symm (by omega) (by rw [ok2.len]; omega) ok.lt h1 ?_ ow
    have aw : sq.idxOf a = w := idx_at nd ha
    unfold wtB at ca
    rw [aw, Bool.and_eq_true, decide_eq_true_iff, Bool.not_eq_true', decide_eq_false_iff_not] at ca
    have b1 := bfK_at (os := os) ha
    rw [ca.1] at b1
    omega
theorem totT_nn {ts : Ts} (h : ∀ q ∈ ts, 0 ≤ q.2) (p : Int) : 0 ≤ totT ts p := by
  have go : ∀ (ts : Ts) (f : Int → Int), (∀ q ∈ ts, 0 ≤ q.2) → (∀ p, 0 ≤ f p) → ∀ p, 0 ≤ (ts.foldl (fun f a p => if p = a.1 then a.2 else f p) f) p := fun ts => by
    induction ts with
    | nil => exact fun f _ h p => h p
    | cons a ts ih =>
      intro f ha hf p
      refine ih (fun p => if p = a.1 then a.2 else f p) (fun q hq => ha q (List.mem_cons_of_mem _ hq)) (fun p => ?_) p
      show 0 ≤ if p = a.1 then a.2 else f p
      split
      · exact ha a List.mem_cons_self
      · exact hf p
  exact go ts (fun _ => 0) h (fun _ => Int.le_refl _) p

abbrev s_law : Stmt := topS 24
theorem sc_law : FnScope ["script", "tape", "pool", "orders", "sequence", "totals", "availability", "table", "order", "told", "product", "unit"] ["script"] (defScope s_law) := ⟨rfl, rfl, rfl, by decide +kernel, rfl, by decide +kernel, by decide +kernel⟩
theorem ok_law {Pg : Program} {w : World} {K : PySem.W.Frag} {mg : Str → Option Value} {base : Heap} (T : Tx K mg) (C__law_tape : Cal Pg w K mg base 1 "_law_tape" ["script"] (spTape K)) (C__law_numbers : Cal Pg w K mg base 2 "_law_numbers" ["tape"] (spR K 1 R__law_numbers)) (C__law_spread : Cal Pg w K mg base 2 "_law_spread" ["tape", "pool", "orders"] (spR K 3 R__law_spread)) (C__law_orders_drawn : Cal Pg w K mg base 2 "_law_orders_drawn" ["tape", "pool", "many"] (spR K 3 R__law_orders_drawn)) (C__law_draw : Cal Pg w K mg base 1 "_law_draw" ["tape", "many"] (spR K 2 R__law_draw)) (C__law_order : Cal Pg w K mg base 2 "_law_order" ["tape", "many"] (spR K 2 R__law_order)) (C__law_totals_drawn : Cal Pg w K mg base 3 "_law_totals_drawn" ["tape", "pool", "orders", "sequence"] (spR K 4 R__law_totals_drawn)) (C__law_all_available : Cal Pg w K mg base 3 "_law_all_available" ["tape", "pool", "orders"] (spR K 3 R__law_all_available)) (C__law_table : Cal Pg w K mg base 1 "_law_table" ["totals"] (spM K 1 RM__law_table)) (C_expedited : Cal Pg w K mg base 3 "expedited" ["orders", "sequence", "order", "totals"] (spR K 4 R_expedited)) (C__law_same : Cal Pg w K mg base 6 "_law_same" ["told", "due"] (spR K 2 (R__law_same 6))) (C__law_moved : Cal Pg w K mg base 2 "_law_moved" ["orders", "sequence", "order", "table"] (spR K 4 R__law_moved)) (C__law_keeps : Cal Pg w K mg base 7 "_law_keeps" ["orders", "sequence", "moved", "order", "table", "availability"] (spR K 6 R__law_keeps)) (C_order_of : Cal Pg w K mg base 2 "order_of" ["orders", "sequence", "product", "unit"] (spR K 4 R_order_of)) (C__law_again : Cal Pg w K mg base 7 "_law_again" ["tape", "pool", "orders", "sequence", "totals"] (spR K 5 R__law_again)) {f : Addr} {fd : FuncData} (F : Fun K "law" "law" s_law f fd) : FnOk Pg w K mg base CX0 8 f fd ["script"] (spLaw K) := by
  refine F.ok sc_law (fun vs H Q E h => ?_) (fun cdv A outer s H vs Q E hr h => ?_)
  · obtain ⟨a, ns, rfl, _⟩ := h
    rfl
  obtain ⟨a, ns, rfl, hS, hl, q⟩ := h
  refine ⟨_, (pss_cons (ps_set (i := 1) sc_law.nd rfl (Or.inl rfl) (pe_cal C__law_tape hr (pa_cons (pv 0) pa_nil)))
    (pss_cons (ps_set (i := 2) sc_law.nd rfl (Or.inl rfl) (pe_cal C__law_numbers hr (pa_cons (pv 1) pa_nil)))
    (pss_cons (ps_set (i := 3) sc_law.nd rfl (Or.inl rfl) (pe_cal C__law_spread hr (pa_cons (pv 1) (pa_cons (pv 2) (pa_cons (pe_cal C__law_orders_drawn hr (pa_cons (pv 1) (pa_cons (pv 2) (pa_cons (pe_op opx_add pe_int (pe_cal C__law_draw hr (pa_cons (pv 1) (pa_cons pe_int pa_nil)))) pa_nil)))) pa_nil)))))
    (pss_cons (ps_set (i := 4) sc_law.nd rfl (Or.inl rfl) (pe_slice slx (pe_callTy call_tupQ (by rfl) T.b_tuple (by decide +kernel) (pa_cons (pe_cal C__law_order hr (pa_cons (pv 1) (pa_cons (pe_callB call_len_seq (by rfl) T.b_len (by decide +kernel) (pa_cons (pv 3) pa_nil)) pa_nil))) pa_nil)) po_none (po_some (pe_ix ix_seq (pe_lst (pa_cons pe_int (pa_cons pe_int (pa_cons (pe_cal C__law_draw hr (pa_cons (pv 1) (pa_cons pe_int pa_nil))) pa_nil)))) (pe_cal C__law_draw hr (pa_cons (pv 1) (pa_cons pe_int pa_nil))) (fun _ _ => rfl)))))
    (pss_cons (ps_set (i := 5) sc_law.nd rfl (Or.inl rfl) (pe_cal C__law_totals_drawn hr (pa_cons (pv 1) (pa_cons (pv 2) (pa_cons (pv 3) (pa_cons (pv 4) pa_nil))))))
    (pss_cons (ps_set (i := 6) sc_law.nd rfl (Or.inl rfl) (pe_cal C__law_all_available hr (pa_cons (pv 1) (pa_cons (pv 2) (pa_cons (pv 3) pa_nil)))))
    (pss_cons (ps_set (i := 7) sc_law.nd rfl (Or.inl rfl) (pe_cal C__law_table hr (pa_cons (pv 5) pa_nil)))
    (pss_cons (ps_keep (ps_for PassesOwn.never rfl (pi_seq (pv 4)) (pg_name (i := 8) sc_law.nd rfl (Or.inl rfl))
    (pss_cons (ps_set (i := 9) sc_law.nd rfl (Or.inl rfl) (pe_cal C_expedited hr (pa_cons (pv 3) (pa_cons (pv 4) (pa_cons (pv 8) (pa_cons (pv 5) pa_nil))))))
    (pss_cons (ps_if (pt_not (pt_val (pe_cal C__law_same hr (pa_cons (pv 9) (pa_cons (pe_cal C__law_moved hr (pa_cons (pv 3) (pa_cons (pv 4) (pa_cons (pv 8) (pa_cons (pv 7) pa_nil))))) pa_nil))))) (pss_one (ps_ret pe_bl)) pss_nil)
    (pss_cons (ps_if (pt_not (pt_val (pe_cal C__law_keeps hr (pa_cons (pv 3) (pa_cons (pv 4) (pa_cons (pv 9) (pa_cons (pv 8) (pa_cons (pv 7) (pa_cons (pv 6) pa_nil))))))))) (pss_one (ps_ret pe_bl)) pss_nil)
    (pss_cons (ps_set (i := 10) sc_law.nd rfl (Or.inl rfl) (pe_ix ix_seq (pe_ix ix_seq (pv 3) (pv 8) (fun _ _ => rfl)) pe_int (fun _ _ => rfl)))
    (pss_one (ps_for PassesOwn.never rfl (pi_range2 rfl T.b_range (pa_cons pe_int (pa_cons (pe_op opx_add (pe_callB (callx_min rfl) (by rfl) T.b_min (by decide +kernel) (pa_cons (pe_dget2 (room_u hr) (pv 7) (pv 10) pe_int ⟨by rfl, by rfl, by rfl, by rfl⟩) (pa_cons pe_int pa_nil))) pe_int) pa_nil))) (pg_name (i := 11) sc_law.nd rfl (Or.inl rfl))
    (pss_one (ps_if (pt_cmpR (opx_ne hr) (pe_cal C_order_of hr (pa_cons (pv 3) (pa_cons (pv 9) (pa_cons (pv 10) (pa_cons (pv 11) pa_nil))))) (pe_cal C_order_of hr (pa_cons (pv 3) (pa_cons (pv 4) (pa_cons (pv 10) (pa_cons (pv 11) pa_nil))))) (nomark _)) (pss_one (ps_ret pe_bl)) pss_nil))))))))))
    (pss_one (ps_ret (pe_or (pe_notT (pv 4)) (pe_one (pe_cal C__law_again hr (pa_cons (pv 1) (pa_cons (pv 2) (pa_cons (pv 3) (pa_cons (pv 4) (pa_cons (pv 5) pa_nil)))))))))))))))))), ?_⟩
  refine law_go (m := 10) hS q rfl ?_
  refine wq_set (P := fun d => ∃ ns, Pool ns ∧ d = .list (ns.map .int)) (ye_cl (ya_td rfl ya_n) rfl ⟨rfl, fun ns h => ⟨ns, h, rfl⟩⟩) ?_
  rintro _ ⟨ns, po, rfl⟩
  have nl := po.l
  refine wq_set (P := fun d => ∃ (m : Nat) (os : List Od), (1 ≤ m ∧ m ≤ 6) ∧ OdD m os ∧ d = odsD os) (ye_call (PA := fun ss => ∃ (m : Nat) (os : List Od), (1 ≤ m ∧ m ≤ 6) ∧ OdD m os ∧ ss = [.tp, .d (.list (ns.map .int)), .d (odsD os)]) (ya_t (PA := fun ss => ∃ (m : Nat) (os : List Od), (1 ≤ m ∧ m ≤ 6) ∧ OdD m os ∧ ss = [.d (.list (ns.map .int)), .d (odsD os)]) rfl (ya_c (P := fun d => d = .list (ns.map .int)) (PA := fun ss => ∃ (m : Nat) (os : List Od), (1 ≤ m ∧ m ≤ 6) ∧ OdD m os ∧ ss = [.d (odsD os)]) (ye_v rfl) (ya_c (P := fun d => ∃ (m : Nat) (os : List Od), (1 ≤ m ∧ m ≤ 6) ∧ OdD m os ∧ d = odsD os) (ye_call (PA := fun ss => ∃ m : Nat, (1 ≤ m ∧ m ≤ 6) ∧ ss = [.tp, .d (.list (ns.map .int)), .d (.int (m : Int))]) (ya_t (PA := fun ss => ∃ m : Nat, (1 ≤ m ∧ m ≤ 6) ∧ ss = [.d (.list (ns.map .int)), .d (.int (m : Int))]) rfl (ya_c (P := fun d => d = .list (ns.map .int)) (PA := fun ss => ∃ m : Nat, (1 ≤ m ∧ m ≤ 6) ∧ ss = [.d (.int (m : Int))]) (ye_v rfl) (ya_c (P := isI fun r => 1 ≤ r ∧ r < 7) (isI_add (isI_of (C := fun r => r = 1) ye_i rfl) (y_drd (D := fun r => 0 ≤ r ∧ r < 6) rfl ye_i fun r h1 h2 => ⟨h1, by omega⟩) fun x y h1 h2 => by omega) ya_n fun d ss ⟨r, e, r0, r1⟩ e2 => ⟨r.toNat, by omega, by rw [e, e2, Int.toNat_of_nonneg (by omega)]⟩) fun d ss e ⟨m, h, e2⟩ => ⟨m, h, by rw [e, e2]⟩) fun ss ⟨m, h, e⟩ => ⟨m, h, by rw [e]⟩) fun ss ⟨m, h, e⟩ => ⟨by rw [e]; rfl, ns, m, e, ⟨by omega, po.b⟩, h.2, fun os ho => ⟨m, os, h, ho, rfl⟩⟩) ya_n fun d ss ⟨m, os, h, ho, e⟩ e2 => ⟨m, os, h, ho, by rw [e, e2]⟩) fun d ss e ⟨m, os, h, ho, e2⟩ => ⟨m, os, h, ho, by rw [e, e2]⟩) fun ss ⟨m, os, h, ho, e⟩ => ⟨m, os, h, ho, by rw [e]⟩) fun ss ⟨m, os, h, ho, e⟩ => ⟨by rw [e]; rfl, ns, os, m, e, ⟨by omega, po.b⟩, h.2, ho, fun os' h' => ⟨m, os', h, h', rfl⟩⟩) ?_
  rintro _ ⟨m, os, ⟨m1, m6⟩, od, rfl⟩
  have oo := od.ok (by omega)
  have ol := od.l
  refine wq_set (P := fun d => ∃ sq : List Nat, SqOk os sq ∧ sq.Nodup ∧ sq.length ≤ 6 ∧ d = sqD sq) (ye_slT (Pa := fun d => ∃ l : List Nat, Order m l ∧ d = .tuple (l.map nZ)) (PL := fun o => o = none) (PH := fun o => ∃ r : Int, 0 ≤ r ∧ o = some r) (ye_tupR (rl_ofP (PL := fun xs => ∃ l : List Nat, Order m l ∧ xs = l.map nZ) (ye_cl (P := fun d => ∃ l : List Nat, Order m l ∧ d = .list (l.map nZ)) (ya_td rfl (ya_d ((yd_lenT (xs := os.map odD) (ye_v (d := odsD os) rfl)).to (e := .int (m : Int)) (by rw [List.length_map, ol])) ya_n)) rfl ⟨m, rfl, by omega, fun l h => ⟨l, h, rfl⟩⟩) fun d ⟨l, h, e⟩ => ⟨_, e, l, h, rfl⟩) fun xs ⟨l, h, e⟩ => ⟨l, h, by rw [e]⟩) yo_n (yo_e (Pa := isI fun r => 0 ≤ r) (ye_menu (Q := isI fun r => 0 ≤ r) (n := 3) (ya_1 (isI_of ye_i (by decide)) (ya_1 (isI_of ye_i (by decide)) (ya_1 (y_drd rfl ye_i fun r h1 h2 => h1) ya_0))) (y_drd rfl ye_i fun r h1 h2 => ⟨h1, by omega⟩)) fun x ⟨r, e, h⟩ => ⟨r, e, r, h, rfl⟩) ?_) ?_
  · rintro _ _ _ ⟨l, h, rfl⟩ rfl ⟨r, r0, rfl⟩
    obtain ⟨r, rfl⟩ : ∃ i : Nat, r = (i : Int) := ⟨r.toNat, by omega⟩
    have hl := h.len
    refine ⟨_, rfl, l.take r, ⟨by rw [List.length_take]; omega, fun i hi => by rw [ol]; exact h.lt i (List.mem_of_mem_take hi)⟩, (order_nd (m := m) (ord_inj h)).sublist (List.take_sublist _ _), by rw [List.length_take]; omega, ?_⟩
    rw [cut_to, ← List.map_take]
    rfl
  rintro _ ⟨sq, ok, nd, s6, rfl⟩
  refine wq_set (P := fun d => ∃ ts : Ts, ts.length ≤ 7 ∧ (∀ q ∈ ts, 0 ≤ q.2) ∧ d = tsD ts) (ye_cl (ya_td rfl (ya_d (ye_v rfl) (ya_d (ye_v rfl) (ya_d (ye_v rfl) ya_n)))) rfl ⟨ns, os, sq, rfl, oo, ok, by omega, fun ts h h2 => ⟨ts, h, h2, rfl⟩⟩) ?_
  rintro _ ⟨ts, tl, tn, rfl⟩
  refine wq_set (P := fun d => ∃ av, AvOk 8 av ∧ d = avD av) (ye_cl (ya_td rfl (ya_d (ye_v rfl) (ya_d (ye_v rfl) ya_n))) rfl ⟨ns, os, rfl, oo, fun av h => ⟨av, h, rfl⟩⟩) ?_
  rintro _ ⟨av, avo, rfl⟩
  refine wq_setx (nx_call (P := fun m => ∃ l, m = dkM l (mkD (tsE ts))) (ya_d (ye_v rfl) ya_n) rfl ⟨ts, rfl, by omega, fun l => ⟨l, rfl⟩⟩) ?_
  rintro _ ⟨l, rfl⟩
  let B : Rho := [.no, .tp, .d (.list (ns.map .int)), .d (odsD os), .d (sqD sq), .d (tsD ts), .d (avD av), .d (dD (mkD (tsE ts))), .no, .no, .no, .no]
  refine ws_seq (fun r => Le r B) (Ws.keep (i := 7) rfl (ws_ford (xs := sq.map niD) (it_t (ye_v (d := sqD sq) rfl)) (fun i r => Le r B) (by repeat' first | exact Le.nil | refine Le.cons ?_ ?_ | exact rfl | exact trivial) ?_ (fun r h => h))) ?_
  · intro i z r hi le
    rw [List.getElem?_map] at hi
    obtain ⟨j, hj, rfl⟩ := Option.map_eq_some_iff.mp hi
    have jm : j ∈ sq := List.mem_of_getElem? hj
    have ho := ok.of_mem jm
    obtain ⟨mv, md⟩ := Mvd.ex os (totT ts) nd jm
    obtain ⟨okm, ndm, mm, _, _⟩ := md.rows oo ok nd jm
    refine ⟨_, _, yg_n, Ws.le ?_ (le.seta (j := 8) (x := .d (.int (j : Int))))⟩
    refine wq_setd (d := sqD mv) (ye_cl (ya_d (ye_v rfl) (ya_d (ye_v rfl) (ya_d (ye_v rfl) (ya_d (ye_v rfl) ya_n)))) rfl ⟨os, sq, ts, j, mv, rfl, ok, nd, jm, md, rfl⟩) ?_
    refine wq_skip (yt_notd (b := true) (yt_B (ye_cl (P := fun d => d = .bool true) (ya_d (ye_v rfl) (ya_d (ye_cl (P := fun d => d = sqD mv) (ya_d (ye_v rfl) (ya_d (ye_v rfl) (ya_d (ye_v rfl) (ya_d (ye_v rfl) ya_n)))) rfl ⟨os, sq, ts, j, mv, rfl, ok, nd, jm, md, rfl⟩) ya_n)) rfl ⟨_, rfl, sq_plain mv (by rw [md.len]; omega), rfl⟩))) ?_
    refine wq_skip (yt_notd (b := true) (yt_B (ye_cl (P := fun d => d = .bool true) (ya_d (ye_v rfl) (ya_d (ye_v rfl) (ya_d (ye_v rfl) (ya_d (ye_v rfl) (ya_d (ye_v rfl) (ya_d (ye_v rfl) ya_n)))))) rfl ⟨os, sq, mv, j, ts, av, 8, rfl, oo, ok, nd, jm, avo, md, rfl⟩))) ?_
    refine wq_setd (d := .int (ord os j).p) (yd_ixT (xs := [.int (ord os j).p, .int (ord os j).q, .int (ord os j).d]) (yd_ixT (xs := os.map odD) (d := odD (ord os j)) (ye_v (d := odsD os) rfl) (ye_v (d := .int (j : Int)) rfl) (atI_nat (by rw [List.getElem?_map, ho]; rfl))) ye_i rfl) ?_
    let C : Rho := [.no, .tp, .d (.list (ns.map .int)), .d (odsD os), .d (sqD sq), .d (tsD ts), .d (avD av), .d (dD (mkD (tsE ts))), .d (.int (j : Int)), .d (sqD mv), .d (.int (ord os j).p), .no]
    have get : ∀ {ρ : Rho}, ρ[7]? = some (.d (dD (mkD (tsE ts)))) → ρ[10]? = some (.d (.int (ord os j).p)) → Pd K (tDGet2 (tVar 7) (tVar 10) (tC (.int 0))) ρ (.int (totT ts (ord os j).p)) := fun e1 e2 => (yd_kget2 (es := mkD (tsE ts)) (k := .inl (ord os j).p) (ye_v e1) (ye_v e2) ye_i).to (tot_mk ts (ord os j).p)
    have tmin : ∀ x : Int, min x 20 + 1 ≤ 21 := fun x => by omega
    have tz := totT_nn tn (ord os j).p
    refine ws_ford (xs := rgD 1 (min (totT ts (ord os j).p) 20 + 1)) (it_r2 ye_i (yd_add (yd_min2 (get rfl rfl) ye_i) ye_i) ⟨by decide, by decide, by omega, by have := tmin (totT ts (ord os j).p); omega⟩) (fun _ r => Le r C) (Le.refl _) ?_ fun r h => h.trans (show Le C B from (by repeat' first | exact Le.nil | refine Le.cons ?_ ?_ | exact rfl | exact trivial))
    intro i z r hi le
    have il := (List.getElem?_eq_some_iff.mp hi).1
    rw [rg_at _ _ _ il] at hi
    rw [rg_len] at il
    cases hi
    obtain ⟨u, hu⟩ : ∃ u, u = 1 + (i : Int) := ⟨_, rfl⟩
    rw [← hu]
    have u1 : 1 ≤ u := by omega
    have u2 : u ≤ totT ts (ord os j).p := by omega
    obtain ⟨d, ow⟩ := Own.ex os sq (ord os j).p u
    have ow2 := md.own oo ok nd u1 u2 ow
    obtain ⟨k1, k2⟩ := eqS_self ow.kind
    refine ⟨_, _, yg_n, Ws.le ?_ (le.seta (j := 11) (x := .d (.int u)))⟩
    exact ws_ifd (b := false) (yt_d ((yd_neS (x := d) (y := d) (ye_cl (P := fun y => y = d) (ya_d (ye_v rfl) (ya_d (ye_v rfl) (ya_d (ye_v rfl) (ya_d (ye_v rfl) ya_n)))) rfl ⟨_, _, _, _, d, rfl, okm, ow2, rfl⟩) (ye_cl (P := fun y => y = d) (ya_d (ye_v rfl) (ya_d (ye_v rfl) (ya_d (ye_v rfl) (ya_d (ye_v rfl) ya_n)))) rfl ⟨_, _, _, _, d, rfl, ok, ow, rfl⟩) k1).to (by rw [k2]; rfl))) (fun z => nomatch z) fun _ => ws_next (by repeat' first | exact Le.nil | refine Le.cons ?_ ?_ | exact rfl | exact trivial)
  intro r le
  refine Ws.le ?_ le
  by_cases e : sq = []
  · subst e
    exact ws_ret (P := fun d => d = .bool true) ((yd_orV (a := true) (b := true) (yd_notT (xs := []) (ye_v (d := sqD []) rfl)) fun z => nomatch z).to rfl) fun d h => h
  · have em : (sq.map niD).isEmpty = false := by
      rw [List.isEmpty_map]
      cases sq with
      | nil => exact absurd rfl e
      | cons => rfl
    exact ws_ret (P := fun d => d = .bool true) ((yd_orV (a := false) (b := true) ((yd_notT (xs := sq.map niD) (ye_v (d := sqD sq) rfl)).to (by rw [em])) fun _ => ye_cl (P := fun d => d = .bool true) (ya_td rfl (ya_d (ye_v rfl) (ya_d (ye_v rfl) (ya_d (ye_v rfl) (ya_d (ye_v rfl) ya_n))))) rfl ⟨ns, os, m, sq, ts, rfl, ⟨by omega, po.b⟩, m1, m6, od, ok, nd, e, tl, rfl⟩).to rfl) fun d h => h


theorem all_mk {l : PySem.W.OpenLaw} {w : World} {K : PySem.W.Frag} {h : Heap} {mg : Str → Option Value} {fa f0 f1 f2 f3 f4 f5 f6 f7 f8 f9 f10 f11 f12 f13 f14 f15 f16 f17 f18 f19 f20 f21 f22 : Addr} (X : K.In h) (G : h.Ns mainGlobals mg) (hfa : mg "law" = some (.ref fa))
    {od0 an0 : Option Addr} {sl0 : Array (Option Value)} {oc0 kV0 dc0 pm0 cd0 ct0 : Value}
    (a0 : PySem.W.nsIn K mainGlobals "_law_tape" = some (some (.ref f0))) (l0 : K.lookup f0 = some ⟨oc0, od0, .func (PySem.W.fnOf "_law_tape" "_law_tape" (defArgs s__law_tape) (defBody s__law_tape) (defScope s__law_tape) .none kV0 dc0 pm0 an0 cd0 ct0), sl0⟩) (c0 : PySem.W.codeIn K cd0 "_law_tape" = true) (k0 : PySem.W.keepIn K (.ref f0) = true)
    {od1 an1 : Option Addr} {sl1 : Array (Option Value)} {oc1 kV1 dc1 pm1 cd1 ct1 : Value}
    (a1 : PySem.W.nsIn K mainGlobals "_law_draw" = some (some (.ref f1))) (l1 : K.lookup f1 = some ⟨oc1, od1, .func (PySem.W.fnOf "_law_draw" "_law_draw" (defArgs s__law_draw) (defBody s__law_draw) (defScope s__law_draw) .none kV1 dc1 pm1 an1 cd1 ct1), sl1⟩) (c1 : PySem.W.codeIn K cd1 "_law_draw" = true) (k1 : PySem.W.keepIn K (.ref f1) = true)
    {od2 an2 : Option Addr} {sl2 : Array (Option Value)} {oc2 kV2 dc2 pm2 cd2 ct2 : Value}
    (a2 : PySem.W.nsIn K mainGlobals "_law_numbers" = some (some (.ref f2))) (l2 : K.lookup f2 = some ⟨oc2, od2, .func (PySem.W.fnOf "_law_numbers" "_law_numbers" (defArgs s__law_numbers) (defBody s__law_numbers) (defScope s__law_numbers) .none kV2 dc2 pm2 an2 cd2 ct2), sl2⟩) (c2 : PySem.W.codeIn K cd2 "_law_numbers" = true) (k2 : PySem.W.keepIn K (.ref f2) = true)
    {od3 an3 : Option Addr} {sl3 : Array (Option Value)} {oc3 kV3 dc3 pm3 cd3 ct3 : Value}
    (a3 : PySem.W.nsIn K mainGlobals "_law_spread" = some (some (.ref f3))) (l3 : K.lookup f3 = some ⟨oc3, od3, .func (PySem.W.fnOf "_law_spread" "_law_spread" (defArgs s__law_spread) (defBody s__law_spread) (defScope s__law_spread) .none kV3 dc3 pm3 an3 cd3 ct3), sl3⟩) (c3 : PySem.W.codeIn K cd3 "_law_spread" = true) (k3 : PySem.W.keepIn K (.ref f3) = true)
    {od4 an4 : Option Addr} {sl4 : Array (Option Value)} {oc4 kV4 dc4 pm4 cd4 ct4 : Value}
    (a4 : PySem.W.nsIn K mainGlobals "_law_orders_drawn" = some (some (.ref f4))) (l4 : K.lookup f4 = some ⟨oc4, od4, .func (PySem.W.fnOf "_law_orders_drawn" "_law_orders_drawn" (defArgs s__law_orders_drawn) (defBody s__law_orders_drawn) (defScope s__law_orders_drawn) .none kV4 dc4 pm4 an4 cd4 ct4), sl4⟩) (c4 : PySem.W.codeIn K cd4 "_law_orders_drawn" = true) (k4 : PySem.W.keepIn K (.ref f4) = true)
    {od5 an5 : Option Addr} {sl5 : Array (Option Value)} {oc5 kV5 dc5 pm5 cd5 ct5 : Value}
    (a5 : PySem.W.nsIn K mainGlobals "_law_order" = some (some (.ref f5))) (l5 : K.lookup f5 = some ⟨oc5, od5, .func (PySem.W.fnOf "_law_order" "_law_order" (defArgs s__law_order) (defBody s__law_order) (defScope s__law_order) .none kV5 dc5 pm5 an5 cd5 ct5), sl5⟩) (c5 : PySem.W.codeIn K cd5 "_law_order" = true) (k5 : PySem.W.keepIn K (.ref f5) = true)
    {od6 an6 : Option Addr} {sl6 : Array (Option Value)} {oc6 kV6 dc6 pm6 cd6 ct6 : Value}
    (a6 : PySem.W.nsIn K mainGlobals "_law_first_unit" = some (some (.ref f6))) (l6 : K.lookup f6 = some ⟨oc6, od6, .func (PySem.W.fnOf "_law_first_unit" "_law_first_unit" (defArgs s__law_first_unit) (defBody s__law_first_unit) (defScope s__law_first_unit) .none kV6 dc6 pm6 an6 cd6 ct6), sl6⟩) (c6 : PySem.W.codeIn K cd6 "_law_first_unit" = true) (k6 : PySem.W.keepIn K (.ref f6) = true)
    {od7 an7 : Option Addr} {sl7 : Array (Option Value)} {oc7 kV7 dc7 pm7 cd7 ct7 : Value}
    (a7 : PySem.W.nsIn K mainGlobals "_law_pick" = some (some (.ref f7))) (l7 : K.lookup f7 = some ⟨oc7, od7, .func (PySem.W.fnOf "_law_pick" "_law_pick" (defArgs s__law_pick) (defBody s__law_pick) (defScope s__law_pick) .none kV7 dc7 pm7 an7 cd7 ct7), sl7⟩) (c7 : PySem.W.codeIn K cd7 "_law_pick" = true) (k7 : PySem.W.keepIn K (.ref f7) = true)
    {od8 an8 : Option Addr} {sl8 : Array (Option Value)} {oc8 kV8 dc8 pm8 cd8 ct8 : Value}
    (a8 : PySem.W.nsIn K mainGlobals "_law_totals_drawn" = some (some (.ref f8))) (l8 : K.lookup f8 = some ⟨oc8, od8, .func (PySem.W.fnOf "_law_totals_drawn" "_law_totals_drawn" (defArgs s__law_totals_drawn) (defBody s__law_totals_drawn) (defScope s__law_totals_drawn) .none kV8 dc8 pm8 an8 cd8 ct8), sl8⟩) (c8 : PySem.W.codeIn K cd8 "_law_totals_drawn" = true) (k8 : PySem.W.keepIn K (.ref f8) = true)
    {od9 an9 : Option Addr} {sl9 : Array (Option Value)} {oc9 kV9 dc9 pm9 cd9 ct9 : Value}
    (a9 : PySem.W.nsIn K mainGlobals "_law_available" = some (some (.ref f9))) (l9 : K.lookup f9 = some ⟨oc9, od9, .func (PySem.W.fnOf "_law_available" "_law_available" (defArgs s__law_available) (defBody s__law_available) (defScope s__law_available) .none kV9 dc9 pm9 an9 cd9 ct9), sl9⟩) (c9 : PySem.W.codeIn K cd9 "_law_available" = true) (k9 : PySem.W.keepIn K (.ref f9) = true)
    {od10 an10 : Option Addr} {sl10 : Array (Option Value)} {oc10 kV10 dc10 pm10 cd10 ct10 : Value}
    (a10 : PySem.W.nsIn K mainGlobals "_law_all_available" = some (some (.ref f10))) (l10 : K.lookup f10 = some ⟨oc10, od10, .func (PySem.W.fnOf "_law_all_available" "_law_all_available" (defArgs s__law_all_available) (defBody s__law_all_available) (defScope s__law_all_available) .none kV10 dc10 pm10 an10 cd10 ct10), sl10⟩) (c10 : PySem.W.codeIn K cd10 "_law_all_available" = true) (k10 : PySem.W.keepIn K (.ref f10) = true)
    {od11 an11 : Option Addr} {sl11 : Array (Option Value)} {oc11 kV11 dc11 pm11 cd11 ct11 : Value}
    (a11 : PySem.W.nsIn K mainGlobals "_law_table" = some (some (.ref f11))) (l11 : K.lookup f11 = some ⟨oc11, od11, .func (PySem.W.fnOf "_law_table" "_law_table" (defArgs s__law_table) (defBody s__law_table) (defScope s__law_table) .none kV11 dc11 pm11 an11 cd11 ct11), sl11⟩) (c11 : PySem.W.codeIn K cd11 "_law_table" = true) (k11 : PySem.W.keepIn K (.ref f11) = true)
    {od12 an12 : Option Addr} {sl12 : Array (Option Value)} {oc12 kV12 dc12 pm12 cd12 ct12 : Value}
    (a12 : PySem.W.nsIn K mainGlobals "spans" = some (some (.ref f12))) (l12 : K.lookup f12 = some ⟨oc12, od12, .func (PySem.W.fnOf "spans" "spans" (defArgs s_spans) (defBody s_spans) (defScope s_spans) .none kV12 dc12 pm12 an12 cd12 ct12), sl12⟩) (c12 : PySem.W.codeIn K cd12 "spans" = true) (k12 : PySem.W.keepIn K (.ref f12) = true)
    {od13 an13 : Option Addr} {sl13 : Array (Option Value)} {oc13 kV13 dc13 pm13 cd13 ct13 : Value}
    (a13 : PySem.W.nsIn K mainGlobals "has_started" = some (some (.ref f13))) (l13 : K.lookup f13 = some ⟨oc13, od13, .func (PySem.W.fnOf "has_started" "has_started" (defArgs s_has_started) (defBody s_has_started) (defScope s_has_started) .none kV13 dc13 pm13 an13 cd13 ct13), sl13⟩) (c13 : PySem.W.codeIn K cd13 "has_started" = true) (k13 : PySem.W.keepIn K (.ref f13) = true)
    {od14 an14 : Option Addr} {sl14 : Array (Option Value)} {oc14 kV14 dc14 pm14 cd14 ct14 : Value}
    (a14 : PySem.W.nsIn K mainGlobals "expedited" = some (some (.ref f14))) (l14 : K.lookup f14 = some ⟨oc14, od14, .func (PySem.W.fnOf "expedited" "expedited" (defArgs s_expedited) (defBody s_expedited) (defScope s_expedited) .none kV14 dc14 pm14 an14 cd14 ct14), sl14⟩) (c14 : PySem.W.codeIn K cd14 "expedited" = true) (k14 : PySem.W.keepIn K (.ref f14) = true)
    {od15 an15 : Option Addr} {sl15 : Array (Option Value)} {oc15 kV15 dc15 pm15 cd15 ct15 : Value}
    (a15 : PySem.W.nsIn K mainGlobals "_law_same" = some (some (.ref f15))) (l15 : K.lookup f15 = some ⟨oc15, od15, .func (PySem.W.fnOf "_law_same" "_law_same" (defArgs s__law_same) (defBody s__law_same) (defScope s__law_same) .none kV15 dc15 pm15 an15 cd15 ct15), sl15⟩) (c15 : PySem.W.codeIn K cd15 "_law_same" = true) (k15 : PySem.W.keepIn K (.ref f15) = true)
    {od16 an16 : Option Addr} {sl16 : Array (Option Value)} {oc16 kV16 dc16 pm16 cd16 ct16 : Value}
    (a16 : PySem.W.nsIn K mainGlobals "_law_moved" = some (some (.ref f16))) (l16 : K.lookup f16 = some ⟨oc16, od16, .func (PySem.W.fnOf "_law_moved" "_law_moved" (defArgs s__law_moved) (defBody s__law_moved) (defScope s__law_moved) .none kV16 dc16 pm16 an16 cd16 ct16), sl16⟩) (c16 : PySem.W.codeIn K cd16 "_law_moved" = true) (k16 : PySem.W.keepIn K (.ref f16) = true)
    {od17 an17 : Option Addr} {sl17 : Array (Option Value)} {oc17 kV17 dc17 pm17 cd17 ct17 : Value}
    (a17 : PySem.W.nsIn K mainGlobals "dates" = some (some (.ref f17))) (l17 : K.lookup f17 = some ⟨oc17, od17, .func (PySem.W.fnOf "dates" "dates" (defArgs s_dates) (defBody s_dates) (defScope s_dates) .none kV17 dc17 pm17 an17 cd17 ct17), sl17⟩) (c17 : PySem.W.codeIn K cd17 "dates" = true) (k17 : PySem.W.keepIn K (.ref f17) = true)
    {od18 an18 : Option Addr} {sl18 : Array (Option Value)} {oc18 kV18 dc18 pm18 cd18 ct18 : Value}
    (a18 : PySem.W.nsIn K mainGlobals "_law_dated" = some (some (.ref f18))) (l18 : K.lookup f18 = some ⟨oc18, od18, .func (PySem.W.fnOf "_law_dated" "_law_dated" (defArgs s__law_dated) (defBody s__law_dated) (defScope s__law_dated) .none kV18 dc18 pm18 an18 cd18 ct18), sl18⟩) (c18 : PySem.W.codeIn K cd18 "_law_dated" = true) (k18 : PySem.W.keepIn K (.ref f18) = true)
    {od19 an19 : Option Addr} {sl19 : Array (Option Value)} {oc19 kV19 dc19 pm19 cd19 ct19 : Value}
    (a19 : PySem.W.nsIn K mainGlobals "_law_keeps" = some (some (.ref f19))) (l19 : K.lookup f19 = some ⟨oc19, od19, .func (PySem.W.fnOf "_law_keeps" "_law_keeps" (defArgs s__law_keeps) (defBody s__law_keeps) (defScope s__law_keeps) .none kV19 dc19 pm19 an19 cd19 ct19), sl19⟩) (c19 : PySem.W.codeIn K cd19 "_law_keeps" = true) (k19 : PySem.W.keepIn K (.ref f19) = true)
    {od20 an20 : Option Addr} {sl20 : Array (Option Value)} {oc20 kV20 dc20 pm20 cd20 ct20 : Value}
    (a20 : PySem.W.nsIn K mainGlobals "order_of" = some (some (.ref f20))) (l20 : K.lookup f20 = some ⟨oc20, od20, .func (PySem.W.fnOf "order_of" "order_of" (defArgs s_order_of) (defBody s_order_of) (defScope s_order_of) .none kV20 dc20 pm20 an20 cd20 ct20), sl20⟩) (c20 : PySem.W.codeIn K cd20 "order_of" = true) (k20 : PySem.W.keepIn K (.ref f20) = true)
    {od21 an21 : Option Addr} {sl21 : Array (Option Value)} {oc21 kV21 dc21 pm21 cd21 ct21 : Value}
    (a21 : PySem.W.nsIn K mainGlobals "_law_again" = some (some (.ref f21))) (l21 : K.lookup f21 = some ⟨oc21, od21, .func (PySem.W.fnOf "_law_again" "_law_again" (defArgs s__law_again) (defBody s__law_again) (defScope s__law_again) .none kV21 dc21 pm21 an21 cd21 ct21), sl21⟩) (c21 : PySem.W.codeIn K cd21 "_law_again" = true) (k21 : PySem.W.keepIn K (.ref f21) = true)
    {od22 an22 : Option Addr} {sl22 : Array (Option Value)} {oc22 kV22 dc22 pm22 cd22 ct22 : Value}
    (a22 : PySem.W.nsIn K mainGlobals "law" = some (some (.ref f22))) (l22 : K.lookup f22 = some ⟨oc22, od22, .func (PySem.W.fnOf "law" "law" (defArgs s_law) (defBody s_law) (defScope s_law) .none kV22 dc22 pm22 an22 cd22 ct22), sl22⟩) (c22 : PySem.W.codeIn K cd22 "law" = true) (k22 : PySem.W.keepIn K (.ref f22) = true)
    (z_abs : PySem.W.nsIn K mainGlobals "abs" = some none)
    (z_bool : PySem.W.nsIn K mainGlobals "bool" = some none)
    (z_dict : PySem.W.nsIn K mainGlobals "dict" = some none)
    (z_int : PySem.W.nsIn K mainGlobals "int" = some none)
    (z_isinstance : PySem.W.nsIn K mainGlobals "isinstance" = some none)
    (z_len : PySem.W.nsIn K mainGlobals "len" = some none)
    (z_list : PySem.W.nsIn K mainGlobals "list" = some none)
    (z_max : PySem.W.nsIn K mainGlobals "max" = some none)
    (z_min : PySem.W.nsIn K mainGlobals "min" = some none)
    (z_range : PySem.W.nsIn K mainGlobals "range" = some none)
    (z_str : PySem.W.nsIn K mainGlobals "str" = some none)
    (z_sum : PySem.W.nsIn K mainGlobals "sum" = some none)
    (z_tuple : PySem.W.nsIn K mainGlobals "tuple" = some none)
    (z_zip : PySem.W.nsIn K mainGlobals "zip" = some none)
    : ∃ fd : FuncData, (∀ (s : Shared) (v : Value), BindsTo s fd ⟨[v], []⟩ [("script", v)]) ∧ ∀ base : Heap, K.In base → base.Ns mainGlobals mg → FnOk l.prog w K mg base CX0 8 fa fd ["script"] (spLaw K) := by
  have e := hfa.symm.trans (PySem.W.mg_of X G a22)
  cases e
  have T : Tx K mg := ⟨PySem.W.mg_none_of X G z_abs, PySem.W.mg_none_of X G z_bool, PySem.W.mg_none_of X G z_dict, PySem.W.mg_none_of X G z_int, PySem.W.mg_none_of X G z_isinstance, PySem.W.mg_none_of X G z_len, PySem.W.mg_none_of X G z_list, PySem.W.mg_none_of X G z_max, PySem.W.mg_none_of X G z_min, PySem.W.mg_none_of X G z_range, PySem.W.mg_none_of X G z_str, PySem.W.mg_none_of X G z_sum, PySem.W.mg_none_of X G z_tuple, PySem.W.mg_none_of X G z_zip⟩
  have F0 := fun_mk (st := s__law_tape) l0 c0 k0
  have F1 := fun_mk (st := s__law_draw) l1 c1 k1
  have F2 := fun_mk (st := s__law_numbers) l2 c2 k2
  have F3 := fun_mk (st := s__law_spread) l3 c3 k3
  have F4 := fun_mk (st := s__law_orders_drawn) l4 c4 k4
  have F5 := fun_mk (st := s__law_order) l5 c5 k5
  have F6 := fun_mk (st := s__law_first_unit) l6 c6 k6
  have F7 := fun_mk (st := s__law_pick) l7 c7 k7
  have F8 := fun_mk (st := s__law_totals_drawn) l8 c8 k8
  have F9 := fun_mk (st := s__law_available) l9 c9 k9
  have F10 := fun_mk (st := s__law_all_available) l10 c10 k10
  have F11 := fun_mk (st := s__law_table) l11 c11 k11
  have F12 := fun_mk (st := s_spans) l12 c12 k12
  have F13 := fun_mk (st := s_has_started) l13 c13 k13
  have F14 := fun_mk (st := s_expedited) l14 c14 k14
  have F15 := fun_mk (st := s__law_same) l15 c15 k15
  have F16 := fun_mk (st := s__law_moved) l16 c16 k16
  have F17 := fun_mk (st := s_dates) l17 c17 k17
  have F18 := fun_mk (st := s__law_dated) l18 c18 k18
  have F19 := fun_mk (st := s__law_keeps) l19 c19 k19
  have F20 := fun_mk (st := s_order_of) l20 c20 k20
  have F21 := fun_mk (st := s__law_again) l21 c21 k21
  have F22 := fun_mk (st := s_law) l22 c22 k22
  refine ⟨PySem.W.fnOf "law" "law" (defArgs s_law) (defBody s_law) (defScope s_law) .none kV22 dc22 pm22 an22 cd22 ct22, fun s v => .of_eq rfl, fun base _ _ => ?_⟩
  have C__law_tape : Cal l.prog w K mg base 1 "_law_tape" ["script"] (spTape K) := ⟨f0, _, ok__law_tape T  F0, PySem.W.mg_of X G a0, k0, F0.binds fun _ _ _ _ _ _ us hl => match us, hl with | [_], _ => rfl⟩
  have C__law_draw : Cal l.prog w K mg base 1 "_law_draw" ["tape", "many"] (spR K 2 R__law_draw) := ⟨f1, _, ok__law_draw T  F1, PySem.W.mg_of X G a1, k1, F1.binds fun _ _ _ _ _ _ us hl => match us, hl with | [_, _], _ => rfl⟩
  have C__law_numbers : Cal l.prog w K mg base 2 "_law_numbers" ["tape"] (spR K 1 R__law_numbers) := ⟨f2, _, ok__law_numbers T C__law_draw F2, PySem.W.mg_of X G a2, k2, F2.binds fun _ _ _ _ _ _ us hl => match us, hl with | [_], _ => rfl⟩
  have C__law_spread : Cal l.prog w K mg base 2 "_law_spread" ["tape", "pool", "orders"] (spR K 3 R__law_spread) := ⟨f3, _, ok__law_spread T C__law_draw F3, PySem.W.mg_of X G a3, k3, F3.binds fun _ _ _ _ _ _ us hl => match us, hl with | [_, _, _], _ => rfl⟩
  have C__law_orders_drawn : Cal l.prog w K mg base 2 "_law_orders_drawn" ["tape", "pool", "many"] (spR K 3 R__law_orders_drawn) := ⟨f4, _, ok__law_orders_drawn T C__law_draw F4, PySem.W.mg_of X G a4, k4, F4.binds fun _ _ _ _ _ _ us hl => match us, hl with | [_, _, _], _ => rfl⟩
  have C__law_order : Cal l.prog w K mg base 2 "_law_order" ["tape", "many"] (spR K 2 R__law_order) := ⟨f5, _, ok__law_order T C__law_draw F5, PySem.W.mg_of X G a5, k5, F5.binds fun _ _ _ _ _ _ us hl => match us, hl with | [_, _], _ => rfl⟩
  have C__law_first_unit : Cal l.prog w K mg base 1 "_law_first_unit" ["orders", "sequence", "k"] (spR K 3 R__law_first_unit) := ⟨f6, _, ok__law_first_unit T  F6, PySem.W.mg_of X G a6, k6, F6.binds fun _ _ _ _ _ _ us hl => match us, hl with | [_, _, _], _ => rfl⟩
  have C__law_pick : Cal l.prog w K mg base 2 "_law_pick" ["tape", "rows"] (spR K 2 R__law_pick) := ⟨f7, _, ok__law_pick T C__law_draw F7, PySem.W.mg_of X G a7, k7, F7.binds fun _ _ _ _ _ _ us hl => match us, hl with | [_, _], _ => rfl⟩
  have C__law_totals_drawn : Cal l.prog w K mg base 3 "_law_totals_drawn" ["tape", "pool", "orders", "sequence"] (spR K 4 R__law_totals_drawn) := ⟨f8, _, ok__law_totals_drawn T C__law_draw C__law_first_unit C__law_pick F8, PySem.W.mg_of X G a8, k8, F8.binds fun _ _ _ _ _ _ us hl => match us, hl with | [_, _, _, _], _ => rfl⟩
  have C__law_available : Cal l.prog w K mg base 2 "_law_available" ["tape", "pool", "orders"] (spR K 3 R__law_available) := ⟨f9, _, ok__law_available T C__law_draw F9, PySem.W.mg_of X G a9, k9, F9.binds fun _ _ _ _ _ _ us hl => match us, hl with | [_, _, _], _ => rfl⟩
  have C__law_all_available : Cal l.prog w K mg base 3 "_law_all_available" ["tape", "pool", "orders"] (spR K 3 R__law_all_available) := ⟨f10, _, ok__law_all_available T C__law_available F10, PySem.W.mg_of X G a10, k10, F10.binds fun _ _ _ _ _ _ us hl => match us, hl with | [_, _, _], _ => rfl⟩
  have C__law_table : Cal l.prog w K mg base 1 "_law_table" ["totals"] (spM K 1 RM__law_table) := ⟨f11, _, ok__law_table T  F11, PySem.W.mg_of X G a11, k11, F11.binds fun _ _ _ _ _ _ us hl => match us, hl with | [_], _ => rfl⟩
  have C_spans : Cal l.prog w K mg base 1 "spans" ["orders", "sequence"] (spR K 2 R_spans) := ⟨f12, _, ok_spans T  F12, PySem.W.mg_of X G a12, k12, F12.binds fun _ _ _ _ _ _ us hl => match us, hl with | [_, _], _ => rfl⟩
  have C_has_started : Cal l.prog w K mg base 2 "has_started" ["orders", "sequence", "order", "totals"] (spR K 4 R_has_started) := ⟨f13, _, ok_has_started T C_spans F13, PySem.W.mg_of X G a13, k13, F13.binds fun _ _ _ _ _ _ us hl => match us, hl with | [_, _, _, _], _ => rfl⟩
  have C_expedited : Cal l.prog w K mg base 3 "expedited" ["orders", "sequence", "order", "totals"] (spR K 4 R_expedited) := ⟨f14, _, ok_expedited T C_has_started F14, PySem.W.mg_of X G a14, k14, F14.binds fun _ _ _ _ _ _ us hl => match us, hl with | [_, _, _, _], _ => rfl⟩
  have b15 : Binds K _ ["told", "due"] [] := F15.binds fun _ _ _ _ _ _ us hl => match us, hl with | [_, _], _ => rfl
  have C__law_same : Cal l.prog w K mg base 6 "_law_same" ["told", "due"] (spR K 2 (R__law_same 6)) := ⟨f15, _, ok__law_same T  F15 (PySem.W.mg_of X G a15) k15 b15 6, PySem.W.mg_of X G a15, k15, b15⟩
  have C__law_moved : Cal l.prog w K mg base 2 "_law_moved" ["orders", "sequence", "order", "table"] (spR K 4 R__law_moved) := ⟨f16, _, ok__law_moved T C__law_first_unit F16, PySem.W.mg_of X G a16, k16, F16.binds fun _ _ _ _ _ _ us hl => match us, hl with | [_, _, _, _], _ => rfl⟩
  have C_dates : Cal l.prog w K mg base 2 "dates" ["orders", "sequence", "availability"] (spR K 3 R_dates) := ⟨f17, _, ok_dates T C_spans F17, PySem.W.mg_of X G a17, k17, F17.binds fun _ _ _ _ _ _ us hl => match us, hl with | [_, _, _], _ => rfl⟩
  have C__law_dated : Cal l.prog w K mg base 3 "_law_dated" ["orders", "sequence", "availability"] (spM K 3 RM__law_dated) := ⟨f18, _, ok__law_dated T C_dates F18, PySem.W.mg_of X G a18, k18, F18.binds fun _ _ _ _ _ _ us hl => match us, hl with | [_, _, _], _ => rfl⟩
  have C__law_keeps : Cal l.prog w K mg base 7 "_law_keeps" ["orders", "sequence", "moved", "order", "table", "availability"] (spR K 6 R__law_keeps) := ⟨f19, _, ok__law_keeps T C__law_dated C__law_first_unit C__law_same F19, PySem.W.mg_of X G a19, k19, F19.binds fun _ _ _ _ _ _ us hl => match us, hl with | [_, _, _, _, _, _], _ => rfl⟩
  have C_order_of : Cal l.prog w K mg base 2 "order_of" ["orders", "sequence", "product", "unit"] (spR K 4 R_order_of) := ⟨f20, _, ok_order_of T C_spans F20, PySem.W.mg_of X G a20, k20, F20.binds fun _ _ _ _ _ _ us hl => match us, hl with | [_, _, _, _], _ => rfl⟩
  have C__law_again : Cal l.prog w K mg base 7 "_law_again" ["tape", "pool", "orders", "sequence", "totals"] (spR K 5 R__law_again) := ⟨f21, _, ok__law_again T C__law_draw C__law_moved C__law_table C__law_same C_expedited F21, PySem.W.mg_of X G a21, k21, F21.binds fun _ _ _ _ _ _ us hl => match us, hl with | [_, _, _, _, _], _ => rfl⟩
  exact ok_law T C__law_tape C__law_numbers C__law_spread C__law_orders_drawn C__law_draw C__law_order C__law_totals_drawn C__law_all_available C__law_table C_expedited C__law_same C__law_moved C__law_keeps C_order_of C__law_again F22
end PF
open PySem PySem.W PyProof.Rows
set_option maxHeartbeats 0 in
theorem PySem.Challenge.cw_plantrace_k93_expediting_holds : PySem.Challenge.rw_plantrace_k93_expediting.Holds := by
  w_on; o_law; k_head; (case hw => w_witness2)
  k_fill
  refine L2.walk_of (l := PySem.Challenge.rw_plantrace_k93_expediting) (n := 63) (k := 8) (x := "script") (CX := fun _ => L2.CX0) (sp := fun w => PD.spLaw _) rfl (by decide) rfl ⟨rfl, by decide, by decide⟩ (fun w h Y => PySem.W.kIn_of Y) ?F (fun _ _ a ns hl _ hS => ⟨a, ns, rfl, hS, hl, fun _ => rfl⟩) (fun _ _ _ _ _ h => h)
  case F =>
    intro w mg fa h KX G hmg
    refine' PF.all_mk KX G hmg ?a0 ?l0 ?c0 ?k0 ?a1 ?l1 ?c1 ?k1 ?a2 ?l2 ?c2 ?k2 ?a3 ?l3 ?c3 ?k3 ?a4 ?l4 ?c4 ?k4 ?a5 ?l5 ?c5 ?k5 ?a6 ?l6 ?c6 ?k6 ?a7 ?l7 ?c7 ?k7 ?a8 ?l8 ?c8 ?k8 ?a9 ?l9 ?c9 ?k9 ?a10 ?l10 ?c10 ?k10 ?a11 ?l11 ?c11 ?k11 ?a12 ?l12 ?c12 ?k12 ?a13 ?l13 ?c13 ?k13 ?a14 ?l14 ?c14 ?k14 ?a15 ?l15 ?c15 ?k15 ?a16 ?l16 ?c16 ?k16 ?a17 ?l17 ?c17 ?k17 ?a18 ?l18 ?c18 ?k18 ?a19 ?l19 ?c19 ?k19 ?a20 ?l20 ?c20 ?k20 ?a21 ?l21 ?c21 ?k21 ?a22 ?l22 ?c22 ?k22 ?z_abs ?z_bool ?z_dict ?z_int ?z_isinstance ?z_len ?z_list ?z_max ?z_min ?z_range ?z_str ?z_sum ?z_tuple ?z_zip
    (case a0 => k_is)
    (case l0 => k_is)
    (case c0 => k_is)
    (case k0 => k_is)
    (case a1 => k_is)
    (case l1 => k_is)
    (case c1 => k_is)
    (case k1 => k_is)
    (case a2 => k_is)
    (case l2 => k_is)
    (case c2 => k_is)
    (case k2 => k_is)
    (case a3 => k_is)
    (case l3 => k_is)
    (case c3 => k_is)
    (case k3 => k_is)
    (case a4 => k_is)
    (case l4 => k_is)
    (case c4 => k_is)
    (case k4 => k_is)
    (case a5 => k_is)
    (case l5 => k_is)
    (case c5 => k_is)
    (case k5 => k_is)
    (case a6 => k_is)
    (case l6 => k_is)
    (case c6 => k_is)
    (case k6 => k_is)
    (case a7 => k_is)
    (case l7 => k_is)
    (case c7 => k_is)
    (case k7 => k_is)
    (case a8 => k_is)
    (case l8 => k_is)
    (case c8 => k_is)
    (case k8 => k_is)
    (case a9 => k_is)
    (case l9 => k_is)
    (case c9 => k_is)
    (case k9 => k_is)
    (case a10 => k_is)
    (case l10 => k_is)
    (case c10 => k_is)
    (case k10 => k_is)
    (case a11 => k_is)
    (case l11 => k_is)
    (case c11 => k_is)
    (case k11 => k_is)
    (case a12 => k_is)
    (case l12 => k_is)
    (case c12 => k_is)
    (case k12 => k_is)
    (case a13 => k_is)
    (case l13 => k_is)
    (case c13 => k_is)
    (case k13 => k_is)
    (case a14 => k_is)
    (case l14 => k_is)
    (case c14 => k_is)
    (case k14 => k_is)
    (case a15 => k_is)
    (case l15 => k_is)
    (case c15 => k_is)
    (case k15 => k_is)
    (case a16 => k_is)
    (case l16 => k_is)
    (case c16 => k_is)
    (case k16 => k_is)
    (case a17 => k_is)
    (case l17 => k_is)
    (case c17 => k_is)
    (case k17 => k_is)
    (case a18 => k_is)
    (case l18 => k_is)
    (case c18 => k_is)
    (case k18 => k_is)
    (case a19 => k_is)
    (case l19 => k_is)
    (case c19 => k_is)
    (case k19 => k_is)
    (case a20 => k_is)
    (case l20 => k_is)
    (case c20 => k_is)
    (case k20 => k_is)
    (case a21 => k_is)
    (case l21 => k_is)
    (case c21 => k_is)
    (case k21 => k_is)
    (case a22 => k_is)
    (case l22 => k_is)
    (case c22 => k_is)
    (case k22 => k_is)
    (case z_abs => k_is)
    (case z_bool => k_is)
    (case z_dict => k_is)
    (case z_int => k_is)
    (case z_isinstance => k_is)
    (case z_len => k_is)
    (case z_list => k_is)
    (case z_max => k_is)
    (case z_min => k_is)
    (case z_range => k_is)
    (case z_str => k_is)
    (case z_sum => k_is)
    (case z_tuple => k_is)
    (case z_zip => k_is)
