import PyProof.Rows.All
import Wide.All
import OpenK.AllK
import Wide.FinOn
import HandS.ForMost
import HandS.ForExc
import HandS.IsInst
import HandS.SortInts
import HandS.TupAny
import HandS.TupMul
import HandS.Deep
import HandS.Wide
import HandS.Conv
import HandS.FStr
import HandS.Zip
import HandS.Style
import HandS.More
import HandS.TryOnly
import HandS.ExcIs
import HandS.TryMany
import HandS.ExcOwn
import HandS.RaiseMore
import HandS.ExcField
import HandS.ExcInit
import HandS.Dict
import HandS.WordsDict
import KE.GoesEnum
import KE.GoesMore
import PyProof.CollectIter
import KE.KExcIs
import KE.DataAny
import KE.KDictKeyed
import KE.KeyNested
import KE.SortData
import KE.KDictSum
import HandS.Star
import HandS.SetBool
import HandS.Strs
import KE.DataMinMax
import HandS.Ends
import KE.DatumIndex
import PyProof.SeqIndex
import PySem.Challenge.RW_trialcopies_k51_fewest_exchanges
set_option Elab.async false
set_option linter.all false
set_option maxRecDepth 100000
set_option maxHeartbeats 4000000
/-! A layer over the hand layer: what a pure program's pieces do, told by data (PyData) alone. -/
namespace TC
open PySem PySem.Spec L2

abbrev AS := Addr → Prop
open Classical in
noncomputable def cut (O : AS) (H : Hp) : Hp := fun a => if O a then none else H a
theorem cut_some {O : AS} {H : Hp} {a : Addr} {o : HO} : cut O H a = some o ↔ ¬ O a ∧ H a = some o := by
  unfold cut
  by_cases h : O a
  · rw [if_pos h]; simp [h]
  · rw [if_neg h]; simp [h]
def or1 (O : AS) (l : Addr) : AS := fun a => O a ∨ a = l

theorem seqT_mono {K : PySem.W.Frag} {H H' : Hp} {a : Addr} {xs : List V} (e : Same H H') (h : SqT K H a xs) : SqT K H' a xs := by
  rcases h with (h | ⟨o, h⟩) | h
  · exact .inl (.inl (e _ _ h))
  · exact .inl (.inr ⟨o, e _ _ h⟩)
  · exact .inr h
mutual
inductive Dq (K : PySem.W.Frag) (H : Hp) : V → PyData → Prop
  | non : Dq K H .non .none
  | bl (b : Bool) : Dq K H (.bl b) (.bool b)
  | int (i : Int) : Dq K H (.int i) (.int i)
  | str (x : Str) : Dq K H (.str x) (.str x)
  | lst {a : Addr} {xs : List V} {ds : List PyData} : H a = some (.lst xs) → DqA K H xs ds → Dq K H (.ref a) (.list ds)
  | tup {a : Addr} {xs : List V} {ds : List PyData} : SqT K H a xs → DqA K H xs ds → Dq K H (.ref a) (.tuple ds)
  | dic {a : Addr} {kvs : List (Key × V)} {ks : List (PyData × PyData)} : H a = some (.dK kvs) → DqK K H kvs ks → Dq K H (.ref a) (.dict ks)
  | ins {a dx C : Addr} {kvs : List (Str × V)} {fs : List (PyData × PyData)} : H a = some (.ins C dx kvs) → DqF K H kvs fs → Dq K H (.ref a) (.dict ((.none, .int (C : Int)) :: fs))
inductive DqA (K : PySem.W.Frag) (H : Hp) : List V → List PyData → Prop
  | nil : DqA K H [] []
  | cons {v : V} {vs : List V} {d : PyData} {ds : List PyData} : Dq K H v d → DqA K H vs ds → DqA K H (v :: vs) (d :: ds)
inductive DqK (K : PySem.W.Frag) (H : Hp) : List (Key × V) → List (PyData × PyData) → Prop
  | nil : DqK K H [] []
  | cons {k : Key} {v : V} {kvs : List (Key × V)} {d : PyData} {ks : List (PyData × PyData)} : Dq K H v d → DqK K H kvs ks → DqK K H ((k, v) :: kvs) ((Sum.elim PyData.int PyData.str k, d) :: ks)
inductive DqF (K : PySem.W.Frag) (H : Hp) : List (Str × V) → List (PyData × PyData) → Prop
  | nil : DqF K H [] []
  | cons {n : Str} {v : V} {kvs : List (Str × V)} {d : PyData} {fs : List (PyData × PyData)} : Dq K H v d → DqF K H kvs fs → DqF K H ((n, v) :: kvs) ((.str n, d) :: fs)
end
mutual
theorem dq_dp {K : PySem.W.Frag} {H : Hp} : ∀ (d : PyData) (v : V), PyData.canLay0 d = true → Dq K H v d → Dp K H v d
  | .none, _, _, h => by cases h; exact .non
  | .bool b, _, _, h => by cases h; exact .bl b
  | .int i, _, _, h => by cases h; exact .int i
  | .str x, _, _, h => by cases h; exact .str x
  | .list ds, _, c, h => by
    cases h with
    | lst h1 h2 => exact .lst (SqL.of h1) (dqa_dpa ds _ (by simpa [PyData.canLay0] using c) h2)
  | .tuple ds, _, c, h => by
    cases h with
    | tup h1 h2 => exact .tup h1 (dqa_dpa ds _ (by simpa [PyData.canLay0] using c) h2)
  | .dict _, _, c, h => by simp [PyData.canLay0] at c
theorem dqa_dpa {K : PySem.W.Frag} {H : Hp} : ∀ (ds : List PyData) (vs : List V), PyData.canLayAll0 ds = true → DqA K H vs ds → DpAll K H vs ds
  | [], _, _, h => by cases h; exact .nil
  | d :: ds, _, c, h => by
    simp only [PyData.canLayAll0, Bool.and_eq_true] at c
    cases h with
    | cons h1 h2 => exact .cons (dq_dp d _ c.1 h1) (dqa_dpa ds _ c.2 h2)
end
mutual
theorem dp_mono {K : PySem.W.Frag} {H H' : Hp} (e : Same H H') : ∀ (d : PyData) (v : V), Dq K H v d → Dq K H' v d
  | .none, _, h => by cases h; exact .non
  | .bool b, _, h => by cases h; exact .bl b
  | .int i, _, h => by cases h; exact .int i
  | .str x, _, h => by cases h; exact .str x
  | .list ds, _, h => by
    cases h with
    | lst h1 h2 => exact .lst (e _ _ h1) (dpa_mono e ds _ h2)
  | .tuple ds, _, h => by
    cases h with
    | tup h1 h2 => exact .tup (seqT_mono e h1) (dpa_mono e ds _ h2)
  | .dict ks, _, h => by
    cases h with
    | dic h1 h2 => exact .dic (e _ _ h1) (dpk_mono e ks _ h2)
    | ins h1 h2 => exact .ins (e _ _ h1) (dpf_mono e _ _ h2)
theorem dpa_mono {K : PySem.W.Frag} {H H' : Hp} (e : Same H H') : ∀ (ds : List PyData) (vs : List V), DqA K H vs ds → DqA K H' vs ds
  | [], _, h => by cases h; exact .nil
  | d :: ds, _, h => by
    cases h with
    | cons h1 h2 => exact .cons (dp_mono e d _ h1) (dpa_mono e ds _ h2)
theorem dpk_mono {K : PySem.W.Frag} {H H' : Hp} (e : Same H H') : ∀ (ks : List (PyData × PyData)) (kvs : List (Key × V)), DqK K H kvs ks → DqK K H' kvs ks
  | [], _, h => by cases h; exact .nil
  | (_, d) :: ks, _, h => by
    cases h with
    | cons h1 h2 => exact .cons (dp_mono e d _ h1) (dpk_mono e ks _ h2)
theorem dpf_mono {K : PySem.W.Frag} {H H' : Hp} (e : Same H H') : ∀ (fs : List (PyData × PyData)) (kvs : List (Str × V)), DqF K H kvs fs → DqF K H' kvs fs
  | [], _, h => by cases h; exact .nil
  | (_, d) :: fs, _, h => by
    cases h with
    | cons h1 h2 => exact .cons (dp_mono e d _ h1) (dpf_mono e fs _ h2)
end
theorem dpa_len {K : PySem.W.Frag} {H : Hp} : ∀ {ds : List PyData} {vs : List V}, DqA K H vs ds → vs.length = ds.length
  | [], _, h => by cases h; rfl
  | d :: ds, _, h => by
    cases h with
    | cons h1 h2 => rw [List.length_cons, List.length_cons, dpa_len h2]
theorem dpa_get {K : PySem.W.Frag} {H : Hp} : ∀ {ds : List PyData} {vs : List V} {i : Nat} {x : PyData}, DqA K H vs ds → ds[i]? = some x → ∃ v, vs[i]? = some v ∧ Dq K H v x
  | [], _, _, _, _, e => by simp at e
  | d :: ds, _, 0, x, h, e => by
    cases h with
    | cons h1 h2 => simp at e; subst e; exact ⟨_, rfl, h1⟩
  | d :: ds, _, i + 1, x, h, e => by
    cases h with
    | cons h1 h2 =>
      obtain ⟨v, e1, q⟩ := dpa_get (i := i) (x := x) h2 (by simpa using e)
      exact ⟨v, by simpa using e1, q⟩
theorem dpa_getV {K : PySem.W.Frag} {H : Hp} : ∀ {ds : List PyData} {vs : List V} {i : Nat} {v : V}, DqA K H vs ds → vs[i]? = some v → ∃ x, ds[i]? = some x ∧ Dq K H v x
  | [], _, _, _, h, e => by cases h; simp at e
  | d :: ds, _, 0, v, h, e => by
    cases h with
    | cons h1 h2 => simp at e; subst e; exact ⟨_, rfl, h1⟩
  | d :: ds, _, i + 1, v, h, e => by
    cases h with
    | cons h1 h2 =>
      obtain ⟨x, e1, q⟩ := dpa_getV (i := i) (v := v) h2 (by simpa using e)
      exact ⟨x, by simpa using e1, q⟩
theorem dpa_app {K : PySem.W.Frag} {H : Hp} : ∀ {ds es : List PyData} {vs us : List V}, DqA K H vs ds → DqA K H us es → DqA K H (vs ++ us) (ds ++ es)
  | [], _, _, _, h, q => by cases h; exact q
  | d :: ds, _, _, _, h, q => by
    cases h with
    | cons h1 h2 => exact .cons h1 (dpa_app h2 q)
theorem dpa_take {K : PySem.W.Frag} {H : Hp} : ∀ {ds : List PyData} {vs : List V} (n : Nat), DqA K H vs ds → DqA K H (vs.take n) (ds.take n)
  | _, _, 0, _ => .nil
  | [], _, _ + 1, h => by cases h; exact .nil
  | d :: ds, _, n + 1, h => by
    cases h with
    | cons h1 h2 => exact .cons h1 (dpa_take n h2)
theorem dpa_drop {K : PySem.W.Frag} {H : Hp} : ∀ {ds : List PyData} {vs : List V} (n : Nat), DqA K H vs ds → DqA K H (vs.drop n) (ds.drop n)
  | _, _, 0, h => h
  | [], _, _ + 1, h => by cases h; exact .nil
  | d :: ds, _, n + 1, h => by
    cases h with
    | cons h1 h2 => exact dpa_drop n h2
theorem dpa_set {K : PySem.W.Frag} {H : Hp} {v : V} {x : PyData} (hx : Dq K H v x) : ∀ {ds : List PyData} {vs : List V} (n : Nat), DqA K H vs ds → DqA K H (vs.set n v) (ds.set n x)
  | [], _, _, h => by cases h; exact .nil
  | d :: ds, _, 0, h => by
    cases h with
    | cons h1 h2 => exact .cons hx h2
  | d :: ds, _, n + 1, h => by
    cases h with
    | cons h1 h2 => exact .cons h1 (dpa_set hx n h2)
theorem dpa_ints {K : PySem.W.Frag} {H : Hp} : ∀ (ns : List Int), DqA K H (ns.map V.int) (ns.map PyData.int)
  | [] => .nil
  | n :: ns => .cons (.int n) (dpa_ints ns)
theorem dpa_intsV {K : PySem.W.Frag} {H : Hp} : ∀ {ns : List Int} {vs : List V}, DqA K H vs (ns.map PyData.int) → vs = ns.map V.int
  | [], _, h => by cases h; rfl
  | n :: ns, _, h => by
    cases h with
    | cons h1 h2 => cases h1; rw [dpa_intsV h2]; rfl
theorem dp_intV {K : PySem.W.Frag} {H : Hp} {v : V} {n : Int} (h : Dq K H v (.int n)) : v = .int n := by cases h; rfl

/-! ### slots, environments -/
/-- a thing that stands still, told by what is seen -/
structure Fz where
  ok : V → Hp → Prop
  mono : ∀ {v : V} {Z Z' : Hp}, Same Z Z' → ok v Z → ok v Z'
/-- a thing of one's own: a value, its own region of the heap, and what is seen -/
structure Fo where
  ok : V → AS → Hp → Hp → Prop
  loc : ∀ {v : V} {S : AS} {H H1 Z : Hp}, (∀ a, S a → H1 a = H a) → ok v S H Z → ok v S H1 Z
  mono : ∀ {v : V} {S : AS} {H Z Z' : Hp}, Same Z Z' → ok v S H Z → ok v S H Z'
inductive Sl where
  | un
  | d (x : PyData)
  | own (xs : List PyData)
  | stm
  | plc
  | scr (ns : List Int)
  | fz (Φ : Fz)
  | ow (Ψ : Fo)
structure En where
  tm : Option (List Int × Int)
  sl : List Sl

abbrev Trip := Addr × Addr × Addr
structure TmAt (W C : AS) (H0 : Hp) (t : Trip) (O : AS) (H : Hp) (ds : List Int) (p : Int) : Prop where
  s : cut O H t.1 = some (.lst [.ref t.2.1, .ref t.2.2])
  g : cut O H t.2.1 = some (.lst (ds.map V.int))
  o : O t.2.2
  l : H t.2.2 = some (.lst [.int p])
  w : W t.2.2 ∨ (¬ C t.2.2 ∧ H0 t.2.2 = none)
def TmOk (W C : AS) (H0 : Hp) (T : Option Trip) (O : AS) (H : Hp) : Option (List Int × Int) → Prop
  | none => True
  | some (ds, p) => ∃ t, T = some t ∧ TmAt W C H0 t O H ds p
def SlOk (K : PySem.W.Frag) (C : AS) (T : Option Trip) (tm : Option (List Int × Int)) (O : AS) (H : Hp) (σ : L2.St) (i : Nat) : Sl → Prop
  | .un => True
  | .d x => ∃ v, σ[i]? = some (some v) ∧ Dq K (cut O H) v x
  | .own xs => ∃ a vs, σ[i]? = some (some (.ref a)) ∧ O a ∧ ¬ C a ∧ (∀ t, T = some t → a ≠ t.2.2) ∧ H a = some (.lst vs) ∧ DqA K (cut O H) vs xs
  | .stm => ∃ t, T = some t ∧ tm ≠ none ∧ σ[i]? = some (some (.ref t.1))
  | .plc => ∃ t, T = some t ∧ tm ≠ none ∧ σ[i]? = some (some (.ref t.2.2))
  | .scr ns => ∃ a, σ[i]? = some (some (.ref a)) ∧ SqL K (cut O H) a (ns.map V.int)
  | .fz Φ => ∃ v, σ[i]? = some (some v) ∧ Φ.ok v (cut O H)
  | .ow _ => True
/-- the things of one's own, with their regions -/
structure OwOk (C W : AS) (T : Option Trip) (O : AS) (H : Hp) (σ : L2.St) (sl : List Sl) (rg : Nat → AS) : Prop where
  ok : ∀ (i : Nat) (Ψ : Fo), sl[i]? = some (.ow Ψ) → ∃ v, σ[i]? = some (some v) ∧ Ψ.ok v (rg i) H (cut O H)
  rin : ∀ (i : Nat) (Ψ : Fo) (a : Addr), sl[i]? = some (.ow Ψ) → rg i a → O a ∧ (¬ C a ∨ W a) ∧ ∀ t, T = some t → a ≠ t.2.2
  sep : ∀ (i j : Nat) (Ψ Ψ' : Fo) (a : Addr), i ≠ j → sl[i]? = some (.ow Ψ) → sl[j]? = some (.ow Ψ') → rg i a → ¬ rg j a
  sepL : ∀ (i j : Nat) (Ψ : Fo) (xs : List PyData) (a : Addr), sl[i]? = some (.ow Ψ) → sl[j]? = some (.own xs) → σ[j]? = some (some (.ref a)) → ¬ rg i a
theorem OwOk.to {C W : AS} {T : Option Trip} {O : AS} {H : Hp} {σ : L2.St} {sl : List Sl} {rg : Nat → AS} {C' W' : AS} {T' : Option Trip} {O' : AS} {H' : Hp} {σ' : L2.St} {sl' : List Sl} (w : OwOk C W T O H σ sl rg)
    (hsl : ∀ (i : Nat) (Ψ : Fo), sl'[i]? = some (.ow Ψ) → sl[i]? = some (.ow Ψ) ∧ σ'[i]? = σ[i]?)
    (hown : ∀ (j : Nat) (xs : List PyData) (a : Addr), sl'[j]? = some (.own xs) → σ'[j]? = some (some (.ref a)) → (∃ ys, sl[j]? = some (.own ys) ∧ σ[j]? = some (some (.ref a))) ∨ ∀ (i : Nat) (Ψ : Fo), sl[i]? = some (.ow Ψ) → ¬ rg i a)
    (hH : ∀ (i : Nat) (Ψ : Fo) (a : Addr), sl[i]? = some (.ow Ψ) → rg i a → H' a = H a)
    (hZ : Same (cut O H) (cut O' H'))
    (hin : ∀ (i : Nat) (Ψ : Fo) (a : Addr), sl[i]? = some (.ow Ψ) → rg i a → O' a ∧ (¬ C' a ∨ W' a) ∧ ∀ t, T' = some t → a ≠ t.2.2) : OwOk C' W' T' O' H' σ' sl' rg where
  ok := fun i Ψ h => by
    obtain ⟨h1, h2⟩ := hsl i Ψ h
    obtain ⟨v, e, q⟩ := w.ok i Ψ h1
    exact ⟨v, h2.trans e, Ψ.mono hZ (Ψ.loc (fun a ha => hH i Ψ a h1 ha) q)⟩
  rin := fun i Ψ a h r => hin i Ψ a (hsl i Ψ h).1 r
  sep := fun i j Ψ Ψ' a ne h1 h2 r => w.sep i j Ψ Ψ' a ne (hsl i Ψ h1).1 (hsl j Ψ' h2).1 r
  sepL := fun i j Ψ xs a h1 h2 e r => by
    rcases hown j xs a h2 e with ⟨ys, q1, q2⟩ | q
    · exact w.sepL i j Ψ ys a (hsl i Ψ h1).1 q1 q2 r
    · exact q i Ψ (hsl i Ψ h1).1 r
structure Rep (K : PySem.W.Frag) (C W : AS) (H0 : Hp) (T : Option Trip) (O : AS) (H : Hp) (σ : L2.St) (ρ : En) : Prop where
  wc : ∀ a, W a → C a
  co : ∀ a, C a → O a
  keep : ∀ a o, H0 a = some o → ¬ W a → H a = some o
  alloc : ∀ a, O a → H a ≠ none
  loc : ∀ a, O a → C a ∨ H0 a = none
  len : σ.length = ρ.sl.length
  tl : ∀ t, T = some t → O t.2.2
  tm : TmOk W C H0 T O H ρ.tm
  sl : ∀ (i : Nat) (s : Sl), ρ.sl[i]? = some s → SlOk K C T ρ.tm O H σ i s
  apart : ∀ (i j : Nat) (xs ys : List PyData) (a : Addr), i ≠ j → ρ.sl[i]? = some (.own xs) → ρ.sl[j]? = some (.own ys) → σ[i]? = some (some (.ref a)) → σ[j]? ≠ some (some (.ref a))
  ow : ∃ rg : Nat → AS, OwOk C W T O H σ ρ.sl rg
/-- what a callee with the hidden part C has changed: nothing but W -/
def Keeps (W : AS) (H H' : Hp) : Prop := ∀ a o, H a = some o → ¬ W a → H' a = some o

section
variable {K : PySem.W.Frag} {C W O : AS} {H0 H H' : Hp} {T : Option Trip} {σ : L2.St} {ρ ρ' : En}
/-- only new objects came -/
theorem cut_same {O : AS} {H H' : Hp} (e : Same H H') : Same (cut O H) (cut O H') := fun a o h => by
  rw [cut_some] at h ⊢
  exact ⟨h.1, e a o h.2⟩
theorem cut_or1 {O : AS} {H H' : Hp} {l : Addr} (e : Same H H') (hl : H l = none) : Same (cut O H) (cut (or1 O l) H') := fun a o h => by
  rw [cut_some] at h ⊢
  refine ⟨fun z => z.elim h.1 fun z => ?_, e a o h.2⟩
  rw [z, hl] at h
  cases h.2
theorem cut_sub {O O' : AS} {H : Hp} (h : ∀ a, O' a → O a) : Same (cut O H) (cut O' H) := fun a o q => by
  rw [cut_some] at q ⊢
  exact ⟨fun z => q.1 (h a z), q.2⟩
theorem cut_full {O : AS} {H : Hp} : Same (cut O H) H := fun a o q => (cut_some.mp q).2
theorem TmAt.grow {t : Trip} {ds : List Int} {p : Int} (h : TmAt W C H0 t O H ds p) (e : Same H H') : TmAt W C H0 t O H' ds p :=
  ⟨cut_same e _ _ h.s, cut_same e _ _ h.g, h.o, e _ _ h.l, h.w⟩
theorem Rep.stays (R : Rep K C W H0 T O H σ ρ) (e : Same H H') {a : Addr} (h : O a) : H' a = H a := by
  cases q : H a with
  | none => exact absurd q (R.alloc a h)
  | some o => exact e a o q
theorem Rep.nof (R : Rep K C W H0 T O H σ ρ) {l : Addr} (h : H l = none) : ¬ O l := fun z => R.alloc l z h
theorem Rep.grow (R : Rep K C W H0 T O H σ ρ) (e : Same H H') : Rep K C W H0 T O H' σ ρ where
  wc := R.wc
  co := R.co
  keep := fun a o h n => e a o (R.keep a o h n)
  alloc := fun a h z => by
    cases q : H a with
    | none => exact R.alloc a h q
    | some o => rw [e a o q] at z; cases z
  loc := R.loc
  len := R.len
  tl := R.tl
  tm := by
    have q := R.tm
    revert q
    cases ρ.tm with
    | none => exact fun q => q
    | some x => exact fun ⟨t, e1, q⟩ => ⟨t, e1, q.grow e⟩
  sl := fun i s hs => by
    have q := R.sl i s hs
    cases s with
    | un => exact q
    | d x => obtain ⟨v, e1, q⟩ := q; exact ⟨v, e1, dp_mono (cut_same e) _ _ q⟩
    | own xs => obtain ⟨a, vs, e1, o1, c1, t1, h1, q⟩ := q; exact ⟨a, vs, e1, o1, c1, t1, e _ _ h1, dpa_mono (cut_same e) _ _ q⟩
    | stm => exact q
    | plc => exact q
    | scr ns => obtain ⟨a, e1, q⟩ := q; exact ⟨a, e1, (cut_same e).seq q⟩
    | fz Φ => obtain ⟨v, e1, q⟩ := q; exact ⟨v, e1, Φ.mono (cut_same e) q⟩
    | ow Ψ => trivial
  apart := R.apart
  ow := by
    obtain ⟨rg, w⟩ := R.ow
    exact ⟨rg, w.to (fun i Ψ h => ⟨h, rfl⟩) (fun j xs a h1 h2 => .inl ⟨xs, h1, h2⟩) (fun i Ψ a h r => R.stays e (w.rin i Ψ a h r).1) (cut_same e) w.rin⟩
/-- a new object joins the hidden ones, and those that aren't one's own -/
theorem Rep.hide {l : Addr} (R : Rep K C W H0 T O H σ ρ) (hl : H l = none) (e : Same H H') (hl' : H' l ≠ none) : Rep K (or1 C l) W H0 T (or1 O l) H' σ ρ where
  wc := fun a h => .inl (R.wc a h)
  co := fun a h => h.elim (fun z => .inl (R.co a z)) .inr
  keep := (R.grow e).keep
  alloc := fun a h => h.elim ((R.grow e).alloc a) fun z => z ▸ hl'
  loc := fun a h => h.elim (fun z => (R.loc a z).imp .inl id) fun z => .inl (.inr z)
  len := R.len
  tl := fun t h => .inl (R.tl t h)
  tm := by
    have q := R.tm
    revert q
    cases ρ.tm with
    | none => exact fun q => q
    | some x => exact fun ⟨t, e1, q⟩ => ⟨t, e1, cut_or1 e hl _ _ q.s, cut_or1 e hl _ _ q.g, .inl q.o, e _ _ q.l, q.w.imp id fun z => ⟨fun y => y.elim z.1 fun y => R.nof hl (y ▸ q.o), z.2⟩⟩
  sl := fun i s hs => by
    have q := R.sl i s hs
    cases s with
    | un => exact q
    | d x => obtain ⟨v, e1, q⟩ := q; exact ⟨v, e1, dp_mono (cut_or1 e hl) _ _ q⟩
    | own xs => obtain ⟨a, vs, e1, o1, c1, t1, h1, q⟩ := q; exact ⟨a, vs, e1, .inl o1, fun z => z.elim c1 fun z => R.nof hl (z ▸ o1), t1, e _ _ h1, dpa_mono (cut_or1 e hl) _ _ q⟩
    | stm => exact q
    | plc => exact q
    | scr ns => obtain ⟨a, e1, q⟩ := q; exact ⟨a, e1, (cut_or1 e hl).seq q⟩
    | fz Φ => obtain ⟨v, e1, q⟩ := q; exact ⟨v, e1, Φ.mono (cut_or1 e hl) q⟩
    | ow Ψ => trivial
  apart := R.apart
  ow := by
    obtain ⟨rg, w⟩ := R.ow
    refine ⟨rg, w.to (fun i Ψ h => ⟨h, rfl⟩) (fun j xs a h1 h2 => .inl ⟨xs, h1, h2⟩) (fun i Ψ a h r => R.stays e (w.rin i Ψ a h r).1) (cut_or1 e hl) fun i Ψ a h r => ?_⟩
    obtain ⟨q1, q2, q3⟩ := w.rin i Ψ a h r
    exact ⟨.inl q1, q2.imp (fun z y => y.elim z fun y => R.nof hl (y ▸ q1)) id, q3⟩
/-- .. it is one's own again -/
theorem Rep.unC {l : Addr} (R : Rep K (or1 C l) W H0 T O H σ ρ) (hw : ¬ W l) (h0 : H0 l = none) : Rep K C W H0 T O H σ ρ where
  wc := fun a h => (R.wc a h).elim id fun z => absurd (z ▸ h) hw
  co := fun a h => R.co a (.inl h)
  keep := R.keep
  alloc := R.alloc
  loc := fun a h => (R.loc a h).elim (fun z => Or.imp id (fun (z : a = l) => by rw [z]; exact h0) z) .inr
  len := R.len
  tl := R.tl
  tm := by
    have q := R.tm
    revert q
    cases ρ.tm with
    | none => exact fun q => q
    | some x => exact fun ⟨t, e1, q⟩ => ⟨t, e1, q.s, q.g, q.o, q.l, q.w.imp id fun z => ⟨fun y => z.1 (.inl y), z.2⟩⟩
  sl := fun i s hs => by
    have q := R.sl i s hs
    cases s with
    | own xs => obtain ⟨a, vs, e1, o1, c1, r⟩ := q; exact ⟨a, vs, e1, o1, fun z => c1 (.inl z), r⟩
    | un => exact q
    | d x => exact q
    | stm => exact q
    | plc => exact q
    | scr ns => exact q
    | fz Φ => exact q
    | ow Ψ => trivial
  apart := R.apart
  ow := by
    obtain ⟨rg, w⟩ := R.ow
    refine ⟨rg, w.to (fun i Ψ h => ⟨h, rfl⟩) (fun j xs a h1 h2 => .inl ⟨xs, h1, h2⟩) (fun i Ψ a h r => rfl) (fun _ _ h => h) fun i Ψ a h r => ?_⟩
    obtain ⟨q1, q2, q3⟩ := w.rin i Ψ a h r
    exact ⟨q1, q2.imp (fun z y => z (.inl y)) id, q3⟩
/-- .. and is shown again -/
theorem Rep.show1 {l : Addr} (R : Rep K (or1 C l) W H0 T (or1 O l) H σ ρ) (hw : ¬ W l) (h0 : H0 l = none) (co : ∀ a, C a → O a) (hp : ∀ t, T = some t → t.2.2 ≠ l) : Rep K C W H0 T O H σ ρ where
  wc := fun a h => (R.wc a h).elim id fun z => absurd (z ▸ h) hw
  co := co
  keep := R.keep
  alloc := fun a h => R.alloc a (.inl h)
  loc := fun a h => (R.loc a (.inl h)).elim (fun z => Or.imp id (fun (z : a = l) => by rw [z]; exact h0) z) .inr
  len := R.len
  tl := fun t h => (R.tl t h).elim id fun z => absurd z (hp t h)
  tm := by
    have q := R.tm
    revert q
    cases ρ.tm with
    | none => exact fun q => q
    | some x => exact fun ⟨t, e1, q⟩ => ⟨t, e1, cut_sub (fun _ z => .inl z) _ _ q.s, cut_sub (fun _ z => .inl z) _ _ q.g, q.o.elim id fun z => absurd z (hp t e1), q.l, q.w.imp id fun z => ⟨fun y => z.1 (.inl y), z.2⟩⟩
  sl := fun i s hi => by
    have q := R.sl i s hi
    cases s with
    | un => exact q
    | d x => obtain ⟨v, e1, q⟩ := q; exact ⟨v, e1, dp_mono (cut_sub fun _ z => .inl z) _ _ q⟩
    | own xs =>
      obtain ⟨a, vs, e1, o1, c1, t1, h1, q⟩ := q
      exact ⟨a, vs, e1, o1.elim id fun z => absurd (.inr z) c1, fun z => c1 (.inl z), t1, h1, dpa_mono (cut_sub fun _ z => .inl z) _ _ q⟩
    | stm => exact q
    | plc => exact q
    | scr ns => obtain ⟨a, e1, q⟩ := q; exact ⟨a, e1, Same.seq (cut_sub fun _ z => .inl z) q⟩
    | fz Φ => obtain ⟨v, e1, q⟩ := q; exact ⟨v, e1, Φ.mono (cut_sub fun _ z => .inl z) q⟩
    | ow Ψ => trivial
  apart := R.apart
  ow := by
    obtain ⟨rg, w⟩ := R.ow
    refine ⟨rg, w.to (fun i Ψ h => ⟨h, rfl⟩) (fun j xs a h1 h2 => .inl ⟨xs, h1, h2⟩) (fun i Ψ a h r => rfl) (cut_sub fun _ z => .inl z) fun i Ψ a h r => ?_⟩
    obtain ⟨q1, q2, q3⟩ := w.rin i Ψ a h r
    refine ⟨q1.elim id fun z => ?_, q2.imp (fun z y => z (.inl y)) id, q3⟩
    exact (q2.elim (fun y => y (.inr z)) fun y => hw (z ▸ y)).elim
end
end TC

set_option maxRecDepth 100000
set_option maxHeartbeats 4000000
namespace TC
open PySem PySem.Spec L2

/-! ### the text's surroundings -/
structure Fam where
  P : Program
  w : World
  K : PySem.W.Frag
  mg : Str → Option Value
  base : Heap
  N : List Str
  sc : Scope
  k : Nat
  df : Bool
  lc : Bool
  W : WX
  tk : Bool
  fs : Bool
  ex : Option (Addr × Value × Option Addr)
  cf : List Str
  gd : Bool
structure Fits (F : Fam) (X : Cx) : Prop where
  prog : X.prog = F.P
  w : X.w = F.w
  K : X.K = F.K
  mg : X.mg = F.mg
  base : X.base = F.base
  N : X.N = F.N
  nd : F.N.Nodup
  sc : X.env.scope = F.sc
  calm : F.ex = none → X.calm = true
  room : F.ex = none → Room F.k X.A
  un : X.A.units + 200 < cLine
  fn : F.df = true → ∀ x, X.fn x = true
  po : PassesOwn (model X.prog X.w) X.A X.env X.xe
  tk : F.tk = true → Takes X F.W
  fr : F.fs = true → X.stack = X.env :: X.outer ∧ X.env.frame = some X.env.locals
  su : ∀ z, F.ex = some z → ∃ (X0 : Cx) (oe : Obj) (pn : List (Addr × Obj)), X = X0.suite z.1 ((z.1, oe) :: pn) ∧ Zc z.2.1 z.2.2 oe ∧ ∃ vs, oe.data = .fields vs
  cf : ∀ x ∈ F.cf, X.fn x = true
  gu : F.gd = true → X.A.guards = some []
theorem Fits.gl {F : Fam} {X : Cx} (h : Fits F X) {x : Str} (g : F.sc.names.lookup x = some .globalImplicit) : Gl X x := by
  show X.env.scope.names.lookup x = some .globalImplicit
  rw [h.sc]; exact g
theorem Fits.vis {F : Fam} {X : Cx} (h : Fits F X) {x : Str} (g : Vis F.sc x) : Vis X.env.scope x := by
  rw [h.sc]; exact g

/-! ### readings by data -/
abbrev RepP := Rep
def EvD (K : PySem.W.Frag) (te : TE) (ρ : En) (x : PyData) (ρ' : En) : Prop :=
  ∀ (C W : AS) (H0 : Hp) (T : Option Trip) (O : AS) (H : Hp) (σ : L2.St), Rep K C W H0 T O H σ ρ →
    ∀ Q : VK, (∀ v H', Rep K C W H0 T O H' σ ρ' → Same (cut O H) (cut O H') → Dq K (cut O H') v x → Q v H') → te σ H Q
def EvL (K : PySem.W.Frag) (te : TE) (ρ : En) (xs : List PyData) (ρ' : En) : Prop :=
  ∀ (C W : AS) (H0 : Hp) (T : Option Trip) (O : AS) (H : Hp) (σ : L2.St), Rep K C W H0 T O H σ ρ →
    ∀ Q : VK, (∀ l vs H', H l = none → H' l = some (.lst vs) → Rep K (or1 C l) W H0 T (or1 O l) H' σ ρ' → Rep K C W H0 T O H' σ ρ' → Same (cut O H) (cut (or1 O l) H') → DqA K (cut (or1 O l) H') vs xs → Q (.ref l) H') → te σ H Q
def EvT (K : PySem.W.Frag) (tt : TT) (ρ : En) (b : Bool) (ρ' : En) : Prop :=
  ∀ (C W : AS) (H0 : Hp) (T : Option Trip) (O : AS) (H : Hp) (σ : L2.St), Rep K C W H0 T O H σ ρ →
    ∀ Q : Bool → Hp → Prop, (∀ H', Rep K C W H0 T O H' σ ρ' → Same (cut O H) (cut O H') → Q b H') → tt σ H Q
def AOk (K : PySem.W.Frag) (T : Option Trip) (tm : Option (List Int × Int)) (O : AS) (H : Hp) : List V → List Sl → Prop
  | [], [] => True
  | v :: vs, s :: ss => (match s with
      | .d x => Dq K (cut O H) v x
      | .stm => ∃ t, T = some t ∧ tm ≠ none ∧ v = .ref t.1
      | .scr ns => ∃ a, v = .ref a ∧ SqL K (cut O H) a (ns.map V.int)
      | .fz Φ => Φ.ok v (cut O H)
      | _ => False) ∧ AOk K T tm O H vs ss
  | _, _ => False
def EvA (K : PySem.W.Frag) (ta : TA) (ρ : En) (ss : List Sl) (ρ' : En) : Prop :=
  ∀ (C W : AS) (H0 : Hp) (T : Option Trip) (O : AS) (H : Hp) (σ : L2.St), Rep K C W H0 T O H σ ρ →
    ∀ Q : List V → Hp → Prop, (∀ vs H', Rep K C W H0 T O H' σ ρ' → Same (cut O H) (cut O H') → AOk K T ρ'.tm O H' vs ss → Q vs H') → ta σ H Q

def BE (F : Fam) (ρ : En) (e : Expr) (x : PyData) (ρ' : En) : Prop := ∃ t, (∀ X, Fits F X → PE X e t) ∧ EvD F.K t ρ x ρ'
def BL (F : Fam) (ρ : En) (e : Expr) (xs : List PyData) (ρ' : En) : Prop := ∃ t, (∀ X, Fits F X → PE X e t) ∧ EvL F.K t ρ xs ρ'
def BT (F : Fam) (ρ : En) (e : Expr) (b : Bool) (ρ' : En) : Prop := ∃ t, (∀ X, Fits F X → PT X e t) ∧ EvT F.K t ρ b ρ'
def BW (F : Fam) (ρ : En) (e : Expr) (b : Bool) (ρ' : En) : Prop := ∃ t, (∀ X, Fits F X → PW X e t) ∧ EvT F.K t ρ b ρ'
def BA (F : Fam) (ρ : En) (es : List Expr) (ss : List Sl) (ρ' : En) : Prop := ∃ t, (∀ X, Fits F X → PA X es t) ∧ EvA F.K t ρ ss ρ'

theorem Same.rfl' {H : Hp} : Same H H := fun _ _ h => h
section
variable {F : Fam} {ρ ρ1 ρ2 ρ3 : En} {e a b c : Expr} {es : List Expr} {x y z : PyData} {xs ys zs : List PyData} {pos p : Pos}

/-! ### names, constants -/
theorem be_name (i : Nat) {n : Str} (hs : ρ.sl[i]? = some (.d x)) (hN : F.N[i]? = some n := by rfl) (hv : Vis F.sc n := by first | exact Or.inl rfl | exact Or.inr (Or.inl rfl) | exact Or.inr (Or.inr rfl))
    (hd : (n == ("__debug__" : Str)) = false := by decide) (hcd : (n == ("__classdict__" : Str)) = false := by decide) : BE F ρ (.Name n pos) x ρ :=
  ⟨tVar i, fun X hX => pe_var (by rw [hX.N]; exact hN) (hX.vis hv) hd hcd, fun C W H0 T O H σ R Q q => by
    obtain ⟨v, e1, h⟩ := R.sl i _ hs
    exact ⟨v, e1, q v H R Same.rfl' h⟩⟩
theorem be_int {i : Int} {j} : BE F ρ (.Constant (.int i) j pos) (.int i) ρ := ⟨_, fun X hX => pe_int, fun C W H0 T O H σ R Q q => q _ H R Same.rfl' (.int i)⟩
theorem be_bl {i : Bool} {j} : BE F ρ (.Constant (.bool i) j pos) (.bool i) ρ := ⟨_, fun X hX => pe_bl, fun C W H0 T O H σ R Q q => q _ H R Same.rfl' (.bl i)⟩
theorem be_non {j} : BE F ρ (.Constant .none j pos) .none ρ := ⟨_, fun X hX => pe_non, fun C W H0 T O H σ R Q q => q _ H R Same.rfl' .non⟩
theorem be_str {i : Str} {j} : BE F ρ (.Constant (.str i) j pos) (.str i) ρ := ⟨_, fun X hX => pe_str, fun C W H0 T O H σ R Q q => q _ H R Same.rfl' (.str i)⟩
/-- an int constant of the module -/
theorem be_gint {n : Str} {i : Int} {t : Tok} (hm : F.mg n = some (.int i t)) (hg : F.sc.names.lookup n = some .globalImplicit := by rfl) (hd : (n == ("__debug__" : Str)) = false := by decide) : BE F ρ (.Name n pos) (.int i) ρ :=
  ⟨_, fun X hX => pe_glob (v := .int i) (hX.gl hg) (by rw [hX.mg]; exact hm) ⟨t, rfl⟩ hd, fun C W H0 T O H σ R Q q => q _ H R Same.rfl' (.int i)⟩
theorem BE.is (h : BE F ρ e x ρ1) (q : x = y) : BE F ρ e y ρ1 := q ▸ h
theorem BE.iss (h : BE F ρ e x ρ1) (q : x = y) (r : ρ1 = ρ2) : BE F ρ e y ρ2 := q ▸ r ▸ h
theorem BL.is (h : BL F ρ e xs ρ1) (q : xs = ys) : BL F ρ e ys ρ1 := q ▸ h
theorem BT.is {k k' : Bool} (h : BT F ρ e k ρ1) (q : k = k') : BT F ρ e k' ρ1 := q ▸ h

/-! ### operators -/
def RvD (K : PySem.W.Frag) (r : R2) (x y z : PyData) : Prop := ∀ (O : AS) (H : Hp) (v w : V), (∀ a, O a → H a ≠ none) → Dq K (cut O H) v x → Dq K (cut O H) w y → ∀ Q : VK, (∀ u H', Same H H' → Dq K (cut O H') u z → Q u H') → r v w H Q
def RvL (K : PySem.W.Frag) (r : R2) (x y : PyData) (zs : List PyData) : Prop := ∀ (O : AS) (H : Hp) (v w : V), (∀ a, O a → H a ≠ none) → Dq K (cut O H) v x → Dq K (cut O H) w y →
  ∀ Q : VK, (∀ l us H', H l = none → Same H H' → H' l = some (.lst us) → DqA K (cut (or1 O l) H') us zs → Q (.ref l) H') → r v w H Q
theorem ev_op {K : PySem.W.Frag} {ta tb : TE} {r : R2} (ha : EvD K ta ρ x ρ1) (hb : EvD K tb ρ1 y ρ2) (hr : RvD K r x y z) : EvD K (tOp r ta tb) ρ z ρ2 := fun C W H0 T O H σ R Q q =>
  ha C W H0 T O H σ R _ fun v H1 R1 s1 d1 => hb C W H0 T O H1 σ R1 _ fun w H2 R2 s2 d2 => hr O H2 v w R2.alloc (dp_mono s2 _ _ d1) d2 Q fun u H3 s3 d3 => q u H3 (R2.grow s3) ((s1.trans s2).trans (cut_same s3)) d3
theorem ev_opL {K : PySem.W.Frag} {ta tb : TE} {r : R2} (ha : EvD K ta ρ x ρ1) (hb : EvD K tb ρ1 y ρ2) (hr : RvL K r x y zs) : EvL K (tOp r ta tb) ρ zs ρ2 := fun C W H0 T O H σ R Q q =>
  ha C W H0 T O H σ R _ fun v H1 R1 s1 d1 => hb C W H0 T O H1 σ R1 _ fun w H2 R2 s2 d2 => hr O H2 v w R2.alloc (dp_mono s2 _ _ d1) d2 Q fun l us H3 hl s3 hl' d3 => by
    have nl : cut O H l = none := by
      cases e : cut O H l with
      | none => rfl
      | some o =>
        have := (cut_some.mp ((s1.trans s2) l o e)).2
        rw [hl] at this; cases this
    have hH : H l = none := by
      cases e : H l with
      | none => rfl
      | some o =>
        by_cases h : O l
        · exact absurd hl (R2.alloc l h)
        · have : cut O H l = some o := cut_some.mpr ⟨h, e⟩
          rw [nl] at this; cases this
    exact q l us H3 hH hl' (R2.hide hl s3 (by rw [hl']; simp)) (R2.grow s3) ((s1.trans s2).trans (cut_or1 s3 hl)) d3
theorem be_bin {op : Operator} {r : R2} (ho : ∀ X, Fits F X → OpR X (binaryOp op) r) (ha : BE F ρ a x ρ1) (hb : BE F ρ1 b y ρ2) (hr : RvD F.K r x y z) : BE F ρ (.BinOp a op b pos) z ρ2 := by
  obtain ⟨ta, pa, ea⟩ := ha
  obtain ⟨tb, pb, eb⟩ := hb
  exact ⟨_, fun X hX => pe_op (ho X hX) (pa X hX) (pb X hX), ev_op ea eb hr⟩
theorem bl_bin {op : Operator} {r : R2} (ho : ∀ X, Fits F X → OpR X (binaryOp op) r) (ha : BE F ρ a x ρ1) (hb : BE F ρ1 b y ρ2) (hr : RvL F.K r x y zs) : BL F ρ (.BinOp a op b pos) zs ρ2 := by
  obtain ⟨ta, pa, ea⟩ := ha
  obtain ⟨tb, pb, eb⟩ := hb
  exact ⟨_, fun X hX => pe_op (ho X hX) (pa X hX) (pb X hX), ev_opL ea eb hr⟩
theorem rv_I0 {K : PySem.W.Frag} {g : Int → Int → V} {i j : Int} {k : PyData} (h : ∀ H, Dq K H (g i j) k) : RvD K (rI0 g) (.int i) (.int j) k := fun O H v w _ d1 d2 Q q => by
  cases d1; cases d2
  exact ⟨i, j, rfl, rfl, q _ H Same.rfl' (h _)⟩
theorem rv_I {K : PySem.W.Frag} {Cd : Int → Int → Prop} {g : Int → Int → V} {i j : Int} {k : PyData} (hc : Cd i j) (h : ∀ H, Dq K H (g i j) k) : RvD K (rI Cd g) (.int i) (.int j) k := fun O H v w _ d1 d2 Q q => by
  cases d1; cases d2
  exact ⟨i, j, rfl, rfl, hc, q _ H Same.rfl' (h _)⟩
variable {i j : Int}
theorem be_add (ha : BE F ρ a (.int i) ρ1) (hb : BE F ρ1 b (.int j) ρ2) : BE F ρ (.BinOp a .Add b pos) (.int (i + j)) ρ2 := be_bin (fun _ _ => op_add) ha hb (rv_I0 fun _ => .int _)
theorem be_sub (ha : BE F ρ a (.int i) ρ1) (hb : BE F ρ1 b (.int j) ρ2) : BE F ρ (.BinOp a .Sub b pos) (.int (i - j)) ρ2 := be_bin (fun _ _ => op_sub) ha hb (rv_I0 fun _ => .int _)
theorem be_mul (ha : BE F ρ a (.int i) ρ1) (hb : BE F ρ1 b (.int j) ρ2) (hc : CMul i j) : BE F ρ (.BinOp a .Mult b pos) (.int (i * j)) ρ2 := be_bin (fun _ _ => op_mul) ha hb (rv_I hc fun _ => .int _)
theorem be_mod (ha : BE F ρ a (.int i) ρ1) (hb : BE F ρ1 b (.int j) ρ2) (hc : 0 < j) : BE F ρ (.BinOp a .Mod b pos) (.int (i % j)) ρ2 := be_bin (fun _ _ => op_mod) ha hb (rv_I hc fun _ => .int _)
theorem be_fdiv (ha : BE F ρ a (.int i) ρ1) (hb : BE F ρ1 b (.int j) ρ2) (hc : CDiv i j) : BE F ρ (.BinOp a .FloorDiv b pos) (.int (i / j)) ρ2 := be_bin (fun _ _ => op_fdiv) ha hb (rv_I hc fun _ => .int _)
theorem be_pow (ha : BE F ρ a (.int i) ρ1) (hb : BE F ρ1 b (.int j) ρ2) (hc : CPow i j) : BE F ρ (.BinOp a .Pow b pos) (.int (i ^ j.toNat)) ρ2 := be_bin (fun _ _ => op_pow) ha hb (rv_I hc fun _ => .int _)
theorem be_shr (ha : BE F ρ a (.int i) ρ1) (hb : BE F ρ1 b (.int j) ρ2) (hc : 0 ≤ j) : BE F ρ (.BinOp a .RShift b pos) (.int (i / 2 ^ j.toNat)) ρ2 := be_bin (fun _ _ => op_shr) ha hb (rv_I hc fun _ => .int _)
theorem be_neg (ha : BE F ρ a (.int i) ρ1) : BE F ρ (.UnaryOp .USub a pos) (.int (-i)) ρ1 := by
  obtain ⟨ta, pa, ea⟩ := ha
  exact ⟨_, fun X hX => pe_un un_neg (pa X hX), fun C W H0 T O H σ R Q q => ea C W H0 T O H σ R _ fun v H1 R1 s1 d1 => by
    cases d1
    exact ⟨i, rfl, q _ H1 R1 s1 (.int _)⟩⟩

/-! ### comparisons -/
theorem be_cmp {op : CmpOp} {r : R2} (ho : ∀ X, Fits F X → OpR X (compareOp op) r) (ha : BE F ρ a x ρ1) (hb : BE F ρ1 b y ρ2) (hr : RvD F.K r x y z) (hm : behindInMarks op b = false) : BE F ρ (.Compare a [op] [b] pos) z ρ2 := by
  obtain ⟨ta, pa, ea⟩ := ha
  obtain ⟨tb, pb, eb⟩ := hb
  exact ⟨_, fun X hX => pe_cmpR (ho X hX) (pa X hX) (pb X hX) hm, ev_op ea eb hr⟩
theorem bt_cmp {op : CmpOp} {r : R2} {k : Bool} (ho : ∀ X, Fits F X → OpR X (compareOp op) r) (ha : BE F ρ a x ρ1) (hb : BE F ρ1 b y ρ2) (hr : RvD F.K r x y (.bool k)) (hm : behindInMarks op b = false) : BT F ρ (.Compare a [op] [b] pos) k ρ2 := by
  obtain ⟨ta, pa, ea⟩ := ha
  obtain ⟨tb, pb, eb⟩ := hb
  exact ⟨_, fun X hX => pt_cmpR (ho X hX) (pa X hX) (pb X hX) hm, fun C W H0 T O H σ R Q q => ev_op ea eb hr C W H0 T O H σ R _ fun v H1 R1 s1 d1 => by
    cases d1
    exact ⟨k, rfl, q H1 R1 s1⟩⟩
/-- a comparison's rule, by data: what it yields -/
structure CmpD (F : Fam) (op : CmpOp) (b : Expr) (x y : PyData) (k : Bool) : Prop where
  ex : ∃ r : R2, (∀ X, Fits F X → OpR X (compareOp op) r) ∧ RvD F.K r x y (.bool k)
  nm : behindInMarks op b = false
theorem be_c {op : CmpOp} {k : Bool} (ha : BE F ρ a x ρ1) (hb : BE F ρ1 b y ρ2) (c : CmpD F op b x y k) : BE F ρ (.Compare a [op] [b] pos) (.bool k) ρ2 := by
  obtain ⟨⟨r, h1, h2⟩, h3⟩ := c
  exact be_cmp h1 ha hb h2 h3
theorem bt_c {op : CmpOp} {k : Bool} (ha : BE F ρ a x ρ1) (hb : BE F ρ1 b y ρ2) (c : CmpD F op b x y k) : BT F ρ (.Compare a [op] [b] pos) k ρ2 := by
  obtain ⟨⟨r, h1, h2⟩, h3⟩ := c
  exact bt_cmp h1 ha hb h2 h3
theorem c_lt : CmpD F .Lt b (.int i) (.int j) (decide (i < j)) := ⟨⟨_, fun _ _ => op_lt, rv_I0 fun _ => .bl _⟩, nomark b⟩
theorem c_le : CmpD F .LtE b (.int i) (.int j) (decide (i ≤ j)) := ⟨⟨_, fun _ _ => op_le, rv_I0 fun _ => .bl _⟩, nomark b⟩
theorem c_gt : CmpD F .Gt b (.int i) (.int j) (decide (j < i)) := ⟨⟨_, fun _ _ => op_gt, rv_I0 fun _ => .bl _⟩, nomark b⟩
theorem c_ge : CmpD F .GtE b (.int i) (.int j) (decide (j ≤ i)) := ⟨⟨_, fun _ _ => op_ge, rv_I0 fun _ => .bl _⟩, nomark b⟩
theorem c_eq (hx : SeqAt.shaped x = true) (hy : SeqAt.shaped y = true) : CmpD F .Eq b x y (PyData.eqv x y) := ⟨⟨rEqD F.K, fun X hX => by
  have h := op_eqD (X := X) (show X.A.units + 64 < cLine by have := hX.un; omega)
  rw [hX.K] at h
  exact h, fun O H v w _ d1 d2 Q q => ⟨x, y, dq_dp _ _ (Bool.and_eq_true _ _ ▸ hx).1 (dp_mono cut_full _ _ d1), dq_dp _ _ (Bool.and_eq_true _ _ ▸ hy).1 (dp_mono cut_full _ _ d2), hx, hy, q _ H Same.rfl' (.bl _)⟩⟩, nomark b⟩
theorem c_ne (hx : SeqAt.shaped x = true) (hy : SeqAt.shaped y = true) : CmpD F .NotEq b x y (!PyData.eqv x y) := ⟨⟨rNeD F.K, fun X hX => by
  have h := op_neD (X := X) (show X.A.units + 64 < cLine by have := hX.un; omega)
  rw [hX.K] at h
  exact h, fun O H v w _ d1 d2 Q q => ⟨x, y, dq_dp _ _ (Bool.and_eq_true _ _ ▸ hx).1 (dp_mono cut_full _ _ d1), dq_dp _ _ (Bool.and_eq_true _ _ ▸ hy).1 (dp_mono cut_full _ _ d2), hx, hy, q _ H Same.rfl' (.bl _)⟩⟩, nomark b⟩
theorem c_eqI : CmpD F .Eq b (.int i) (.int j) (decide (i = j)) := by
  have h := c_eq (F := F) (b := b) (x := .int i) (y := .int j) (by rfl) (by rfl)
  have e : PyData.eqv (.int i) (.int j) = decide (i = j) := by simp [PyData.eqv, Bool.beq_eq_decide_eq]
  rw [e] at h; exact h
theorem c_neI : CmpD F .NotEq b (.int i) (.int j) (!decide (i = j)) := by
  have h := c_ne (F := F) (b := b) (x := .int i) (y := .int j) (by rfl) (by rfl)
  have e : PyData.eqv (.int i) (.int j) = decide (i = j) := by simp [PyData.eqv, Bool.beq_eq_decide_eq]
  rw [e] at h; exact h
def isNone : PyData → Bool
  | .none => true
  | _ => false
theorem dq_non {K : PySem.W.Frag} {H : Hp} {v : V} (h : Dq K H v x) : decide (v = .non) = isNone x := by
  cases h <;> first | rfl | simp [isNone]
theorem c_isN : CmpD F .Is b x .none (isNone x) := ⟨⟨_, fun X hX => op_isN, fun O H v w _ d1 d2 Q q => by
  cases d2
  refine ⟨rfl, q _ H Same.rfl' ?_⟩
  rw [dq_non d1]
  exact .bl _⟩, nomark b⟩
theorem c_notN : CmpD F .IsNot b x .none (!isNone x) := ⟨⟨_, fun X hX => op_notN, fun O H v w _ d1 d2 Q q => by
  cases d2
  refine ⟨rfl, q _ H Same.rfl' ?_⟩
  rw [dq_non d1]
  exact .bl _⟩, nomark b⟩
/-- a < b < c -/
theorem be_chain {op op' : CmpOp} {k k' : Bool} (ha : BE F ρ a x ρ1) (hb : BE F ρ1 b y ρ2) (hc : BE F ρ2 c z ρ3) (h : CmpD F op b x y k) (h' : CmpD F op' c y z k') (hk : k = false → ρ2 = ρ3)
    (hl : lastMarks [op, op'] [b, c] = false := by rfl) : BE F ρ (.Compare a [op, op'] [b, c] pos) (.bool (k && k')) ρ3 := by
  obtain ⟨ta, pa, ea⟩ := ha
  obtain ⟨tb, pb, eb⟩ := hb
  obtain ⟨tc, pc, ec⟩ := hc
  obtain ⟨⟨r, h1, h2⟩, _⟩ := h
  obtain ⟨⟨r', h1', h2'⟩, _⟩ := h'
  refine ⟨_, fun X hX => pe_chain (h1 X hX) (h1' X hX) (pa X hX) (pb X hX) (pc X hX) hl, fun C W H0 T O H σ R Q q => ?_⟩
  refine ea C W H0 T O H σ R _ fun v H1 R1 s1 d1 => eb C W H0 T O H1 σ R1 _ fun w H2 R2 s2 d2 => h2 O H2 v w R2.alloc (dp_mono s2 _ _ d1) d2 _ fun u H3 s3 d3 => ?_
  cases d3
  refine ⟨k, rfl, ?_⟩
  have R3 := R2.grow s3
  have s23 := (s1.trans s2).trans (cut_same (O := O) s3)
  cases k with
  | false => exact q _ H3 (hk rfl ▸ R3) s23 (.bl _)
  | true => exact ec C W H0 T O H3 σ R3 _ fun w' H4 R4 s4 d4 => h2' O H4 w w' R4.alloc (dp_mono ((cut_same s3).trans s4) _ _ d2) d4 Q fun u H5 s5 d5 => q u H5 (R4.grow s5) ((s23.trans s4).trans (cut_same s5)) d5

/-! ### tests -/
theorem bt_val {k : Bool} (h : BE F ρ e (.bool k) ρ1) (he : ∀ env whole, isTrue e env whole = (do let v ← whole; standAt e.pos; holding [v] (truthy v)) := by intro _ _; rfl) : BT F ρ e k ρ1 := by
  obtain ⟨t, p1, e1⟩ := h
  exact ⟨_, fun X hX => pt_val (p1 X hX) (he X.env), fun C W H0 T O H σ R Q q => e1 C W H0 T O H σ R _ fun v H1 R1 s1 d1 => by
    cases d1
    exact ⟨k, rfl, q H1 R1 s1⟩⟩
theorem bt_not {k : Bool} (h : BT F ρ e k ρ1) : BT F ρ (.UnaryOp .Not e pos) (!k) ρ1 := by
  obtain ⟨t, p1, e1⟩ := h
  exact ⟨_, fun X hX => pt_not (p1 X hX), fun C W H0 T O H σ R Q q => e1 C W H0 T O H σ R _ fun H1 R1 s1 => q H1 R1 s1⟩
theorem BW.bt {k : Bool} (h : BW F ρ e k ρ1) : BT F ρ e k ρ1 := by
  obtain ⟨t, p1, e1⟩ := h
  exact ⟨t, fun X hX => (p1 X hX).pt, e1⟩
theorem bw_and1 {k : Bool} (h : BT F ρ a k ρ1) : BW F ρ (.BoolOp .And [a] pos) k ρ1 := by
  obtain ⟨t, p1, e1⟩ := h
  exact ⟨t, fun X hX => pw_and1 (p1 X hX), e1⟩
theorem bw_or1 {k : Bool} (h : BT F ρ a k ρ1) : BW F ρ (.BoolOp .Or [a] pos) k ρ1 := by
  obtain ⟨t, p1, e1⟩ := h
  exact ⟨t, fun X hX => pw_or1 (p1 X hX), e1⟩
/-- the parts further on are asked for what is read only where they are reached -/
theorem bw_andT {k : Bool} (h : BT F ρ a true ρ1) (h2 : BW F ρ1 (.BoolOp .And (b :: es) pos) k ρ2) : BW F ρ (.BoolOp .And (a :: b :: es) pos) k ρ2 := by
  obtain ⟨t, p1, e1⟩ := h
  obtain ⟨u, p2, e2⟩ := h2
  exact ⟨_, fun X hX => pw_and (p1 X hX) (p2 X hX), fun C W H0 T O H σ R Q q => e1 C W H0 T O H σ R _ fun H1 R1 s1 => iteT (e2 C W H0 T O H1 σ R1 Q fun H2 R2 s2 => q H2 R2 (s1.trans s2))⟩
theorem bw_orF {k : Bool} (h : BT F ρ a false ρ1) (h2 : BW F ρ1 (.BoolOp .Or (b :: es) pos) k ρ2) : BW F ρ (.BoolOp .Or (a :: b :: es) pos) k ρ2 := by
  obtain ⟨t, p1, e1⟩ := h
  obtain ⟨u, p2, e2⟩ := h2
  exact ⟨_, fun X hX => pw_or (p1 X hX) (p2 X hX), fun C W H0 T O H σ R Q q => e1 C W H0 T O H σ R _ fun H1 R1 s1 => iteF (e2 C W H0 T O H1 σ R1 Q fun H2 R2 s2 => q H2 R2 (s1.trans s2))⟩
theorem pw_never {X : Cx} {e : Expr} : PW X e (fun _ _ _ => False) := ⟨fun _ _ _ _ _ _ _ h => h.elim⟩
theorem pe_never {X : Cx} {e : Expr} : PE X e (fun _ _ _ => False) := ⟨fun _ _ _ _ _ _ h => h.elim⟩
theorem bw_andF (h : BT F ρ a false ρ1) : BW F ρ (.BoolOp .And (a :: b :: es) pos) false ρ1 := by
  obtain ⟨t, p1, e1⟩ := h
  exact ⟨_, fun X hX => pw_and (p1 X hX) pw_never, fun C W H0 T O H σ R Q q => e1 C W H0 T O H σ R _ fun H1 R1 s1 => iteF (q H1 R1 s1)⟩
theorem bw_orT (h : BT F ρ a true ρ1) : BW F ρ (.BoolOp .Or (a :: b :: es) pos) true ρ1 := by
  obtain ⟨t, p1, e1⟩ := h
  exact ⟨_, fun X hX => pw_or (p1 X hX) pw_never, fun C W H0 T O H σ R Q q => e1 C W H0 T O H σ R _ fun H1 R1 s1 => iteT (q H1 R1 s1)⟩
theorem bw_and {k k' : Bool} (h : BT F ρ a k ρ1) (h2 : BW F ρ1 (.BoolOp .And (b :: es) pos) k' ρ1) : BW F ρ (.BoolOp .And (a :: b :: es) pos) (k && k') ρ1 := by
  cases k with
  | true => exact bw_andT h h2
  | false => exact bw_andF h
theorem bw_or {k k' : Bool} (h : BT F ρ a k ρ1) (h2 : BW F ρ1 (.BoolOp .Or (b :: es) pos) k' ρ1) : BW F ρ (.BoolOp .Or (a :: b :: es) pos) (k || k') ρ1 := by
  cases k with
  | true => exact bw_orT h
  | false => exact bw_orF h h2
/-! ### and, or, not as values -/
theorem be_one {op} (h : BE F ρ e x ρ1) : BE F ρ (.BoolOp op [e] pos) x ρ1 := by
  obtain ⟨t, p1, e1⟩ := h
  exact ⟨t, fun X hX => pe_one (p1 X hX), e1⟩
theorem be_andT (h : BE F ρ a (.bool true) ρ1) (h2 : BE F ρ1 (.BoolOp .And (b :: es) pos) x ρ2) : BE F ρ (.BoolOp .And (a :: b :: es) pos) x ρ2 := by
  obtain ⟨t, p1, e1⟩ := h
  obtain ⟨u, p2, e2⟩ := h2
  exact ⟨_, fun X hX => pe_and (p1 X hX) (p2 X hX), fun C W H0 T O H σ R Q q => e1 C W H0 T O H σ R _ fun v H1 R1 s1 d1 => by
    cases d1
    exact ⟨true, rfl, iteT (e2 C W H0 T O H1 σ R1 Q fun v H2 R2 s2 d2 => q v H2 R2 (s1.trans s2) d2)⟩⟩
theorem be_andF (h : BE F ρ a (.bool false) ρ1) : BE F ρ (.BoolOp .And (a :: b :: es) pos) (.bool false) ρ1 := by
  obtain ⟨t, p1, e1⟩ := h
  exact ⟨_, fun X hX => pe_and (p1 X hX) pe_never, fun C W H0 T O H σ R Q q => e1 C W H0 T O H σ R _ fun v H1 R1 s1 d1 => by
    cases d1
    exact ⟨false, rfl, iteF (q _ H1 R1 s1 (.bl _))⟩⟩
theorem be_and {k k' : Bool} (h : BE F ρ a (.bool k) ρ1) (h2 : k = true → BE F ρ1 (.BoolOp .And (b :: es) pos) (.bool k') ρ1) : BE F ρ (.BoolOp .And (a :: b :: es) pos) (.bool (k && k')) ρ1 := by
  cases k with
  | true => exact be_andT h (h2 rfl)
  | false => exact be_andF h
theorem be_orF (h : BE F ρ a (.bool false) ρ1) (h2 : BE F ρ1 (.BoolOp .Or (b :: es) pos) x ρ2) : BE F ρ (.BoolOp .Or (a :: b :: es) pos) x ρ2 := by
  obtain ⟨t, p1, e1⟩ := h
  obtain ⟨u, p2, e2⟩ := h2
  exact ⟨_, fun X hX => pe_or (p1 X hX) (p2 X hX), fun C W H0 T O H σ R Q q => e1 C W H0 T O H σ R _ fun v H1 R1 s1 d1 => by
    cases d1
    exact ⟨false, rfl, iteF (e2 C W H0 T O H1 σ R1 Q fun v H2 R2 s2 d2 => q v H2 R2 (s1.trans s2) d2)⟩⟩
theorem be_orT (h : BE F ρ a (.bool true) ρ1) : BE F ρ (.BoolOp .Or (a :: b :: es) pos) (.bool true) ρ1 := by
  obtain ⟨t, p1, e1⟩ := h
  exact ⟨_, fun X hX => pe_or (p1 X hX) pe_never, fun C W H0 T O H σ R Q q => e1 C W H0 T O H σ R _ fun v H1 R1 s1 d1 => by
    cases d1
    exact ⟨true, rfl, iteT (q _ H1 R1 s1 (.bl _))⟩⟩
theorem be_or {k k' : Bool} (h : BE F ρ a (.bool k) ρ1) (h2 : k = false → BE F ρ1 (.BoolOp .Or (b :: es) pos) (.bool k') ρ1) : BE F ρ (.BoolOp .Or (a :: b :: es) pos) (.bool (k || k')) ρ1 := by
  cases k with
  | true => exact be_orT h
  | false => exact be_orF h (h2 rfl)
theorem be_not {k : Bool} (h : BE F ρ e (.bool k) ρ1) : BE F ρ (.UnaryOp .Not e pos) (.bool (!k)) ρ1 := by
  obtain ⟨t, p1, e1⟩ := h
  exact ⟨_, fun X hX => pe_not (p1 X hX), fun C W H0 T O H σ R Q q => e1 C W H0 T O H σ R _ fun v H1 R1 s1 d1 => by
    cases d1
    exact ⟨k, rfl, q _ H1 R1 s1 (.bl _)⟩⟩
theorem be_ifT (h : BT F ρ c true ρ1) (h2 : BE F ρ1 a x ρ2) : BE F ρ (.IfExp c a b pos) x ρ2 := by
  obtain ⟨t, p1, e1⟩ := h
  obtain ⟨u, p2, e2⟩ := h2
  exact ⟨_, fun X hX => pe_ifExp (p1 X hX) (p2 X hX) pe_never, fun C W H0 T O H σ R Q q => e1 C W H0 T O H σ R _ fun H1 R1 s1 => iteT (e2 C W H0 T O H1 σ R1 Q fun v H2 R2 s2 d2 => q v H2 R2 (s1.trans s2) d2)⟩
theorem be_ifF (h : BT F ρ c false ρ1) (h2 : BE F ρ1 b x ρ2) : BE F ρ (.IfExp c a b pos) x ρ2 := by
  obtain ⟨t, p1, e1⟩ := h
  obtain ⟨u, p2, e2⟩ := h2
  exact ⟨_, fun X hX => pe_ifExp (p1 X hX) pe_never (p2 X hX), fun C W H0 T O H σ R Q q => e1 C W H0 T O H σ R _ fun H1 R1 s1 => iteF (e2 C W H0 T O H1 σ R1 Q fun v H2 R2 s2 d2 => q v H2 R2 (s1.trans s2) d2)⟩
end
end TC

set_option maxRecDepth 100000
set_option maxHeartbeats 4000000
namespace TC
open PySem PySem.Spec L2

/-! ### the readings as one -/
def supE (F : Fam) (e : Expr) : TE := fun σ H Q => ∃ t : TE, (∀ X, Fits F X → PE X e t) ∧ t σ H Q
def supT (F : Fam) (e : Expr) : TT := fun σ H Q => ∃ t : TT, (∀ X, Fits F X → PT X e t) ∧ t σ H Q
def supS (F : Fam) (b : List Stmt) : TS := fun D σ H => ∃ t : TS, (∀ X, Fits F X → PSs X b t) ∧ t D σ H
def supG (F : Fam) (e : Expr) : TG := fun v σ H Q => ∃ t : TG, (∀ X, Fits F X → PG X e t) ∧ t v σ H Q
section
variable {F : Fam} {X : Cx}
theorem supE_ok {e : Expr} (hX : Fits F X) : PE X e (supE F e) := ⟨fun pins s σ H Q I ⟨t, p, h⟩ => (p X hX).run pins s σ H Q I h⟩
theorem supT_ok {e : Expr} (hX : Fits F X) : PT X e (supT F e) := ⟨fun pins s σ H Q I ⟨t, p, h⟩ => (p X hX).run pins s σ H Q I h⟩
theorem supS_ok {b : List Stmt} (hX : Fits F X) : PSs X b (supS F b) := ⟨fun pins s σ H Q I ⟨t, p, h⟩ => (p X hX).run pins s σ H Q I h⟩
theorem supG_ok {e : Expr} (hX : Fits F X) : PG X e (supG F e) := ⟨fun pins s σ H v u Q I r ⟨t, p, h⟩ => (p X hX).run pins s σ H v u Q I r h⟩
end
theorem BE.uni {F : Fam} {ρ ρ' : En} {e : Expr} {x : PyData} (h : BE F ρ e x ρ') : EvD F.K (supE F e) ρ x ρ' := by
  obtain ⟨t, p, q⟩ := h
  exact fun C W H0 T O H σ R Q k => ⟨t, p, q C W H0 T O H σ R Q k⟩
theorem BT.uni {F : Fam} {ρ ρ' : En} {e : Expr} {x : Bool} (h : BT F ρ e x ρ') : EvT F.K (supT F e) ρ x ρ' := by
  obtain ⟨t, p, q⟩ := h
  exact fun C W H0 T O H σ R Q k => ⟨t, p, q C W H0 T O H σ R Q k⟩

/-! ### a fresh list -/
section
variable {K : PySem.W.Frag} {C W O : AS} {H0 H H' : Hp} {T : Option Trip} {σ : L2.St} {ρ ρ' : En}
theorem Rep.none0 (R : Rep K C W H0 T O H σ ρ) {l : Addr} (h : H l = none) : H0 l = none := by
  cases q : H0 l with
  | none => rfl
  | some o =>
    by_cases w : W l
    · exact absurd h (R.alloc l (R.co l (R.wc l w)))
    · rw [R.keep l o q w] at h; cases h
/-- free where what is seen and what is hidden is kept -/
theorem Rep.back (R : Rep K C W H0 T O H σ ρ) (R' : Rep K C W H0 T O H' σ ρ') (s : Same (cut O H) (cut O H')) {l : Addr} (h : H' l = none) : H l = none := by
  cases e : H l with
  | none => rfl
  | some o =>
    by_cases z : O l
    · exact absurd h (R'.alloc l z)
    · rw [(cut_some.mp (s l o (cut_some.mpr ⟨z, e⟩))).2] at h; cases h
theorem same_new {p : Addr} {o : HO} (h : H p = none) : Same H (upd H p o) := fun b u q => by rw [upd_ne (ne_of_none q h)]; exact q
theorem dq_ofL {l : Addr} {vs : List V} {xs : List PyData} (hl : ¬ O l) (h : H l = some (.lst vs)) (d : DqA K (cut (or1 O l) H) vs xs) : Dq K (cut O H) (.ref l) (.list xs) :=
  .lst (cut_some.mpr ⟨hl, h⟩) (dpa_mono (cut_sub fun _ z => .inl z) _ _ d)
end
theorem be_ofL {F : Fam} {ρ ρ' : En} {e : Expr} {xs : List PyData} (h : BL F ρ e xs ρ') : BE F ρ e (.list xs) ρ' := by
  obtain ⟨t, p, q⟩ := h
  exact ⟨t, p, fun C W H0 T O H σ R Q k => q C W H0 T O H σ R Q fun l vs H' hl hl' R1 R2 s d => k _ H' R2 (s.trans (cut_sub fun _ z => .inl z)) (dq_ofL (R.nof hl) hl' d)⟩

/-! ### rows of expressions -/
def EvDs (K : PySem.W.Frag) (ta : TA) (ρ : En) (xs : List PyData) (ρ' : En) : Prop :=
  ∀ (C W : AS) (H0 : Hp) (T : Option Trip) (O : AS) (H : Hp) (σ : L2.St), Rep K C W H0 T O H σ ρ →
    ∀ Q : List V → Hp → Prop, (∀ vs H', Rep K C W H0 T O H' σ ρ' → Same (cut O H) (cut O H') → DqA K (cut O H') vs xs → Q vs H') → ta σ H Q
def BD (F : Fam) (ρ : En) (es : List Expr) (xs : List PyData) (ρ' : En) : Prop := ∃ t, (∀ X, Fits F X → PA X es t) ∧ EvDs F.K t ρ xs ρ'
section
variable {F : Fam} {ρ ρ1 ρ2 ρ3 : En} {e a b c : Expr} {es : List Expr} {x y z : PyData} {xs ys zs : List PyData} {pos p : Pos} {ss : List Sl}
theorem bd_nil : BD F ρ [] [] ρ := ⟨_, fun X hX => pa_nil, fun C W H0 T O H σ R Q q => q [] H R Same.rfl' .nil⟩
theorem bd_cons (h : BE F ρ e x ρ1) (r : BD F ρ1 es xs ρ2) (hs : ∀ env, starEach (e :: es) env = (false, eval e env) :: starEach es env := by intro _; rfl) : BD F ρ (e :: es) (x :: xs) ρ2 := by
  obtain ⟨t, p1, e1⟩ := h
  obtain ⟨u, p2, e2⟩ := r
  refine ⟨_, fun X hX => pa_cons (p1 X hX) (p2 X hX) (hs X.env), fun C W H0 T O H σ R Q q => ?_⟩
  exact e1 C W H0 T O H σ R _ fun v H1 R1 s1 d1 => e2 C W H0 T O H1 σ R1 _ fun vs H2 R2 s2 d2 => q _ H2 R2 (s1.trans s2) (.cons (dp_mono s2 _ _ d1) d2)
theorem ba_nil : BA F ρ [] [] ρ := ⟨_, fun X hX => pa_nil, fun C W H0 T O H σ R Q q => q [] H R Same.rfl' trivial⟩
theorem ba_cons (h : BE F ρ e x ρ1) (r : BA F ρ1 es ss ρ2) (hs : ∀ env, starEach (e :: es) env = (false, eval e env) :: starEach es env := by intro _; rfl) : BA F ρ (e :: es) (.d x :: ss) ρ2 := by
  obtain ⟨t, p1, e1⟩ := h
  obtain ⟨u, p2, e2⟩ := r
  refine ⟨_, fun X hX => pa_cons (p1 X hX) (p2 X hX) (hs X.env), fun C W H0 T O H σ R Q q => ?_⟩
  exact e1 C W H0 T O H σ R _ fun v H1 R1 s1 d1 => e2 C W H0 T O H1 σ R1 _ fun vs H2 R2 s2 d2 => q _ H2 R2 (s1.trans s2) ⟨dp_mono s2 _ _ d1, d2⟩
theorem ba_scr (i : Nat) {n : Str} {ns : List Int} (hs : ρ.sl[i]? = some (.scr ns)) (r : BA F ρ es ss ρ2) (hN : F.N[i]? = some n := by rfl) (hv : Vis F.sc n := by first | exact Or.inl rfl | exact Or.inr (Or.inl rfl) | exact Or.inr (Or.inr rfl))
    (hd : (n == ("__debug__" : Str)) = false := by decide) (hcd : (n == ("__classdict__" : Str)) = false := by decide) : BA F ρ (.Name n pos :: es) (.scr ns :: ss) ρ2 := by
  obtain ⟨u, p2, e2⟩ := r
  refine ⟨_, fun X hX => pa_cons (pe_var (by rw [hX.N]; exact hN) (hX.vis hv) hd hcd) (p2 X hX) rfl, fun C W H0 T O H σ R Q q => ?_⟩
  obtain ⟨a, e1, h⟩ := R.sl i _ hs
  exact ⟨_, e1, e2 C W H0 T O H σ R _ fun vs H2 R2 s2 d2 => q _ H2 R2 s2 ⟨⟨a, rfl, s2.seq h⟩, d2⟩⟩
theorem be_tup {k : Nat} (h : BD F ρ es xs ρ1) (hz : xs.length ≤ 1000 := by first | decide | simp) : BE F ρ (.Tuple es k pos) (.tuple xs) ρ1 := by
  obtain ⟨t, p1, e1⟩ := h
  refine ⟨_, fun X hX => pe_tup (p1 X hX), fun C W H0 T O H σ R Q q => e1 C W H0 T O H σ R _ fun vs H1 R1 s1 d1 => ⟨Nat.le_of_lt (small1000 (by rw [dpa_len d1]; exact hz)), fun p hp => ?_⟩⟩
  have s2 : Same H1 (upd H1 p (.tup vs)) := same_new hp
  exact q _ _ (R1.grow s2) (s1.trans (cut_same s2)) (.tup (.inl (.inl (cut_some.mpr ⟨R1.nof hp, upd_same⟩))) (dpa_mono (cut_same s2) _ _ d1))
theorem bl_lst (h : BD F ρ es xs ρ1) (hz : xs.length ≤ 1000 := by first | decide | simp) : BL F ρ (.List es pos) xs ρ1 := by
  obtain ⟨t, p1, e1⟩ := h
  refine ⟨_, fun X hX => pe_lst (p1 X hX), fun C W H0 T O H σ R Q q => e1 C W H0 T O H σ R _ fun vs H1 R1 s1 d1 => ⟨Nat.le_of_lt (small1000 (by rw [dpa_len d1]; exact hz)), fun p hp => ?_⟩⟩
  have s2 : Same H1 (upd H1 p (.lst vs)) := same_new hp
  exact q p vs _ (R.back R1 s1 hp) upd_same (R1.hide hp s2 (by rw [upd_same]; simp)) (R1.grow s2) (s1.trans (cut_or1 s2 hp)) (dpa_mono (cut_or1 s2 hp) _ _ d1)

/-! ### subscripts -/
theorem atI_map {K : PySem.W.Frag} {H : Hp} {vs : List V} {i : Int} (d : DqA K H vs xs) (h : atI xs i = some x) : ∃ v, atI vs i = some v ∧ Dq K H v x := by
  unfold atI at h ⊢
  rw [dpa_len d]
  cases e : ixN xs.length i with
  | none => rw [e] at h; cases h
  | some j =>
    rw [e] at h
    obtain ⟨v, e1, q⟩ := dpa_get d h
    exact ⟨v, e1, q⟩
theorem be_ixT {i : Int} (ha : BE F ρ a (.tuple xs) ρ1) (hb : BE F ρ1 b (.int i) ρ2) (h : atI xs i = some x) (hs : PlainIx b := by intro _ _; rfl) : BE F ρ (.Subscript a b pos) x ρ2 := by
  obtain ⟨ta, pa, ea⟩ := ha
  obtain ⟨tb, pb, eb⟩ := hb
  refine ⟨tOp (rIxT F.K) ta tb, fun X hX => ?_, ev_op ea eb fun O H v w _ d1 d2 Q q => ?_⟩
  · have h := pe_ix (pos := pos) (ix_tup (X := X)) (pa X hX) (pb X hX) hs
    rw [hX.K] at h
    exact h
  · cases d2
    cases d1 with
    | tup h1 h2 =>
      obtain ⟨v, e1, d⟩ := atI_map h2 h
      exact ⟨_, _, i, v, rfl, rfl, seqT_mono cut_full h1, e1, q v H Same.rfl' d⟩
theorem be_ixL {i : Int} (ha : BE F ρ a (.list xs) ρ1) (hb : BE F ρ1 b (.int i) ρ2) (h : atI xs i = some x) (hs : PlainIx b := by intro _ _; rfl) : BE F ρ (.Subscript a b pos) x ρ2 := by
  obtain ⟨ta, pa, ea⟩ := ha
  obtain ⟨tb, pb, eb⟩ := hb
  refine ⟨tOp (rIxL F.K) ta tb, fun X hX => ?_, ev_op ea eb fun O H v w _ d1 d2 Q q => ?_⟩
  · have h := pe_ix (pos := pos) (ix_list (X := X)) (pa X hX) (pb X hX) hs
    rw [hX.K] at h
    exact h
  · cases d2
    cases d1 with
    | lst h1 h2 =>
      obtain ⟨v, e1, d⟩ := atI_map h2 h
      exact ⟨_, _, i, v, rfl, rfl, SqL.of (cut_some.mp h1).2, e1, q v H Same.rfl' d⟩
/-- an item of a list of one's own -/
theorem be_ixO (k : Nat) {n : Str} {i : Int} (hs : ρ.sl[k]? = some (.own xs)) (hb : BE F ρ b (.int i) ρ) (h : atI xs i = some x) (hN : F.N[k]? = some n := by rfl) (hv : Vis F.sc n := by first | exact Or.inl rfl | exact Or.inr (Or.inl rfl) | exact Or.inr (Or.inr rfl))
    (hpl : PlainIx b := by intro _ _; rfl) (hd : (n == ("__debug__" : Str)) = false := by decide) (hcd : (n == ("__classdict__" : Str)) = false := by decide) : BE F ρ (.Subscript (.Name n p) b pos) x ρ := by
  obtain ⟨tb, pb, eb⟩ := hb
  refine ⟨tOp (rIxL F.K) (tVar k) tb, fun X hX => ?_, fun C W H0 T O H σ R Q q => ?_⟩
  · have h := pe_ix (pos := pos) (ix_list (X := X)) (pe_var (pos := p) (by rw [hX.N]; exact hN) (hX.vis hv) hd hcd) (pb X hX) hpl
    rw [hX.K] at h
    exact h
  · obtain ⟨al, vs0, e0, _⟩ := R.sl k _ hs
    refine ⟨_, e0, eb C W H0 T O H σ R _ fun w H1 R1 s1 d1 => ?_⟩
    cases d1
    obtain ⟨a1, vs, e1, o1, c1, t1, h1, dd⟩ := R1.sl k _ hs
    rw [e0] at e1
    cases e1
    obtain ⟨v, e2, d⟩ := atI_map dd h
    exact ⟨al, vs, i, v, rfl, rfl, SqL.of h1, e2, q v H1 R1 s1 d⟩

/-! ### slices -/
def EvO (K : PySem.W.Frag) (to : TO) (ρ : En) (o : Option Int) (ρ' : En) : Prop :=
  ∀ (C W : AS) (H0 : Hp) (T : Option Trip) (O : AS) (H : Hp) (σ : L2.St), Rep K C W H0 T O H σ ρ →
    ∀ Q : Option Int → Hp → Prop, (∀ H', Rep K C W H0 T O H' σ ρ' → Same (cut O H) (cut O H') → Q o H') → to σ H Q
def BO (F : Fam) (ρ : En) (e : Option Expr) (o : Option Int) (ρ' : En) : Prop := ∃ t, (∀ X, Fits F X → PO X e t) ∧ EvO F.K t ρ o ρ'
theorem bo_none : BO F ρ none none ρ := ⟨_, fun X hX => po_none, fun C W H0 T O H σ R Q q => q H R Same.rfl'⟩
theorem bo_some {i : Int} (h : BE F ρ e (.int i) ρ1) : BO F ρ (some e) (some i) ρ1 := by
  obtain ⟨t, p1, e1⟩ := h
  exact ⟨_, fun X hX => po_some (p1 X hX), fun C W H0 T O H σ R Q q => e1 C W H0 T O H σ R _ fun v H1 R1 s1 d1 => by
    cases d1
    exact ⟨i, rfl, q H1 R1 s1⟩⟩
/-- a cut of data -/
def cutD (xs : List PyData) (lo hi : Option Int) : List PyData := (xs.drop (HT.sIx xs.length 0 lo)).take (HT.sIx xs.length xs.length hi - HT.sIx xs.length 0 lo)
theorem dqa_cut {K : PySem.W.Frag} {H : Hp} {vs : List V} {lo hi : Option Int} (d : DqA K H vs xs) : DqA K H (cutV vs lo hi) (cutD xs lo hi) := by
  unfold cutV cutD
  rw [dpa_len d]
  exact dpa_take _ (dpa_drop _ d)
theorem cutD_whole {lo hi : Option Int} (h : HT.sIx xs.length 0 lo = 0 ∧ HT.sIx xs.length xs.length hi = xs.length) : cutD xs lo hi = xs := by
  unfold cutD
  rw [h.1, h.2, Nat.sub_zero, List.drop_zero, List.take_length]
variable {lo hi : Option Expr} {l u : Option Int} {p2 : Pos}
theorem be_slT (ha : BE F ρ a (.tuple xs) ρ1) (hl : BO F ρ1 lo l ρ2) (hu : BO F ρ2 hi u ρ3) : BE F ρ (.Subscript a (.Slice lo hi none p2) pos) (.tuple (cutD xs l u)) ρ3 := by
  obtain ⟨ta, pa, ea⟩ := ha
  obtain ⟨tl, pl, el⟩ := hl
  obtain ⟨tu, pu, eu⟩ := hu
  refine ⟨tSl (rSlA F.K) ta tl tu, fun X hX => ?_, fun C W H0 T O H σ R Q q => ea C W H0 T O H σ R _ fun v H1 R1 s1 d1 => el C W H0 T O H1 σ R1 _ fun H2 R2 s2 => eu C W H0 T O H2 σ R2 _ fun H3 R3 s3 => ?_⟩
  · have h := pe_slice (p2 := p2) (pos := pos) (sl_tupA (X := X)) (pa X hX) (pl X hX) (pu X hX)
    rw [hX.K] at h
    exact h
  · have d3 := dp_mono (s2.trans s3) _ _ d1
    have s13 := (s1.trans s2).trans s3
    cases d3 with
    | @tup a0 vs _ h1 h2 =>
      refine ⟨a0, vs, rfl, seqT_mono cut_full h1, fun hw => ?_, fun hw p hp => ?_⟩
      · rw [dpa_len h2] at hw
        exact q _ H3 R3 s13 ((cutD_whole hw).symm ▸ .tup h1 h2)
      · have s4 : Same H3 (upd H3 p (.tup (cutV vs l u))) := same_new hp
        exact q _ _ (R3.grow s4) (s13.trans (cut_same s4)) (.tup (.inl (.inl (cut_some.mpr ⟨R3.nof hp, upd_same⟩))) (dpa_mono (cut_same s4) _ _ (dqa_cut h2)))
theorem bl_slL (ha : BE F ρ a (.list xs) ρ1) (hl : BO F ρ1 lo l ρ2) (hu : BO F ρ2 hi u ρ3) : BL F ρ (.Subscript a (.Slice lo hi none p2) pos) (cutD xs l u) ρ3 := by
  obtain ⟨ta, pa, ea⟩ := ha
  obtain ⟨tl, pl, el⟩ := hl
  obtain ⟨tu, pu, eu⟩ := hu
  refine ⟨tSl (rSlL F.K) ta tl tu, fun X hX => ?_, fun C W H0 T O H σ R Q q => ea C W H0 T O H σ R _ fun v H1 R1 s1 d1 => el C W H0 T O H1 σ R1 _ fun H2 R2 s2 => eu C W H0 T O H2 σ R2 _ fun H3 R3 s3 => ?_⟩
  · have h := pe_slice (p2 := p2) (pos := pos) (sl_list (X := X)) (pa X hX) (pl X hX) (pu X hX)
    rw [hX.K] at h
    exact h
  · have d3 := dp_mono (s2.trans s3) _ _ d1
    have s13 := (s1.trans s2).trans s3
    cases d3 with
    | @lst a0 vs _ h1 h2 =>
      refine ⟨a0, vs, rfl, SqL.of (cut_some.mp h1).2, fun p hp => ?_⟩
      have s4 : Same H3 (upd H3 p (.lst (cutV vs l u))) := same_new hp
      exact q p _ _ (R.back R3 s13 hp) upd_same (R3.hide hp s4 (by rw [upd_same]; simp)) (R3.grow s4) (s13.trans (cut_or1 s4 hp)) (dpa_mono (cut_or1 s4 hp) _ _ (dqa_cut h2))
end
end TC

set_option maxRecDepth 100000
set_option maxHeartbeats 4000000
namespace TC
open PySem PySem.Spec L2

/-! ### what a call hands back -/
inductive Res where
  | d (x : PyData)
  | l (xs : List PyData)
  | s (ds : List Int) (p : Int)
  | x (c : Value) (fs : List (Str × PyData))
  | o (Ψ : Fo)
def ResOk (K : PySem.W.Frag) (C : AS) (H0 H' : Hp) (v : V) : Res → Prop
  | .d x => Dq K (cut C H') v x
  | .l xs => ∃ a vs, v = .ref a ∧ H0 a = none ∧ H' a = some (.lst vs) ∧ DqA K (cut (or1 C a) H') vs xs
  | .x _ _ => False
  | .o Ψ => ∃ S : AS, (∀ a, S a → H0 a = none ∧ H' a ≠ none) ∧ Ψ.ok v S H' (cut (fun a => C a ∨ S a) H')
  | .s ds p => ∃ t : Trip, v = .ref t.1 ∧ H0 t.2.2 = none ∧ H' t.2.2 = some (.lst [.int p]) ∧ cut (or1 C t.2.2) H' t.1 = some (.lst [.ref t.2.1, .ref t.2.2]) ∧ cut (or1 C t.2.2) H' t.2.1 = some (.lst (ds.map V.int))
/-- the promise of a def that changes nothing -/
def spP (K : PySem.W.Frag) (Rl : List Sl → Res → Prop) : Sp := fun vs H Q _ => ∃ (C : AS) (ss : List Sl) (r : Res), (∀ a, C a → H a ≠ none) ∧ AOk K none none C H vs ss ∧ Rl ss r ∧
  ∀ v H', Same H H' → ResOk K C H H' v r → Q v H'
/-- .. of one that draws from the stream at t -/
def spS (K : PySem.W.Frag) (Rl : List Int → Int → List Sl → Res → Int → Prop) : Sp := fun vs H Q _ => ∃ (C : AS) (t : Trip) (ds : List Int) (p : Int) (ss : List Sl) (r : Res) (p' : Int) (us : List V), vs = .ref t.1 :: us ∧ (∀ a, C a → H a ≠ none) ∧
  cut C H t.1 = some (.lst [.ref t.2.1, .ref t.2.2]) ∧ cut C H t.2.1 = some (.lst (ds.map V.int)) ∧ C t.2.2 ∧ H t.2.2 = some (.lst [.int p]) ∧ AOk K none none C H us ss ∧ Rl ds p ss r p' ∧
  ∀ v H', (∀ a o, H a = some o → a ≠ t.2.2 → H' a = some o) → H' t.2.2 = some (.lst [.int p']) → ResOk K C H H' v r → Q v H'

/-- arguments without a stream -/
def plainSl : Sl → Bool
  | .d _ => true
  | .scr _ => true
  | .fz _ => true
  | _ => false
theorem aok_plain {K : PySem.W.Frag} {T : Option Trip} {tm : Option (List Int × Int)} {O : AS} {H : Hp} : ∀ {vs : List V} {ss : List Sl}, AOk K T tm O H vs ss → ss.all plainSl = true → AOk K none none O H vs ss
  | [], [], _, _ => trivial
  | v :: vs, s :: ss, h, q => by
    rw [List.all_cons, Bool.and_eq_true] at q
    refine ⟨?_, aok_plain h.2 q.2⟩
    cases s with
    | d x => exact h.1
    | scr ns => exact h.1
    | un => exact h.1
    | own xs => exact h.1
    | stm => cases q.1
    | plc => exact h.1
    | fz Φ => exact h.1
    | ow Ψ => exact h.1
  | [], _ :: _, h, _ => h.elim
  | _ :: _, [], h, _ => h.elim
theorem aok_len {K : PySem.W.Frag} {T : Option Trip} {tm : Option (List Int × Int)} {O : AS} {H : Hp} : ∀ {vs : List V} {ss : List Sl}, AOk K T tm O H vs ss → vs.length = ss.length
  | [], [], _ => rfl
  | v :: vs, s :: ss, h => by rw [List.length_cons, List.length_cons, aok_len h.2]
  | [], _ :: _, h => h.elim
  | _ :: _, [], h => h.elim
theorem aok_mono {K : PySem.W.Frag} {T : Option Trip} {tm : Option (List Int × Int)} {O : AS} {H H' : Hp} (e : Same (cut O H) (cut O H')) : ∀ {vs : List V} {ss : List Sl}, AOk K T tm O H vs ss → AOk K T tm O H' vs ss
  | [], [], _ => trivial
  | v :: vs, s :: ss, h => by
    refine ⟨?_, aok_mono e h.2⟩
    cases s with
    | d x => exact dp_mono e _ _ h.1
    | scr ns => obtain ⟨a, e1, q⟩ := h.1; exact ⟨a, e1, e.seq q⟩
    | un => exact h.1
    | own xs => exact h.1
    | stm => exact h.1
    | plc => exact h.1
    | fz Φ => exact Φ.mono e h.1
    | ow Ψ => exact h.1
  | [], _ :: _, h => h.elim
  | _ :: _, [], h => h.elim

section
variable {F : Fam} {ρ ρ1 ρ2 ρ3 : En} {e a b c : Expr} {es : List Expr} {x y z : PyData} {xs ys zs : List PyData} {pos p : Pos} {ss : List Sl}
/-- a stream handed on, ahead of plain arguments -/
def BAs (F : Fam) (ρ : En) (es : List Expr) (ss : List Sl) (ρ' : En) : Prop := ∃ t, (∀ X, Fits F X → PA X es t) ∧
  ∀ (C W : AS) (H0 : Hp) (T : Option Trip) (O : AS) (H : Hp) (σ : L2.St), Rep F.K C W H0 T O H σ ρ →
    ∀ Q : List V → Hp → Prop, (∀ t vs H', T = some t → Rep F.K C W H0 T O H' σ ρ' → Same (cut O H) (cut O H') → AOk F.K none none O H' vs ss → Q (.ref t.1 :: vs) H') → t σ H Q
theorem bas (i : Nat) {n : Str} (hs : ρ.sl[i]? = some .stm) (h : BA F ρ es ss ρ1) (hpl : ss.all plainSl = true := by rfl) (hN : F.N[i]? = some n := by rfl) (hv : Vis F.sc n := by first | exact Or.inl rfl | exact Or.inr (Or.inl rfl) | exact Or.inr (Or.inr rfl))
    (hd : (n == ("__debug__" : Str)) = false := by decide) (hcd : (n == ("__classdict__" : Str)) = false := by decide) : BAs F ρ (.Name n p :: es) ss ρ1 := by
  obtain ⟨u, p2, e2⟩ := h
  refine ⟨_, fun X hX => pa_cons (pe_var (by rw [hX.N]; exact hN) (hX.vis hv) hd hcd) (p2 X hX) rfl, fun C W H0 T O H σ R Q q => ?_⟩
  obtain ⟨t, hT, _, e1⟩ := R.sl i _ hs
  exact ⟨_, e1, e2 C W H0 T O H σ R _ fun vs H2 R2 s2 d2 => q t vs H2 hT R2 s2 (aok_plain d2 hpl)⟩

/-! ### calls of defs -/
section
variable {k : Nat} {f : Addr} {fd : FuncData} {ps : List Str} {n : Str} {Rl : List Sl → Res → Prop} {Rs : List Int → Int → List Sl → Res → Int → Prop}
/-- all that a call asks of a def -/
structure Cal (F : Fam) (n : Str) (sp : Sp) : Prop where
  ex : ∃ (k : Nat) (f : Addr) (fd : FuncData) (ps : List Str), FnOk F.P F.w F.K F.mg F.base CX0 k f fd ps sp ∧ k ≤ F.k ∧ F.mg n = some (.ref f) ∧ PySem.W.keepIn F.K (.ref f) = true ∧ Binds F.K fd ps []
  cm : F.ex = none
theorem pe_cal {sp : Sp} {X : Cx} {t : TA} (c : Cal F n sp) (hX : Fits F X) (ha : PA X (e :: es) t) (hg : F.sc.names.lookup n = some .globalImplicit) (hdb : (n == ("__debug__" : Str)) = false)
    (he : ∀ env, starEach (e :: es) env = (false, eval e env) :: starEach es env) (hpl : ∀ env, (backTo pos (starEach es env)).any (·.1) = false) : PE X (.Call (.Name n p) (e :: es) [] pos) (tCall sp [] E0 t) := by
  obtain ⟨k, f, fd, ps, G, hk, hm, kp, bd⟩ := c.ex
  exact pe_call (by rw [hX.prog, hX.w, hX.K, hX.mg, hX.base]; exact G) ((hX.room c.cm).mono hk) (hX.gl hg) (by rw [hX.mg]; exact hm) (by rw [hX.K]; exact kp) (by rw [hX.K]; exact bd) .nil pass0 ha hdb (he _) (hpl _)
/-- behind a plain callee -/
theorem ev_callP {K : PySem.W.Frag} {ta : TA} {r : Res} {E : XK} (ha : EvA K ta ρ ss ρ1) (hr : Rl ss r) (hpl : ss.all plainSl = true) :
    ∀ (C W : AS) (H0 : Hp) (T : Option Trip) (O : AS) (H : Hp) (σ : L2.St), Rep K C W H0 T O H σ ρ → ∀ Q : VK, (∀ v H1 H2, Rep K C W H0 T O H1 σ ρ1 → Same (cut O H) (cut O H1) → Same H1 H2 → ResOk K O H1 H2 v r → Q v H2) → tCall (spP K Rl) [] E ta σ H Q :=
  fun C W H0 T O H σ R Q q => ha C W H0 T O H σ R _ fun vs H1 R1 s1 d1 => by
    rw [List.append_nil]
    exact ⟨O, ss, r, R1.alloc, aok_plain d1 hpl, hr, fun v H2 s2 ok => q v H1 H2 R1 s1 s2 ok⟩
theorem be_call (c : Cal F n (spP F.K Rl)) (ha : BA F ρ (e :: es) ss ρ1) (hr : Rl ss (.d x)) (hpl : ss.all plainSl = true := by rfl) (hg : F.sc.names.lookup n = some .globalImplicit := by rfl) (hdb : (n == ("__debug__" : Str)) = false := by decide)
    (he : ∀ env, starEach (e :: es) env = (false, eval e env) :: starEach es env := by intro _; rfl) (hpl2 : ∀ env, (backTo pos (starEach es env)).any (·.1) = false := by intro _; rfl) : BE F ρ (.Call (.Name n p) (e :: es) [] pos) x ρ1 := by
  obtain ⟨t, p1, e1⟩ := ha
  refine ⟨_, fun X hX => pe_cal c hX (p1 X hX) hg hdb he hpl2, fun C W H0 T O H σ R Q q => ev_callP e1 hr hpl C W H0 T O H σ R Q fun v H1 H2 R1 s1 s2 ok => q v H2 (R1.grow s2) (s1.trans (cut_same s2)) ok⟩
theorem bl_call (c : Cal F n (spP F.K Rl)) (ha : BA F ρ (e :: es) ss ρ1) (hr : Rl ss (.l xs)) (hpl : ss.all plainSl = true := by rfl) (hg : F.sc.names.lookup n = some .globalImplicit := by rfl) (hdb : (n == ("__debug__" : Str)) = false := by decide)
    (he : ∀ env, starEach (e :: es) env = (false, eval e env) :: starEach es env := by intro _; rfl) (hpl2 : ∀ env, (backTo pos (starEach es env)).any (·.1) = false := by intro _; rfl) : BL F ρ (.Call (.Name n p) (e :: es) [] pos) xs ρ1 := by
  obtain ⟨t, p1, e1⟩ := ha
  refine ⟨_, fun X hX => pe_cal c hX (p1 X hX) hg hdb he hpl2, fun C W H0 T O H σ R Q q => ev_callP e1 hr hpl C W H0 T O H σ R Q fun v H1 H2 R1 s1 s2 ok => ?_⟩
  obtain ⟨l, vs, rfl, hl, hl', d⟩ := ok
  exact q l vs H2 (R.back R1 s1 hl) hl' (R1.hide hl s2 (by rw [hl']; simp)) (R1.grow s2) (s1.trans (cut_or1 s2 hl)) d
/-- .. the stream's place has moved on -/
theorem Rep.moved {K : PySem.W.Frag} {C W O : AS} {H0 H H' : Hp} {T : Option Trip} {σ : L2.St} {t : Trip} {ds : List Int} {q q' : Int} (R : Rep K C W H0 T O H σ ρ) (hT : T = some t) (ht : ρ.tm = some (ds, q))
    (hk : ∀ a o, H a = some o → a ≠ t.2.2 → H' a = some o) (hp : H' t.2.2 = some (.lst [.int q'])) : Rep K C W H0 T O H' σ ⟨some (ds, q'), ρ.sl⟩ ∧ Same (cut O H) (cut O H') := by
  have hq := R.tm
  rw [ht] at hq
  obtain ⟨t0, e0, m⟩ := hq
  rw [hT] at e0
  cases e0
  have sc : Same (cut O H) (cut O H') := fun a o h => by
    rw [cut_some] at h ⊢
    exact ⟨h.1, hk a o h.2 fun z => h.1 (z ▸ m.o)⟩
  refine ⟨⟨R.wc, R.co, fun a o h n => ?_, fun a h z => ?_, R.loc, R.len, R.tl, ⟨t, hT, sc _ _ m.s, sc _ _ m.g, m.o, hp, m.w⟩, fun i s hs => ?_, R.apart, ?_⟩, sc⟩
  · refine hk a o (R.keep a o h n) fun z => ?_
    subst z
    rcases m.w with w | ⟨_, w⟩
    · exact n w
    · rw [w] at h; cases h
  · by_cases e : a = t.2.2
    · rw [e, hp] at z; cases z
    · cases q : H a with
      | none => exact R.alloc a h q
      | some o => rw [hk a o q e] at z; cases z
  · have qs := R.sl i s hs
    cases s with
    | un => exact qs
    | d x => obtain ⟨v, e1, q⟩ := qs; exact ⟨v, e1, dp_mono sc _ _ q⟩
    | own xs =>
      obtain ⟨a, vs, e1, o1, c1, t1, h1, q⟩ := qs
      exact ⟨a, vs, e1, o1, c1, t1, hk _ _ h1 (t1 t hT), dpa_mono sc _ _ q⟩
    | stm => obtain ⟨u, e1, _, e2⟩ := qs; exact ⟨u, e1, by simp, e2⟩
    | plc => obtain ⟨u, e1, _, e2⟩ := qs; exact ⟨u, e1, by simp, e2⟩
    | scr ns => obtain ⟨a, e1, q⟩ := qs; exact ⟨a, e1, sc.seq q⟩
    | fz Φ => obtain ⟨a, e1, q⟩ := qs; exact ⟨a, e1, Φ.mono sc q⟩
    | ow Ψ => trivial
  · obtain ⟨rg, w⟩ := R.ow
    refine ⟨rg, w.to (fun i Ψ h => ⟨h, rfl⟩) (fun j xs a h1 h2 => .inl ⟨xs, h1, h2⟩) (fun i Ψ a h r => ?_) sc w.rin⟩
    obtain ⟨q1, _, q3⟩ := w.rin i Ψ a h r
    cases q : H a with
    | none => exact absurd q (R.alloc a q1)
    | some o => exact hk a o q (q3 t hT)
theorem ev_callS {K : PySem.W.Frag} {r : Res} {ds : List Int} {q q' : Int} (ht : ρ1.tm = some (ds, q)) (hr : Rs ds q ss r q') {E : XK}
    {C W : AS} {H0 : Hp} {T : Option Trip} {O : AS} {H1 : Hp} {σ : L2.St} {t : Trip} {vs : List V} (hT : T = some t) (R1 : Rep K C W H0 T O H1 σ ρ1) (d : AOk K none none O H1 vs ss) {Q : VK}
    (k : ∀ v H1' H2, Rep K C W H0 T O H1' σ ⟨some (ds, q'), ρ1.sl⟩ → Same (cut O H1) (cut O H1') → (∀ a, H1 a = none → H1' a = none) → Same H1' H2 → ResOk K O H1 H2 v r → Q v H2) : spS K Rs (.ref t.1 :: vs) H1 Q E := by
  have hq := R1.tm
  rw [ht] at hq
  obtain ⟨t0, e0, m⟩ := hq
  rw [hT] at e0
  cases e0
  refine ⟨O, t, ds, q, ss, r, q', vs, rfl, R1.alloc, m.s, m.g, m.o, m.l, d, hr, fun v H2 hk hp ok => ?_⟩
  obtain ⟨R2, s2⟩ := R1.moved hT ht (H' := upd H1 t.2.2 (.lst [.int q'])) (fun a o h n => by rw [upd_ne n]; exact h) upd_same
  refine k v _ H2 R2 s2 (fun a ha => ?_) (fun a o h => ?_) ok
  · rw [upd_ne (fun z => by rw [z, m.l] at ha; cases ha)]
    exact ha
  · by_cases z : a = t.2.2
    · rw [z, upd_same] at h
      rw [z, hp]; exact h
    · rw [upd_ne z] at h
      exact hk a o h z
theorem be_callS {ds : List Int} {q q' : Int} (c : Cal F n (spS F.K Rs)) (ha : BAs F ρ (e :: es) ss ρ1) (ht : ρ1.tm = some (ds, q)) (hr : Rs ds q ss (.d x) q') (hg : F.sc.names.lookup n = some .globalImplicit := by rfl) (hdb : (n == ("__debug__" : Str)) = false := by decide)
    (he : ∀ env, starEach (e :: es) env = (false, eval e env) :: starEach es env := by intro _; rfl) (hpl2 : ∀ env, (backTo pos (starEach es env)).any (·.1) = false := by intro _; rfl) : BE F ρ (.Call (.Name n p) (e :: es) [] pos) x ⟨some (ds, q'), ρ1.sl⟩ := by
  obtain ⟨t, p1, e1⟩ := ha
  refine ⟨_, fun X hX => pe_cal c hX (p1 X hX) hg hdb he hpl2, fun C W H0 T O H σ R Q k => e1 C W H0 T O H σ R _ fun t vs H1 hT R1 s1 d1 => ?_⟩
  rw [List.append_nil]
  exact ev_callS ht hr hT R1 d1 fun v H1' H2 R2 s2 _ s3 ok => k v H2 (R2.grow s3) ((s1.trans s2).trans (cut_same s3)) ok
theorem bl_callS {ds : List Int} {q q' : Int} (c : Cal F n (spS F.K Rs)) (ha : BAs F ρ (e :: es) ss ρ1) (ht : ρ1.tm = some (ds, q)) (hr : Rs ds q ss (.l xs) q') (hg : F.sc.names.lookup n = some .globalImplicit := by rfl) (hdb : (n == ("__debug__" : Str)) = false := by decide)
    (he : ∀ env, starEach (e :: es) env = (false, eval e env) :: starEach es env := by intro _; rfl) (hpl2 : ∀ env, (backTo pos (starEach es env)).any (·.1) = false := by intro _; rfl) : BL F ρ (.Call (.Name n p) (e :: es) [] pos) xs ⟨some (ds, q'), ρ1.sl⟩ := by
  obtain ⟨t, p1, e1⟩ := ha
  refine ⟨_, fun X hX => pe_cal c hX (p1 X hX) hg hdb he hpl2, fun C W H0 T O H σ R Q k => e1 C W H0 T O H σ R _ fun t vs H1 hT R1 s1 d1 => ?_⟩
  rw [List.append_nil]
  refine ev_callS ht hr hT R1 d1 fun v H1' H2 R2 s2 hn s3 ok => ?_
  obtain ⟨l, us, rfl, hl, hl', d⟩ := ok
  exact k l us H2 (R.back R1 s1 hl) hl' (R2.hide (hn l hl) s3 (by rw [hl']; simp)) (R2.grow s3) ((s1.trans s2).trans (cut_or1 s3 (hn l hl))) d
end
end
end TC

set_option maxRecDepth 100000
set_option maxHeartbeats 4000000
namespace TC
open PySem PySem.Spec L2

/-! ### statements -/
inductive Out where
  | nx (ρ : En)
  | bk (ρ : En)
  | ct (ρ : En)
  | ret (r : Res) (tm : Option (List Int × Int))
  | rz (c : Value) (fs : List (Str × PyData)) (ρ : En)
/-- the fields of what is raised -/
def XdOk (K : PySem.W.Frag) (Z : Hp) (d : Option Addr) (fs : List (Str × PyData)) : Prop :=
  (fs = [] ∧ d = none) ∨ ∃ a kvs, d = some a ∧ Z a = some (.xd kvs) ∧ kvs.map (·.1) = fs.map (·.1) ∧ DqA K Z (kvs.map (·.2)) (fs.map (·.2))
theorem XdOk.mono {K : PySem.W.Frag} {Z Z' : Hp} {d : Option Addr} {fs : List (Str × PyData)} (e : Same Z Z') (h : XdOk K Z d fs) : XdOk K Z' d fs := by
  rcases h with h | ⟨a, kvs, h1, h2, h3, h4⟩
  · exact .inl h
  · exact .inr ⟨a, kvs, h1, e _ _ h2, h3, dpa_mono e _ _ h4⟩
def ExtT (lc : Bool) (T0 T : Option Trip) : Prop := (lc = true → T0 = none) ∧ ∀ t, T0 = some t → T = some t
theorem ExtT.rfl' {lc : Bool} {T : Option Trip} (h : lc = true → T = none) : ExtT lc T T := ⟨h, fun _ h => h⟩
def PostT (T0 : Option Trip) (H' : Hp) : Option (List Int × Int) → Prop
  | none => True
  | some (_, p) => ∀ t, T0 = some t → H' t.2.2 = some (.lst [.int p])
def EndOk (WW : WX) (lc : Bool) (K : PySem.W.Frag) (C W : AS) (H0 : Hp) (T0 : Option Trip) (O : AS) (H : Hp) (D : Ends) : Out → Prop
  | .nx ρ' => ∀ σ' H' O' T', ExtT lc T0 T' → Rep K C W H0 T' O' H' σ' ρ' → Same (cut O H) (cut O' H') → D.nx σ' H'
  | .bk ρ' => ∀ σ' H' O' T', ExtT lc T0 T' → Rep K C W H0 T' O' H' σ' ρ' → Same (cut O H) (cut O' H') → D.bk σ' H'
  | .ct ρ' => ∀ σ' H' O' T', ExtT lc T0 T' → Rep K C W H0 T' O' H' σ' ρ' → Same (cut O H) (cut O' H') → D.ct σ' H'
  | .ret r tm => ∀ v H', Keeps W H0 H' → PostT T0 H' tm → ResOk K C H0 H' v r → D.rt v H'
  | .rz c fs ρ' => ∀ d σ' H' O' T', ExtT lc T0 T' → Rep K C W H0 T' O' H' σ' ρ' → Same (cut O H) (cut O' H') → XdOk K (cut O' H') d fs → WW c d σ' H'
def Run (WW : WX) (lc : Bool) (K : PySem.W.Frag) (t : TS) (ρ : En) (o : Out) : Prop :=
  ∀ (C W : AS) (H0 : Hp) (T0 T : Option Trip) (O : AS) (H : Hp) (σ : L2.St) (D : Ends), ExtT lc T0 T → Rep K C W H0 T O H σ ρ → EndOk WW lc K C W H0 T0 O H D o → t D σ H
theorem EndOk.mono {WW : WX} {lc : Bool} {K : PySem.W.Frag} {C W : AS} {H0 : Hp} {T0 : Option Trip} {O O1 : AS} {H H1 : Hp} {D : Ends} (s : Same (cut O H) (cut O1 H1)) : ∀ {o : Out}, EndOk WW lc K C W H0 T0 O H D o → EndOk WW lc K C W H0 T0 O1 H1 D o
  | .nx _, h => fun σ' H' O' T' e R s' => h σ' H' O' T' e R (s.trans s')
  | .bk _, h => fun σ' H' O' T' e R s' => h σ' H' O' T' e R (s.trans s')
  | .ct _, h => fun σ' H' O' T' e R s' => h σ' H' O' T' e R (s.trans s')
  | .ret _ _, h => h
  | .rz _ _ _, h => fun d σ' H' O' T' e R s' => h d σ' H' O' T' e R (s.trans s')
def BS (F : Fam) (ρ : En) (st : Stmt) (o : Out) : Prop := ∃ t, (∀ X, Fits F X → PS X st t) ∧ Run F.W F.lc F.K t ρ o
def BSs (F : Fam) (ρ : En) (st : List Stmt) (o : Out) : Prop := ∃ t, (∀ X, Fits F X → PSs X st t) ∧ Run F.W F.lc F.K t ρ o
theorem BSs.uni {F : Fam} {ρ : En} {b : List Stmt} {o : Out} (h : BSs F ρ b o) : Run F.W F.lc F.K (supS F b) ρ o := by
  obtain ⟨t, p, q⟩ := h
  exact fun C W H0 T0 T O H σ D e R k => ⟨t, p, q C W H0 T0 T O H σ D e R k⟩
def Out.abr : Out → Bool
  | .nx _ => false
  | _ => true
section
variable {F : Fam} {ρ ρ1 ρ2 ρ3 : En} {e a b c : Expr} {es : List Expr} {x y z : PyData} {xs ys zs : List PyData} {pos p : Pos} {ss : List Sl} {st : Stmt} {sts sts2 : List Stmt} {o : Out}
theorem bss_nil : BSs F ρ [] (.nx ρ) := ⟨_, fun X hX => pss_nil, fun C W H0 T0 T O H σ D e R k => k σ H O T e R Same.rfl'⟩
theorem bss_cons (h : BS F ρ st (.nx ρ1)) (r : BSs F ρ1 sts o) : BSs F ρ (st :: sts) o := by
  obtain ⟨t, p1, e1⟩ := h
  obtain ⟨u, p2, e2⟩ := r
  exact ⟨_, fun X hX => pss_cons (p1 X hX) (p2 X hX), fun C W H0 T0 T O H σ D e R k => e1 C W H0 T0 T O H σ _ e R fun σ' H' O' T' e' R' s => e2 C W H0 T0 T' O' H' σ' D e' R' (k.mono s)⟩
theorem bss_stop (h : BS F ρ st o) (ha : o.abr = true := by rfl) : BSs F ρ (st :: sts) o := by
  obtain ⟨t, p1, e1⟩ := h
  refine ⟨_, fun X hX => pss_cons (p1 X hX) pss_never, fun C W H0 T0 T O H σ D e R k => e1 C W H0 T0 T O H σ _ e R ?_⟩
  cases o with
  | nx => cases ha
  | bk => exact k
  | ct => exact k
  | ret => exact k
  | rz => exact k
theorem bss_one (h : BS F ρ st o) : BSs F ρ [st] o := by
  obtain ⟨t, p1, e1⟩ := h
  exact ⟨_, fun X hX => pss_one (p1 X hX), e1⟩
theorem bs_pass : BS F ρ (.Pass pos) (.nx ρ) := ⟨_, fun X hX => ps_pass, fun C W H0 T0 T O H σ D e R k => k σ H O T e R Same.rfl'⟩
theorem bs_break : BS F ρ (.Break pos) (.bk ρ) := ⟨_, fun X hX => ps_break, fun C W H0 T0 T O H σ D e R k => k σ H O T e R Same.rfl'⟩
theorem bs_continue : BS F ρ (.Continue pos) (.ct ρ) := ⟨_, fun X hX => ps_continue, fun C W H0 T0 T O H σ D e R k => k σ H O T e R Same.rfl'⟩
theorem bs_doc {s : Str} {j} : BS F ρ (.Expr (.Constant (.str s) j p) pos) (.nx ρ) := ⟨_, fun X hX => ps_doc, fun C W H0 T0 T O H σ D e R k => k σ H O T e R Same.rfl'⟩
theorem bs_expr (h : BE F ρ e x ρ1) (hs : ∀ (line : Nat) (env : Env), swapsWith e none line env = pure false := by intro _ _; rfl) : BS F ρ (.Expr e pos) (.nx ρ1) := by
  obtain ⟨t, p1, e1⟩ := h
  exact ⟨_, fun X hX => ps_expr (p1 X hX) (hs _ _), fun C W H0 T0 T O H σ D e R k => e1 C W H0 T O H σ R _ fun v H1 R1 s1 d1 => k σ H1 O T e R1 s1⟩
theorem bs_ifT (h : BT F ρ c true ρ1) (h2 : BSs F ρ1 sts o) : BS F ρ (.If c sts sts2 pos) o := by
  obtain ⟨t, p1, e1⟩ := h
  obtain ⟨u, p2, e2⟩ := h2
  exact ⟨_, fun X hX => ps_if (p1 X hX) (p2 X hX) pss_never, fun C W H0 T0 T O H σ D e R k => e1 C W H0 T O H σ R _ fun H1 R1 s1 => iteT (e2 C W H0 T0 T O H1 σ D e R1 (k.mono s1))⟩
theorem bs_ifF (h : BT F ρ c false ρ1) (h2 : BSs F ρ1 sts2 o) : BS F ρ (.If c sts sts2 pos) o := by
  obtain ⟨t, p1, e1⟩ := h
  obtain ⟨u, p2, e2⟩ := h2
  exact ⟨_, fun X hX => ps_if (p1 X hX) pss_never (p2 X hX), fun C W H0 T0 T O H σ D e R k => e1 C W H0 T O H σ R _ fun H1 R1 s1 => iteF (e2 C W H0 T0 T O H1 σ D e R1 (k.mono s1))⟩
theorem bs_if {k : Bool} (h : BT F ρ c k ρ1) (h1 : k = true → BSs F ρ1 sts o) (h2 : k = false → BSs F ρ1 sts2 o) : BS F ρ (.If c sts sts2 pos) o := by
  cases k with
  | true => exact bs_ifT h (h1 rfl)
  | false => exact bs_ifF h (h2 rfl)
section
variable {K : PySem.W.Frag} {C W O : AS} {H0 H H' : Hp} {T T0 : Option Trip} {σ : L2.St}
theorem Rep.postT (R : Rep K C W H0 T O H σ ρ) {lc : Bool} (e : ExtT lc T0 T) : PostT T0 H ρ.tm := by
  have q := R.tm
  revert q
  cases ρ.tm with
  | none => exact fun _ => trivial
  | some z =>
    obtain ⟨ds, p⟩ := z
    intro ⟨t, e1, m⟩ t0 h0
    have := e.2 t0 h0
    rw [e1] at this
    cases this
    exact m.l
theorem dq_co (co : ∀ a, C a → O a) {v : V} (d : Dq K (cut O H) v x) : Dq K (cut C H) v x := dp_mono (cut_sub co) _ _ d
end
theorem bs_ret {tm : Option (List Int × Int)} (h : BE F ρ e x ρ1) (htm : ρ1.tm = tm := by rfl) : BS F ρ (.Return (some e) pos) (.ret (.d x) tm) := by
  subst htm
  obtain ⟨t, p1, e1⟩ := h
  exact ⟨_, fun X hX => ps_ret (p1 X hX), fun C W H0 T0 T O H σ D e R k => e1 C W H0 T O H σ R _ fun v H1 R1 s1 d1 => k v H1 R1.keep (R1.postT e) (dq_co R1.co d1)⟩
theorem bs_retL {tm : Option (List Int × Int)} (h : BL F ρ e xs ρ1) (htm : ρ1.tm = tm := by rfl) : BS F ρ (.Return (some e) pos) (.ret (.l xs) tm) := by
  subst htm
  obtain ⟨t, p1, e1⟩ := h
  exact ⟨_, fun X hX => ps_ret (p1 X hX), fun C W H0 T0 T O H σ D e R k => e1 C W H0 T O H σ R _ fun l vs H1 hl hl' R1 R2 s1 d1 => k _ H1 R1.keep (R1.postT e)
    ⟨l, vs, rfl, R.none0 hl, hl', dpa_mono (cut_sub fun a h => h.elim (fun z => .inl (R2.co a z)) .inr) _ _ d1⟩⟩
theorem bs_retN : BS F ρ (.Return none pos) (.ret (.d .none) ρ.tm) := ⟨_, fun X hX => ps_retN, fun C W H0 T0 T O H σ D e R k => k _ H R.keep (R.postT e) .non⟩
/-- a list of one's own is handed back -/
theorem bs_retO (i : Nat) {n : Str} (hs : ρ.sl[i]? = some (.own xs)) (hN : F.N[i]? = some n := by rfl) (hv : Vis F.sc n := by first | exact Or.inl rfl | exact Or.inr (Or.inl rfl) | exact Or.inr (Or.inr rfl))
    (hd : (n == ("__debug__" : Str)) = false := by decide) (hcd : (n == ("__classdict__" : Str)) = false := by decide) : BS F ρ (.Return (some (.Name n p)) pos) (.ret (.l xs) ρ.tm) :=
  ⟨_, fun X hX => ps_ret (pe_var (by rw [hX.N]; exact hN) (hX.vis hv) hd hcd), fun C W H0 T0 T O H σ D e R k => by
    obtain ⟨a, vs, e1, o1, c1, t1, h1, d1⟩ := R.sl i _ hs
    exact ⟨_, e1, k _ H R.keep (R.postT e) ⟨a, vs, rfl, (R.loc a o1).resolve_left c1, h1, dpa_mono (cut_sub fun b h => h.elim (R.co b) fun z => z ▸ o1) _ _ d1⟩⟩⟩

/-! ### stores -/
section
variable {K : PySem.W.Frag} {C W O : AS} {H0 H H' : Hp} {T T0 : Option Trip} {σ : L2.St}
theorem set_get {α : Type} {l : List α} {i j : Nat} {v s : α} (h : (l.set i v)[j]? = some s) : (j = i ∧ s = v) ∨ (j ≠ i ∧ l[j]? = some s) := by
  by_cases e : j = i
  · subst e
    have hl : j < l.length := by
      have := (List.getElem?_eq_some_iff.mp h).1
      rw [List.length_set] at this
      exact this
    rw [List.getElem?_set_self hl] at h
    cases h
    exact .inl ⟨rfl, rfl⟩
  · rw [List.getElem?_set_ne (Ne.symm e)] at h
    exact .inr ⟨e, h⟩
/-- a slot takes data -/
theorem Rep.put (R : Rep K C W H0 T O H σ ρ) {i : Nat} {v : V} (d : Dq K (cut O H) v x) : Rep K C W H0 T O H (σ.set i (some v)) ⟨ρ.tm, ρ.sl.set i (.d x)⟩ where
  wc := R.wc
  co := R.co
  keep := R.keep
  alloc := R.alloc
  loc := R.loc
  tl := R.tl
  len := by rw [List.length_set]; show σ.length = (ρ.sl.set i (.d x)).length; rw [List.length_set]; exact R.len
  tm := R.tm
  sl := fun j s hs => by
    rcases set_get hs with ⟨rfl, rfl⟩ | ⟨ne, hs'⟩
    · refine ⟨v, ?_, d⟩
      have hl : j < σ.length := by
        have := (List.getElem?_eq_some_iff.mp hs).1
        rw [List.length_set] at this
        rw [R.len]; exact this
      rw [List.getElem?_set_self hl]
    · have q := R.sl j s hs'
      have en : (σ.set i (some v))[j]? = σ[j]? := List.getElem?_set_ne (Ne.symm ne)
      cases s with
      | un => trivial
      | d y => obtain ⟨u, e1, q⟩ := q; exact ⟨u, en.trans e1, q⟩
      | own ys => obtain ⟨a, vs, e1, q⟩ := q; exact ⟨a, vs, en.trans e1, q⟩
      | stm => obtain ⟨t, e1, e2, e3⟩ := q; exact ⟨t, e1, e2, en.trans e3⟩
      | plc => obtain ⟨t, e1, e2, e3⟩ := q; exact ⟨t, e1, e2, en.trans e3⟩
      | scr ns => obtain ⟨a, e1, q⟩ := q; exact ⟨a, en.trans e1, q⟩
      | fz Φ => obtain ⟨a, e1, q⟩ := q; exact ⟨a, en.trans e1, q⟩
      | ow Ψ => trivial
  apart := fun j k xs ys a ne h1 h2 e1 => by
    rcases set_get h1 with ⟨_, q⟩ | ⟨n1, h1'⟩
    · cases q
    rcases set_get h2 with ⟨_, q⟩ | ⟨n2, h2'⟩
    · cases q
    rw [List.getElem?_set_ne (Ne.symm n1)] at e1
    rw [List.getElem?_set_ne (Ne.symm n2)]
    exact R.apart j k xs ys a ne h1' h2' e1
  ow := by
    obtain ⟨rg, w⟩ := R.ow
    refine ⟨rg, w.to (fun j Ψ h => ?_) (fun j xs a h1 h2 => ?_) (fun _ _ _ _ _ => rfl) (fun _ _ h => h) w.rin⟩
    · rcases set_get h with ⟨_, q⟩ | ⟨n1, h'⟩
      · cases q
      · exact ⟨h', List.getElem?_set_ne (Ne.symm n1)⟩
    · rcases set_get h1 with ⟨_, q⟩ | ⟨n1, h'⟩
      · cases q
      · rw [List.getElem?_set_ne (Ne.symm n1)] at h2
        exact .inl ⟨xs, h', h2⟩
/-- a slot takes a new list of its own -/
theorem Rep.putL {l : Addr} (R0 : Rep K C W H0 T O H σ ρ1) (RR : Rep K (or1 C l) W H0 T (or1 O l) H' σ ρ) {i : Nat} {vs : List V} (hn : H l = none) (hl : H' l = some (.lst vs)) (d : DqA K (cut (or1 O l) H') vs xs)
    (hT : ∀ t, T = some t → l ≠ t.2.2) : Rep K C W H0 T (or1 O l) H' (σ.set i (some (.ref l))) ⟨ρ.tm, ρ.sl.set i (.own xs)⟩ := by
  have nW : ¬ W l := fun z => R0.nof hn (R0.co l (R0.wc l z))
  have R := RR.unC nW (R0.none0 hn)
  have hfree : ∀ (j : Nat) (ys : List PyData), ρ.sl[j]? = some (.own ys) → σ[j]? ≠ some (some (.ref l)) := fun j ys h z => by
    obtain ⟨a, us, e1, _, c1, _⟩ := RR.sl j _ h
    rw [z] at e1
    cases e1
    exact c1 (.inr rfl)
  exact {
  wc := R.wc
  co := R.co
  keep := R.keep
  alloc := R.alloc
  loc := R.loc
  tl := R.tl
  len := by rw [List.length_set]; show σ.length = (ρ.sl.set i (.own xs)).length; rw [List.length_set]; exact R.len
  tm := R.tm
  sl := fun j s hs => by
    rcases set_get hs with ⟨rfl, rfl⟩ | ⟨ne, hs'⟩
    · have hlt : j < σ.length := by
        have := (List.getElem?_eq_some_iff.mp hs).1
        rw [List.length_set] at this
        rw [R.len]; exact this
      exact ⟨l, vs, List.getElem?_set_self hlt, .inr rfl, fun z => R0.nof hn (R0.co l z), hT, hl, d⟩
    · have q := R.sl j s hs'
      have en : (σ.set i (some (.ref l)))[j]? = σ[j]? := List.getElem?_set_ne (Ne.symm ne)
      cases s with
      | un => trivial
      | d y => obtain ⟨u, e1, q⟩ := q; exact ⟨u, en.trans e1, q⟩
      | own ys => obtain ⟨a, vs, e1, q⟩ := q; exact ⟨a, vs, en.trans e1, q⟩
      | stm => obtain ⟨t, e1, e2, e3⟩ := q; exact ⟨t, e1, e2, en.trans e3⟩
      | plc => obtain ⟨t, e1, e2, e3⟩ := q; exact ⟨t, e1, e2, en.trans e3⟩
      | scr ns => obtain ⟨a, e1, q⟩ := q; exact ⟨a, en.trans e1, q⟩
      | fz Φ => obtain ⟨a, e1, q⟩ := q; exact ⟨a, en.trans e1, q⟩
      | ow Ψ => trivial
  apart := fun j k xs ys a ne h1 h2 e1 => by
    rcases set_get h1 with ⟨ej, _⟩ | ⟨n1, h1'⟩
    · rcases set_get h2 with ⟨ek, _⟩ | ⟨n2, h2'⟩
      · exact absurd (ej.trans ek.symm) ne
      · subst ej
        have hlt : j < σ.length := by
          have := (List.getElem?_eq_some_iff.mp e1).1
          rw [List.length_set] at this
          exact this
        rw [List.getElem?_set_self hlt] at e1
        cases e1
        rw [List.getElem?_set_ne (Ne.symm n2)]
        exact hfree k ys h2'
    · rw [List.getElem?_set_ne (Ne.symm n1)] at e1
      rcases set_get h2 with ⟨ek, _⟩ | ⟨n2, h2'⟩
      · subst ek
        by_cases hlt : k < σ.length
        · rw [List.getElem?_set_self hlt]
          intro z
          cases z
          exact hfree j xs h1' e1
        · rw [List.getElem?_eq_none_iff.mpr (by rw [List.length_set]; omega)]
          simp
      · rw [List.getElem?_set_ne (Ne.symm n2)]
        exact R.apart j k xs ys a ne h1' h2' e1
  ow := by
    obtain ⟨rg, w⟩ := RR.ow
    refine ⟨rg, w.to (fun j Ψ h => ?_) (fun j xs a h1 h2 => ?_) (fun _ _ _ _ _ => rfl) (fun _ _ h => h) fun j Ψ a h r => ?_⟩
    · rcases set_get h with ⟨_, q⟩ | ⟨n1, h'⟩
      · cases q
      · exact ⟨h', List.getElem?_set_ne (Ne.symm n1)⟩
    · rcases set_get h1 with ⟨ej, _⟩ | ⟨n1, h'⟩
      · subst ej
        have hlt : j < σ.length := by
          have := (List.getElem?_eq_some_iff.mp h2).1
          rw [List.length_set] at this
          exact this
        rw [List.getElem?_set_self hlt] at h2
        cases h2
        exact .inr fun k Ψ hk r => (w.rin k Ψ _ hk r).2.1.elim (fun y => y (.inr rfl)) nW
      · rw [List.getElem?_set_ne (Ne.symm n1)] at h2
        exact .inl ⟨xs, h', h2⟩
    · obtain ⟨q1, q2, q3⟩ := w.rin j Ψ a h r
      exact ⟨q1, q2.imp (fun z y => z (.inl y)) id, q3⟩ }
end
theorem bs_set (i : Nat) {n : Str} (h : BE F ρ e x ρ1) (hN : F.N[i]? = some n := by rfl) (hx : Loc F.sc n := by first | exact Or.inl rfl | exact Or.inr rfl) (hf : F.df = true ∨ F.sc.names.lookup n = some .local := by first | exact Or.inl rfl | exact Or.inr rfl)
    (hs : ∀ X, Fits F X → swapsWith e (some (.Name n p)) pos.line X.env = pure false := by intro _ _; rfl) : BS F ρ (.Assign [.Name n p] e pos) (.nx ⟨ρ1.tm, ρ1.sl.set i (.d x)⟩) := by
  obtain ⟨t, p1, e1⟩ := h
  refine ⟨_, fun X hX => ps_set (i := i) (by rw [hX.N]; exact hX.nd) (by rw [hX.N]; exact hN) (by rw [hX.sc]; exact hx) (p1 X hX) (hs X hX) (by rw [hX.sc]; exact hf.imp (fun z => hX.fn z n) id), fun C W H0 T0 T O H σ D e R k => e1 C W H0 T O H σ R _ fun v H1 R1 s1 d1 => ?_⟩
  exact k _ H1 O T e (R1.put d1) s1
/-- a new list, kept as one's own -/
theorem ev_setL {WW : WX} {lc : Bool} {K : PySem.W.Frag} {t : TE} {i : Nat} (e1 : EvL K t ρ xs ρ1) : Run WW lc K (tAsg t (gName i)) ρ (.nx ⟨ρ1.tm, ρ1.sl.set i (.own xs)⟩) := fun C W H0 T0 T O H σ D e R k => e1 C W H0 T O H σ R _ fun l vs H1 hl hl' R1 R2 s1 d1 => by
  refine k _ H1 (or1 O l) T e (R.putL R1 hl hl' d1 fun t0 h0 z => ?_) s1
  exact R.nof hl (z ▸ R.tl t0 h0)
theorem bs_setL (i : Nat) {n : Str} (h : BL F ρ e xs ρ1) (hN : F.N[i]? = some n := by rfl) (hx : Loc F.sc n := by first | exact Or.inl rfl | exact Or.inr rfl) (hf : F.df = true ∨ F.sc.names.lookup n = some .local := by first | exact Or.inl rfl | exact Or.inr rfl)
    (hs : ∀ X, Fits F X → swapsWith e (some (.Name n p)) pos.line X.env = pure false := by intro _ _; rfl) : BS F ρ (.Assign [.Name n p] e pos) (.nx ⟨ρ1.tm, ρ1.sl.set i (.own xs)⟩) := by
  obtain ⟨t, p1, e1⟩ := h
  exact ⟨_, fun X hX => ps_set (i := i) (by rw [hX.N]; exact hX.nd) (by rw [hX.N]; exact hN) (by rw [hX.sc]; exact hx) (p1 X hX) (hs X hX) (by rw [hX.sc]; exact hf.imp (fun z => hX.fn z n) id), ev_setL e1⟩
end
end TC

set_option maxRecDepth 100000
set_option maxHeartbeats 4000000
namespace TC
open PySem PySem.Spec L2

section
variable {K : PySem.W.Frag} {C W O : AS} {H0 H H' : Hp} {T T0 : Option Trip} {σ : L2.St} {ρ ρ' ρ1 : En} {x : PyData} {xs ys : List PyData}
theorem cut_upd {a : Addr} {o : HO} (h : O a) : cut O (upd H a o) = cut O H := by
  funext b
  unfold cut
  by_cases e : O b
  · rw [if_pos e, if_pos e]
  · rw [if_neg e, if_neg e, upd_ne (fun z => e (by rw [z]; exact h))]
/-- a list of one's own is changed -/
theorem Rep.mut (R : Rep K C W H0 T O H σ ρ) {i : Nat} {a : Addr} {us : List V} (hs : ρ.sl[i]? = some (.own xs)) (ha : σ[i]? = some (some (.ref a))) (d : DqA K (cut O H) us ys) :
    Rep K C W H0 T O (upd H a (.lst us)) σ ⟨ρ.tm, ρ.sl.set i (.own ys)⟩ := by
  obtain ⟨a', vs, e1, o1, c1, t1, h1, d1⟩ := R.sl i _ hs
  rw [ha] at e1
  cases e1
  have cu : cut O (upd H a (.lst us)) = cut O H := cut_upd o1
  refine ⟨R.wc, R.co, fun b o h n => ?_, fun b h => ?_, R.loc, ?_, R.tl, ?_, fun j s hj => ?_, fun j k xs ys b ne h1 h2 e1 => ?_, ?_⟩
  · rw [upd_ne (fun z => by rw [z, (R.loc a o1).resolve_left c1] at h; cases h)]
    exact R.keep b o h n
  · by_cases e : b = a
    · rw [e, upd_same]; simp
    · rw [upd_ne e]; exact R.alloc b h
  · show σ.length = (ρ.sl.set i (.own ys)).length
    rw [List.length_set]; exact R.len
  · have q := R.tm
    show TmOk W C H0 T O (upd H a (.lst us)) ρ.tm
    revert q
    cases ρ.tm with
    | none => exact fun q => q
    | some z =>
      intro ⟨t, e1, m⟩
      refine ⟨t, e1, by rw [cu]; exact m.s, by rw [cu]; exact m.g, m.o, ?_, m.w⟩
      rw [upd_ne (fun z => t1 t e1 z.symm)]
      exact m.l
  · rcases set_get hj with ⟨rfl, rfl⟩ | ⟨ne, hj'⟩
    · exact ⟨a, us, ha, o1, c1, t1, upd_same, by rw [cu]; exact d⟩
    · have q := R.sl j s hj'
      cases s with
      | un => trivial
      | d y => obtain ⟨u, e1, q⟩ := q; exact ⟨u, e1, by rw [cu]; exact q⟩
      | own zs =>
        obtain ⟨b, ws, e1, q1, q2, q3, q4, q5⟩ := q
        refine ⟨b, ws, e1, q1, q2, q3, ?_, by rw [cu]; exact q5⟩
        rw [upd_ne (fun z => ?_)]
        · exact q4
        · subst z
          exact R.apart j i zs xs b ne hj' hs e1 ha
      | stm => exact q
      | plc => exact q
      | scr ns => obtain ⟨b, e1, q⟩ := q; exact ⟨b, e1, by rw [cu]; exact q⟩
      | fz Φ => obtain ⟨b, e1, q⟩ := q; exact ⟨b, e1, by rw [cu]; exact q⟩
      | ow Ψ => trivial
  · have h1' : ∃ zs, ρ.sl[j]? = some (.own zs) := by
      rcases set_get h1 with ⟨rfl, _⟩ | ⟨_, h⟩
      · exact ⟨_, hs⟩
      · exact ⟨_, h⟩
    have h2' : ∃ zs, ρ.sl[k]? = some (.own zs) := by
      rcases set_get h2 with ⟨rfl, _⟩ | ⟨_, h⟩
      · exact ⟨_, hs⟩
      · exact ⟨_, h⟩
    obtain ⟨z1, h1'⟩ := h1'
    obtain ⟨z2, h2'⟩ := h2'
    exact R.apart j k z1 z2 b ne h1' h2' e1
  · obtain ⟨rg, w⟩ := R.ow
    refine ⟨rg, w.to (fun j Ψ h => ?_) (fun j zs b h1 h2 => ?_) (fun j Ψ b h r => ?_) (by rw [cu]; exact fun _ _ h => h) w.rin⟩
    · rcases set_get h with ⟨_, q⟩ | ⟨n1, h'⟩
      · cases q
      · exact ⟨h', rfl⟩
    · rcases set_get h1 with ⟨rfl, _⟩ | ⟨_, h'⟩
      · exact .inl ⟨_, hs, h2⟩
      · exact .inl ⟨_, h', h2⟩
    · exact upd_ne fun z => w.sepL j i Ψ xs a h hs ha (z ▸ r)
/-- .. it is data from now on -/
theorem Rep.freeze (R : Rep K C W H0 T O H σ ρ) {i : Nat} (hs : ρ.sl[i]? = some (.own xs)) : ∃ O', Rep K C W H0 T O' H σ ⟨ρ.tm, ρ.sl.set i (.d (.list xs))⟩ ∧ Same (cut O H) (cut O' H) := by
  obtain ⟨a, vs, e1, o1, c1, t1, h1, d1⟩ := R.sl i _ hs
  have cs : Same (cut O H) (cut (fun b => O b ∧ b ≠ a) H) := cut_sub fun b h => h.1
  refine ⟨fun b => O b ∧ b ≠ a, ⟨R.wc, fun b h => ⟨R.co b h, fun z => c1 (z ▸ h)⟩, R.keep, fun b h => R.alloc b h.1, fun b h => R.loc b h.1, ?_, fun t h => ⟨R.tl t h, fun z => t1 t h z.symm⟩, ?_, fun j s hj => ?_, fun j k xs ys b ne h1 h2 e1 => ?_, ?_⟩, cs⟩
  · show σ.length = (ρ.sl.set i _).length
    rw [List.length_set]; exact R.len
  · have q := R.tm
    show TmOk W C H0 T _ H ρ.tm
    revert q
    cases ρ.tm with
    | none => exact fun q => q
    | some z =>
      intro ⟨t, e1, m⟩
      exact ⟨t, e1, cs _ _ m.s, cs _ _ m.g, ⟨m.o, fun z => t1 t e1 z.symm⟩, m.l, m.w⟩
  · rcases set_get hj with ⟨rfl, rfl⟩ | ⟨ne, hj'⟩
    · exact ⟨_, e1, .lst (cut_some.mpr ⟨fun z => z.2 rfl, h1⟩) (dpa_mono cs _ _ d1)⟩
    · have q := R.sl j s hj'
      cases s with
      | un => trivial
      | d y => obtain ⟨u, e1, q⟩ := q; exact ⟨u, e1, dp_mono cs _ _ q⟩
      | own zs =>
        obtain ⟨b, ws, f1, q1, q2, q3, q4, q5⟩ := q
        refine ⟨b, ws, f1, ⟨q1, fun z => ?_⟩, q2, q3, q4, dpa_mono cs _ _ q5⟩
        subst z
        exact R.apart j i zs xs b ne hj' hs f1 e1
      | stm => exact q
      | plc => exact q
      | scr ns => obtain ⟨b, e1, q⟩ := q; exact ⟨b, e1, cs.seq q⟩
      | fz Φ => obtain ⟨b, e1, q⟩ := q; exact ⟨b, e1, Φ.mono cs q⟩
      | ow Ψ => trivial
  · rcases set_get h1 with ⟨_, q⟩ | ⟨_, h1'⟩
    · cases q
    rcases set_get h2 with ⟨_, q⟩ | ⟨_, h2'⟩
    · cases q
    exact R.apart j k xs ys b ne h1' h2' e1
  · obtain ⟨rg, w⟩ := R.ow
    refine ⟨rg, w.to (fun j Ψ h => ?_) (fun j zs b h1 h2 => ?_) (fun j Ψ b h r => rfl) cs fun j Ψ b h r => ?_⟩
    · rcases set_get h with ⟨_, q⟩ | ⟨n1, h'⟩
      · cases q
      · exact ⟨h', rfl⟩
    · rcases set_get h1 with ⟨_, q⟩ | ⟨_, h'⟩
      · cases q
      · exact .inl ⟨_, h', h2⟩
    · obtain ⟨q1, q2, q3⟩ := w.rin j Ψ b h r
      exact ⟨⟨q1, fun z => w.sepL j i Ψ xs a h hs e1 (z ▸ r)⟩, q2, q3⟩
end

section
variable {F : Fam} {ρ ρ1 ρ2 ρ3 : En} {e a b c : Expr} {es : List Expr} {x y z : PyData} {xs ys zs : List PyData} {pos p apos cpos : Pos} {ss : List Sl} {st : Stmt} {sts sts2 : List Stmt} {o : Out}
theorem bss_freeze (i : Nat) (hs : ρ.sl[i]? = some (.own xs)) (h : BSs F ⟨ρ.tm, ρ.sl.set i (.d (.list xs))⟩ sts o) : BSs F ρ sts o := by
  obtain ⟨t, p1, e1⟩ := h
  refine ⟨t, p1, fun C W H0 T0 T O H σ D e R k => ?_⟩
  obtain ⟨O', R', s⟩ := R.freeze hs
  exact e1 C W H0 T0 T O' H σ D e R' (k.mono s)
theorem bss_is {o o' : Out} (h : BSs F ρ sts o) (q : o = o') : BSs F ρ sts o' := q ▸ h

/-! ### methods of a list of one's own -/
theorem tyV_list {K : PySem.W.Frag} {H : Hp} {l : Addr} {vs : List V} (h : H l = some (.lst vs)) : tyV K "list" (.ref l) H := .inl ⟨rfl, vs, SqL.of h⟩
theorem be_append (i : Nat) {n : Str} (hs : ρ.sl[i]? = some (.own xs)) (h : BE F ρ e x ρ1) (hs1 : ρ1.sl[i]? = some (.own ys)) (hz : ys.length ≤ 100000) (hN : F.N[i]? = some n := by rfl) (hv : Vis F.sc n := by first | exact Or.inl rfl | exact Or.inr (Or.inl rfl) | exact Or.inr (Or.inr rfl))
    (hd : (n == ("__debug__" : Str)) = false := by decide) (hcd : (n == ("__classdict__" : Str)) = false := by decide)
    (h1 : ∀ env, attributeBase (.Name n p) "append" env (eval (.Name n p) env) = eval (.Name n p) env := by intro _; rfl)
    (h2 : ∀ env, ((backTo cpos (starEach [e] env)).all (fun x => !x.1) && (backToKw cpos (keywordEach [] env)).all (fun x => x.1.isSome) && decide (([e] : List Expr).length + ([] : List Keyword).length + (if ([] : List Keyword).isEmpty then 0 else 1) < 30)) = true := by intro _; rfl)
    (h3 : (apos.endLine == cpos.line) = true := by rfl) (h4 : ∀ env, starEach [e] env = (false, eval e env) :: starEach [] env := by intro _; rfl) :
    BE F ρ (.Call (.Attribute (.Name n p) "append" apos) [e] [] cpos) .none ⟨ρ1.tm, ρ1.sl.set i (.own (ys ++ [x]))⟩ := by
  obtain ⟨t, p1, e1⟩ := h
  refine ⟨tBM F.K "list" rAppend (tVar i) (tCons t tNil), fun X hX => ?_, fun C W H0 T O H σ R Q q => ?_⟩
  · have h := pe_bm (X := X) (apos := apos) (cpos := cpos) PySem.F.plainAttrs_list PySem.F.slot_list_append PySem.F.type_list_append mt_append (pe_var (pos := p) (by rw [hX.N]; exact hN) (hX.vis hv) hd hcd) (pa_cons (p1 X hX) pa_nil (h4 _)) (h1 _) (h2 _) h3 (h4 _) rfl
    rw [hX.K] at h
    exact h
  · obtain ⟨l, vs, q1, _, _, _, q4, _⟩ := R.sl i _ hs
    refine ⟨_, q1, tyV_list q4, e1 C W H0 T O H σ R _ fun v H1 R1 s1 d1 => ?_⟩
    obtain ⟨l', ws, r1, o1, c1, t1, r4, r5⟩ := R1.sl i _ hs1
    rw [q1] at r1
    cases r1
    refine ⟨l, ws, v, rfl, rfl, r4, Nat.lt_of_le_of_lt (by rw [dpa_len r5]; exact hz) (by decide), ?_⟩
    refine q _ _ (R1.mut hs1 q1 (dpa_app r5 (.cons d1 .nil))) ?_ .non
    rw [cut_upd o1]
    exact s1
theorem be_extend (i : Nat) {n : Str} (hs : ρ.sl[i]? = some (.own xs)) (h : BE F ρ e (.list zs) ρ1) (hs1 : ρ1.sl[i]? = some (.own ys)) (hz : ys.length + zs.length ≤ 100000) (hN : F.N[i]? = some n := by rfl) (hv : Vis F.sc n := by first | exact Or.inl rfl | exact Or.inr (Or.inl rfl) | exact Or.inr (Or.inr rfl))
    (hd : (n == ("__debug__" : Str)) = false := by decide) (hcd : (n == ("__classdict__" : Str)) = false := by decide)
    (h1 : ∀ env, attributeBase (.Name n p) "extend" env (eval (.Name n p) env) = eval (.Name n p) env := by intro _; rfl)
    (h2 : ∀ env, ((backTo cpos (starEach [e] env)).all (fun x => !x.1) && (backToKw cpos (keywordEach [] env)).all (fun x => x.1.isSome) && decide (([e] : List Expr).length + ([] : List Keyword).length + (if ([] : List Keyword).isEmpty then 0 else 1) < 30)) = true := by intro _; rfl)
    (h3 : (apos.endLine == cpos.line) = true := by rfl) (h4 : ∀ env, starEach [e] env = (false, eval e env) :: starEach [] env := by intro _; rfl) :
    BE F ρ (.Call (.Attribute (.Name n p) "extend" apos) [e] [] cpos) .none ⟨ρ1.tm, ρ1.sl.set i (.own (ys ++ zs))⟩ := by
  obtain ⟨t, p1, e1⟩ := h
  refine ⟨tBM F.K "list" rExtend (tVar i) (tCons t tNil), fun X hX => ?_, fun C W H0 T O H σ R Q q => ?_⟩
  · have h := pe_bm (X := X) (apos := apos) (cpos := cpos) PySem.F.plainAttrs_list PySem.F.slot_list_extend PySem.F.type_list_extend mt_extend (pe_var (pos := p) (by rw [hX.N]; exact hN) (hX.vis hv) hd hcd) (pa_cons (p1 X hX) pa_nil (h4 _)) (h1 _) (h2 _) h3 (h4 _) rfl
    rw [hX.K] at h
    exact h
  · obtain ⟨l, vs, q1, _, _, _, q4, _⟩ := R.sl i _ hs
    refine ⟨_, q1, tyV_list q4, e1 C W H0 T O H σ R _ fun v H1 R1 s1 d1 => ?_⟩
    obtain ⟨l', ws, r1, o1, c1, t1, r4, r5⟩ := R1.sl i _ hs1
    rw [q1] at r1
    cases r1
    cases d1 with
    | @lst b us _ g1 g2 =>
      refine ⟨l, b, ws, us, rfl, rfl, r4, (cut_some.mp g1).2, Nat.le_trans (by rw [dpa_len r5, dpa_len g2]; exact hz) (by decide), ?_⟩
      refine q _ _ (R1.mut hs1 q1 (dpa_app r5 g2)) ?_ .non
      rw [cut_upd o1]
      exact s1
theorem be_pop (i : Nat) {n : Str} (hs : ρ.sl[i]? = some (.own (xs ++ [x]))) (hN : F.N[i]? = some n := by rfl) (hv : Vis F.sc n := by first | exact Or.inl rfl | exact Or.inr (Or.inl rfl) | exact Or.inr (Or.inr rfl))
    (hd : (n == ("__debug__" : Str)) = false := by decide) (hcd : (n == ("__classdict__" : Str)) = false := by decide)
    (h1 : ∀ env, attributeBase (.Name n p) "pop" env (eval (.Name n p) env) = eval (.Name n p) env := by intro _; rfl) (h3 : (apos.endLine == cpos.line) = true := by rfl) :
    BE F ρ (.Call (.Attribute (.Name n p) "pop" apos) [] [] cpos) x ⟨ρ.tm, ρ.sl.set i (.own xs)⟩ := by
  refine ⟨tBM0 F.K "list" rPop (tVar i), fun X hX => ?_, fun C W H0 T O H σ R Q q => ?_⟩
  · have h := pe_bm0 (X := X) (apos := apos) (cpos := cpos) PySem.F.plainAttrs_list PySem.F.slot_list_pop PySem.F.type_list_pop mt_pop (pe_var (pos := p) (by rw [hX.N]; exact hN) (hX.vis hv) hd hcd) (h1 _) h3
    rw [hX.K] at h
    exact h
  · obtain ⟨l, vs, q1, o1, c1, t1, q4, q5⟩ := R.sl i _ hs
    have hl := dpa_len q5
    rw [List.length_append, List.length_singleton] at hl
    have hx : (xs ++ [x])[vs.length - 1]? = some x := by
      rw [hl, Nat.add_sub_cancel, List.getElem?_append_right (Nat.le_refl _), Nat.sub_self]; rfl
    obtain ⟨v, e2, d⟩ := dpa_get q5 hx
    refine ⟨_, q1, tyV_list q4, l, vs, v, rfl, rfl, q4, e2, ?_⟩
    have dd : DqA F.K (cut O H) vs.dropLast xs := by
      have := dpa_take xs.length q5
      rw [List.take_left] at this
      rw [List.dropLast_eq_take, hl, Nat.add_sub_cancel]
      exact this
    refine q _ _ (R.mut hs q1 dd) ?_ ?_
    · rw [cut_upd o1]; exact Same.rfl'
    · rw [cut_upd o1]; exact d

/-! ### targets -/
def EvG (K : PySem.W.Frag) (g : TG) (ρ : En) (x : PyData) (ρ' : En) : Prop :=
  ∀ (C W : AS) (H0 : Hp) (T : Option Trip) (O : AS) (H : Hp) (σ : L2.St), Rep K C W H0 T O H σ ρ → ∀ v, Dq K (cut O H) v x →
    ∀ Q : L2.St → Hp → Prop, (∀ σ' H', Rep K C W H0 T O H' σ' ρ' → Same (cut O H) (cut O H') → Q σ' H') → g v σ H Q
def EvGs (K : PySem.W.Frag) (g : TGs) (ρ : En) (xs : List PyData) (ρ' : En) : Prop :=
  ∀ (C W : AS) (H0 : Hp) (T : Option Trip) (O : AS) (H : Hp) (σ : L2.St), Rep K C W H0 T O H σ ρ → ∀ vs, DqA K (cut O H) vs xs →
    ∀ Q : L2.St → Hp → Prop, (∀ σ' H', Rep K C W H0 T O H' σ' ρ' → Same (cut O H) (cut O H') → Q σ' H') → g vs σ H Q
def BG (F : Fam) (ρ : En) (e : Expr) (x : PyData) (ρ' : En) : Prop := ∃ g, (∀ X, Fits F X → PG X e g) ∧ EvG F.K g ρ x ρ'
def BGs (F : Fam) (ρ : En) (es : List Expr) (xs : List PyData) (ρ' : En) : Prop := ∃ g, (∀ X, Fits F X → PGs X es g) ∧ EvGs F.K g ρ xs ρ'
theorem BG.uni (h : BG F ρ e x ρ1) : EvG F.K (supG F e) ρ x ρ1 := by
  obtain ⟨t, p, q⟩ := h
  exact fun C W H0 T O H σ R v d Q k => ⟨t, p, q C W H0 T O H σ R v d Q k⟩
theorem bg_name (i : Nat) {n : Str} (hN : F.N[i]? = some n := by rfl) (hx : Loc F.sc n := by first | exact Or.inl rfl | exact Or.inr rfl) (hf : F.df = true ∨ F.sc.names.lookup n = some .local := by first | exact Or.inl rfl | exact Or.inr rfl) : BG F ρ (.Name n p) x ⟨ρ.tm, ρ.sl.set i (.d x)⟩ :=
  ⟨gName i, fun X hX => pg_name (by rw [hX.N]; exact hX.nd) (by rw [hX.N]; exact hN) (by rw [hX.sc]; exact hx) (by rw [hX.sc]; exact hf.imp (fun z => hX.fn z n) id), fun C W H0 T O H σ R v d Q q => q _ H (R.put d) Same.rfl'⟩
theorem bgs_nil : BGs F ρ [] [] ρ := ⟨_, fun X hX => pgs_nil, fun C W H0 T O H σ R vs d Q q => by
  cases d
  exact ⟨rfl, q σ H R Same.rfl'⟩⟩
theorem bgs_cons (h : BG F ρ e x ρ1) (r : BGs F ρ1 es xs ρ2) (hs : ∀ env, (assignEach (e :: es) env).map (·.2) = assign e env :: (assignEach es env).map (·.2) := by intro _; rfl) : BGs F ρ (e :: es) (x :: xs) ρ2 := by
  obtain ⟨g, p1, e1⟩ := h
  obtain ⟨u, p2, e2⟩ := r
  refine ⟨_, fun X hX => pgs_cons (p1 X hX) (p2 X hX) (hs _), fun C W H0 T O H σ R vs d Q q => ?_⟩
  cases d with
  | @cons v vs _ _ d1 d2 => exact ⟨v, vs, rfl, e1 C W H0 T O H σ R v d1 _ fun σ1 H1 R1 s1 => e2 C W H0 T O H1 σ1 R1 vs (dpa_mono s1 _ _ d2) _ fun σ2 H2 R2 s2 => q σ2 H2 R2 (s1.trans s2)⟩
theorem bg_tup {k : Nat} (h : BGs F ρ es xs ρ1) (hcm : F.ex = none := by rfl) (hl : ∀ env, (assignEach es env).length = xs.length := by intro _; rfl) (hst : ∀ env, (assignEach es env).findIdx? (·.1) = none := by intro _; rfl) : BG F ρ (.Tuple es k p) (.tuple xs) ρ1 := by
  obtain ⟨g, p1, e1⟩ := h
  refine ⟨gTup F.K xs.length g, fun X hX => ?_, fun C W H0 T O H σ R v d Q q => ?_⟩
  · have h := pg_tup (X := X) (pos := p) (k := k) (hX.calm hcm) (p1 X hX) (hl _) (hst _)
    rw [hX.K] at h
    exact h
  · cases d with
    | @tup a vs _ g1 g2 => exact ⟨a, vs, rfl, seqT_mono cut_full g1, dpa_len g2, e1 C W H0 T O H σ R vs g2 Q q⟩
/-- an item of a list of one's own -/
theorem bg_ix (i : Nat) {n : Str} {j : Int} {k : Nat} (hs : ρ.sl[i]? = some (.own xs)) (h : BE F ρ e (.int j) ρ) (hk : ixN xs.length j = some k) (hN : F.N[i]? = some n := by rfl) (hv : Vis F.sc n := by first | exact Or.inl rfl | exact Or.inr (Or.inl rfl) | exact Or.inr (Or.inr rfl))
    (hd : (n == ("__debug__" : Str)) = false := by decide) (hcd : (n == ("__classdict__" : Str)) = false := by decide)
    (ha : ∀ env v, assign (.Subscript (.Name n p) e pos) env v = (do
      let ov ← holding [v] (eval (.Name n p) env)
      let iv ← holding [v, ov] (eval e env)
      standAt pos
      holding [v, ov, iv] (setItem ov iv v)
      release [v, ov, iv] []) := by intro _ _; rfl) : BG F ρ (.Subscript (.Name n p) e pos) x ⟨ρ.tm, ρ.sl.set i (.own (xs.set k x))⟩ := by
  obtain ⟨t, p1, e1⟩ := h
  refine ⟨gSub (tVar i) t rSetL, fun X hX => pg_sub (pe_var (by rw [hX.N]; exact hN) (hX.vis hv) hd hcd) (p1 X hX) set_list (ha _), fun C W H0 T O H σ R v d Q q => ?_⟩
  obtain ⟨l0, _, q1, _⟩ := R.sl i _ hs
  refine ⟨_, q1, e1 C W H0 T O H σ R _ fun w H1 R1 s1 d1 => ?_⟩
  cases d1
  obtain ⟨l, vs, r1, o1, c1, t1, r4, r5⟩ := R1.sl i _ hs
  rw [q1] at r1
  cases r1
  refine ⟨l0, vs, j, k, rfl, rfl, r4, by rw [dpa_len r5]; exact hk, q σ _ (R1.mut hs q1 (dpa_set (dp_mono s1 _ _ d) k r5)) ?_⟩
  rw [cut_upd o1]
  exact s1
theorem bs_asg {tg : Expr} (h : BE F ρ e x ρ1) (g : BG F ρ1 tg x ρ2) (h1 : ∀ X, Fits F X → swapsWithSole [tg] e pos.line X.env = pure false := by intro _ _; rfl) (h2 : ∀ X, Fits F X → swappedStores [tg] e X.env = pure none := by intro _ _; rfl)
    (h3 : ∀ env, (assignEach [tg] env).map (·.2) = [assign tg env] := by intro _; rfl) : BS F ρ (.Assign [tg] e pos) (.nx ρ2) := by
  obtain ⟨t, p1, e1⟩ := h
  obtain ⟨g, p2, e2⟩ := g
  exact ⟨_, fun X hX => ps_asg (p1 X hX) (p2 X hX) (h1 X hX) (h2 X hX) (h3 _), fun C W H0 T0 T O H σ D e R k => e1 C W H0 T O H σ R _ fun v H1 R1 s1 d1 => e2 C W H0 T O H1 σ R1 v d1 _ fun σ2 H2 R2 s2 => k σ2 H2 O T e R2 (s1.trans s2)⟩
/-- x += e, whole numbers -/
theorem bs_aug {op : Operator} {f : Int → Int → Int} {i : Nat} {n : Str} {k j : Int} (ip : ∀ X, PIp X op (ipI f)) (hs : ρ.sl[i]? = some (.d (.int k))) (h : BE F ρ e (.int j) ρ1) (hN : F.N[i]? = some n := by rfl) (hx : Loc F.sc n := by first | exact Or.inl rfl | exact Or.inr rfl)
    (hf : F.df = true ∨ F.sc.names.lookup n = some .local := by first | exact Or.inl rfl | exact Or.inr rfl) : BS F ρ (.AugAssign (.Name n p) op e pos) (.nx ⟨ρ1.tm, ρ1.sl.set i (.d (.int (f k j)))⟩) := by
  obtain ⟨t, p1, e1⟩ := h
  refine ⟨_, fun X hX => ps_aug (i := i) (by rw [hX.N]; exact hX.nd) (by rw [hX.N]; exact hN) (by rw [hX.sc]; exact hx) (p1 X hX) (ip X) (by rw [hX.sc]; exact hf.imp (fun z => hX.fn z n) id), fun C W H0 T0 T O H σ D e R k' => ?_⟩
  obtain ⟨v, q1, d⟩ := R.sl i _ hs
  cases d
  refine ⟨_, q1, e1 C W H0 T O H σ R _ fun w H1 R1 s1 d1 => ?_⟩
  cases d1
  exact ⟨k, j, rfl, rfl, k' _ H1 O T e (R1.put (.int _)) s1⟩

/-! ### walks -/
def Wk (K : PySem.W.Frag) (J : It) (O : AS) (H : Hp) (xs : List PyData) : Prop := ∀ (O' : AS) (H' : Hp), (∀ a, O' a → H' a ≠ none) → Same (cut O H) (cut O' H') → ∀ i : Nat,
  (i = xs.length → J.stop i H') ∧ ∀ x, xs[i]? = some x → J.go i H' ∧ ∀ v H'', J.yld i H' v H'' → Same H' H'' ∧ Dq K (cut O' H'') v x
def EvI (K : PySem.W.Frag) (wi : TI) (ρ : En) (xs : List PyData) (ρ' : En) : Prop :=
  ∀ (C W : AS) (H0 : Hp) (T : Option Trip) (O : AS) (H : Hp) (σ : L2.St), Rep K C W H0 T O H σ ρ →
    ∀ Rq : It → Hp → Prop, (∀ J H', Rep K C W H0 T O H' σ ρ' → Same (cut O H) (cut O H') → Wk K J O H' xs → Rq J H') → wi σ H Rq
def BI (F : Fam) (ρ : En) (tg iter : Expr) (xs : List PyData) (ρ' : En) : Prop := ∃ wi, (∀ X, Fits F X → PI X tg iter wi) ∧ EvI F.K wi ρ xs ρ'
theorem bi_list {tg : Expr} (h : BE F ρ e (.list xs) ρ1) : BI F ρ tg e xs ρ1 := by
  obtain ⟨t, p1, e1⟩ := h
  refine ⟨iList F.K t, fun X hX => ?_, fun C W H0 T O H σ R Rq q => e1 C W H0 T O H σ R _ fun v H1 R1 s1 d1 => ?_⟩
  · have h := pi_list (X := X) (tg := tg) (p1 X hX)
    rw [hX.K] at h
    exact h
  · cases d1 with
    | @lst a vs _ g1 g2 =>
      refine ⟨a, rfl, ⟨vs, SqL.of (cut_some.mp g1).2⟩, q _ H1 R1 s1 fun O' H' al s i => ?_⟩
      have g3 := s _ _ g1
      have g4 := dpa_mono s _ _ g2
      have hq : SqL F.K H' a vs := SqL.of (cut_some.mp g3).2
      refine ⟨fun hi => ⟨vs, hq, by rw [dpa_len g2]; omega⟩, fun x hx => ?_⟩
      obtain ⟨v, hv, dv⟩ := dpa_get g4 hx
      refine ⟨⟨vs, v, hq, hv⟩, fun w H'' y => ?_⟩
      obtain ⟨eH, y⟩ := y
      subst eH
      have := y vs hq
      rw [hv] at this
      cases this
      exact ⟨Same.rfl', dv⟩
theorem bi_tup {tg : Expr} (h : BE F ρ e (.tuple xs) ρ1) : BI F ρ tg e xs ρ1 := by
  obtain ⟨t, p1, e1⟩ := h
  refine ⟨iTup F.K t, fun X hX => ?_, fun C W H0 T O H σ R Rq q => e1 C W H0 T O H σ R _ fun v H1 R1 s1 d1 => ?_⟩
  · have h := pi_tup (X := X) (tg := tg) (p1 X hX)
    rw [hX.K] at h
    exact h
  · cases d1 with
    | @tup a vs _ g1 g2 =>
      refine ⟨a, rfl, ⟨vs, seqT_mono cut_full g1⟩, q _ H1 R1 s1 fun O' H' al s i => ?_⟩
      have g3 := seqT_mono s g1
      have g4 := dpa_mono s _ _ g2
      have hq : SqT F.K H' a vs := seqT_mono cut_full g3
      refine ⟨fun hi => ⟨vs, hq, by rw [dpa_len g2]; omega⟩, fun x hx => ?_⟩
      obtain ⟨v, hv, dv⟩ := dpa_get g4 hx
      refine ⟨⟨vs, v, hq, hv⟩, fun w H'' y => ?_⟩
      obtain ⟨eH, y⟩ := y
      subst eH
      have := y vs hq
      rw [hv] at this
      cases this
      exact ⟨Same.rfl', dv⟩
/-- the ints of a range -/
def rgD (lo : Int) (n : Nat) : List PyData := (List.range n).map fun (i : Nat) => .int (lo + (i : Int))
theorem rgD_get {lo : Int} {n i : Nat} : (rgD lo n)[i]? = if i < n then some (.int (lo + (i : Int))) else none := by
  unfold rgD
  rw [List.getElem?_map]
  by_cases h : i < n
  · rw [if_pos h, List.getElem?_range h]; rfl
  · rw [if_neg h, List.getElem?_eq_none_iff.mpr (by rw [List.length_range]; omega)]; rfl
theorem rgD_len {lo : Int} {n : Nat} : (rgD lo n).length = n := by
  unfold rgD
  rw [List.length_map, List.length_range]
theorem wk_range {K : PySem.W.Frag} {O : AS} {H : Hp} {lo : Int} {n : Nat} : Wk K (Itr lo n) O H (rgD lo n) := fun O' H' al s i => by
  rw [rgD_len, rgD_get]
  refine ⟨fun hi => Nat.le_of_eq hi.symm, fun x hx => ?_⟩
  by_cases h : i < n
  · rw [if_pos h] at hx
    cases hx
    refine ⟨h, fun v H'' y => ?_⟩
    obtain ⟨e1, e2⟩ := y
    subst e1 e2
    exact ⟨Same.rfl', .int _⟩
  · rw [if_neg h] at hx; cases hx
theorem bi_range1 {tg : Expr} {j : Int} (h : BE F ρ e (.int j) ρ1) (hm : F.mg "range" = none) (hj : -(2 ^ 62) ≤ j ∧ j < 2 ^ 62) (hg : F.sc.names.lookup ("range" : Str) = some .globalImplicit := by rfl) (hs : ∀ env, starEach [e] env = [(false, eval e env)] := by intro _; rfl) :
    BI F ρ tg (.Call (.Name "range" p) [e] [] pos) (rgD 0 j.toNat) ρ1 := by
  obtain ⟨t, p1, e1⟩ := h
  refine ⟨iRng1 (tCons t tNil), fun X hX => pi_range1 (hX.gl hg) (by rw [hX.mg]; exact hm) (pa_cons (p1 X hX) pa_nil (hs _)) (hs _), fun C W H0 T O H σ R Rq q => e1 C W H0 T O H σ R _ fun v H1 R1 s1 d1 => ?_⟩
  cases d1
  exact ⟨j, rfl, hj.1, hj.2, q _ H1 R1 s1 wk_range⟩
theorem bi_range2 {tg : Expr} {i j : Int} (h : BE F ρ a (.int i) ρ1) (h2 : BE F ρ1 b (.int j) ρ2) (hm : F.mg "range" = none) (hj : -(2 ^ 62) ≤ i ∧ i < 2 ^ 62 ∧ -(2 ^ 62) ≤ j ∧ j < 2 ^ 62) (hg : F.sc.names.lookup ("range" : Str) = some .globalImplicit := by rfl)
    (hs : ∀ env, starEach [a, b] env = [(false, eval a env), (false, eval b env)] := by intro _; rfl) (hs2 : ∀ env, starEach [b] env = [(false, eval b env)] := by intro _; rfl) :
    BI F ρ tg (.Call (.Name "range" p) [a, b] [] pos) (rgD i (j - i).toNat) ρ2 := by
  obtain ⟨t, p1, e1⟩ := h
  obtain ⟨u, p2, e2⟩ := h2
  refine ⟨iRng2 (tCons t (tCons u tNil)), fun X hX => pi_range2 (hX.gl hg) (by rw [hX.mg]; exact hm) (pa_cons (p1 X hX) (pa_cons (p2 X hX) pa_nil (hs2 _)) (by rw [hs, hs2])) (hs _) (hs2 _), fun C W H0 T O H σ R Rq q => e1 C W H0 T O H σ R _ fun v H1 R1 s1 d1 => e2 C W H0 T O H1 σ R1 _ fun w H2 R2 s2 d2 => ?_⟩
  cases d1
  cases d2
  exact ⟨i, j, rfl, hj, q _ H2 R2 (s1.trans s2) wk_range⟩
/-- a range that goes down by ones -/
def rgDn (lo : Int) (n : Nat) : List PyData := (List.range n).map fun (i : Nat) => .int (lo - (i : Int))
theorem rgDn_get {lo : Int} {n i : Nat} : (rgDn lo n)[i]? = if i < n then some (.int (lo - (i : Int))) else none := by
  unfold rgDn
  rw [List.getElem?_map]
  by_cases h : i < n
  · rw [if_pos h, List.getElem?_range h]; rfl
  · rw [if_neg h, List.getElem?_eq_none_iff.mpr (by rw [List.length_range]; omega)]; rfl
theorem bi_range3 {tg : Expr} {i j : Int} (h : BE F ρ a (.int i) ρ1) (h2 : BE F ρ1 b (.int j) ρ2) (h3 : BE F ρ2 c (.int (-1)) ρ3) (hm : F.mg "range" = none) (hj : -(2 ^ 62) ≤ i ∧ i < 2 ^ 62 ∧ -(2 ^ 62) ≤ j ∧ j < 2 ^ 62) (hg : F.sc.names.lookup ("range" : Str) = some .globalImplicit := by rfl)
    (hs : ∀ env, starEach [a, b, c] env = (false, eval a env) :: starEach [b, c] env := by intro _; rfl) (hs2 : ∀ env, starEach [b, c] env = (false, eval b env) :: starEach [c] env := by intro _; rfl) (hs3 : ∀ env, starEach [c] env = (false, eval c env) :: starEach [] env := by intro _; rfl)
    (hb : ∀ env, (backTo pos (starEach [b, c] env)).any (·.1) = false := by intro _; rfl) :
    BI F ρ tg (.Call (.Name "range" p) [a, b, c] [] pos) (rgDn i (i - j).toNat) ρ3 := by
  obtain ⟨t, p1, e1⟩ := h
  obtain ⟨u, p2, e2⟩ := h2
  obtain ⟨w, p3, e3⟩ := h3
  refine ⟨iRng3 (tCons t (tCons u (tCons w tNil))), fun X hX => pi_range3 (hX.gl hg) (by rw [hX.mg]; exact hm) (pa_cons (p1 X hX) (pa_cons (p2 X hX) (pa_cons (p3 X hX) pa_nil (hs3 _)) (hs2 _)) (hs _)) (hs _) (hb _), fun C W H0 T O H σ R Rq q => e1 C W H0 T O H σ R _ fun v H1 R1 s1 d1 => e2 C W H0 T O H1 σ R1 _ fun w H2 R2 s2 d2 => e3 C W H0 T O H2 σ R2 _ fun w3 H3 R3 s3 d3 => ?_⟩
  cases d1
  cases d2
  cases d3
  refine ⟨i, j, -1, (i - j).toNat, rfl, RgC.neg hj.1 hj.2.1 hj.2.2.1 hj.2.2.2, q _ H3 R3 ((s1.trans s2).trans s3) fun O' H' al s k => ?_⟩
  have hlen : (rgDn i (i - j).toNat).length = (i - j).toNat := by unfold rgDn; rw [List.length_map, List.length_range]
  rw [hlen, rgDn_get]
  refine ⟨fun hi => Nat.le_of_eq hi.symm, fun x hx => ?_⟩
  by_cases h : k < (i - j).toNat
  · rw [if_pos h] at hx
    cases hx
    refine ⟨h, fun v H'' y => ?_⟩
    obtain ⟨e1, e2⟩ := y
    subst e1 e2
    refine ⟨Same.rfl', ?_⟩
    have e : i + (k : Int) * -1 = i - (k : Int) := by omega
    rw [e]
    exact .int _
  · rw [if_neg h] at hx; cases hx

/-! ### for -/
def LStep (F : Fam) (tg : Expr) (body : List Stmt) (x : PyData) (ρ : En) (o : Out) : Prop := ∃ ρb, BG F ρ tg x ρb ∧ BSs F ρb body o
inductive Loop (S : PyData → En → Out → Prop) : List PyData → En → Out → Prop
  | nil {ρ : En} : Loop S [] ρ (.nx ρ)
  | nx {x : PyData} {xs : List PyData} {ρ ρ' : En} {o : Out} : S x ρ (.nx ρ') → Loop S xs ρ' o → Loop S (x :: xs) ρ o
  | ct {x : PyData} {xs : List PyData} {ρ ρ' : En} {o : Out} : S x ρ (.ct ρ') → Loop S xs ρ' o → Loop S (x :: xs) ρ o
  | bk {x : PyData} {xs : List PyData} {ρ ρ' : En} : S x ρ (.bk ρ') → Loop S (x :: xs) ρ (.nx ρ')
  | ret {x : PyData} {xs : List PyData} {ρ : En} {r : Res} {tm : Option (List Int × Int)} : S x ρ (.ret r tm) → Loop S (x :: xs) ρ (.ret r tm)
  | rz {x : PyData} {xs : List PyData} {ρ ρ' : En} {c : Value} {fs : List (Str × PyData)} : S x ρ (.rz c fs ρ') → Loop S (x :: xs) ρ (.rz c fs ρ')
theorem bs_for {tg : Expr} (hi : BI F ρ tg e xs ρ1) (hl : Loop (LStep F tg sts) xs ρ1 o) (hcm : F.ex = none := by rfl) (hf : ∀ env x, foldedSetIterable e env x = pure x := by intro _ _; rfl) : BS F ρ (.For tg e sts [] pos) o := by
  obtain ⟨wi, p1, e1⟩ := hi
  refine ⟨tFor wi (supG F tg) (supS F sts), fun X hX => ps_for hX.po (hX.calm hcm) (p1 X hX) (supG_ok hX) (supS_ok hX) (hf _), fun C W H0 T0 T O H σ D e R k => e1 C W H0 T O H σ R _ fun J H1 R1 s1 wk => ?_⟩
  have k1 := k.mono s1
  refine ⟨fun i m σ' H' => m = xs.length - i ∧ i ≤ xs.length ∧ ∃ ρi O' T', ExtT F.lc T0 T' ∧ Rep F.K C W H0 T' O' H' σ' ρi ∧ Same (cut O H1) (cut O' H') ∧ Loop (LStep F tg sts) (xs.drop i) ρi o,
    ⟨xs.length, by simp, Nat.zero_le _, ρ1, O, T, e, R1, Same.rfl', by rw [List.drop_zero]; exact hl⟩, fun i m σ' H' hw => ?_⟩
  obtain ⟨rfl, hi, ρi, O', T', e', R', s', L⟩ := hw
  obtain ⟨w1, w2⟩ := wk O' H' R'.alloc s' i
  by_cases hlt : i < xs.length
  · have hx : xs[i]? = some xs[i] := List.getElem?_eq_getElem hlt
    obtain ⟨w3, w4⟩ := w2 _ hx
    rw [List.drop_eq_getElem_cons hlt] at L
    refine .inr ⟨w3, fun σ2 H2 => ∃ ρi O2 T2, ExtT F.lc T0 T2 ∧ Rep F.K C W H0 T2 O2 H2 σ2 ρi ∧ Same (cut O H1) (cut O2 H2) ∧ Loop (LStep F tg sts) (xs.drop (i + 1)) ρi o, fun σ2 H2 h => ⟨xs.length - (i + 1), by omega, rfl, hlt, h⟩, fun v H2 y => ?_⟩
    obtain ⟨s2, dv⟩ := w4 v H2 y
    have R2 := R'.grow s2
    have s12 : Same (cut O H1) (cut O' H2) := s'.trans (cut_same s2)
    have go : ∀ {o1 : Out}, LStep F tg sts xs[i] ρi o1 → ∀ D', (∀ σ3 H3, Rep F.K C W H0 T' O' H3 σ3 ρi → True) → (∀ H3, Same (cut O' H2) (cut O' H3) → EndOk F.W F.lc F.K C W H0 T0 O' H3 D' o1) → supG F tg v σ' H2 fun σ3 H3 => supS F sts D' σ3 H3 := fun {o1} hs D' _ ke => by
      obtain ⟨ρb, g1, b1⟩ := hs
      exact g1.uni C W H0 T' O' H2 σ' R2 v dv _ fun σ3 H3 R3 s3 => b1.uni C W H0 T0 T' O' H3 σ3 D' e' R3 (ke H3 s3)
    cases L with
    | nx h1 h2 => exact go h1 _ (fun _ _ _ => trivial) fun H3 s3 σ4 H4 O4 T4 e4 R4 s4 => ⟨_, O4, T4, e4, R4, (s12.trans s3).trans s4, h2⟩
    | ct h1 h2 => exact go h1 _ (fun _ _ _ => trivial) fun H3 s3 σ4 H4 O4 T4 e4 R4 s4 => ⟨_, O4, T4, e4, R4, (s12.trans s3).trans s4, h2⟩
    | bk h1 => exact go h1 _ (fun _ _ _ => trivial) fun H3 s3 σ4 H4 O4 T4 e4 R4 s4 => k1 σ4 H4 O4 T4 e4 R4 ((s12.trans s3).trans s4)
    | ret h1 => exact go h1 _ (fun _ _ _ => trivial) fun H3 s3 v H4 a1 a2 a3 => k1 v H4 a1 a2 a3
    | rz h1 => exact go h1 _ (fun _ _ _ => trivial) fun H3 s3 d σ4 H4 O4 T4 e4 R4 s4 => k1 d σ4 H4 O4 T4 e4 R4 ((s12.trans s3).trans s4)
  · have hi2 : i = xs.length := by omega
    rw [List.drop_eq_nil_of_le (by omega)] at L
    cases L
    exact .inl ⟨w1 hi2, k1 σ' H' O' T' e' R' s'⟩
end
end TC

set_option maxRecDepth 100000
set_option maxHeartbeats 4000000
namespace TC
open PySem PySem.Spec L2

/-! ### a def's body keeps its promise -/
theorem start_get {N : List Str} {vs : List V} {i : Nat} (h : i < vs.length) : (L2.start N vs)[i]? = some (some vs[i]) := by
  unfold L2.start
  rw [List.getElem?_append_left (by rw [List.length_map]; exact h), List.getElem?_map, List.getElem?_eq_getElem h]
  rfl
theorem aok_get {K : PySem.W.Frag} {T : Option Trip} {tm : Option (List Int × Int)} {O : AS} {H : Hp} : ∀ {vs : List V} {ss : List Sl} {i : Nat} {s : Sl}, AOk K T tm O H vs ss → ss[i]? = some s → ∃ v, vs[i]? = some v ∧ (match s with
      | .d x => Dq K (cut O H) v x
      | .stm => ∃ t, T = some t ∧ tm ≠ none ∧ v = .ref t.1
      | .scr ns => ∃ a, v = .ref a ∧ SqL K (cut O H) a (ns.map V.int)
      | .fz Φ => Φ.ok v (cut O H)
      | _ => False)
  | [], [], _, _, _, e => by simp at e
  | v :: vs, s :: ss, 0, _, h, e => by simp at e; subst e; exact ⟨v, rfl, h.1⟩
  | v :: vs, s :: ss, i + 1, _, h, e => by
    obtain ⟨u, e1, q⟩ := aok_get (i := i) h.2 (by simpa using e)
    exact ⟨u, by simpa using e1, q⟩
  | [], _ :: _, _, _, h, _ => h.elim
  | _ :: _, [], _, _, h, _ => h.elim
/-- nothing of one's own -/
theorem own0 {C W : AS} {T : Option Trip} {O : AS} {H : Hp} {σ : L2.St} {sl : List Sl} (h : ∀ (i : Nat) (Ψ : Fo), sl[i]? = some (.ow Ψ) → False) : ∃ rg : Nat → AS, OwOk C W T O H σ sl rg :=
  ⟨fun _ _ => False, ⟨fun i Ψ q => (h i Ψ q).elim, fun i Ψ a q => (h i Ψ q).elim, fun i j Ψ Ψ' a _ q => (h i Ψ q).elim, fun i j Ψ xs a q => (h i Ψ q).elim⟩⟩
def OutIs : Out → Res → Prop
  | .ret r _, r' => r = r'
  | .nx _, r' => r' = .d .none
  | _, _ => False
def OutIsX : Out → Res → Prop
  | .ret r _, r' => r = r'
  | .nx _, r' => r' = .d .none
  | .rz c fs _, r' => r' = .x c fs
  | _, _ => False
def fam (P : Program) (w : World) (K : PySem.W.Frag) (mg : Str → Option Value) (base : Heap) (N : List Str) (sc : Scope) (k : Nat) : Fam := ⟨P, w, K, mg, base, N, sc, k, true, true, fun _ _ _ _ => False, false, true, none, [], false⟩
def famS (P : Program) (w : World) (K : PySem.W.Frag) (mg : Str → Option Value) (base : Heap) (N : List Str) (sc : Scope) (k : Nat) : Fam := ⟨P, w, K, mg, base, N, sc, k, true, false, fun _ _ _ _ => False, false, true, none, [], false⟩
/-- .. of a def that may raise -/
def famX (P : Program) (w : World) (K : PySem.W.Frag) (mg : Str → Option Value) (base : Heap) (N : List Str) (sc : Scope) (k : Nat) (WW : WX) : Fam := ⟨P, w, K, mg, base, N, sc, k, true, true, WW, true, true, none, [], false⟩
/-- .. where no repr is under way -/
def famG (P : Program) (w : World) (K : PySem.W.Frag) (mg : Str → Option Value) (base : Heap) (N : List Str) (sc : Scope) (k : Nat) : Fam := ⟨P, w, K, mg, base, N, sc, k, true, true, fun _ _ _ _ => False, false, true, none, [], true⟩
section
variable {P : Program} {w : World} {K : PySem.W.Frag} {mg : Str → Option Value} {base : Heap} {x qual : Str} {st : Stmt} {f : Addr} {fd : FuncData} {N ps : List Str} {k : Nat}
theorem fits_of {cdv : Value} {A : Around} {outer : List Env} {s : Shared} {H : Hp} {E : XK} (S : FnScope N ps (defScope st)) (hr : Room k (A.deeper (PyProof.Rows.envOfC qual (defScope st) s.heap.objs.size f cdv))) :
    Fits (fam P w K mg base N (defScope st) k) (cxOf CX0 P w K mg base N qual (defScope st) f cdv A outer s H E).nox :=
  ⟨rfl, rfl, rfl, rfl, rfl, rfl, S.nd, rfl, fun _ => rfl, fun _ => hr, (Nat.lt_of_le_of_lt (Nat.add_le_add_right (Nat.le_add_right _ _) _) hr.un), fun _ _ => rfl, PassesOwn.never, (fun h => nomatch h), (fun _ => ⟨rfl, rfl⟩), (fun _ h => nomatch h), (fun _ h => nomatch h), fun h => nomatch h⟩
theorem fits_ofS {cdv : Value} {A : Around} {outer : List Env} {s : Shared} {H : Hp} {E : XK} (S : FnScope N ps (defScope st)) (hr : Room k (A.deeper (PyProof.Rows.envOfC qual (defScope st) s.heap.objs.size f cdv))) :
    Fits (famS P w K mg base N (defScope st) k) (cxOf CX0 P w K mg base N qual (defScope st) f cdv A outer s H E).nox :=
  ⟨rfl, rfl, rfl, rfl, rfl, rfl, S.nd, rfl, fun _ => rfl, fun _ => hr, (Nat.lt_of_le_of_lt (Nat.add_le_add_right (Nat.le_add_right _ _) _) hr.un), fun _ _ => rfl, PassesOwn.never, (fun h => nomatch h), (fun _ => ⟨rfl, rfl⟩), (fun _ h => nomatch h), (fun _ h => nomatch h), fun h => nomatch h⟩
theorem pad_get {ss : List Sl} {n i : Nat} {s : Sl} (h : (ss ++ List.replicate n Sl.un)[i]? = some s) : ss[i]? = some s ∨ s = .un := by
  by_cases e : i < ss.length
  · rw [List.getElem?_append_left e] at h
    exact .inl h
  · rw [List.getElem?_append_right (by omega)] at h
    have := List.mem_of_getElem? h
    exact .inr (List.eq_of_mem_replicate this)
theorem def_okP {Rl : List Sl → Res → Prop} (Fn : Fun K x qual st f fd) (S : FnScope N ps (defScope st)) (hN : ps.length ≤ N.length) (len : ∀ ss r, Rl ss r → ss.length = ps.length)
    (body : ∀ ss r, Rl ss r → ∃ o, BSs (fam P w K mg base N (defScope st) k) ⟨none, ss ++ List.replicate (N.length - ss.length) .un⟩ (defBody st) o ∧ OutIs o r) : FnOk P w K mg base CX0 (k + 1) f fd ps (spP K Rl) := by
  refine Fn.ok S (fun vs H Q E h => ?_) (fun cdv A outer s H vs Q E hr h => ?_)
  · obtain ⟨C, ss, r, _, h2, h3, _⟩ := h
    rw [aok_len h2]; exact len ss r h3
  obtain ⟨C, ss, r, al, ok, hR, q⟩ := h
  obtain ⟨o, ⟨t, p1, e1⟩, ho⟩ := body ss r hR
  have hlen := aok_len ok
  have hps := len ss r hR
  refine ⟨t, p1 _ (fits_of S hr), e1 C (fun _ => False) H none none C H _ _ (ExtT.rfl' fun _ => rfl) ⟨fun _ h => h.elim, fun _ h => h, fun _ _ h _ => h, al, fun _ h => .inl h, ?_, fun t h => (nomatch h), trivial, fun i s hs => ?_, fun i j xs ys a ne h1 => ?_, own0 fun i Ψ h1 => ?_⟩ ?_⟩
  · show (L2.start N vs).length = _
    unfold L2.start
    rw [List.length_append, List.length_append, List.length_map, List.length_replicate, List.length_replicate, hlen]
  · rcases pad_get hs with h1 | h1
    · obtain ⟨v, e1, q1⟩ := aok_get ok h1
      have hi : i < vs.length := (List.getElem?_eq_some_iff.mp e1).1
      have e2 : (L2.start N vs)[i]? = some (some v) := by rw [start_get hi, ← List.getElem?_eq_getElem hi, e1]
      cases s with
      | un => trivial
      | d x => exact ⟨v, e2, q1⟩
      | own xs => exact q1.elim
      | stm => obtain ⟨t, h, _⟩ := q1; cases h
      | plc => exact q1.elim
      | scr ns => obtain ⟨a, rfl, q2⟩ := q1; exact ⟨a, e2, q2⟩
      | fz Φ => exact ⟨v, e2, q1⟩
      | ow Ψ => exact q1.elim
    · subst h1; trivial
  · rcases pad_get h1 with h2 | h2
    · obtain ⟨v, _, q1⟩ := aok_get ok h2
      exact q1.elim
    · cases h2
  · rcases pad_get h1 with h2 | h2
    · obtain ⟨v, _, q1⟩ := aok_get ok h2
      exact q1.elim
    · cases h2
  · cases o with
    | nx ρ' =>
      have e : r = .d .none := ho
      subst e
      exact fun σ' H' O' T' _ R _ => q _ H' (fun a o h => R.keep a o h id) .non
    | ret r' tm =>
      have e : r' = r := ho
      subst e
      exact fun v H' hk _ ok => q v H' (fun a o h => hk a o h id) ok
    | bk => exact ho.elim
    | ct => exact ho.elim
    | rz c fs ρ' => exact ho.elim
theorem def_okS {Rs : List Int → Int → List Sl → Res → Int → Prop} (Fn : Fun K x qual st f fd) (S : FnScope N ps (defScope st)) (hN : ps.length ≤ N.length) (len : ∀ ds p ss r p', Rs ds p ss r p' → ss.length + 1 = ps.length)
    (body : ∀ ds p ss r p', Rs ds p ss r p' → BSs (famS P w K mg base N (defScope st) k) ⟨some (ds, p), .stm :: ss ++ List.replicate (N.length - (ss.length + 1)) .un⟩ (defBody st) (.ret r (some (ds, p')))) : FnOk P w K mg base CX0 (k + 1) f fd ps (spS K Rs) := by
  refine Fn.ok S (fun vs H Q E h => ?_) (fun cdv A outer s H vs Q E hr h => ?_)
  · obtain ⟨C, t, ds, p, ss, r, p', us, rfl, _, _, _, _, _, h2, h3, _⟩ := h
    rw [List.length_cons, aok_len h2]; exact len ds p ss r p' h3
  obtain ⟨C, t, ds, p, ss, r, p', us, rfl, al, hs, hg, hC, hl, ok, hR, q⟩ := h
  obtain ⟨u, p1, e1⟩ := body ds p ss r p' hR
  have hlen := aok_len ok
  have hps := len ds p ss r p' hR
  refine ⟨u, p1 _ (fits_ofS S hr), e1 C (fun a => a = t.2.2) H (some t) (some t) C H _ _ (ExtT.rfl' fun h => nomatch h) ⟨fun a h => h ▸ hC, fun _ h => h, fun _ _ h _ => h, al, fun _ h => .inl h, ?_, fun t' h => ?_, ⟨t, rfl, hs, hg, hC, hl, .inl rfl⟩, fun i s hi => ?_, fun i j xs ys a ne h1 => ?_, own0 fun i Ψ h1 => ?_⟩ ?_⟩
  · show (L2.start N (.ref t.1 :: us)).length = (.stm :: ss ++ List.replicate (N.length - (ss.length + 1)) Sl.un).length
    unfold L2.start
    rw [List.length_append, List.length_append, List.length_map, List.length_replicate, List.length_replicate, List.length_cons, List.length_cons, hlen]
  · cases h; exact hC
  · rcases pad_get hi with h1 | h1
    · cases i with
      | zero =>
        simp at h1
        subst h1
        exact ⟨t, rfl, by simp, start_get (i := 0) (by simp)⟩
      | succ i =>
        rw [List.getElem?_cons_succ] at h1
        obtain ⟨v, e1, q1⟩ := aok_get ok h1
        have hi : i < us.length := (List.getElem?_eq_some_iff.mp e1).1
        have e2 : (L2.start N (.ref t.1 :: us))[i + 1]? = some (some v) := by
          rw [start_get (by rw [List.length_cons]; omega)]
          have : (V.ref t.1 :: us)[i + 1]'(by rw [List.length_cons]; omega) = us[i] := rfl
          rw [this]
          rw [List.getElem?_eq_getElem hi] at e1
          rw [Option.some.inj e1]
        cases s with
        | un => trivial
        | d x => exact ⟨v, e2, q1⟩
        | own xs => exact q1.elim
        | stm => obtain ⟨t, h, _⟩ := q1; cases h
        | plc => exact q1.elim
        | scr ns => obtain ⟨a, rfl, q2⟩ := q1; exact ⟨a, e2, q2⟩
        | fz Φ => exact ⟨v, e2, q1⟩
        | ow Ψ => exact q1.elim
    · subst h1; trivial
  · rcases pad_get h1 with h2 | h2
    · cases i with
      | zero => simp at h2
      | succ i =>
        rw [List.getElem?_cons_succ] at h2
        obtain ⟨v, _, q1⟩ := aok_get ok h2
        exact q1.elim
    · cases h2
  · rcases pad_get h1 with h2 | h2
    · cases i with
      | zero => simp at h2
      | succ i =>
        rw [List.getElem?_cons_succ] at h2
        obtain ⟨v, _, q1⟩ := aok_get ok h2
        exact q1.elim
    · cases h2
  · exact fun v H' hk hp ok => q v H' (fun a o h n => hk a o h n) (hp t rfl) ok
end

/-! ### built-in functions -/
section
variable {F : Fam} {ρ ρ1 ρ2 ρ3 : En} {e a b c : Expr} {es : List Expr} {x y z : PyData} {xs ys zs : List PyData} {pos p apos cpos : Pos} {ss : List Sl} {st : Stmt} {sts sts2 : List Stmt} {o : Out}
def RcD (K : PySem.W.Frag) (r : List V → Hp → VK → Prop) (xs : List PyData) (z : PyData) : Prop := ∀ (O : AS) (H : Hp) (vs : List V), (∀ a, O a → H a ≠ none) → DqA K (cut O H) vs xs → ∀ Q : VK, (∀ u H', Same H H' → Dq K (cut O H') u z → Q u H') → r vs H Q
def RcL (K : PySem.W.Frag) (r : List V → Hp → VK → Prop) (xs : List PyData) (zs : List PyData) : Prop := ∀ (O : AS) (H : Hp) (vs : List V), (∀ a, O a → H a ≠ none) → DqA K (cut O H) vs xs →
  ∀ Q : VK, (∀ l us H', H l = none → Same H H' → H' l = some (.lst us) → DqA K (cut (or1 O l) H') us zs → Q (.ref l) H') → r vs H Q
theorem be_cr {n : Str} {r : List V → Hp → VK → Prop} (hc : (∃ id, (∀ X, Fits F X → CallR X (.builtin id) r) ∧ bootBuiltins n = some (.builtin id)) ∨ (∃ T, (∀ X, Fits F X → CallR X (.type T) r) ∧ bootBuiltins n = some (.type T))) (hm : F.mg n = none) (ha : BD F ρ (e :: es) xs ρ1) (hr : RcD F.K r xs z)
    (hg : F.sc.names.lookup n = some .globalImplicit := by rfl) (hn : n ≠ "__name__" := by decide) (hd : (n == ("__debug__" : Str)) = false := by decide)
    (he : ∀ env, starEach (e :: es) env = (false, eval e env) :: starEach es env := by intro _; rfl) (hpl : ∀ env, (backTo pos (starEach es env)).any (·.1) = false := by intro _; rfl) : BE F ρ (.Call (.Name n p) (e :: es) [] pos) z ρ1 := by
  obtain ⟨t, p1, e1⟩ := ha
  refine ⟨tCB r t, fun X hX => ?_, fun C W H0 T O H σ R Q q => e1 C W H0 T O H σ R _ fun vs H1 R1 s1 d1 => hr O H1 vs R1.alloc d1 Q fun u H2 s2 d2 => q u H2 (R1.grow s2) (s1.trans (cut_same s2)) d2⟩
  rcases hc with ⟨id, h1, h2⟩ | ⟨T, h1, h2⟩
  · exact pe_callB (h1 X hX) (hX.gl hg) (by rw [hX.mg]; exact hm) h2 (p1 X hX) hn hd (he _) (hpl _)
  · exact pe_callTy (h1 X hX) (hX.gl hg) (by rw [hX.mg]; exact hm) h2 (p1 X hX) hn hd (he _) (hpl _)
theorem bl_cr {n : Str} {r : List V → Hp → VK → Prop} (hc : (∃ id, (∀ X, Fits F X → CallR X (.builtin id) r) ∧ bootBuiltins n = some (.builtin id)) ∨ (∃ T, (∀ X, Fits F X → CallR X (.type T) r) ∧ bootBuiltins n = some (.type T))) (hm : F.mg n = none) (ha : BD F ρ (e :: es) xs ρ1) (hr : RcL F.K r xs zs)
    (hg : F.sc.names.lookup n = some .globalImplicit := by rfl) (hn : n ≠ "__name__" := by decide) (hd : (n == ("__debug__" : Str)) = false := by decide)
    (he : ∀ env, starEach (e :: es) env = (false, eval e env) :: starEach es env := by intro _; rfl) (hpl : ∀ env, (backTo pos (starEach es env)).any (·.1) = false := by intro _; rfl) : BL F ρ (.Call (.Name n p) (e :: es) [] pos) zs ρ1 := by
  obtain ⟨t, p1, e1⟩ := ha
  refine ⟨tCB r t, fun X hX => ?_, fun C W H0 T O H σ R Q q => e1 C W H0 T O H σ R _ fun vs H1 R1 s1 d1 => hr O H1 vs R1.alloc d1 Q fun l us H2 hl s2 hl' d2 => q l us H2 (R.back R1 s1 hl) hl' (R1.hide hl s2 (by rw [hl']; simp)) (R1.grow s2) (s1.trans (cut_or1 s2 hl)) d2⟩
  rcases hc with ⟨id, h1, h2⟩ | ⟨T, h1, h2⟩
  · exact pe_callB (h1 X hX) (hX.gl hg) (by rw [hX.mg]; exact hm) h2 (p1 X hX) hn hd (he _) (hpl _)
  · exact pe_callTy (h1 X hX) (hX.gl hg) (by rw [hX.mg]; exact hm) h2 (p1 X hX) hn hd (he _) (hpl _)
theorem bd1 (h : BE F ρ e x ρ1) (hs : ∀ env, starEach (e :: []) env = (false, eval e env) :: starEach [] env := by intro _; rfl) : BD F ρ [e] [x] ρ1 := bd_cons h bd_nil hs
theorem dqa1 {K : PySem.W.Frag} {H : Hp} {vs : List V} (d : DqA K H vs [x]) : ∃ v, vs = [v] ∧ Dq K H v x := by
  cases d with
  | cons d1 d2 => cases d2; exact ⟨_, rfl, d1⟩
theorem dqa2 {K : PySem.W.Frag} {H : Hp} {vs : List V} (d : DqA K H vs [x, y]) : ∃ v w, vs = [v, w] ∧ Dq K H v x ∧ Dq K H w y := by
  cases d with
  | cons d1 d2 =>
    obtain ⟨w, rfl, d3⟩ := dqa1 d2
    exact ⟨_, w, rfl, d1, d3⟩
section
variable (hst : ∀ env, starEach [e] env = (false, eval e env) :: starEach [] env)
theorem be_lenT (hm : F.mg "len" = none) (ha : BE F ρ e (.tuple xs) ρ1) (hg : F.sc.names.lookup ("len" : Str) = some .globalImplicit := by rfl) (hs : ∀ env, starEach [e] env = (false, eval e env) :: starEach [] env := by intro _; rfl) : BE F ρ (.Call (.Name "len" p) [e] [] pos) (.int xs.length) ρ1 :=
  be_cr (r := fun vs H Q => ∃ p ys, vs = [.ref p] ∧ (SqL F.K H p ys ∨ SqT F.K H p ys) ∧ Q (.int ys.length) H) (.inl ⟨"len", fun X hX => by rw [← hX.K]; exact call_len_seq, PySem.boot_len⟩) hm (bd1 ha hs) (fun O H vs _ d Q q => by
    obtain ⟨v, rfl, d1⟩ := dqa1 d
    cases d1 with
    | @tup a us _ g1 g2 => exact ⟨a, us, rfl, .inr (seqT_mono cut_full g1), by rw [dpa_len g2]; exact q _ H Same.rfl' (.int _)⟩) hg (by decide) (by decide) hs (fun _ => rfl)
theorem be_lenL (hm : F.mg "len" = none) (ha : BE F ρ e (.list xs) ρ1) (hg : F.sc.names.lookup ("len" : Str) = some .globalImplicit := by rfl) (hs : ∀ env, starEach [e] env = (false, eval e env) :: starEach [] env := by intro _; rfl) : BE F ρ (.Call (.Name "len" p) [e] [] pos) (.int xs.length) ρ1 :=
  be_cr (r := fun vs H Q => ∃ p ys, vs = [.ref p] ∧ (SqL F.K H p ys ∨ SqT F.K H p ys) ∧ Q (.int ys.length) H) (.inl ⟨"len", fun X hX => by rw [← hX.K]; exact call_len_seq, PySem.boot_len⟩) hm (bd1 ha hs) (fun O H vs _ d Q q => by
    obtain ⟨v, rfl, d1⟩ := dqa1 d
    cases d1 with
    | @lst a us _ g1 g2 => exact ⟨a, us, rfl, .inl (SqL.of (cut_some.mp g1).2), by rw [dpa_len g2]; exact q _ H Same.rfl' (.int _)⟩) hg (by decide) (by decide) hs (fun _ => rfl)
theorem be_intI {i : Int} (hm : F.mg "int" = none) (ha : BE F ρ e (.int i) ρ1) (hg : F.sc.names.lookup ("int" : Str) = some .globalImplicit := by rfl) (hs : ∀ env, starEach [e] env = (false, eval e env) :: starEach [] env := by intro _; rfl) : BE F ρ (.Call (.Name "int" p) [e] [] pos) (.int i) ρ1 :=
  be_cr (.inr ⟨"int", fun X hX => call_int1, by decide +kernel⟩) hm (bd1 ha hs) (fun O H vs _ d Q q => by
    obtain ⟨v, rfl, d1⟩ := dqa1 d
    cases d1
    exact .inl ⟨i, rfl, q _ H Same.rfl' (.int _)⟩) hg (by decide) (by decide) hs (fun _ => rfl)
theorem be_intB {k : Bool} (hm : F.mg "int" = none) (ha : BE F ρ e (.bool k) ρ1) (hg : F.sc.names.lookup ("int" : Str) = some .globalImplicit := by rfl) (hs : ∀ env, starEach [e] env = (false, eval e env) :: starEach [] env := by intro _; rfl) : BE F ρ (.Call (.Name "int" p) [e] [] pos) (.int (if k then 1 else 0)) ρ1 :=
  be_cr (.inr ⟨"int", fun X hX => call_int1, by decide +kernel⟩) hm (bd1 ha hs) (fun O H vs _ d Q q => by
    obtain ⟨v, rfl, d1⟩ := dqa1 d
    cases d1
    exact .inr ⟨k, rfl, q _ H Same.rfl' (.int _)⟩) hg (by decide) (by decide) hs (fun _ => rfl)
theorem be_abs {i : Int} (hm : F.mg "abs" = none) (ha : BE F ρ e (.int i) ρ1) (hg : F.sc.names.lookup ("abs" : Str) = some .globalImplicit := by rfl) (hs : ∀ env, starEach [e] env = (false, eval e env) :: starEach [] env := by intro _; rfl) : BE F ρ (.Call (.Name "abs" p) [e] [] pos) (.int (i.natAbs : Int)) ρ1 :=
  be_cr (.inl ⟨"abs", fun X hX => call_abs, by decide +kernel⟩) hm (bd1 ha hs) (fun O H vs _ d Q q => by
    obtain ⟨v, rfl, d1⟩ := dqa1 d
    cases d1
    refine ⟨i, rfl, q _ H Same.rfl' ?_⟩
    have : (if i < 0 then -i else i) = (i.natAbs : Int) := by split <;> omega
    rw [this]
    exact .int _) hg (by decide) (by decide) hs (fun _ => rfl)
/-- tuple(list), tuple(tuple), list(list), list(tuple) -/
theorem be_tupL (hm : F.mg "tuple" = none) (ha : BE F ρ e (.list xs) ρ1) (hg : F.sc.names.lookup ("tuple" : Str) = some .globalImplicit := by rfl) (hs : ∀ env, starEach [e] env = (false, eval e env) :: starEach [] env := by intro _; rfl) : BE F ρ (.Call (.Name "tuple" p) [e] [] pos) (.tuple xs) ρ1 :=
  be_cr (r := fun vs H Q => ∃ p ys, vs = [.ref p] ∧ ((SqL F.K H p ys ∧ ∀ l, H l = none → Q (.ref l) (upd H l (.tup ys))) ∨ (SqT F.K H p ys ∧ Q (.ref p) H))) (.inr ⟨"tuple", fun X hX => by rw [← hX.K]; exact call_tuple_of, by decide +kernel⟩) hm (bd1 ha hs) (fun O H vs al d Q q => by
    obtain ⟨v, rfl, d1⟩ := dqa1 d
    cases d1 with
    | @lst a us _ g1 g2 => exact ⟨a, us, rfl, .inl ⟨SqL.of (cut_some.mp g1).2, fun l hl => q _ _ (same_new hl) (.tup (.inl (.inl (cut_some.mpr ⟨fun z => al l z hl, upd_same⟩))) (dpa_mono (cut_same (same_new hl)) _ _ g2))⟩⟩) hg (by decide) (by decide) hs (fun _ => rfl)
theorem bl_listT (hm : F.mg "list" = none) (ha : BE F ρ e (.tuple xs) ρ1) (hg : F.sc.names.lookup ("list" : Str) = some .globalImplicit := by rfl) (hs : ∀ env, starEach [e] env = (false, eval e env) :: starEach [] env := by intro _; rfl) : BL F ρ (.Call (.Name "list" p) [e] [] pos) xs ρ1 :=
  bl_cr (r := fun vs H Q => ∃ p ys, vs = [.ref p] ∧ (SqL F.K H p ys ∨ SqT F.K H p ys) ∧ ∀ l, H l = none → Q (.ref l) (upd H l (.lst ys))) (.inr ⟨"list", fun X hX => by rw [← hX.K]; exact call_list_of, by decide +kernel⟩) hm (bd1 ha hs) (fun O H vs al d Q q => by
    obtain ⟨v, rfl, d1⟩ := dqa1 d
    cases d1 with
    | @tup a us _ g1 g2 => exact ⟨a, us, rfl, .inr (seqT_mono cut_full g1), fun l hl => q l us _ hl (same_new hl) upd_same (dpa_mono (cut_or1 (same_new hl) hl) _ _ g2)⟩) hg (by decide) (by decide) hs (fun _ => rfl)
end
/-- list(range(n)) -/
theorem bl_listRg {n : Int} {p2 pos2 : Pos} (hm : F.mg "list" = none) (hm2 : F.mg "range" = none) (ha : BE F ρ e (.int n) ρ1) (hn : n ≤ 1000000) (hn2 : -(2 ^ 62) ≤ n) (hcm : F.ex = none := by rfl) (hg : F.sc.names.lookup ("list" : Str) = some .globalImplicit := by rfl) (hg2 : F.sc.names.lookup ("range" : Str) = some .globalImplicit := by rfl)
    (hs : ∀ env, starEach [e] env = (false, eval e env) :: starEach [] env := by intro _; rfl) : BL F ρ (.Call (.Name "list" p) [.Call (.Name "range" p2) [e] [] pos2] [] pos) (rgD 0 n.toNat) ρ1 := by
  obtain ⟨t, p1, e1⟩ := ha
  refine ⟨tLstRg (tRg1 t), fun X hX => pe_listRg (hX.calm hcm) (hX.gl hg) (by rw [hX.mg]; exact hm) (prg_1 (hX.gl hg2) (by rw [hX.mg]; exact hm2) (p1 X hX) (hs _)) rfl, fun C W H0 T O H σ R Q q => e1 C W H0 T O H σ R _ fun v H1 R1 s1 d1 => ?_⟩
  cases d1
  refine ⟨n, rfl, ⟨by decide, by decide, hn2, by omega, by omega⟩, fun l hl => ?_⟩
  have s2 : Same H1 (upd H1 l (.lst (rgV 0 n))) := same_new hl
  refine q l _ _ (R.back R1 s1 hl) upd_same (R1.hide hl s2 (by rw [upd_same]; simp)) (R1.grow s2) (s1.trans (cut_or1 s2 hl)) ?_
  unfold rgV rgD
  rw [Int.sub_zero]
  have : ∀ l : List Nat, DqA F.K (cut (or1 O ‹Addr›) (upd H1 ‹Addr› (.lst ((List.range n.toNat).map fun (i : Nat) => V.int (0 + (i : Int)))))) (l.map fun (i : Nat) => V.int (0 + (i : Int))) (l.map fun (i : Nat) => PyData.int (0 + (i : Int))) := fun l => by
    induction l with
    | nil => exact .nil
    | cons a l ih => exact .cons (.int _) ih
  exact this _
/-- isinstance(x, T) of a built-in class -/
def tyD : PyData → String
  | .none => "NoneType" | .bool _ => "bool" | .int _ => "int" | .str _ => "str" | .list _ => "list" | .tuple _ => "tuple" | .dict _ => "dict"
/-- an instance of a class of the program -/
def insB : PyData → Bool
  | .dict ((.none, _) :: _) => true
  | _ => false
theorem dq_ty {K : PySem.W.Frag} {H : Hp} {v : V} (d : Dq K H v x) (hi : insB x = false) : TyX K H v (.type (tyD x)) := by
  cases d with
  | non => exact .base .non
  | bl b => exact .base (.bl b)
  | int i => exact .base (.int i)
  | str s => exact .base (.str s)
  | lst h1 h2 => exact .base (.lst h1)
  | tup h1 h2 =>
    rcases h1 with (h1 | ⟨o, h1⟩) | ⟨o, its, n, h1, h3, _⟩
    · exact .base (.tup h1)
    · exact .fTuple h1
    · exact .kTuple h1 h3
  | dic h1 h2 => exact .base (.dK h1)
  | ins h1 h2 => cases hi
theorem be_isi {T : Str} {Tn : String} {k : Bool} {p2 : Pos} (hm : F.mg "isinstance" = none) (hmT : F.mg T = none) (hT : bootBuiltins T = some (.type Tn)) (ha : BE F ρ e x ρ1) (hk : kitB (tyD x) Tn = some k) (hg : F.sc.names.lookup ("isinstance" : Str) = some .globalImplicit := by rfl) (hgT : F.sc.names.lookup T = some .globalImplicit := by rfl)
    (hnT : T ≠ "__name__" := by decide) (hdT : (T == ("__debug__" : Str)) = false := by decide) (hs : ∀ env, starEach [e, .Name T p2] env = (false, eval e env) :: starEach [.Name T p2] env := by intro _; rfl) (hpl : ∀ env, (backTo pos (starEach [.Name T p2] env)).any (·.1) = false := by intro _; rfl) (hi : insB x = false := by first | rfl | assumption) :
    BE F ρ (.Call (.Name "isinstance" p) [e, .Name T p2] [] pos) (.bool k) ρ1 := by
  obtain ⟨t, p1, e1⟩ := ha
  refine ⟨tCB (rIsi F.K) (tCons t (tCons (tC (.ty Tn)) tNil)), fun X hX => ?_, fun C W H0 T O H σ R Q q => e1 C W H0 T O H σ R _ fun v H1 R1 s1 d1 => ?_⟩
  · rw [← hX.K]
    exact pe_callB call_isi (hX.gl hg) (by rw [hX.mg]; exact hm) (by decide +kernel) (pa_cons (p1 X hX) (pa_cons (pe_bltn (v := .ty Tn) (hX.gl hgT) (by rw [hX.mg]; exact hmT) hT rfl hnT hdT) pa_nil rfl) (hs _)) (by decide) (by decide) (hs _) (hpl _)
  · exact ⟨v, .ty Tn, .type (tyD x), .type Tn, k, rfl, .ty Tn, dq_ty (dp_mono cut_full _ _ d1) hi, kit_ty hk, q _ H1 R1 s1 (.bl _)⟩
end
/-- a[i], b[j] = x, y: no swap of names -/
theorem ss_sub2 {o1 i1 o2 i2 a b : Expr} {p1 p2 p3 p4 : Pos} {k k2 : Nat} {env : Env} (ha : ∀ e p, a ≠ .Starred e p) (hb : ∀ e p, b ≠ .Starred e p) :
    swappedStores [.Tuple [.Subscript o1 i1 p1, .Subscript o2 i2 p2] k p3] (.Tuple [a, b] k2 p4) env = pure none := by
  unfold swappedStores
  dsimp only
  by_cases h : env.blockKind = .function
  · rw [h]
    have h1 : ([a, b].any fun | .Starred .. => true | _ => false) = false := by
      cases a <;> cases b <;> first | rfl | exact absurd rfl (ha _ _) | exact absurd rfl (hb _ _)
    simp
    try rfl
  · simp [h]
    try rfl
end TC

set_option maxRecDepth 100000
set_option maxHeartbeats 4000000
namespace TC
open PySem PySem.Spec L2

theorem boot_ty_bool : bootBuiltins "bool" = some (.type "bool") := by decide +kernel
theorem boot_ty_int : bootBuiltins "int" = some (.type "int") := by decide +kernel
theorem boot_ty_str : bootBuiltins "str" = some (.type "str") := by decide +kernel
theorem boot_ty_tuple : bootBuiltins "tuple" = some (.type "tuple") := by decide +kernel
theorem boot_ty_list : bootBuiltins "list" = some (.type "list") := by decide +kernel
/-- isinstance among the classes that data have -/
def isK (a b : String) : Bool := a == b || (a == "bool" && b == "int")
theorem kit_all : ∀ a ∈ ["NoneType", "bool", "int", "str", "list", "tuple", "dict"], ∀ b ∈ ["bool", "int", "str", "list", "tuple"], kitB a b = some (isK a b) := by decide +kernel
theorem tyD_in (x : PyData) : tyD x ∈ ["NoneType", "bool", "int", "str", "list", "tuple", "dict"] := by
  cases x <;> simp [tyD]

section
variable {F : Fam} {ρ ρ1 ρ2 ρ3 : En} {e a b c : Expr} {es : List Expr} {x y z : PyData} {xs ys zs : List PyData} {pos p apos cpos : Pos} {ss : List Sl} {st : Stmt} {sts sts2 : List Stmt} {o : Out}
/-- isinstance(x, T), T one of bool, int, str, list, tuple -/
theorem be_isK {T : Str} {Tn : String} {p2 : Pos} (hm : F.mg "isinstance" = none) (hmT : F.mg T = none) (hT : bootBuiltins T = some (.type Tn)) (ha : BE F ρ e x ρ1) (hTn : Tn ∈ ["bool", "int", "str", "list", "tuple"]) (hg : F.sc.names.lookup ("isinstance" : Str) = some .globalImplicit := by rfl) (hgT : F.sc.names.lookup T = some .globalImplicit := by rfl)
    (hnT : T ≠ "__name__" := by decide) (hdT : (T == ("__debug__" : Str)) = false := by decide) (hs : ∀ env, starEach [e, .Name T p2] env = (false, eval e env) :: starEach [.Name T p2] env := by intro _; rfl) (hpl : ∀ env, (backTo pos (starEach [.Name T p2] env)).any (·.1) = false := by intro _; rfl) (hi : insB x = false := by first | rfl | assumption) :
    BE F ρ (.Call (.Name "isinstance" p) [e, .Name T p2] [] pos) (.bool (isK (tyD x) Tn)) ρ1 := by
  obtain ⟨t, p1, e1⟩ := ha
  refine ⟨tCB (rIsi F.K) (tCons t (tCons (tC (.ty Tn)) tNil)), fun X hX => ?_, fun C W H0 T O H σ R Q q => e1 C W H0 T O H σ R _ fun v H1 R1 s1 d1 => ?_⟩
  · rw [← hX.K]
    exact pe_callB call_isi (hX.gl hg) (by rw [hX.mg]; exact hm) (by decide +kernel) (pa_cons (p1 X hX) (pa_cons (pe_bltn (v := .ty Tn) (hX.gl hgT) (by rw [hX.mg]; exact hmT) hT rfl hnT hdT) pa_nil rfl) (hs _)) (by decide) (by decide) (hs _) (hpl _)
  · exact ⟨v, .ty Tn, .type (tyD x), .type Tn, _, rfl, .ty Tn, dq_ty (dp_mono cut_full _ _ d1) hi, kit_ty (kit_all _ (tyD_in x) _ hTn), q _ H1 R1 s1 (.bl _)⟩
/-! ### the script -/
theorem be_lenS (i : Nat) {n : Str} {ns : List Int} (hs : ρ.sl[i]? = some (.scr ns)) (hm : F.mg "len" = none) (hg : F.sc.names.lookup ("len" : Str) = some .globalImplicit := by rfl) (hN : F.N[i]? = some n := by rfl) (hv : Vis F.sc n := by first | exact Or.inl rfl | exact Or.inr (Or.inl rfl) | exact Or.inr (Or.inr rfl))
    (hd : (n == ("__debug__" : Str)) = false := by decide) (hcd : (n == ("__classdict__" : Str)) = false := by decide) {p2 : Pos} : BE F ρ (.Call (.Name "len" p) [.Name n p2] [] pos) (.int ns.length) ρ := by
  refine ⟨tCB (fun vs H Q => ∃ p ys, vs = [.ref p] ∧ (SqL F.K H p ys ∨ SqT F.K H p ys) ∧ Q (.int ys.length) H) (tCons (tVar i) tNil), fun X hX => ?_, fun C W H0 T O H σ R Q q => ?_⟩
  · have h := call_len_seq (X := X)
    rw [hX.K] at h
    exact pe_callB h (hX.gl hg) (by rw [hX.mg]; exact hm) PySem.boot_len (pa_cons (pe_var (by rw [hX.N]; exact hN) (hX.vis hv) hd hcd) pa_nil rfl) (by decide) (by decide) rfl rfl
  · obtain ⟨a, e1, h1⟩ := R.sl i _ hs
    refine ⟨_, e1, a, _, rfl, .inl (Same.seq cut_full h1), ?_⟩
    rw [List.length_map]
    exact q _ H R Same.rfl' (.int _)
theorem be_ixS (i : Nat) {n : Str} {ns : List Int} {j : Int} {v : Int} (hs : ρ.sl[i]? = some (.scr ns)) (hb : BE F ρ b (.int j) ρ1) (hv' : atI ns j = some v) (hN : F.N[i]? = some n := by rfl) (hv : Vis F.sc n := by first | exact Or.inl rfl | exact Or.inr (Or.inl rfl) | exact Or.inr (Or.inr rfl))
    (hpl : PlainIx b := by intro _ _; rfl) (hd : (n == ("__debug__" : Str)) = false := by decide) (hcd : (n == ("__classdict__" : Str)) = false := by decide) : BE F ρ (.Subscript (.Name n p) b pos) (.int v) ρ1 := by
  obtain ⟨tb, pb, eb⟩ := hb
  refine ⟨tOp (rIxL F.K) (tVar i) tb, fun X hX => ?_, fun C W H0 T O H σ R Q q => ?_⟩
  · have h := pe_ix (pos := pos) (ix_list (X := X)) (pe_var (pos := p) (by rw [hX.N]; exact hN) (hX.vis hv) hd hcd) (pb X hX) hpl
    rw [hX.K] at h
    exact h
  · obtain ⟨a, e1, h1⟩ := R.sl i _ hs
    refine ⟨_, e1, eb C W H0 T O H σ R _ fun w H1 R1 s1 d1 => ?_⟩
    cases d1
    refine ⟨a, ns.map V.int, j, .int v, rfl, rfl, Same.seq cut_full (s1.seq h1), ?_, q _ H1 R1 s1 (.int _)⟩
    unfold atI at hv' ⊢
    rw [List.length_map]
    cases e : ixN ns.length j with
    | none => rw [e] at hv'; cases hv'
    | some k =>
      rw [e] at hv'
      show (ns.map V.int)[k]? = _
      rw [List.getElem?_map]
      have : ns[k]? = some v := hv'
      rw [this]; rfl

/-! ### sorted of ints -/
theorem be_len0 : True := trivial
end

/-! ### plain facts about data -/
theorem ixN_nn {n : Nat} {j : Int} (h0 : 0 ≤ j) (h : j < n) : ixN n j = some j.toNat := by
  unfold ixN
  rw [if_pos h0, if_pos (by omega)]
theorem atI_nn {α : Type} {l : List α} {j : Int} {v : α} (h0 : 0 ≤ j) (h : l[j.toNat]? = some v) : atI l j = some v := by
  have hl := (List.getElem?_eq_some_iff.mp h).1
  unfold atI
  rw [ixN_nn h0 (by omega)]
  exact h
theorem atI_int {l : List Int} {j : Int} (h0 : 0 ≤ j) (h : j < l.length) : atI (l.map PyData.int) j = some (.int (l.getD j.toNat 0)) := by
  refine atI_nn h0 ?_
  have : j.toNat < l.length := by omega
  rw [List.getElem?_map, List.getElem?_eq_getElem this, List.getD_eq_getElem?_getD, List.getElem?_eq_getElem this]
  rfl
mutual
theorem eqv_refl : ∀ x : PyData, (∀ l, x ≠ .dict l) → PyData.canLay0 x = true → PyData.eqv x x = true
  | .none, _, _ => rfl
  | .bool b, _, _ => by cases b <;> rfl
  | .int i, _, _ => by simp [PyData.eqv]
  | .str s, _, _ => by simp [PyData.eqv]
  | .list xs, _, h => by simp only [PyData.eqv]; exact eqva_refl xs (by simpa [PyData.canLay0] using h)
  | .tuple xs, _, h => by simp only [PyData.eqv]; exact eqva_refl xs (by simpa [PyData.canLay0] using h)
  | .dict _, h, _ => absurd rfl (h _)
theorem eqva_refl : ∀ xs : List PyData, PyData.canLayAll0 xs = true → PyData.eqvAll xs xs = true
  | [], _ => rfl
  | x :: xs, h => by
    simp only [PyData.canLayAll0, Bool.and_eq_true] at h
    simp only [PyData.eqvAll, Bool.and_eq_true]
    refine ⟨eqv_refl x (fun l e => ?_) h.1, eqva_refl xs h.2⟩
    rw [e] at h
    simp [PyData.canLay0] at h
end
theorem can_ints : ∀ l : List Int, PyData.canLayAll0 (l.map PyData.int) = true
  | [] => rfl
  | x :: l => by simp only [List.map_cons, PyData.canLayAll0, PyData.canLay0, Bool.true_and]; exact can_ints l
/-- what _law_same is asked: of depth below n -/
def shp : Nat → PyData → Prop
  | 0, _ => False
  | _ + 1, .none => True
  | _ + 1, .bool _ => True
  | _ + 1, .int _ => True
  | _ + 1, .str s => SeqAt.shaped (.str s) = true
  | n + 1, .tuple xs => xs.length ≤ 100000 ∧ ∀ y ∈ xs, shp n y
  | n + 1, .list xs => xs.length ≤ 100000 ∧ ∀ y ∈ xs, shp n y
  | _ + 1, .dict _ => False
/-- the reader of a cell -/
def RlCell : List Sl → Res → Prop := fun ss r => ∃ (ns : List Int) (k : Nat), ss = [.scr ns, .d (.int k)] ∧ r = .d (.int (ns.getD k 0))
def RlSame (n : Nat) : List Sl → Res → Prop := fun ss r => ∃ x, ss = [.d x, .d x] ∧ shp n x ∧ r = .d (.bool true)
end TC
namespace TC
open PySem PySem.Spec L2
section
variable {F : Fam} {ρ ρ1 ρ2 ρ3 : En} {e a b c : Expr} {es : List Expr} {x y z : PyData} {xs ys zs : List PyData} {pos p apos cpos : Pos}
/-- isinstance, the answer told -/
theorem be_isV (k : Bool) {T : Str} {Tn : String} {p2 : Pos} (hm : F.mg "isinstance" = none) (hmT : F.mg T = none) (hT : bootBuiltins T = some (.type Tn)) (ha : BE F ρ e x ρ1) (hk : isK (tyD x) Tn = k) (hTn : Tn ∈ ["bool", "int", "str", "list", "tuple"] := by decide) (hg : F.sc.names.lookup ("isinstance" : Str) = some .globalImplicit := by rfl) (hgT : F.sc.names.lookup T = some .globalImplicit := by rfl)
    (hnT : T ≠ "__name__" := by decide) (hdT : (T == ("__debug__" : Str)) = false := by decide) (hs : ∀ env, starEach [e, .Name T p2] env = (false, eval e env) :: starEach [.Name T p2] env := by intro _; rfl) (hpl : ∀ env, (backTo pos (starEach [.Name T p2] env)).any (·.1) = false := by intro _; rfl) (hi : insB x = false := by first | rfl | assumption) :
    BE F ρ (.Call (.Name "isinstance" p) [e, .Name T p2] [] pos) (.bool k) ρ1 := hk ▸ be_isK hm hmT hT ha hTn hg hgT hnT hdT hs hpl
end
end TC
namespace TC
open PySem PySem.Spec L2
/-- a loop by its environments: env j ahead of the turn j -/
theorem loop_ix {S : PyData → En → Out → Prop} : ∀ {xs : List PyData} (env : Nat → En) (i : Nat), (∀ (j : Nat) (x : PyData), xs[j]? = some x → S x (env (i + j)) (.nx (env (i + j + 1)))) → Loop S xs (env i) (.nx (env (i + xs.length)))
  | [], env, i, _ => .nil
  | x :: xs, env, i, h => by
    have h0 := h 0 x rfl
    have ih := loop_ix (xs := xs) env (i + 1) fun j y hy => by
      have := h (j + 1) y (by simpa using hy)
      have e : i + 1 + j = i + (j + 1) := by omega
      rw [e]; exact this
    have e : i + (x :: xs).length = i + 1 + xs.length := by rw [List.length_cons]; omega
    rw [e]
    exact .nx h0 ih
theorem loop_all {S : PyData → En → Out → Prop} {xs : List PyData} (env : Nat → En) (h : ∀ (j : Nat) (x : PyData), xs[j]? = some x → S x (env j) (.nx (env (j + 1)))) : Loop S xs (env 0) (.nx (env xs.length)) := by
  have := loop_ix (S := S) (xs := xs) env 0 fun j x hx => by rw [Nat.zero_add]; exact h j x hx
  rw [Nat.zero_add] at this
  exact this
/-- the loop's own name: s ahead of the first turn -/
def lv (lo : Int) (s : Sl) : Nat → Sl
  | 0 => s
  | j + 1 => .d (.int (lo + (j : Int)))
theorem loop_rg {S : PyData → En → Out → Prop} {lo : Int} {n : Nat} (env : Nat → En) (h : ∀ j : Nat, j < n → S (.int (lo + (j : Int))) (env j) (.nx (env (j + 1)))) : Loop S (rgD lo n) (env 0) (.nx (env n)) := by
  have := loop_all (S := S) (xs := rgD lo n) env fun j x hx => by
    rw [rgD_get] at hx
    by_cases hj : j < n
    · rw [if_pos hj] at hx; cases hx; exact h j hj
    · rw [if_neg hj] at hx; cases hx
  rw [rgD_len] at this
  exact this
section
variable {F : Fam} {ρ ρ1 ρ2 ρ3 : En} {e a b c : Expr} {es : List Expr} {x y z : PyData} {xs ys zs : List PyData} {pos p apos cpos : Pos}
/-- a tuple or a list of these items -/
def isSq (x : PyData) (xs : List PyData) : Prop := x = .tuple xs ∨ x = .list xs
theorem be_ixQ {i : Int} (hq : isSq x xs) (ha : BE F ρ a x ρ1) (hb : BE F ρ1 b (.int i) ρ2) (h : atI xs i = some y) (hs : PlainIx b := by intro _ _; rfl) : BE F ρ (.Subscript a b pos) y ρ2 := by
  rcases hq with rfl | rfl
  · exact be_ixT ha hb h hs
  · exact be_ixL ha hb h hs
theorem be_lenQ (hq : isSq x xs) (hm : F.mg "len" = none) (ha : BE F ρ e x ρ1) (hg : F.sc.names.lookup ("len" : Str) = some .globalImplicit := by rfl) (hs : ∀ env, starEach [e] env = (false, eval e env) :: starEach [] env := by intro _; rfl) : BE F ρ (.Call (.Name "len" p) [e] [] pos) (.int xs.length) ρ1 := by
  rcases hq with rfl | rfl
  · exact be_lenT hm ha hg hs
  · exact be_lenL hm ha hg hs
end
end TC
namespace TC
open PySem PySem.Spec L2
section
variable {F : Fam} {ρ ρ1 ρ2 ρ3 : En} {e a b c : Expr} {es : List Expr} {x y z : PyData} {xs ys zs : List PyData} {pos p apos cpos : Pos}
theorem bs_retI {tm : Option (List Int × Int)} (h : BE F ρ e y ρ1) (q : y = x) (htm : ρ1.tm = tm := by rfl) : BS F ρ (.Return (some e) pos) (.ret (.d x) tm) := q ▸ bs_ret h htm
theorem be_notF (h : BE F ρ e (.bool false) ρ1) : BE F ρ (.UnaryOp .Not e pos) (.bool true) ρ1 := be_not h
theorem be_notT (h : BE F ρ e (.bool true) ρ1) : BE F ρ (.UnaryOp .Not e pos) (.bool false) ρ1 := be_not h
theorem bt_notF (h : BT F ρ e false ρ1) : BT F ρ (.UnaryOp .Not e pos) true ρ1 := bt_not h
theorem bt_notT (h : BT F ρ e true ρ1) : BT F ρ (.UnaryOp .Not e pos) false ρ1 := bt_not h
theorem be_cI {op : CmpOp} {k k' : Bool} (ha : BE F ρ a x ρ1) (hb : BE F ρ1 b y ρ2) (c : CmpD F op b x y k) (q : k = k') : BE F ρ (.Compare a [op] [b] pos) (.bool k') ρ2 := q ▸ be_c ha hb c
theorem bt_cI {op : CmpOp} {k k' : Bool} (ha : BE F ρ a x ρ1) (hb : BE F ρ1 b y ρ2) (c : CmpD F op b x y k) (q : k = k') : BT F ρ (.Compare a [op] [b] pos) k' ρ2 := q ▸ bt_c ha hb c
end
end TC

set_option maxRecDepth 100000
set_option maxHeartbeats 4000000
namespace TC
open PySem PySem.Spec L2
section
variable {prog : Program} {w : World} {A : Around} {E : Value → Shared → Prop} {s : Shared}
open PyProof.Rows in
/-- the items of a tuple, gathered -/
theorem gather_tup {a : Addr} {us : List Value} {Q : List Value → Shared → Prop} (ht : IsTup s.heap a us.toArray) (hz : us.length ≤ sizeLine)
    (q : Q us { s with heap := (s.heap.push (seqObj "list" #[] 0)).update s.heap.objs.size (Obj.mapSeq (· ++ us.toArray)) }) : wpAny (model prog w) A (collect (.ref a)) Q E s := by
  obtain ⟨ob, h1, h2, m, h3⟩ := id ht
  have hnew : (s.heap.push (seqObj "list" #[] 0)).get? s.heap.objs.size = some (seqObj "list" #[] 0) := Heap.get?_push_size _ rfl
  have hold : (s.heap.push (seqObj "list" #[] 0)).get? a = some ob := Heap.get?_push_of_some _ h1
  have both : (Value.type "tuple" == Value.type "tuple") = true := by rfl
  unfold collect
  refine wpAny_bind (wpAny_runValue (codeAny_builtin entry_proto_collect' ?_))
  show wpAny _ _ (do
    again (.builtin "list.__iadd__" ⟨[← newList [], .ref a], []⟩)) _ _ s
  refine wpAny_bind (wpAny_newList (wpAny_pure ⟨Code.quiet_builtin _ (by decide +kernel), codeAny_builtin entry_list_iadd' ?_⟩))
  show wpAny _ _ (Builtin.List.listExtendWith (.ref s.heap.objs.size) (.ref a)
    (.ref s.heap.objs.size)) _ _ { s with heap := s.heap.push (seqObj "list" #[] 0) }
  unfold Builtin.List.listExtendWith
  refine wpAny_bind (wpAny_typeOf (T := "tuple") ⟨ob, hold, h2⟩ ?_)
  rw [if_pos (by rw [both]; simp)]
  refine wpAny_bind (listItems_at hold h3 ?_)
  refine wpAny_bind (listItems_at (xs := #[]) (n := 0) hnew rfl ?_)
  rw [if_neg (by simp)]
  have hfit : (#[] ++ us.toArray).size ≤ sizeLine + 1 := by
    simp only [Array.size_append, List.size_toArray, List.length_nil]
    omega
  refine wpAny_bind (listUpdate_at (xs := #[]) (n := 0) hnew rfl ?_ (Nat.zero_le _) hfit)
  refine wpAny_pure ?_
  show wpAny (model prog w) A (do
      let ob ← load s.heap.objs.size
      match ob.data with
      | .seq zs _ => pure zs.toList
      | _ => unsupported "internal:collect") Q E { s with heap := (s.heap.push (seqObj "list" #[] 0)).update s.heap.objs.size (Obj.mapSeq (· ++ us.toArray)) }
  refine wpAny_bind (wpAny_load (get?_update_seq hnew _) ?_)
  show wpAny _ _ (pure ((#[] : Array Value) ++ us.toArray).toList) Q E _
  have hl : ((#[] : Array Value) ++ us.toArray).toList = us := by simp
  rw [hl]
  exact wpAny_pure q
open PyProof.Rows SrtO in
/-- sorted of a tuple of ints -/
theorem sorted_tup {a : Addr} {us : List Value} {ns : List Int} {Q : Value → Shared → Prop} (ht : IsTup s.heap a us.toArray) (hi : IntsAre us ns) (hz : us.length ≤ sizeLine)
    (q : ∀ out : List Value, Srtd ltIv out → Stb ltIv out us → Q (.ref (s.heap.objs.size + 1)) { s with heap := sortedAll s.heap us out.toArray }) : wpAny (model prog w) A (call (.builtin "sorted") [.ref a]) Q E s := by
  refine Calls.call_function_entry kind_sorted plain_sorted entry_sorted (args_sorted1 _) ?_
  unfold Builtin.«sorted»
  refine wpAny_bind (m := checkCount "sorted" 1 1 _) (wpAny_pure ?_)
  refine wpAny_bind (gather_tup ht hz ?_)
  refine wpAny_bind (wpAny_newList ?_ hz)
  let g : Heap := (s.heap.push (seqObj "list" #[] 0)).update s.heap.objs.size (Obj.mapSeq (· ++ us.toArray))
  have gs : g.objs.size = s.heap.objs.size + 1 := by
    show ((s.heap.push (seqObj "list" #[] 0)).update _ _).objs.size = _
    rw [Heap.size_update, size_push']
  have at1 : (g.push (seqObj "list" us.toArray 0)).get? (s.heap.objs.size + 1) = some (seqObj "list" us.toArray 0) := by
    rw [← gs]
    exact Heap.get?_push_size _ rfl
  have kept : ∀ b o, s.heap.get? b = some o → b ≠ s.heap.objs.size + 1 ∧ (g.push (seqObj "list" us.toArray 0)).get? b = some o := fun b o e => by
    have lt : b < s.heap.objs.size := Heap.lt_size e
    refine ⟨Nat.ne_of_lt (Nat.lt_succ_of_lt lt), Heap.get?_push_of_some _ ?_⟩
    show ((s.heap.push (seqObj "list" #[] 0)).update _ _).get? b = some o
    rw [Heap.get?_update_ne _ _ _ _ (Nat.ne_of_lt lt)]
    exact Heap.get?_push_of_some _ e
  show wpAny _ _ _ _ _ { s with heap := g.push (seqObj "list" us.toArray 0) }
  have e1 : (Value.ref g.objs.size) = .ref (s.heap.objs.size + 1) := by rw [gs]
  show wpAny (model prog w) A.in1 (do
    let _ ← holding [Value.ref g.objs.size] (call (.builtin "list.sort") [Value.ref g.objs.size] [])
    ret (Value.ref g.objs.size)) _ _ _
  rw [e1]
  refine wpAny_bind (wpAny_holding (wpAny_call_entry slot_list_sort ⟨_, at1, rfl⟩ entry_list_sort (list_sort_ord SrtO.swo_int at1 hz (fun h2 => ints_sortable hi h2) fun out a1 a2 => ⟨_, rfl, ?_⟩) (args_list_sort _)))
  exact wpAny_pure ⟨_, rfl, q out a1 a2⟩
end
section
variable {X : Cx}
def rSortedTI (K : PySem.W.Frag) : List V → Hp → VK → Prop := fun vs H Q => ∃ (a : Addr) (ns : List Int), vs = [V.ref a] ∧ SqT K H a (ns.map V.int) ∧
  ∀ (ms : List Int) (p : Addr), ms.Perm ns → ms.Pairwise (· ≤ ·) → H p = none → Q (.ref p) (upd H p (.lst (ms.map V.int)))
theorem cr_sortedTI : CallR X (.builtin "sorted") (rSortedTI X.K) := by
  intro pins s σ H vs us Q I r h
  obtain ⟨a, ns, rfl, ht, q⟩ := h
  obtain ⟨its, rv, hl, hz⟩ := I.tuple ht
  rw [Vals.ref1 r]
  have hi := rv.ints
  refine sorted_tup hl hi (by rw [← rv.length]; exact hz) fun out h1 h2 => ?_
  obtain ⟨k1, k2, k3⟩ := SrtO.ints_out hi h1 h2
  obtain ⟨ep, he'⟩ := PyProof.Rows.sortedAll_at s.heap its out.toArray
  have fits : ((out.map SrtO.iv).map V.int).length ≤ sizeLine := by
    rw [List.length_map, k2.length_eq, ← List.length_map (f := V.int)]
    exact hz
  have fresh := I.hok.fresh (Nat.le_succ s.heap.objs.size)
  exact ⟨.ref _, upd H (s.heap.objs.size + 1) (.lst ((out.map SrtO.iv).map V.int)), I.laid (t' := s.toks) (fun _ _ => PyProof.Rows.sortedAll_old) (Nat.le_succ _) ⟨fits, out, ep, vals_of_ints k1, he'⟩, rfl, q _ _ k2 k3 fresh⟩
end
section
variable {F : Fam} {ρ ρ1 : En} {e : Expr} {pos p : Pos} {ns ms : List Int}
theorem bl_sortedT (hm : F.mg "sorted" = none) (ha : BE F ρ e (.tuple (ns.map .int)) ρ1) (hp : ms.Perm ns) (hs' : ms.Pairwise (· ≤ ·)) (hg : F.sc.names.lookup ("sorted" : Str) = some .globalImplicit := by rfl) (hs : ∀ env, starEach [e] env = (false, eval e env) :: starEach [] env := by intro _; rfl) :
    BL F ρ (.Call (.Name "sorted" p) [e] [] pos) (ms.map .int) ρ1 :=
  bl_cr (r := rSortedTI F.K) (.inl ⟨"sorted", fun X hX => by rw [← hX.K]; exact cr_sortedTI, by decide +kernel⟩) hm (bd1 ha hs) (fun O H vs al d Q q => by
    obtain ⟨v, rfl, d1⟩ := dqa1 d
    cases d1 with
    | @tup a us _ g1 g2 =>
      have eu := dpa_intsV g2
      subst eu
      refine ⟨a, ns, rfl, seqT_mono cut_full g1, fun ms' l h1 h2 hl => ?_⟩
      have e : ms' = ms := PySem.W.ksm_same (h1.trans hp.symm) h2 hs'
      subst e
      exact q l _ _ hl (same_new hl) upd_same (dpa_ints _)) hg (by decide) (by decide) hs (fun _ => rfl)
end
end TC

set_option maxRecDepth 100000
set_option maxHeartbeats 4000000
namespace TC
open PySem PySem.Spec L2

/-! ### forgetting slots -/
structure En.Le (ρ ρ' : En) : Prop where
  tm : ρ'.tm = ρ.tm
  len : ρ'.sl.length = ρ.sl.length
  sl : ∀ (i : Nat) (s : Sl), ρ'.sl[i]? = some s → s = .un ∨ ρ.sl[i]? = some s
theorem Rep.weak {K : PySem.W.Frag} {C W O : AS} {H0 H : Hp} {T : Option Trip} {σ : L2.St} {ρ ρ' : En} (R : Rep K C W H0 T O H σ ρ) (h : En.Le ρ ρ') : Rep K C W H0 T O H σ ρ' where
  wc := R.wc
  co := R.co
  keep := R.keep
  alloc := R.alloc
  loc := R.loc
  len := by rw [h.len]; exact R.len
  tl := R.tl
  tm := by rw [h.tm]; exact R.tm
  sl := fun i s hs => by
    rcases h.sl i s hs with rfl | h1
    · trivial
    · rw [h.tm]; exact R.sl i s h1
  apart := fun i j xs ys a ne h1 h2 e => by
    rcases h.sl i _ h1 with z | h1
    · cases z
    rcases h.sl j _ h2 with z | h2
    · cases z
    exact R.apart i j xs ys a ne h1 h2 e
  ow := by
    obtain ⟨rg, w⟩ := R.ow
    exact ⟨rg, w.to (fun i Ψ q => ⟨(h.sl i _ q).resolve_left (fun z => nomatch z), rfl⟩) (fun j xs a q1 q2 => .inl ⟨xs, (h.sl j _ q1).resolve_left (fun z => nomatch z), q2⟩) (fun _ _ _ _ _ => rfl) (fun _ _ h => h) w.rin⟩
/-- slot by slot -/
inductive Les : List Sl → List Sl → Prop
  | nil : Les [] []
  | same {s : Sl} {as bs : List Sl} : Les as bs → Les (s :: as) (s :: bs)
  | un {s : Sl} {as bs : List Sl} : Les as bs → Les (s :: as) (.un :: bs)
theorem Les.len {as bs : List Sl} (h : Les as bs) : bs.length = as.length := by
  induction h with
  | nil => rfl
  | same _ ih => rw [List.length_cons, List.length_cons, ih]
  | un _ ih => rw [List.length_cons, List.length_cons, ih]
theorem Les.get {as bs : List Sl} (h : Les as bs) : ∀ (i : Nat) (s : Sl), bs[i]? = some s → s = .un ∨ as[i]? = some s := by
  induction h with
  | nil => intro i s h; simp at h
  | same _ ih =>
    intro i s h
    cases i with
    | zero => exact .inr (by simpa using h)
    | succ i => rcases ih i s (by simpa using h) with e | e
                · exact .inl e
                · exact .inr (by simpa using e)
  | un _ ih =>
    intro i s h
    cases i with
    | zero => exact .inl (by simp at h; exact h.symm)
    | succ i => rcases ih i s (by simpa using h) with e | e
                · exact .inl e
                · exact .inr (by simpa using e)
theorem Les.le {tm : Option (List Int × Int)} {as bs : List Sl} (h : Les as bs) : En.Le ⟨tm, as⟩ ⟨tm, bs⟩ := ⟨rfl, h.len, h.get⟩
theorem Les.rfl' : ∀ {as : List Sl}, Les as as
  | [] => .nil
  | _ :: _ => .same Les.rfl'
section
variable {F : Fam} {ρ ρ1 ρ2 ρ' : En} {sts : List Stmt} {o : Out} {x : PyData} {xs : List PyData}
theorem bss_weakN (h : BSs F ρ sts (.nx ρ1)) (w : En.Le ρ1 ρ2) : BSs F ρ sts (.nx ρ2) := by
  obtain ⟨t, p1, e1⟩ := h
  exact ⟨t, p1, fun C W H0 T0 T O H σ D e R k => e1 C W H0 T0 T O H σ D e R fun σ' H' O' T' e' R' s => k σ' H' O' T' e' (R'.weak w) s⟩
theorem bss_weakC (h : BSs F ρ sts (.ct ρ1)) (w : En.Le ρ1 ρ2) : BSs F ρ sts (.ct ρ2) := by
  obtain ⟨t, p1, e1⟩ := h
  exact ⟨t, p1, fun C W H0 T0 T O H σ D e R k => e1 C W H0 T0 T O H σ D e R fun σ' H' O' T' e' R' s => k σ' H' O' T' e' (R'.weak w) s⟩
theorem bss_weak0 (w : En.Le ρ ρ1) (h : BSs F ρ1 sts o) : BSs F ρ sts o := by
  obtain ⟨t, p1, e1⟩ := h
  exact ⟨t, p1, fun C W H0 T0 T O H σ D e R k => e1 C W H0 T0 T O H σ D e (R.weak w) k⟩
theorem BG.is {e : Expr} (h : BG F ρ e x ρ1) (q : ρ1 = ρ2) : BG F ρ e x ρ2 := q ▸ h
theorem loop_const {S : PyData → En → Out → Prop} : ∀ {xs : List PyData}, (∀ x ∈ xs, S x ρ (.nx ρ)) → Loop S xs ρ (.nx ρ)
  | [], _ => .nil
  | x :: xs, h => .nx (h x (by simp)) (loop_const fun y hy => h y (by simp [hy]))
end

/-! ### shapes -/
theorem shp_can : ∀ (n : Nat) (x : PyData), shp n x → PyData.canLay0 x = true
  | 0, _, h => h.elim
  | n + 1, .none, _ => rfl
  | n + 1, .bool _, _ => rfl
  | n + 1, .int _, _ => rfl
  | n + 1, .str s, h => SeqAt.canLay_of_shaped h
  | n + 1, .tuple xs, h => by
    show PyData.canLayAll0 xs = true
    have h2 := h.2
    clear h
    induction xs with
    | nil => rfl
    | cons x xs ih => simp only [PyData.canLayAll0, Bool.and_eq_true]; exact ⟨shp_can n x (h2 x (by simp)), ih fun y hy => h2 y (by simp [hy])⟩
  | n + 1, .list xs, h => by
    show PyData.canLayAll0 xs = true
    have h2 := h.2
    clear h
    induction xs with
    | nil => rfl
    | cons x xs ih => simp only [PyData.canLayAll0, Bool.and_eq_true]; exact ⟨shp_can n x (h2 x (by simp)), ih fun y hy => h2 y (by simp [hy])⟩
  | n + 1, .dict _, h => h.elim
theorem depthAll_le {m : Nat} : ∀ {xs : List PyData}, (∀ y ∈ xs, PyData.depth y ≤ m) → PyData.depthAll xs ≤ m
  | [], _ => by simp [PyData.depthAll]
  | x :: xs, h => by
    simp only [PyData.depthAll]
    exact Nat.max_le.mpr ⟨h x (by simp), depthAll_le fun y hy => h y (by simp [hy])⟩
theorem shp_depth : ∀ (n : Nat) (x : PyData), shp n x → PyData.depth x ≤ n
  | 0, _, h => h.elim
  | n + 1, .none, _ => by simp [PyData.depth]
  | n + 1, .bool _, _ => by simp [PyData.depth]
  | n + 1, .int _, _ => by simp [PyData.depth]
  | n + 1, .str s, h => by simp [PyData.depth]
  | n + 1, .tuple xs, h => by
    simp only [PyData.depth]
    exact Nat.succ_le_succ (depthAll_le fun y hy => shp_depth n y (h.2 y hy))
  | n + 1, .list xs, h => by
    simp only [PyData.depth]
    exact Nat.succ_le_succ (depthAll_le fun y hy => shp_depth n y (h.2 y hy))
  | n + 1, .dict _, h => h.elim
theorem shp_shaped {n : Nat} {x : PyData} (h : shp n x) (hn : n ≤ 64 := by decide) : SeqAt.shaped x = true := by
  unfold SeqAt.shaped
  rw [Bool.and_eq_true, decide_eq_true_eq]
  exact ⟨shp_can n x h, Nat.le_trans (shp_depth n x h) hn⟩
theorem shp_nodict : ∀ {n : Nat} {x : PyData}, shp n x → ∀ l, x ≠ .dict l
  | 0, _, h => h.elim
  | n + 1, _, h => fun l e => by subst e; exact h
theorem shp_eqv {n : Nat} {x : PyData} (h : shp n x) : PyData.eqv x x = true := eqv_refl x (shp_nodict h) (shp_can n x h)
theorem shp_ints {n : Nat} {l : List Int} (h : l.length ≤ 100000) : shp (n + 2) (.tuple (l.map .int)) := ⟨by rw [List.length_map]; exact h, fun y hy => by
  obtain ⟨i, _, rfl⟩ := List.mem_map.mp hy
  trivial⟩
theorem shp_intsL {n : Nat} {l : List Int} (h : l.length ≤ 100000) : shp (n + 2) (.list (l.map .int)) := ⟨by rw [List.length_map]; exact h, fun y hy => by
  obtain ⟨i, _, rfl⟩ := List.mem_map.mp hy
  trivial⟩
section
variable {F : Fam} {b : Expr} {x : PyData}
/-- equal data -/
theorem c_eqS {n : Nat} (h : shp n x) (hn : n ≤ 64 := by decide) : CmpD F .Eq b x x true := by
  have := c_eq (F := F) (b := b) (shp_shaped h hn) (shp_shaped h hn)
  rw [shp_eqv h] at this; exact this
theorem c_neS {n : Nat} (h : shp n x) (hn : n ≤ 64 := by decide) : CmpD F .NotEq b x x false := by
  have := c_ne (F := F) (b := b) (shp_shaped h hn) (shp_shaped h hn)
  rw [shp_eqv h] at this; exact this
end
end TC

set_option maxRecDepth 100000
set_option maxHeartbeats 4000000
namespace TC
open PySem PySem.Spec L2
/-- the law's own promise -/
def RlLaw : List Sl → Res → Prop := fun ss r => ∃ ns : List Int, ss = [.scr ns] ∧ ns.length ≤ 63 ∧ r = .d (.bool true)
theorem law_sp {K : PySem.W.Frag} {H : Hp} {a : Addr} {ns : List Int} {E : XK} (h63 : ns.length ≤ 63) (h : SqL K H a (ns.map V.int)) : spP K RlLaw [.ref a] H (fun v _ => v = .bl true) E := by
  have e : Same H (cut (fun _ => False) H) := fun b o q => cut_some.mpr ⟨id, q⟩
  refine ⟨fun _ => False, [.scr ns], .d (.bool true), fun _ h => h.elim, ⟨⟨a, rfl, e.seq h⟩, trivial⟩, ⟨ns, rfl, h63, rfl⟩, fun v H' _ ok => ?_⟩
  have d : Dq K (cut (fun _ => False) H') v (.bool true) := ok
  cases d
  rfl
/-- a def of the top, as a call finds it -/
theorem cal_of {F : Fam} {n : Str} {sp : Sp} {k : Nat} {f : Addr} {fd : FuncData} {ps : List Str} (G : FnOk F.P F.w F.K F.mg F.base CX0 k f fd ps sp) (hk : k ≤ F.k) (hm : F.mg n = some (.ref f)) (kp : PySem.W.keepIn F.K (.ref f) = true) (b : Binds F.K fd ps []) (hcm : F.ex = none := by rfl) : Cal F n sp := ⟨⟨k, f, fd, ps, G, hk, hm, kp, b⟩, hcm⟩
end TC

set_option maxRecDepth 100000
set_option maxHeartbeats 4000000
namespace TC
open PySem PySem.Spec L2
/-- a slot takes a thing that is no list of one's own -/
theorem Rep.putX {K : PySem.W.Frag} {C W O : AS} {H0 H : Hp} {T : Option Trip} {σ : L2.St} {ρ : En} (R : Rep K C W H0 T O H σ ρ) {i : Nat} {v : V} {s : Sl} (hno : ∀ xs, s ≠ .own xs) (hno2 : ∀ Ψ, s ≠ .ow Ψ) (hs : i < σ.length → SlOk K C T ρ.tm O H (σ.set i (some v)) i s) : Rep K C W H0 T O H (σ.set i (some v)) ⟨ρ.tm, ρ.sl.set i s⟩ where
  wc := R.wc
  co := R.co
  keep := R.keep
  alloc := R.alloc
  loc := R.loc
  tl := R.tl
  len := by rw [List.length_set]; show σ.length = (ρ.sl.set i s).length; rw [List.length_set]; exact R.len
  tm := R.tm
  sl := fun j s' hs' => by
    rcases set_get hs' with ⟨rfl, rfl⟩ | ⟨ne, hs'⟩
    · refine hs ?_
      have := (List.getElem?_eq_some_iff.mp hs').1
      rw [List.length_set] at this
      rw [R.len]; exact this
    · have q := R.sl j s' hs'
      have en : (σ.set i (some v))[j]? = σ[j]? := List.getElem?_set_ne (Ne.symm ne)
      cases s' with
      | un => trivial
      | d y => obtain ⟨u, e1, q⟩ := q; exact ⟨u, en.trans e1, q⟩
      | own ys => obtain ⟨a, vs, e1, q⟩ := q; exact ⟨a, vs, en.trans e1, q⟩
      | stm => obtain ⟨t, e1, e2, e3⟩ := q; exact ⟨t, e1, e2, en.trans e3⟩
      | plc => obtain ⟨t, e1, e2, e3⟩ := q; exact ⟨t, e1, e2, en.trans e3⟩
      | scr ns => obtain ⟨a, e1, q⟩ := q; exact ⟨a, en.trans e1, q⟩
      | fz Φ => obtain ⟨a, e1, q⟩ := q; exact ⟨a, en.trans e1, q⟩
      | ow Ψ => trivial
  apart := fun j k xs ys a ne h1 h2 e1 => by
    rcases set_get h1 with ⟨_, q⟩ | ⟨n1, h1'⟩
    · exact absurd q.symm (hno xs)
    rcases set_get h2 with ⟨_, q⟩ | ⟨n2, h2'⟩
    · exact absurd q.symm (hno ys)
    rw [List.getElem?_set_ne (Ne.symm n1)] at e1
    rw [List.getElem?_set_ne (Ne.symm n2)]
    exact R.apart j k xs ys a ne h1' h2' e1
  ow := by
    obtain ⟨rg, w⟩ := R.ow
    refine ⟨rg, w.to (fun j Ψ h => ?_) (fun j xs a h1 h2 => ?_) (fun _ _ _ _ _ => rfl) (fun _ _ h => h) w.rin⟩
    · rcases set_get h with ⟨_, q⟩ | ⟨n1, h'⟩
      · exact absurd q.symm (hno2 Ψ)
      · exact ⟨h', List.getElem?_set_ne (Ne.symm n1)⟩
    · rcases set_get h1 with ⟨_, q⟩ | ⟨n1, h'⟩
      · exact absurd q.symm (hno xs)
      · rw [List.getElem?_set_ne (Ne.symm n1)] at h2
        exact .inl ⟨xs, h', h2⟩
/-- a stream comes into being -/
theorem Rep.stream {K : PySem.W.Frag} {C W O : AS} {H0 H H' : Hp} {T : Option Trip} {σ : L2.St} {ρ : En} {t : Trip} {ds : List Int} {q : Int} (R0 : Rep K C W H0 T O H σ ρ) (ht : ρ.tm = none) (hl : H t.2.2 = none) (e : Same H H')
    (h1 : H' t.2.2 = some (.lst [.int q])) (h2 : cut (or1 O t.2.2) H' t.1 = some (.lst [.ref t.2.1, .ref t.2.2])) (h3 : cut (or1 O t.2.2) H' t.2.1 = some (.lst (ds.map V.int))) : Rep K C W H0 (some t) (or1 O t.2.2) H' σ ⟨some (ds, q), ρ.sl⟩ := by
  have nW : ¬ W t.2.2 := fun z => R0.nof hl (R0.co _ (R0.wc _ z))
  have RR := R0.hide hl e (by rw [h1]; simp)
  have R := RR.unC nW (R0.none0 hl)
  refine ⟨R.wc, R.co, R.keep, R.alloc, R.loc, R.len, fun t' h => by cases h; exact .inr rfl, ⟨t, rfl, h2, h3, .inr rfl, h1, .inr ⟨fun z => R0.nof hl (R0.co _ z), R0.none0 hl⟩⟩, fun i s hs => ?_, R.apart, ?_⟩
  rotate_left
  · obtain ⟨rg, w⟩ := RR.ow
    refine ⟨rg, w.to (fun i Ψ h => ⟨h, rfl⟩) (fun j xs a h1 h2 => .inl ⟨xs, h1, h2⟩) (fun _ _ _ _ _ => rfl) (fun _ _ h => h) fun i Ψ a h r => ?_⟩
    obtain ⟨q1, q2, q3⟩ := w.rin i Ψ a h r
    exact ⟨q1, q2.imp (fun z y => z (.inl y)) id, fun t' h' z => by cases h'; exact q2.elim (fun y => y (.inr z)) (fun y => nW (z ▸ y))⟩
  have q0 := R0.sl i s hs
  have q := R.sl i s hs
  cases s with
  | un => trivial
  | d y => exact q
  | own ys =>
    obtain ⟨a, vs, e1, o1, c1, _, h, d⟩ := q
    obtain ⟨a', vs', e1', o1', _⟩ := q0
    rw [e1] at e1'
    cases e1'
    refine ⟨a, vs, e1, o1, c1, fun t' h => ?_, h, d⟩
    cases h
    exact fun z => R0.nof hl (z ▸ o1')
  | stm => obtain ⟨_, _, e2, _⟩ := q0; exact absurd ht e2
  | plc => obtain ⟨_, _, e2, _⟩ := q0; exact absurd ht e2
  | scr ns => exact q
  | fz Φ => exact q
  | ow Ψ => trivial
/-! ### the stream, from inside -/
section
variable {F : Fam} {ρ ρ1 ρ2 : En} {e a b : Expr} {x : PyData} {xs ys : List PyData} {pos p p2 p3 : Pos} {ds : List Int} {q q' : Int}
/-- stream[0]: the digits -/
theorem be_stm0 (i : Nat) {n : Str} {kc : Nat} (hs : ρ.sl[i]? = some .stm) (ht : ρ.tm = some (ds, q)) (hN : F.N[i]? = some n := by rfl) (hv : Vis F.sc n := by first | exact Or.inl rfl | exact Or.inr (Or.inl rfl) | exact Or.inr (Or.inr rfl))
    (hd : (n == ("__debug__" : Str)) = false := by decide) (hcd : (n == ("__classdict__" : Str)) = false := by decide) : BE F ρ (.Subscript (.Name n p) (.Constant (.int 0) kc p2) pos) (.list (ds.map .int)) ρ := by
  refine ⟨tOp (rIxL F.K) (tVar i) (tC (.int 0)), fun X hX => ?_, fun C W H0 T O H σ R Q k => ?_⟩
  · have h := pe_ix (pos := pos) (ix_list (X := X)) (pe_var (pos := p) (by rw [hX.N]; exact hN) (hX.vis hv) hd hcd) (pe_int (i := 0) (j := kc) (pos := p2)) (fun _ _ => rfl)
    rw [hX.K] at h
    exact h
  · obtain ⟨t, hT, _, e1⟩ := R.sl i _ hs
    have m := R.tm
    rw [ht] at m
    obtain ⟨t', hT', m⟩ := m
    rw [hT] at hT'
    cases hT'
    refine ⟨_, e1, t.1, _, 0, .ref t.2.1, rfl, rfl, SqL.of (cut_some.mp m.s).2, rfl, k _ H R Same.rfl' (.lst m.g (dpa_ints _))⟩
/-- place = stream[1] -/
theorem bs_plc (i j : Nat) {n n2 : Str} {kc : Nat} {p4 : Pos} (hs : ρ.sl[i]? = some .stm) (ht : ρ.tm ≠ none) (hN : F.N[i]? = some n := by rfl) (hN2 : F.N[j]? = some n2 := by rfl) (hv : Vis F.sc n := by first | exact Or.inl rfl | exact Or.inr (Or.inl rfl) | exact Or.inr (Or.inr rfl))
    (hx : Loc F.sc n2 := by first | exact Or.inl rfl | exact Or.inr rfl) (hf : F.df = true ∨ F.sc.names.lookup n2 = some .local := by first | exact Or.inl rfl | exact Or.inr rfl)
    (hd : (n == ("__debug__" : Str)) = false := by decide) (hcd : (n == ("__classdict__" : Str)) = false := by decide) : BS F ρ (.Assign [.Name n2 p3] (.Subscript (.Name n p) (.Constant (.int 1) kc p2) p4) pos) (.nx ⟨ρ.tm, ρ.sl.set j .plc⟩) := by
  refine ⟨_, fun X hX => ps_set (i := j) (by rw [hX.N]; exact hX.nd) (by rw [hX.N]; exact hN2) (by rw [hX.sc]; exact hx) ((hX.K ▸ pe_ix (ix_list (X := X)) (pe_var (by rw [hX.N]; exact hN) (hX.vis hv) hd hcd) pe_int (fun _ _ => rfl) : PE X _ (tOp (rIxL F.K) (tVar i) (tC (.int 1))))) rfl (by rw [hX.sc]; exact hf.imp (fun z => hX.fn z n2) id), fun C W H0 T0 T O H σ D e R k => ?_⟩
  obtain ⟨t, hT, _, e1⟩ := R.sl i _ hs
  have m := R.tm
  cases htm : ρ.tm with
  | none => exact absurd htm ht
  | some z =>
    rw [htm] at m
    obtain ⟨t', hT', m⟩ := m
    rw [hT] at hT'
    cases hT'
    refine ⟨_, e1, t.1, _, 1, .ref t.2.2, rfl, rfl, SqL.of (cut_some.mp m.s).2, rfl, k _ H O T e ?_ Same.rfl'⟩
    exact R.putX (fun xs h => nomatch h) (fun _ h => nomatch h) fun hl => ⟨t, hT, ht, List.getElem?_set_self hl⟩
/-- place[0] -/
theorem be_plc (i : Nat) {n : Str} {kc : Nat} (hs : ρ.sl[i]? = some .plc) (ht : ρ.tm = some (ds, q)) (hN : F.N[i]? = some n := by rfl) (hv : Vis F.sc n := by first | exact Or.inl rfl | exact Or.inr (Or.inl rfl) | exact Or.inr (Or.inr rfl))
    (hd : (n == ("__debug__" : Str)) = false := by decide) (hcd : (n == ("__classdict__" : Str)) = false := by decide) : BE F ρ (.Subscript (.Name n p) (.Constant (.int 0) kc p2) pos) (.int q) ρ := by
  refine ⟨tOp (rIxL F.K) (tVar i) (tC (.int 0)), fun X hX => ?_, fun C W H0 T O H σ R Q k => ?_⟩
  · have h := pe_ix (pos := pos) (ix_list (X := X)) (pe_var (pos := p) (by rw [hX.N]; exact hN) (hX.vis hv) hd hcd) (pe_int (i := 0) (j := kc) (pos := p2)) (fun _ _ => rfl)
    rw [hX.K] at h
    exact h
  · obtain ⟨t, hT, _, e1⟩ := R.sl i _ hs
    have m := R.tm
    rw [ht] at m
    obtain ⟨t', hT', m⟩ := m
    rw [hT] at hT'
    cases hT'
    exact ⟨_, e1, t.2.2, _, 0, .int q, rfl, rfl, SqL.of m.l, rfl, k _ H R Same.rfl' (.int _)⟩
/-- place[0] = e -/
theorem bs_plcset (i : Nat) {n : Str} {kc : Nat} (h : BE F ρ e (.int q') ρ1) (hs : ρ1.sl[i]? = some .plc) (ht : ρ1.tm = some (ds, q)) (hN : F.N[i]? = some n := by rfl) (hv : Vis F.sc n := by first | exact Or.inl rfl | exact Or.inr (Or.inl rfl) | exact Or.inr (Or.inr rfl))
    (hd : (n == ("__debug__" : Str)) = false := by decide) (hcd : (n == ("__classdict__" : Str)) = false := by decide)
    (h1 : ∀ X, Fits F X → swapsWithSole [.Subscript (.Name n p) (.Constant (.int 0) kc p2) p3] e pos.line X.env = pure false := by intro _ _; rfl) (h2 : ∀ X, Fits F X → swappedStores [.Subscript (.Name n p) (.Constant (.int 0) kc p2) p3] e X.env = pure none := by intro _ _; rfl) : BS F ρ (.Assign [.Subscript (.Name n p) (.Constant (.int 0) kc p2) p3] e pos) (.nx ⟨some (ds, q'), ρ1.sl⟩) := by
  obtain ⟨t, p1, e1⟩ := h
  refine ⟨_, fun X hX => ps_asg (p1 X hX) (pg_sub (pe_var (by rw [hX.N]; exact hN) (hX.vis hv) hd hcd) pe_int set_list (fun _ => rfl)) (h1 X hX) (h2 X hX) rfl, fun C W H0 T0 T O H σ D e R k => e1 C W H0 T O H σ R _ fun v H1 R1 s1 d1 => ?_⟩
  cases d1
  obtain ⟨t, hT, _, f1⟩ := R1.sl i _ hs
  have m := R1.tm
  rw [ht] at m
  obtain ⟨t', hT', m⟩ := m
  rw [hT] at hT'
  cases hT'
  obtain ⟨R2, s2⟩ := R1.moved hT ht (H' := upd H1 t.2.2 (.lst [.int q'])) (fun a o h n => by rw [upd_ne n]; exact h) upd_same
  exact ⟨_, f1, t.2.2, _, 0, 0, rfl, rfl, m.l, rfl, k σ _ O T e R2 (s1.trans s2)⟩
/-- a new stream is handed back: [found, [q]] -/
theorem bs_retStm (i : Nat) {n : Str} {kc : Nat} {p4 p5 : Pos} (hs : ρ.sl[i]? = some (.own (ds.map .int))) (ht : ρ.tm = none) (hN : F.N[i]? = some n := by rfl) (hv : Vis F.sc n := by first | exact Or.inl rfl | exact Or.inr (Or.inl rfl) | exact Or.inr (Or.inr rfl))
    (hd : (n == ("__debug__" : Str)) = false := by decide) (hcd : (n == ("__classdict__" : Str)) = false := by decide) : BS F ρ (.Return (some (.List [.Name n p, .List [.Constant (.int q) kc p4] p5] p2)) pos) (.ret (.s ds q) none) := by
  refine ⟨_, fun X hX => ps_ret (pe_lst (pa_cons (pe_var (by rw [hX.N]; exact hN) (hX.vis hv) hd hcd) (pa_cons (pe_lst (pa_cons pe_int pa_nil)) pa_nil))), fun C W H0 T0 T O H σ D e R k => ?_⟩
  obtain ⟨g, vs, e1, o1, c1, _, h1, d1⟩ := R.sl i _ hs
  have ev := dpa_intsV d1
  subst ev
  refine ⟨_, e1, (by show 1 ≤ sizeLine; decide), fun l hl => ⟨(by show 2 ≤ sizeLine; decide), fun S hS => ?_⟩⟩
  have nSl : S ≠ l := fun z => by rw [z, upd_same] at hS; cases hS
  have ngl : g ≠ l := ne_of_none h1 hl
  have ngS : g ≠ S := fun z => by
    rw [← z, upd_ne ngl, h1] at hS
    cases hS
  have hS' : H S = none := by rw [upd_ne nSl] at hS; exact hS
  refine k _ _ (fun a o ha hw => ?_) trivial ⟨(S, g, l), rfl, R.none0 hl, ?_, cut_some.mpr ⟨fun z => z.elim (fun z => R.nof hS' (R.co _ z)) nSl, upd_same⟩, cut_some.mpr ⟨fun z => z.elim c1 ngl, ?_⟩⟩
  · have ha' := R.keep a o ha hw
    rw [upd_ne (ne_of_none ha' hS'), upd_ne (ne_of_none ha' hl)]
    exact ha'
  · show upd (upd H l _) S _ l = _
    rw [upd_ne (Ne.symm nSl), upd_same]
  · show upd (upd H l _) S _ g = _
    rw [upd_ne ngS, upd_ne ngl]
    exact h1
/-- stream = f(..), f handing back a new one -/
theorem bs_setStm (i : Nat) {n n2 : Str} {es : List Expr} {ss : List Sl} {Rl : List Sl → Res → Prop} (c : Cal F n (spP F.K Rl)) (ha : BA F ρ (e :: es) ss ρ1) (hr : Rl ss (.s ds q)) (ht : ρ1.tm = none) (hlc : F.lc = true := by rfl) (hpl : ss.all plainSl = true := by rfl) (hN : F.N[i]? = some n2 := by rfl) (hx : Loc F.sc n2 := by first | exact Or.inl rfl | exact Or.inr rfl)
    (hf : F.df = true ∨ F.sc.names.lookup n2 = some .local := by first | exact Or.inl rfl | exact Or.inr rfl) (hg : F.sc.names.lookup n = some .globalImplicit := by rfl) (hdb : (n == ("__debug__" : Str)) = false := by decide)
    (he : ∀ env, starEach (e :: es) env = (false, eval e env) :: starEach es env := by intro _; rfl) (hpl2 : ∀ env, (backTo p2 (starEach es env)).any (·.1) = false := by intro _; rfl)
    (hs : ∀ X, Fits F X → swapsWith (.Call (.Name n p) (e :: es) [] p2) (some (.Name n2 p3)) pos.line X.env = pure false := by intro _ _; rfl) : BS F ρ (.Assign [.Name n2 p3] (.Call (.Name n p) (e :: es) [] p2) pos) (.nx ⟨some (ds, q), ρ1.sl.set i .stm⟩) := by
  obtain ⟨t, p1, e1⟩ := ha
  refine ⟨_, fun X hX => ps_set (i := i) (by rw [hX.N]; exact hX.nd) (by rw [hX.N]; exact hN) (by rw [hX.sc]; exact hx) (pe_cal c hX (p1 X hX) hg hdb he hpl2) (hs X hX) (by rw [hX.sc]; exact hf.imp (fun z => hX.fn z n2) id), fun C W H0 T0 T O H σ D ex R k => ?_⟩
  refine ev_callP e1 hr hpl C W H0 T O H σ R _ fun v H1 H2 R1 s1 s2 ok => ?_
  obtain ⟨t, rfl, h1, h2, h3, h4⟩ := ok
  have R2 := R1.stream ht h1 s2 h2 h3 h4
  refine k _ H2 (or1 O t.2.2) (some t) ⟨ex.1, fun t0 h0 => ?_⟩ (R2.putX (i := i) (v := .ref t.1) (s := .stm) (fun xs h => nomatch h) (fun _ h => nomatch h) fun hl => ⟨t, rfl, by simp, List.getElem?_set_self hl⟩) (s1.trans (cut_or1 s2 h1))
  rw [ex.1 hlc] at h0
  cases h0
end
end TC

set_option maxRecDepth 100000
set_option maxHeartbeats 4000000
namespace TC
open PySem PySem.Spec L2

/-! ### what an expression leaves alone -/
def OwnA (σ : L2.St) (ρ : En) (a : Addr) : Prop := ∃ (i : Nat) (xs : List PyData), ρ.sl[i]? = some (.own xs) ∧ σ[i]? = some (some (.ref a))
def OwnR (σ : L2.St) (ρ : En) (rg : Nat → AS) (a : Addr) : Prop := OwnA σ ρ a ∨ ∃ (i : Nat) (Ψ : Fo), ρ.sl[i]? = some (.ow Ψ) ∧ rg i a
section
variable {K : PySem.W.Frag} {C W O : AS} {H0 H H' : Hp} {T : Option Trip} {σ : L2.St} {ρ ρ' : En} {x : PyData} {rg : Nat → AS}
theorem Rep.frame (R : Rep K C W H0 T O H σ ρ) (w : OwOk C W T O H σ ρ.sl rg) : Rep K (fun a => O a ∧ ¬ OwnR σ ρ rg a) (fun a => ρ.tm ≠ none ∧ ∃ t, T = some t ∧ a = t.2.2) (cut (OwnR σ ρ rg) H) T O H σ ρ := by
  refine ⟨fun a h => ?_, fun a h => h.1, fun a o h _ => (cut_some.mp h).2, R.alloc, fun a h => ?_, R.len, R.tl, ?_, fun i s hs => ?_, R.apart, ?_⟩
  · obtain ⟨_, t, hT, rfl⟩ := h
    refine ⟨R.tl t hT, fun z => ?_⟩
    rcases z with ⟨i, xs, h1, h2⟩ | ⟨i, Ψ, h1, h2⟩
    · obtain ⟨a, vs, e1, _, _, t1, _⟩ := R.sl i _ h1
      rw [h2] at e1
      cases e1
      exact t1 t hT rfl
    · exact (w.rin i Ψ _ h1 h2).2.2 t hT rfl
  · by_cases z : OwnR σ ρ rg a
    · exact .inr (by unfold cut; rw [if_pos z])
    · exact .inl ⟨h, z⟩
  · have q := R.tm
    cases e : ρ.tm with
    | none => trivial
    | some z =>
      rw [e] at q
      obtain ⟨t, hT, m⟩ := q
      exact ⟨t, hT, m.s, m.g, m.o, m.l, .inl ⟨by simp, t, hT, rfl⟩⟩
  · have q := R.sl i s hs
    cases s with
    | un => trivial
    | d y => exact q
    | own ys =>
      obtain ⟨a, vs, e1, o1, c1, t1, r⟩ := q
      exact ⟨a, vs, e1, o1, fun z => z.2 (.inl ⟨i, ys, hs, e1⟩), t1, r⟩
    | stm => exact q
    | plc => exact q
    | scr ns => exact q
    | fz Φ => exact q
    | ow Ψ => trivial
  · refine ⟨rg, w.to (fun i Ψ h => ⟨h, rfl⟩) (fun j xs a h1 h2 => .inl ⟨xs, h1, h2⟩) (fun _ _ _ _ _ => rfl) (fun _ _ h => h) fun i Ψ a h r => ?_⟩
    obtain ⟨q1, q2, q3⟩ := w.rin i Ψ a h r
    exact ⟨q1, .inl fun z => z.2 (.inr ⟨i, Ψ, h, r⟩), q3⟩
theorem Rep.unframe (R : Rep K C W H0 T O H σ ρ) (w : OwOk C W T O H σ ρ.sl rg) (R' : Rep K (fun a => O a ∧ ¬ OwnR σ ρ rg a) (fun a => ρ.tm ≠ none ∧ ∃ t, T = some t ∧ a = t.2.2) (cut (OwnR σ ρ rg) H) T O H' σ ρ') (hsl : ρ'.sl = ρ.sl) (htm : ρ'.tm ≠ none → ρ.tm ≠ none) : Rep K C W H0 T O H' σ ρ' := by
  have wplace : ∀ t, T = some t → ρ.tm ≠ none → W t.2.2 ∨ (¬ C t.2.2 ∧ H0 t.2.2 = none) := fun t hT hn => by
    have q := R.tm
    cases e : ρ.tm with
    | none => exact absurd e hn
    | some z =>
      rw [e] at q
      obtain ⟨t', hT', m⟩ := q
      rw [hT] at hT'
      cases hT'
      exact m.w
  refine ⟨R.wc, R.co, fun a o h n => ?_, R'.alloc, R.loc, R'.len, R'.tl, ?_, fun i s hs => ?_, R'.apart, ?_⟩
  · have h1 := R.keep a o h n
    by_cases z : OwnR σ ρ rg a
    · rcases z with ⟨i, xs, q1, q2⟩ | ⟨i, Ψ, q1, q2⟩
      · obtain ⟨a', vs, e1, o1, c1, _⟩ := R.sl i _ q1
        rw [q2] at e1
        cases e1
        rw [(R.loc a o1).resolve_left c1] at h
        cases h
      · obtain ⟨g1, g2, _⟩ := w.rin i Ψ a q1 q2
        rcases g2 with g2 | g2
        · rw [(R.loc a g1).resolve_left g2] at h
          cases h
        · exact absurd g2 n
    · refine R'.keep a o (cut_some.mpr ⟨z, h1⟩) fun w => ?_
      obtain ⟨hn, t, hT, rfl⟩ := w
      rcases wplace t hT hn with q | ⟨_, q⟩
      · exact n q
      · rw [q] at h; cases h
  · have q := R'.tm
    cases e : ρ'.tm with
    | none => trivial
    | some z =>
      rw [e] at q
      obtain ⟨t, hT, m⟩ := q
      exact ⟨t, hT, m.s, m.g, m.o, m.l, wplace t hT (htm (by rw [e]; simp))⟩
  · have q := R'.sl i s hs
    cases s with
    | un => trivial
    | d y => exact q
    | own ys =>
      obtain ⟨a, vs, e1, o1, c1, t1, r⟩ := q
      rw [hsl] at hs
      obtain ⟨a', vs', f1, _, c2, _⟩ := R.sl i _ hs
      rw [e1] at f1
      cases f1
      exact ⟨a, vs, e1, o1, c2, t1, r⟩
    | stm => exact q
    | plc => exact q
    | scr ns => exact q
    | fz Φ => exact q
    | ow Ψ => trivial
  · obtain ⟨rg', w'⟩ := R'.ow
    refine ⟨rg', w'.to (fun i Ψ h => ⟨h, rfl⟩) (fun j xs a h1 h2 => .inl ⟨xs, h1, h2⟩) (fun _ _ _ _ _ => rfl) (fun _ _ h => h) fun i Ψ a h r => ?_⟩
    obtain ⟨q1, q2, q3⟩ := w'.rin i Ψ a h r
    refine ⟨q1, ?_, q3⟩
    rcases q2 with q2 | ⟨_, t, hT, e⟩
    · have z : OwnR σ ρ rg a := Classical.byContradiction fun z => q2 ⟨q1, z⟩
      rcases z with ⟨j, xs, g1, g2⟩ | ⟨j, Ψ', g1, g2⟩
      · rw [← hsl] at g1
        exact absurd r (w'.sepL i j Ψ xs a h g1 g2)
      · exact (w.rin j Ψ' a g1 g2).2.1
    · exact absurd e (q3 t hT)
/-- what stands behind a part -/
def Kept (C W : AS) (T : Option Trip) (H H' : Hp) : Prop := ∀ a o, C a → ¬ W a → (∀ t, T = some t → a ≠ t.2.2) → H a = some o → H' a = some o
theorem Rep.kept (R : Rep K C W H0 T O H σ ρ) (w : OwOk C W T O H σ ρ.sl rg) (R' : Rep K (fun a => O a ∧ ¬ OwnR σ ρ rg a) (fun a => ρ.tm ≠ none ∧ ∃ t, T = some t ∧ a = t.2.2) (cut (OwnR σ ρ rg) H) T O H' σ ρ') : Kept C W T H H' := fun a o h1 hw h2 h3 => R'.keep a o (cut_some.mpr ⟨fun z => by
    rcases z with ⟨i, xs, q1, q2⟩ | ⟨i, Ψ, q1, q2⟩
    · obtain ⟨a', vs, e1, _, c1, _⟩ := R.sl i _ q1
      rw [q2] at e1
      cases e1
      exact c1 h1
    · exact (w.rin i Ψ a q1 q2).2.1.elim (fun y => y h1) hw, h3⟩) fun ⟨_, t, hT, e⟩ => h2 t hT e
theorem EvD.frm {te : TE} (h : EvD K te ρ x ρ') (hsl : ρ'.sl = ρ.sl) (htm : ρ'.tm ≠ none → ρ.tm ≠ none) (R : Rep K C W H0 T O H σ ρ) (Q : VK) (k : ∀ v H', Rep K C W H0 T O H' σ ρ' → Same (cut O H) (cut O H') → Dq K (cut O H') v x → Kept C W T H H' → Q v H') : te σ H Q := by
  obtain ⟨rg, w⟩ := R.ow
  exact h _ _ _ T O H σ (R.frame w) Q fun v H' R' s d => k v H' (R.unframe w R' hsl htm) s d (R.kept w R')
theorem EvT.frm {tt : TT} {b : Bool} (h : EvT K tt ρ b ρ') (hsl : ρ'.sl = ρ.sl) (htm : ρ'.tm ≠ none → ρ.tm ≠ none) (R : Rep K C W H0 T O H σ ρ) (Q : Bool → Hp → Prop) (k : ∀ H', Rep K C W H0 T O H' σ ρ' → Same (cut O H) (cut O H') → Kept C W T H H' → Q b H') : tt σ H Q := by
  obtain ⟨rg, w⟩ := R.ow
  exact h _ _ _ T O H σ (R.frame w) Q fun H' R' s => k H' (R.unframe w R' hsl htm) s (R.kept w R')
end

/-! ### blocks -/
def rlS (scope sc : Scope) : Scope := { kind := scope.kind, names := scope.names.map fun (n, k) => if (k == NameKind.free && sc.kind == .function && sc.names.lookup n == some .cell) then (n, NameKind.cell) else (n, k), isGenerator := scope.isGenerator, isCoroutine := scope.isCoroutine, more := scope.more }
def cellsOf (scope : Scope) : List Str := scope.names.filterMap fun p => if scope.names.lookup p.1 == some .cell then some p.1 else none
theorem cells_fn {scope : Scope} {x : Str} (h : x ∈ cellsOf scope) : (scope.names.lookup x == some NameKind.cell) = true := by
  obtain ⟨p, _, e⟩ := List.mem_filterMap.mp h
  by_cases q : (scope.names.lookup p.1 == some NameKind.cell) = true
  · rw [if_pos q] at e; cases e; exact q
  · rw [if_neg q] at e; cases e
def Fam.blk (F : Fam) (scope : Scope) : Fam := { F with sc := rlS scope F.sc, df := false, W := fun _ _ _ _ => False, tk := false, fs := false, ex := none, cf := cellsOf scope }
theorem fits_blk {F : Fam} {X : Cx} (hcm : F.ex = none) (h : Fits F X) (s : Shared) (H : Hp) (scope : Scope) (C : Addr) (cl : List (Str × Addr)) (fp : List Addr) : Fits (F.blk scope) (X.blk s H scope (compEnvC scope cl C X.env) fp) :=
  ⟨h.prog, h.w, h.K, h.mg, h.base, h.N, h.nd, (by
    show relabel scope X.env = rlS scope F.sc
    rw [← h.sc]; rfl), (fun _ => h.calm hcm), (fun _ => h.room hcm), h.un, (fun z => nomatch z), PassesOwn.never, (fun z => nomatch z), (fun z => nomatch z), (fun _ z => nomatch z), (fun x hx => cells_fn hx), h.gu⟩
/-- several slots take values -/
def sets (σ : L2.St) : List Nat → List V → L2.St
  | j :: js, v :: vs => sets (σ.set j (some v)) js vs
  | _, _ => σ
def setsR (sl : List Sl) : List Nat → List PyData → List Sl
  | j :: js, x :: xs => setsR (sl.set j (.d x)) js xs
  | _, _ => sl
def wipeR (sl : List Sl) : List Nat → List Sl
  | [] => sl
  | v :: vs => (wipeR sl vs).set v .un
theorem wipe_get {σ : L2.St} : ∀ {vs : List Nat} {i : Nat}, i ∉ vs → (wipe σ vs)[i]? = σ[i]?
  | [], _, _ => rfl
  | v :: vs, i, h => by
    unfold wipe
    rw [List.getElem?_set_ne (fun z => h (by rw [z]; simp))]
    exact wipe_get fun z => h (by simp [z])
theorem wipeR_get {sl : List Sl} : ∀ {vs : List Nat} {i : Nat}, i ∉ vs → (wipeR sl vs)[i]? = sl[i]?
  | [], _, _ => rfl
  | v :: vs, i, h => by
    unfold wipeR
    rw [List.getElem?_set_ne (fun z => h (by rw [z]; simp))]
    exact wipeR_get fun z => h (by simp [z])
theorem wipeR_len {sl : List Sl} : ∀ {vs : List Nat}, (wipeR sl vs).length = sl.length
  | [] => rfl
  | v :: vs => by unfold wipeR; rw [List.length_set, wipeR_len]
theorem wipeR_in {sl : List Sl} : ∀ {vs : List Nat} {i : Nat} {s : Sl}, i ∈ vs → (wipeR sl vs)[i]? = some s → s = .un
  | v :: vs, i, s, h, e => by
    unfold wipeR at e
    by_cases z : i = v
    · subst z
      have hl : i < (wipeR sl vs).length := by
        have := (List.getElem?_eq_some_iff.mp e).1
        rw [List.length_set] at this; exact this
      rw [List.getElem?_set_self hl] at e
      cases e; rfl
    · rw [List.getElem?_set_ne (fun q => z q.symm)] at e
      exact wipeR_in ((List.mem_cons.mp h).resolve_left z) e
theorem sets_get : ∀ {js : List Nat} {vs : List V} {σ : L2.St} {i : Nat}, i ∉ js → (sets σ js vs)[i]? = σ[i]?
  | [], _, _, _, _ => by unfold sets; rfl
  | j :: js, [], _, _, _ => by unfold sets; rfl
  | j :: js, v :: vs, σ, i, h => by
    unfold sets
    rw [sets_get fun z => h (by simp [z]), List.getElem?_set_ne (fun z => h (by rw [z]; simp))]
theorem sets_len : ∀ {js : List Nat} {vs : List V} {σ : L2.St}, (sets σ js vs).length = σ.length
  | [], _, _ => by unfold sets; rfl
  | j :: js, [], _ => by unfold sets; rfl
  | j :: js, v :: vs, σ => by unfold sets; rw [sets_len, List.length_set]
theorem setsR_get : ∀ {js : List Nat} {vs : List PyData} {sl : List Sl} {i : Nat}, i ∉ js → (setsR sl js vs)[i]? = sl[i]?
  | [], _, _, _, _ => by unfold setsR; rfl
  | j :: js, [], _, _, _ => by unfold setsR; rfl
  | j :: js, v :: vs, sl, i, h => by
    unfold setsR
    rw [setsR_get fun z => h (by simp [z]), List.getElem?_set_ne (fun z => h (by rw [z]; simp))]
theorem setsR_nown : ∀ {js : List Nat} {ps : List PyData} {sl : List Sl} {j : Nat} {zs : List PyData}, (∀ zs, sl[j]? ≠ some (.own zs)) → (setsR sl js ps)[j]? ≠ some (.own zs)
  | [], _, _, _, _, h => by unfold setsR; exact h _
  | k :: js, [], _, _, _, h => by unfold setsR; exact h _
  | k :: js, x :: ps, sl, j, zs, h => by
    unfold setsR
    refine setsR_nown fun zs' e => ?_
    rcases set_get e with ⟨_, q⟩ | ⟨_, q⟩
    · cases q
    · exact h zs' q
theorem wipe_in {σ : L2.St} : ∀ {vs : List Nat} {i : Nat}, i ∈ vs → i < σ.length → (wipe σ vs)[i]? = some none
  | v :: vs, i, h, hl => by
    unfold wipe
    by_cases z : i = v
    · subst z
      rw [List.getElem?_set_self (by rw [wipe_length]; exact hl)]
    · rw [List.getElem?_set_ne (fun q => z q.symm)]
      exact wipe_in ((List.mem_cons.mp h).resolve_left z) hl
theorem wipe_sets {σ : L2.St} {js vs : List Nat} {us : List V} (h : ∀ j ∈ js, j ∈ vs) : wipe (sets (wipe σ vs) js us) vs = wipe σ vs := by
  apply List.ext_getElem?
  intro i
  by_cases hi : i ∈ vs
  · by_cases hl : i < σ.length
    · rw [wipe_in hi (by rw [sets_len, wipe_length]; exact hl), wipe_in hi hl]
    · rw [List.getElem?_eq_none_iff.mpr (by rw [wipe_length, sets_len, wipe_length]; omega), List.getElem?_eq_none_iff.mpr (by rw [wipe_length]; omega)]
  · rw [wipe_get hi, sets_get (fun z => hi (h i z))]
theorem Rep.wiped {K : PySem.W.Frag} {C W O : AS} {H0 H : Hp} {T : Option Trip} {σ : L2.St} {ρ : En} (R : Rep K C W H0 T O H σ ρ) (vs : List Nat) : Rep K C W H0 T O H (wipe σ vs) ⟨ρ.tm, wipeR ρ.sl vs⟩ := by
  have key : ∀ (i : Nat) (s : Sl), (wipeR ρ.sl vs)[i]? = some s → s = .un ∨ (ρ.sl[i]? = some s ∧ (wipe σ vs)[i]? = σ[i]?) := fun i s h => by
    by_cases hi : i ∈ vs
    · exact .inl (wipeR_in hi h)
    · rw [wipeR_get hi] at h
      exact .inr ⟨h, wipe_get hi⟩
  refine ⟨R.wc, R.co, R.keep, R.alloc, R.loc, by rw [wipe_length]; show σ.length = (wipeR ρ.sl vs).length; rw [wipeR_len]; exact R.len, R.tl, R.tm, fun i s hs => ?_, fun i j xs ys a ne h1 h2 e => ?_, ?_⟩
  · rcases key i s hs with rfl | ⟨h1, h2⟩
    · trivial
    · have q := R.sl i s h1
      cases s with
      | un => trivial
      | d y => obtain ⟨u, e1, q⟩ := q; exact ⟨u, h2.trans e1, q⟩
      | own ys => obtain ⟨a, vs, e1, q⟩ := q; exact ⟨a, vs, h2.trans e1, q⟩
      | stm => obtain ⟨t, e1, e2, e3⟩ := q; exact ⟨t, e1, e2, h2.trans e3⟩
      | plc => obtain ⟨t, e1, e2, e3⟩ := q; exact ⟨t, e1, e2, h2.trans e3⟩
      | scr ns => obtain ⟨a, e1, q⟩ := q; exact ⟨a, h2.trans e1, q⟩
      | fz Φ => obtain ⟨a, e1, q⟩ := q; exact ⟨a, h2.trans e1, q⟩
      | ow Ψ => trivial
  · rcases key i _ h1 with z | ⟨g1, g2⟩
    · cases z
    rcases key j _ h2 with z | ⟨g3, g4⟩
    · cases z
    rw [g2] at e
    rw [g4]
    exact R.apart i j xs ys a ne g1 g3 e
  · obtain ⟨rg, w⟩ := R.ow
    refine ⟨rg, w.to (fun i Ψ h => ?_) (fun j xs a h1 h2 => ?_) (fun _ _ _ _ _ => rfl) (fun _ _ h => h) w.rin⟩
    · exact (key i _ h).resolve_left (fun z => nomatch z)
    · obtain ⟨g1, g2⟩ := (key j _ h1).resolve_left (fun z => nomatch z)
      exact .inl ⟨xs, g1, g2 ▸ h2⟩
theorem Rep.puts {K : PySem.W.Frag} {C W O : AS} {H0 H : Hp} {T : Option Trip} : ∀ {js : List Nat} {us : List V} {xs : List PyData} {σ : L2.St} {tm : Option (List Int × Int)} {sl : List Sl}, Rep K C W H0 T O H σ ⟨tm, sl⟩ → DqA K (cut O H) us xs → Rep K C W H0 T O H (sets σ js us) ⟨tm, setsR sl js xs⟩
  | [], _, _, _, _, _, R, _ => by unfold sets setsR; exact R
  | j :: js, us, xs, σ, tm, sl, R, d => by
    cases d with
    | nil => unfold sets setsR; exact R
    | cons d1 d2 => unfold sets setsR; exact Rep.puts (R.put d1) d2

/-! ### list comprehensions -/
section
variable {F : Fam} {ρ ρ1 ρ2 ρ3 : En} {e tg iter elt : Expr} {ifs : List Expr} {x y z : PyData} {xs ys zs : List PyData} {pos p : Pos}
/-- a target that stores into the slots js: x's parts are ps -/
def EvB (K : PySem.W.Frag) (g : TG) (js : List Nat) (x : PyData) (ps : List PyData) : Prop := ∀ (O : AS) (H : Hp) (σ : L2.St) (v : V), Dq K (cut O H) v x → ∀ Q : L2.St → Hp → Prop, (∀ us, DqA K (cut O H) us ps → Q (sets σ js us) H) → g v σ H Q
def BB (F : Fam) (tg : Expr) (js : List Nat) (part : PyData → Option (List PyData)) : Prop := ∃ g, (∀ X, Fits F X → PG X tg g) ∧ ∀ x ps, part x = some ps → EvB F.K g js x ps
theorem bb_name (i : Nat) {n : Str} (hN : F.N[i]? = some n := by rfl) (hx : F.sc.names.lookup n = some .local := by rfl) : BB F (.Name n p) [i] (fun x => some [x]) :=
  ⟨gName i, fun X hX => pg_name (by rw [hX.N]; exact hX.nd) (by rw [hX.N]; exact hN) (by rw [hX.sc]; exact .inl hx) (by rw [hX.sc]; exact .inr hx), fun x ps h O H σ v d Q q => by
    cases h
    exact q [v] (.cons d .nil)⟩
/-- .. a name that the comprehension's own parts share -/
theorem bb_nameC (i : Nat) {n : Str} (hN : F.N[i]? = some n := by rfl) (hx : F.sc.names.lookup n = some .cell := by rfl) (hc : n ∈ F.cf := by show _ ∈ cellsOf _; decide +kernel) : BB F (.Name n p) [i] (fun x => some [x]) :=
  ⟨gName i, fun X hX => pg_name (by rw [hX.N]; exact hX.nd) (by rw [hX.N]; exact hN) (by rw [hX.sc]; exact .inr hx) (.inl (hX.cf n hc)), fun x ps h O H σ v d Q q => by
    cases h
    exact q [v] (.cons d .nil)⟩
def tupParts (n : Nat) : PyData → Option (List PyData)
  | .tuple xs => if xs.length = n then some xs else none
  | _ => none
theorem bb_pair {k : Nat} (i j : Nat) {n m : Str} {p1 p2 : Pos} (hN : F.N[i]? = some n := by rfl) (hM : F.N[j]? = some m := by rfl) (hx : F.sc.names.lookup n = some .local := by rfl) (hy : F.sc.names.lookup m = some .local := by rfl) (hcm : F.ex = none := by rfl) : BB F (.Tuple [.Name n p1, .Name m p2] k p) [i, j] (tupParts 2) := by
  refine ⟨gTup F.K 2 (gCons (gName i) (gCons (gName j) gNil)), fun X hX => ?_, fun x ps h O H σ v d Q q => ?_⟩
  · have h := pg_tup (X := X) (pos := p) (k := k) (hX.calm hcm) (pgs_cons (pg_name (pos := p1) (i := i) (by rw [hX.N]; exact hX.nd) (by rw [hX.N]; exact hN) (by rw [hX.sc]; exact .inl hx) (by rw [hX.sc]; exact .inr hx)) (pgs_cons (pg_name (pos := p2) (i := j) (by rw [hX.N]; exact hX.nd) (by rw [hX.N]; exact hM) (by rw [hX.sc]; exact .inl hy) (by rw [hX.sc]; exact .inr hy)) pgs_nil)) rfl rfl
    rw [hX.K] at h
    exact h
  · cases d with
    | @tup a us xs g1 g2 =>
      replace h : (if xs.length = 2 then some xs else none) = some ps := h
      by_cases hl : xs.length = 2
      · rw [if_pos hl] at h
        cases h
        have hu := dpa_len g2
        rw [hl] at hu
        match us, hu, g2 with
        | [u1, u2], _, g2 => exact ⟨a, [u1, u2], rfl, seqT_mono cut_full g1, rfl, u1, [u2], rfl, u2, [], rfl, rfl, q [u1, u2] g2⟩
      · rw [if_neg hl] at h; cases h
    | _ => cases h
theorem bb_triple {k : Nat} (i j l : Nat) {n m o : Str} {p1 p2 p3 : Pos} (hN : F.N[i]? = some n := by rfl) (hM : F.N[j]? = some m := by rfl) (hO : F.N[l]? = some o := by rfl) (hx : F.sc.names.lookup n = some .local := by rfl) (hy : F.sc.names.lookup m = some .local := by rfl) (hz : F.sc.names.lookup o = some .local := by rfl) (hcm : F.ex = none := by rfl) :
    BB F (.Tuple [.Name n p1, .Name m p2, .Name o p3] k p) [i, j, l] (tupParts 3) := by
  refine ⟨gTup F.K 3 (gCons (gName i) (gCons (gName j) (gCons (gName l) gNil))), fun X hX => ?_, fun x ps h O H σ v d Q q => ?_⟩
  · have h := pg_tup (X := X) (pos := p) (k := k) (hX.calm hcm) (pgs_cons (pg_name (pos := p1) (i := i) (by rw [hX.N]; exact hX.nd) (by rw [hX.N]; exact hN) (by rw [hX.sc]; exact .inl hx) (by rw [hX.sc]; exact .inr hx)) (pgs_cons (pg_name (pos := p2) (i := j) (by rw [hX.N]; exact hX.nd) (by rw [hX.N]; exact hM) (by rw [hX.sc]; exact .inl hy) (by rw [hX.sc]; exact .inr hy))
      (pgs_cons (pg_name (pos := p3) (i := l) (by rw [hX.N]; exact hX.nd) (by rw [hX.N]; exact hO) (by rw [hX.sc]; exact .inl hz) (by rw [hX.sc]; exact .inr hz)) pgs_nil))) rfl rfl
    rw [hX.K] at h
    exact h
  · cases d with
    | @tup a us xs g1 g2 =>
      replace h : (if xs.length = 3 then some xs else none) = some ps := h
      by_cases hl : xs.length = 3
      · rw [if_pos hl] at h
        cases h
        have hu := dpa_len g2
        rw [hl] at hu
        match us, hu, g2 with
        | [u1, u2, u3], _, g2 => exact ⟨a, [u1, u2, u3], rfl, seqT_mono cut_full g1, rfl, u1, [u2, u3], rfl, u2, [u3], rfl, u3, [], rfl, rfl, q [u1, u2, u3] g2⟩
      · rw [if_neg hl] at h; cases h
    | _ => cases h
/-- the tests of a comprehension -/
def supI (F : Fam) (es : List Expr) : TT := fun σ H Q => ∃ t : TT, (∀ X, Fits F X → PTs X es t) ∧ t σ H Q
theorem supI_ok {X : Cx} {es : List Expr} (hX : Fits F X) : PTs X es (supI F es) := ⟨fun pins s σ H Q I ⟨t, p, h⟩ => (p X hX).run pins s σ H Q I h⟩
def BIf (F : Fam) (ρ : En) (es : List Expr) (b : Bool) (ρ' : En) : Prop := EvT F.K (supI F es) ρ b ρ'
theorem bif_nil : BIf F ρ [] true ρ := fun C W H0 T O H σ R Q q => ⟨tYes, fun X hX => pts_nil, q H R Same.rfl'⟩
theorem bif_one {b : Bool} (h : BT F ρ e b ρ1) : BIf F ρ [e] b ρ1 := by
  obtain ⟨t, p1, e1⟩ := h
  exact fun C W H0 T O H σ R Q q => ⟨t, fun X hX => pts_one (p1 X hX), e1 C W H0 T O H σ R Q q⟩
/-- one turn: nothing, or an item -/
inductive LTurn (F : Fam) (vs js : List Nat) (part : PyData → Option (List PyData)) (ifs : List Expr) (elt : Expr) (sl : List Sl) (x : PyData) : Option (List Int × Int) → Option PyData → Option (List Int × Int) → Prop
  | skip {ps : List PyData} {tm tm' : Option (List Int × Int)} : part x = some ps → BIf F ⟨tm, setsR (wipeR sl vs) js ps⟩ ifs false ⟨tm', setsR (wipeR sl vs) js ps⟩ → tm'.isSome = tm.isSome → LTurn F vs js part ifs elt sl x tm none tm'
  | item {ps : List PyData} {y : PyData} {tm tm1 tm' : Option (List Int × Int)} : part x = some ps → BIf F ⟨tm, setsR (wipeR sl vs) js ps⟩ ifs true ⟨tm1, setsR (wipeR sl vs) js ps⟩ → tm1.isSome = tm.isSome → BE F ⟨tm1, setsR (wipeR sl vs) js ps⟩ elt y ⟨tm', setsR (wipeR sl vs) js ps⟩ → tm'.isSome = tm1.isSome → LTurn F vs js part ifs elt sl x tm (some y) tm'
inductive LComp (S : PyData → Option (List Int × Int) → Option PyData → Option (List Int × Int) → Prop) : List PyData → Option (List Int × Int) → List PyData → Option (List Int × Int) → Prop
  | nil {tm} : LComp S [] tm [] tm
  | item {x xs y ys tm tm1 tm2} : S x tm (some y) tm1 → LComp S xs tm1 ys tm2 → LComp S (x :: xs) tm (y :: ys) tm2
  | skip {x xs ys tm tm1 tm2} : S x tm none tm1 → LComp S xs tm1 ys tm2 → LComp S (x :: xs) tm ys tm2
theorem lcomp_len {S} {xs tm ys tm'} (h : LComp S xs tm ys tm') : ys.length ≤ xs.length := by
  induction h with
  | nil => exact Nat.le_refl _
  | item _ _ ih => rw [List.length_cons, List.length_cons]; omega
  | skip _ _ ih => rw [List.length_cons]; omega
section
variable {K : PySem.W.Frag} {C W O : AS} {H0 H H' : Hp} {T : Option Trip} {σ σ' : L2.St} {D : Addr} {o : HO}
/-- a hidden thing that is no slot's is changed -/
theorem Rep.poke (R : Rep K (or1 C D) W H0 T (or1 O D) H σ ρ) (hW : ¬ W D) (h0 : H0 D = none) (hp : ∀ t, T = some t → t.2.2 ≠ D) : Rep K (or1 C D) W H0 T (or1 O D) (upd H D o) σ ρ := by
  have cu : cut (or1 O D) (upd H D o) = cut (or1 O D) H := cut_upd (.inr rfl)
  refine ⟨R.wc, R.co, fun a u h n => ?_, fun a h => ?_, R.loc, R.len, R.tl, ?_, fun i s hs => ?_, R.apart, ?_⟩
  · rw [upd_ne (fun z => by rw [z, h0] at h; cases h)]
    exact R.keep a u h n
  · by_cases z : a = D
    · rw [z, upd_same]; simp
    · rw [upd_ne z]; exact R.alloc a h
  · have q := R.tm
    cases e : ρ.tm with
    | none => trivial
    | some z =>
      rw [e] at q
      obtain ⟨t, hT, m⟩ := q
      exact ⟨t, hT, by rw [cu]; exact m.s, by rw [cu]; exact m.g, m.o, by rw [upd_ne (hp t hT)]; exact m.l, m.w⟩
  · have q := R.sl i s hs
    cases s with
    | un => trivial
    | d y => obtain ⟨u, e1, q⟩ := q; exact ⟨u, e1, by rw [cu]; exact q⟩
    | own ys =>
      obtain ⟨a, vs, e1, o1, c1, t1, h1, d⟩ := q
      exact ⟨a, vs, e1, o1, c1, t1, by rw [upd_ne (fun z => c1 (.inr z))]; exact h1, by rw [cu]; exact d⟩
    | stm => exact q
    | plc => exact q
    | scr ns => obtain ⟨a, e1, q⟩ := q; exact ⟨a, e1, by rw [cu]; exact q⟩
    | fz Φ => obtain ⟨a, e1, q⟩ := q; exact ⟨a, e1, by rw [cu]; exact q⟩
    | ow Ψ => trivial
  · obtain ⟨rg, w⟩ := R.ow
    refine ⟨rg, w.to (fun i Ψ h => ⟨h, rfl⟩) (fun j xs a h1 h2 => .inl ⟨xs, h1, h2⟩) (fun i Ψ a h r => upd_ne fun z => ?_) (by rw [cu]; exact fun _ _ h => h) w.rin⟩
    exact (w.rin i Ψ a h r).2.1.elim (fun y => y (.inr z)) fun y => hW (z ▸ y)
/-- from the block's slots back to the def's -/
theorem Rep.out {tm : Option (List Int × Int)} {sl sb : List Sl} {vs : List Nat} (R : Rep K C W H0 T O H σ' ⟨tm, sb⟩) (hl : σ.length = sl.length) (hv : ∀ i ∈ vs, ∀ s, sl[i]? = some s → s = .un) (h1 : ∀ i, i ∉ vs → sb[i]? = sl[i]?) (h2 : ∀ i, i ∉ vs → σ'[i]? = σ[i]?) : Rep K C W H0 T O H σ ⟨tm, sl⟩ := by
  have key : ∀ (i : Nat) (s : Sl), sl[i]? = some s → s = .un ∨ (sb[i]? = some s ∧ σ'[i]? = σ[i]?) := fun i s h => by
    by_cases hi : i ∈ vs
    · exact .inl (hv i hi s h)
    · exact .inr ⟨(h1 i hi).trans h, h2 i hi⟩
  refine ⟨R.wc, R.co, R.keep, R.alloc, R.loc, hl, R.tl, R.tm, fun i s hs => ?_, fun i j xs ys a ne g1 g2 e => ?_, ?_⟩
  · rcases key i s hs with rfl | ⟨g1, g2⟩
    · trivial
    · have q := R.sl i s g1
      cases s with
      | un => trivial
      | d y => obtain ⟨u, e1, q⟩ := q; exact ⟨u, g2.symm.trans e1, q⟩
      | own ys => obtain ⟨a, us, e1, q⟩ := q; exact ⟨a, us, g2.symm.trans e1, q⟩
      | stm => obtain ⟨t, e1, e2, e3⟩ := q; exact ⟨t, e1, e2, g2.symm.trans e3⟩
      | plc => obtain ⟨t, e1, e2, e3⟩ := q; exact ⟨t, e1, e2, g2.symm.trans e3⟩
      | scr ns => obtain ⟨a, e1, q⟩ := q; exact ⟨a, g2.symm.trans e1, q⟩
      | fz Φ => obtain ⟨a, e1, q⟩ := q; exact ⟨a, g2.symm.trans e1, q⟩
      | ow Ψ => trivial
  · rcases key i _ g1 with z | ⟨f1, f2⟩
    · cases z
    rcases key j _ g2 with z | ⟨f3, f4⟩
    · cases z
    rw [← f2] at e
    rw [← f4]
    exact R.apart i j xs ys a ne f1 f3 e
  · obtain ⟨rg, w⟩ := R.ow
    refine ⟨rg, w.to (fun i Ψ h => ?_) (fun j xs a h1 h2 => ?_) (fun _ _ _ _ _ => rfl) (fun _ _ h => h) w.rin⟩
    · obtain ⟨g1, g2⟩ := (key i _ h).resolve_left (fun z => nomatch z)
      exact ⟨g1, g2.symm⟩
    · obtain ⟨g1, g2⟩ := (key j _ h1).resolve_left (fun z => nomatch z)
      exact .inl ⟨xs, g1, g2.trans h2⟩
end
/-- what a comprehension asks: its source, its target, its turns; vs: its own slots, sl: the def's -/
structure LcOk (F : Fam) (scope : Scope) (own : List (Str × Nat)) (js : List Nat) (sl : List Sl) : Prop where
  blk : BlkOk F.N F.sc scope own
  sub : ∀ j ∈ js, j ∈ own.map (·.2)
  un : ∀ i ∈ own.map (·.2), ∀ s, sl[i]? = some s → s = .un
def lcT (F : Fam) (scope : Scope) (wi : TI) (g : TG) (ifs : List Expr) (elt : Expr) (own : List (Str × Nat)) : TE := tLc wi g (supI (F.blk scope) ifs) (supE (F.blk scope) elt) (own.map (·.2))
theorem ev_lc {scope : Scope} {own : List (Str × Nat)} {js : List Nat} {part : PyData → Option (List PyData)} {wi : TI} {g : TG} {tm' : Option (List Int × Int)} (hi : EvI F.K wi ρ xs ρ1) (hg : ∀ x ps, part x = some ps → EvB F.K g js x ps)
    (ok : LcOk F scope own js ρ1.sl) (hz : xs.length ≤ 100000) (hc : LComp (LTurn (F.blk scope) (own.map (·.2)) js part ifs elt ρ1.sl) xs ρ1.tm ys tm') : EvL F.K (lcT F scope wi g ifs elt own) ρ ys ⟨tm', ρ1.sl⟩ := by
  intro C W H0 T O H σ R Q q
  refine hi C W H0 T O H σ R _ fun J H1 R1 s1 wk D hD => ?_
  have sD : Same H1 (upd H1 D (.lst [])) := same_new hD
  have RD := R1.hide hD sD (by rw [upd_same]; simp)
  have hW : ¬ W D := fun z => R1.nof hD (R1.co D (R1.wc D z))
  have h0 : H0 D = none := R1.none0 hD
  have hp : ∀ t, T = some t → t.2.2 ≠ D := fun t hT z => R1.nof hD (z ▸ R1.tl t hT)
  have s1D : Same (cut O H1) (cut (or1 O D) (upd H1 D (.lst []))) := cut_or1 sD hD
  refine ⟨fun i m H' => m = xs.length - i ∧ i ≤ xs.length ∧ ∃ tm us made rest, Rep F.K (or1 C D) W H0 T (or1 O D) H' σ ⟨tm, ρ1.sl⟩ ∧ Same (cut O H1) (cut (or1 O D) H') ∧ H' D = some (.lst us) ∧ DqA F.K (cut (or1 O D) H') us made ∧ made.length ≤ i ∧ LComp (LTurn (F.blk scope) (own.map (·.2)) js part ifs elt ρ1.sl) (xs.drop i) tm rest tm' ∧ made ++ rest = ys,
    ⟨xs.length, by simp, Nat.zero_le _, ρ1.tm, [], [], ys, RD, s1D, upd_same, .nil, Nat.zero_le _, by rw [List.drop_zero]; exact hc, rfl⟩, fun i m H' hw => ?_⟩
  obtain ⟨rfl, hi', tm, us, made, rest, R', s', hD', dm, hml, L, he⟩ := hw
  obtain ⟨w1, w2⟩ := wk (or1 O D) H' R'.alloc s' i
  by_cases hlt : i < xs.length
  · obtain ⟨w3, w4⟩ := w2 _ (List.getElem?_eq_getElem hlt)
    rw [List.drop_eq_getElem_cons hlt] at L
    refine .inr ⟨w3, fun H2 => ∃ tm us made rest, Rep F.K (or1 C D) W H0 T (or1 O D) H2 σ ⟨tm, ρ1.sl⟩ ∧ Same (cut O H1) (cut (or1 O D) H2) ∧ H2 D = some (.lst us) ∧ DqA F.K (cut (or1 O D) H2) us made ∧ made.length ≤ i + 1 ∧ LComp (LTurn (F.blk scope) (own.map (·.2)) js part ifs elt ρ1.sl) (xs.drop (i + 1)) tm rest tm' ∧ made ++ rest = ys, fun H2 h => ⟨xs.length - (i + 1), by omega, rfl, hlt, h⟩, fun v H2 y => ?_⟩
    obtain ⟨s2, dv⟩ := w4 v H2 y
    have R2 := R'.grow s2
    have Rw := R2.wiped (own.map (·.2))
    have s12 : Same (cut O H1) (cut (or1 O D) H2) := s'.trans (cut_same s2)
    have hD2 : H2 D = some (.lst us) := s2 D _ hD'
    have dm2 := dpa_mono (cut_same (O := or1 O D) s2) _ _ dm
    have hpart : ∃ ps, part xs[i] = some ps := by
      cases L with
      | item h _ => cases h with
        | item h1 => exact ⟨_, h1⟩
      | skip h _ => cases h with
        | skip h1 => exact ⟨_, h1⟩
    obtain ⟨ps, hps⟩ := hpart
    refine hg _ ps hps (or1 O D) H2 _ v dv _ fun ws dw => ⟨wipe_sets ok.sub, ?_⟩
    have Rb := Rw.puts (js := js) dw
    have nplace : ∀ t, T = some t → D ≠ t.2.2 := fun t hT z => hp t hT z.symm
    have back : ∀ {H3 : Hp} {tmx : Option (List Int × Int)}, Rep F.K (or1 C D) W H0 T (or1 O D) H3 (sets (wipe σ (own.map (·.2))) js ws) ⟨tmx, setsR (wipeR ρ1.sl (own.map (·.2))) js ps⟩ → Rep F.K (or1 C D) W H0 T (or1 O D) H3 σ ⟨tmx, ρ1.sl⟩ := fun {H3 tmx} R3 =>
      R3.out R1.len ok.un (fun i hi => by rw [setsR_get (fun z => hi (ok.sub i z)), wipeR_get hi]) (fun i hi => by rw [sets_get (fun z => hi (ok.sub i z)), wipe_get hi])
    cases L with
    | @skip _ _ _ _ tm1 _ hT hL =>
      cases hT with
      | @skip ps' _ _ h1 h2 h3 =>
        have ep : ps' = ps := Option.some.inj (h1.symm.trans hps)
        subst ep
        refine h2.frm rfl (fun z1 z2 => ?_) Rb _ fun H3 R3 s3 al => iteF ?_
        · have z2' : tm = none := z2
          have z1' : tm1 ≠ none := z1
          rw [z2'] at h3
          cases e : tm1 with
          | none => exact z1' e
          | some _ => rw [e] at h3; cases h3
        · exact ⟨tm1, us, made, rest, back R3, s12.trans s3, al D _ (.inr rfl) hW nplace hD2, dpa_mono s3 _ _ dm2, by omega, hL, he⟩
    | @item _ _ y0 rest0 _ tm1 _ hT hL =>
      cases hT with
      | @item ps' _ _ tm0 _ h1 h2 h3 h4 h5 =>
        have ep : ps' = ps := Option.some.inj (h1.symm.trans hps)
        subst ep
        have iso : ∀ {a b : Option (List Int × Int)}, b.isSome = a.isSome → b ≠ none → a ≠ none := fun {a b} h z e => by
          rw [e] at h
          cases b with
          | none => exact z rfl
          | some _ => cases h
        refine h2.frm rfl (iso h3) Rb _ fun H3 R3 s3 al => iteT (h4.uni.frm rfl (iso h5) R3 _ fun w H4 R4 s4 dw4 al4 => ?_)
        have hD4 : H4 D = some (.lst us) := al4 D _ (.inr rfl) hW nplace (al D _ (.inr rfl) hW nplace hD2)
        have hu : us.length ≤ i := by rw [dpa_len dm]; exact hml
        refine ⟨us, hD4, Nat.lt_of_le_of_lt (by omega : us.length ≤ 100000) (by decide), tm1, us ++ [w], made ++ [y0], rest0, (back R4).poke hW h0 hp, ?_, upd_same, ?_, ?_, hL, ?_⟩
        · rw [cut_upd (.inr rfl)]
          exact (s12.trans s3).trans s4
        · rw [cut_upd (.inr rfl)]
          exact dpa_app (dpa_mono (s3.trans s4) _ _ dm2) (.cons dw4 .nil)
        · rw [List.length_append, List.length_singleton]; omega
        · rw [List.append_assoc]; exact he
  · have hi2 : i = xs.length := by omega
    rw [List.drop_eq_nil_of_le (by omega)] at L
    cases L
    rw [List.append_nil] at he
    subst he
    refine .inl ⟨w1 hi2, q D us H' (R.back R1 s1 hD) hD' R' (R'.show1 hW h0 R1.co hp) (s1.trans s') dm⟩
theorem pe_lcT (hcm : F.ex = none) {scope : Scope} {own : List (Str × Nat)} {wi : TI} {g : TG} {X : Cx} (hX : Fits F X) (hi : PI X tg iter wi) (hg : ∀ X, Fits (F.blk scope) X → PG X tg g) (ok : BlkOk F.N F.sc scope own) (hfs : ∀ env x, foldedSetIterable iter env x = pure x) :
    PE X (.ListComp elt [⟨tg, iter, ifs, 0⟩] scope pos) (lcT F scope wi g ifs elt own) :=
  pe_lc (hX.calm hcm) (by rw [hX.N]; exact hX.nd) hi (by rw [hX.N, hX.sc]; exact ok) (fun s H C cl fp => hg _ (fits_blk hcm hX s H scope C cl fp)) (fun s H C cl fp => supI_ok (fits_blk hcm hX s H scope C cl fp)) (fun s H C cl fp => supE_ok (fits_blk hcm hX s H scope C cl fp)) (hfs _)
/-- [elt for tg in iter if ..] -/
theorem bl_lc {scope : Scope} (own : List (Str × Nat)) {js : List Nat} {part : PyData → Option (List PyData)} {tm' : Option (List Int × Int)} (hi : BI F ρ tg iter xs ρ1) (hg : BB (F.blk scope) tg js part) (ok : LcOk F scope own js ρ1.sl)
    (hz : xs.length ≤ 100000) (hc : LComp (LTurn (F.blk scope) (own.map (·.2)) js part ifs elt ρ1.sl) xs ρ1.tm ys tm') (hcm : F.ex = none := by rfl) (hfs : ∀ env x, foldedSetIterable iter env x = pure x := by intro _ _; rfl) : BL F ρ (.ListComp elt [⟨tg, iter, ifs, 0⟩] scope pos) ys ⟨tm', ρ1.sl⟩ := by
  obtain ⟨wi, p1, e1⟩ := hi
  obtain ⟨g, p2, e2⟩ := hg
  exact ⟨_, fun X hX => pe_lcT hcm hX (p1 X hX) p2 ok.blk hfs, ev_lc e1 e2 ok hz hc⟩
/-- name = [..] -/
theorem run_setLc (hcm : F.ex = none) {scope : Scope} {own : List (Str × Nat)} {i : Nat} {n : Str} {py : Pos} {wi : TI} {g : TG} {X : Cx} {spos : Pos} (hX : Fits F X) (hN : F.N[i]? = some n) (hl : F.sc.names.lookup n = some .local) (hk : F.sc.kind = .function) (hln : (py.line == pos.line) = true)
    (hown : (scope.names.any fun (m, k) => m == n && (k == NameKind.local || k == NameKind.cell)) = false) (hi : PI X tg iter wi) (hg : ∀ X, Fits (F.blk scope) X → PG X tg g) (ok : BlkOk F.N F.sc scope own) (hfs : ∀ env x, foldedSetIterable iter env x = pure x) :
    PS X (.Assign [.Name n py] (.ListComp elt [⟨tg, iter, ifs, 0⟩] scope pos) spos) (tAsg (lcT F scope wi g ifs elt own) (gName i)) :=
  ps_setLc (hX.calm hcm) (by rw [hX.N]; exact hX.nd) (by rw [hX.N]; exact hN) (by rw [hX.sc]; exact hl) (sw_true (by rw [hX.sc]; exact hk) (by rw [hX.sc]; exact hl) hln hown) hi (by rw [hX.N, hX.sc]; exact ok) (fun s H C cl fp => hg _ (fits_blk hcm hX s H scope C cl fp)) (fun s H C cl fp => supI_ok (fits_blk hcm hX s H scope C cl fp)) (fun s H C cl fp => supE_ok (fits_blk hcm hX s H scope C cl fp)) (hfs _)
theorem bs_setLcO (i : Nat) {n : Str} {py spos : Pos} {scope : Scope} (own : List (Str × Nat)) {js : List Nat} {part : PyData → Option (List PyData)} {tm' : Option (List Int × Int)} (hi : BI F ρ tg iter xs ρ1) (hg : BB (F.blk scope) tg js part) (ok : LcOk F scope own js ρ1.sl)
    (hz : xs.length ≤ 100000) (hc : LComp (LTurn (F.blk scope) (own.map (·.2)) js part ifs elt ρ1.sl) xs ρ1.tm ys tm') (hN : F.N[i]? = some n := by rfl) (hl : F.sc.names.lookup n = some .local := by rfl) (hk : F.sc.kind = .function := by rfl) (hln : (py.line == pos.line) = true := by rfl)
    (hown : (scope.names.any fun (m, k) => m == n && (k == NameKind.local || k == NameKind.cell)) = false := by decide +kernel) (hcm : F.ex = none := by rfl) (hfs : ∀ env x, foldedSetIterable iter env x = pure x := by intro _ _; rfl) : BS F ρ (.Assign [.Name n py] (.ListComp elt [⟨tg, iter, ifs, 0⟩] scope pos) spos) (.nx ⟨tm', ρ1.sl.set i (.own ys)⟩) := by
  obtain ⟨wi, p1, e1⟩ := hi
  obtain ⟨g, p2, e2⟩ := hg
  exact ⟨_, fun X hX => run_setLc hcm hX hN hl hk hln hown (p1 X hX) p2 ok.blk hfs, ev_setL (ev_lc e1 e2 ok hz hc)⟩
/-- .. kept as data -/
theorem bs_setLcD (i : Nat) {n : Str} {py spos : Pos} {scope : Scope} (own : List (Str × Nat)) {js : List Nat} {part : PyData → Option (List PyData)} {tm' : Option (List Int × Int)} (hi : BI F ρ tg iter xs ρ1) (hg : BB (F.blk scope) tg js part) (ok : LcOk F scope own js ρ1.sl)
    (hz : xs.length ≤ 100000) (hc : LComp (LTurn (F.blk scope) (own.map (·.2)) js part ifs elt ρ1.sl) xs ρ1.tm ys tm') (hN : F.N[i]? = some n := by rfl) (hl : F.sc.names.lookup n = some .local := by rfl) (hk : F.sc.kind = .function := by rfl) (hln : (py.line == pos.line) = true := by rfl)
    (hown : (scope.names.any fun (m, k) => m == n && (k == NameKind.local || k == NameKind.cell)) = false := by decide +kernel) (hcm : F.ex = none := by rfl) (hfs : ∀ env x, foldedSetIterable iter env x = pure x := by intro _ _; rfl) : BS F ρ (.Assign [.Name n py] (.ListComp elt [⟨tg, iter, ifs, 0⟩] scope pos) spos) (.nx ⟨tm', ρ1.sl.set i (.d (.list ys))⟩) := by
  obtain ⟨wi, p1, e1⟩ := hi
  obtain ⟨g, p2, e2⟩ := hg
  refine ⟨_, fun X hX => run_setLc hcm hX hN hl hk hln hown (p1 X hX) p2 ok.blk hfs, fun C W H0 T0 T O H σ D ex R k => ?_⟩
  exact ev_lc e1 e2 ok hz hc C W H0 T O H σ R _ fun l vs H' hl hl' R1 R2 s d => k _ H' O T ex (R2.put (dq_ofL (R.nof hl) hl' d)) (s.trans (cut_sub fun _ z => .inl z))
end
end TC

set_option maxRecDepth 100000
set_option maxHeartbeats 4000000
namespace TC
open PySem PySem.Spec L2
/-- the built-in names are nobody's -/
structure Gs (mg : Str → Option Value) : Prop where
  list : mg "list" = none
  range : mg "range" = none
  tuple : mg "tuple" = none
  len : mg "len" = none
  int : mg "int" = none
  str : mg "str" = none
  bool : mg "bool" = none
  isinstance : mg "isinstance" = none
  sorted : mg "sorted" = none
  sum : mg "sum" = none
  min : mg "min" = none
  max : mg "max" = none
  abs : mg "abs" = none
  zip : mg "zip" = none
  type : mg "type" = none
  set : mg "set" = none
def forTg : Stmt → Expr
  | .For t _ _ _ _ => t
  | _ => .Name "" ⟨0, 0, 0, 0⟩
def forBody : Stmt → List Stmt
  | .For _ _ b _ _ => b
  | _ => []
theorem set_int (l : List Int) (k : Nat) (v : Int) : (l.map PyData.int).set k (.int v) = (l.set k v).map PyData.int := by rw [List.map_set]
theorem app_int (l : List Int) (v : Int) : l.map PyData.int ++ [.int v] = (l ++ [v]).map PyData.int := by rw [List.map_append]; rfl

/-! ### the digits that a law draws -/
def dig (n k : Int) : Int := ((n * 48271 + k * 69621 + 11) % 2147483647 * ((n * 48271 + k * 69621 + 11) % 2147483647) + k * 7919 + 5) % 998244353 % 60
def dst (n : Int) (g : Bool) (m : Int) : Nat → Int × List Int
  | 0 => (n, [])
  | j + 1 => if (j : Int) < m then (if g = true then ((dst n g m j).1 / 60, (dst n g m j).2 ++ [(dst n g m j).1 % 60]) else ((dst n g m j).1, (dst n g m j).2 ++ [dig (dst n g m j).1 j])) else dst n g m j
def great (c : Int) : Bool := decide ((10 : Int) ^ Int.toNat 18 ≤ (c.natAbs : Int))
def draws (c : Int) (m : Nat) : List Int := (dst (c.natAbs : Int) (great c) m 60).2
def strm (ns : List Int) (a : Nat) : Nat → List Int
  | 0 => []
  | j + 1 => strm ns a j ++ draws (ns.getD (a + j) 0) 12
def nxt (ds : List Int) (p m : Int) : Int := ds.getD (p % (ds.length : Int)).toNat 0 % m
def Digs (ds : List Int) : Prop := ∀ d ∈ ds, 0 ≤ d ∧ d < 60
theorem dst_ok {n : Int} {g : Bool} {m : Nat} : ∀ j : Nat, (dst n g m j).2.length = min j m ∧ Digs (dst n g m j).2
  | 0 => ⟨by simp [dst], fun d h => by simp [dst] at h⟩
  | j + 1 => by
    obtain ⟨h1, h2⟩ := dst_ok (n := n) (g := g) (m := m) j
    unfold dst
    by_cases h : (j : Int) < (m : Int)
    · rw [if_pos h]
      by_cases hg : g = true
      · rw [if_pos hg]
        refine ⟨by rw [List.length_append, h1, List.length_singleton]; omega, fun d hd => ?_⟩
        rcases List.mem_append.mp hd with q | q
        · exact h2 d q
        · have : d = (dst n g m j).1 % 60 := by simpa using q
          rw [this]
          exact ⟨Int.emod_nonneg _ (by decide), Int.emod_lt_of_pos _ (by decide)⟩
      · rw [if_neg hg]
        refine ⟨by rw [List.length_append, h1, List.length_singleton]; omega, fun d hd => ?_⟩
        rcases List.mem_append.mp hd with q | q
        · exact h2 d q
        · have : d = dig (dst n g m j).1 j := by simpa using q
          rw [this]
          exact ⟨Int.emod_nonneg _ (by decide), Int.emod_lt_of_pos _ (by decide)⟩
    · rw [if_neg h]
      exact ⟨by rw [h1]; omega, h2⟩
theorem draws_ok (c : Int) {m : Nat} (h : m ≤ 60) : (draws c m).length = m ∧ Digs (draws c m) := by
  obtain ⟨h1, h2⟩ := dst_ok (n := (c.natAbs : Int)) (g := great c) (m := m) 60
  exact ⟨by unfold draws; rw [h1]; omega, h2⟩
theorem strm_ok (ns : List Int) (a : Nat) : ∀ m : Nat, (strm ns a m).length = 12 * m ∧ Digs (strm ns a m)
  | 0 => ⟨rfl, fun d h => by simp [strm] at h⟩
  | m + 1 => by
    obtain ⟨h1, h2⟩ := strm_ok ns a m
    obtain ⟨h3, h4⟩ := draws_ok (ns.getD (a + m) 0) (m := 12) (by decide)
    unfold strm
    refine ⟨by rw [List.length_append, h1, h3]; omega, fun d hd => ?_⟩
    rcases List.mem_append.mp hd with q | q
    · exact h2 d q
    · exact h4 d q
theorem nxt_bd (ds : List Int) (p : Int) {m : Int} (h : 0 < m) : 0 ≤ nxt ds p m ∧ nxt ds p m < m := ⟨Int.emod_nonneg _ (by omega), Int.emod_lt_of_pos _ h⟩
def RlDraws : List Sl → Res → Prop := fun ss r => ∃ (c : Int) (m : Nat), ss = [.d (.int c), .d (.int m)] ∧ m ≤ 60 ∧ r = .l ((draws c m).map .int)
def RlStream : List Sl → Res → Prop := fun ss r => ∃ (ns : List Int) (a m : Nat), ss = [.scr ns, .d (.int a), .d (.int m)] ∧ m ≤ 100 ∧ r = .s (strm ns a m) 0
def RsNext : List Int → Int → List Sl → Res → Int → Prop := fun ds p ss r p' => ∃ m : Int, ss = [.d (.int m)] ∧ 0 < m ∧ ds ≠ [] ∧ r = .d (.int (nxt ds p m)) ∧ p' = p + 1
section
variable {F : Fam} {ρ ρ1 ρ2 ρ3 : En} {e a b c : Expr} {es : List Expr} {x y z : PyData} {xs ys zs : List PyData} {pos p apos cpos : Pos} {i j : Int}
theorem be_min2 (hm : F.mg "min" = none) (ha : BE F ρ a (.int i) ρ1) (hb : BE F ρ1 b (.int j) ρ2) (hcm : F.ex = none := by rfl) (hg : F.sc.names.lookup ("min" : Str) = some .globalImplicit := by rfl) (hs : ∀ env, starEach [a, b] env = (false, eval a env) :: starEach [b] env := by intro _; rfl) (hs2 : ∀ env, starEach [b] env = (false, eval b env) :: starEach [] env := by intro _; rfl)
    (hb' : ∀ env, (backTo pos (starEach [b] env)).any (·.1) = false := by intro _; rfl) : BE F ρ (.Call (.Name "min" p) [a, b] [] pos) (.int (min i j)) ρ2 :=
  be_cr (.inl ⟨"min", fun X hX => call_min2 (hX.calm hcm), by decide +kernel⟩) hm (bd_cons ha (bd_cons hb bd_nil hs2) hs) (fun O H vs _ d Q q => by
    obtain ⟨v, w, rfl, d1, d2⟩ := dqa2 d
    cases d1; cases d2
    refine ⟨i, j, rfl, ?_⟩
    have e : (if j < i then j else i) = min i j := by split <;> omega
    rw [e]
    exact q _ H Same.rfl' (.int _)) hg (by decide) (by decide) hs hb'
theorem be_max2 (hm : F.mg "max" = none) (ha : BE F ρ a (.int i) ρ1) (hb : BE F ρ1 b (.int j) ρ2) (hcm : F.ex = none := by rfl) (hg : F.sc.names.lookup ("max" : Str) = some .globalImplicit := by rfl) (hs : ∀ env, starEach [a, b] env = (false, eval a env) :: starEach [b] env := by intro _; rfl) (hs2 : ∀ env, starEach [b] env = (false, eval b env) :: starEach [] env := by intro _; rfl)
    (hb' : ∀ env, (backTo pos (starEach [b] env)).any (·.1) = false := by intro _; rfl) : BE F ρ (.Call (.Name "max" p) [a, b] [] pos) (.int (max i j)) ρ2 :=
  be_cr (.inl ⟨"max", fun X hX => call_max2 (hX.calm hcm), by decide +kernel⟩) hm (bd_cons ha (bd_cons hb bd_nil hs2) hs) (fun O H vs _ d Q q => by
    obtain ⟨v, w, rfl, d1, d2⟩ := dqa2 d
    cases d1; cases d2
    refine ⟨i, j, rfl, ?_⟩
    have e : (if j > i then j else i) = max i j := by split <;> omega
    rw [e]
    exact q _ H Same.rfl' (.int _)) hg (by decide) (by decide) hs hb'
theorem be_sum {ns : List Int} (hm : F.mg "sum" = none) (ha : BE F ρ e (.list (ns.map .int)) ρ1) (hcm : F.ex = none := by rfl) (hg : F.sc.names.lookup ("sum" : Str) = some .globalImplicit := by rfl) (hs : ∀ env, starEach [e] env = (false, eval e env) :: starEach [] env := by intro _; rfl) : BE F ρ (.Call (.Name "sum" p) [e] [] pos) (.int ns.sum) ρ1 :=
  be_cr (r := rSum F.K) (.inl ⟨"sum", fun X hX => by rw [← hX.K]; exact cr_sum (hX.calm hcm), by decide +kernel⟩) hm (bd1 ha hs) (fun O H vs _ d Q q => by
    obtain ⟨v, rfl, d1⟩ := dqa1 d
    cases d1 with
    | @lst a us _ g1 g2 =>
      have eu := dpa_intsV g2
      subst eu
      exact ⟨a, ns, rfl, SqL.of (cut_some.mp g1).2, q _ H Same.rfl' (.int _)⟩) hg (by decide) (by decide) hs (fun _ => rfl)
/-- the truth of a list of one's own -/
theorem bt_truO (k : Nat) {n : Str} (hs : ρ.sl[k]? = some (.own xs)) (hN : F.N[k]? = some n := by rfl) (hv : Vis F.sc n := by first | exact Or.inl rfl | exact Or.inr (Or.inl rfl) | exact Or.inr (Or.inr rfl))
    (hd : (n == ("__debug__" : Str)) = false := by decide) (hcd : (n == ("__classdict__" : Str)) = false := by decide) : BT F ρ (.Name n pos) (!xs.isEmpty) ρ := by
  refine ⟨fun σ H Q => tVar k σ H fun x H' => ∃ k, TruV F.K x H' k ∧ Q k H', fun X hX => ?_, fun C W H0 T O H σ R Q q => ?_⟩
  · have h := pt_truth (X := X) (pe_var (pos := pos) (by rw [hX.N]; exact hN) (hX.vis hv) hd hcd) (by intro _; rfl)
    rw [hX.K] at h
    exact h
  · obtain ⟨a, vs, e1, o1, c1, t1, h1, d⟩ := R.sl k _ hs
    refine ⟨_, e1, !vs.isEmpty, .inl ⟨vs, SqL.of h1, rfl⟩, ?_⟩
    have e : vs.isEmpty = xs.isEmpty := by
      have := dpa_len d
      cases vs <;> cases xs <;> simp at this ⊢
    rw [e]
    exact q H R Same.rfl'
/-- a tuple and a tuple, put together -/
theorem be_catT (ha : BE F ρ a (.tuple xs) ρ1) (hb : BE F ρ1 b (.tuple ys) ρ2) (hz : xs.length + ys.length ≤ 100000) : BE F ρ (.BinOp a .Add b pos) (.tuple (xs ++ ys)) ρ2 :=
  be_bin (r := rCatA F.K) (fun X hX => by rw [← hX.K]; exact op_catA) ha hb fun O H v w al d1 d2 Q q => by
    cases d1 with
    | @tup a1 us _ g1 g2 =>
      cases d2 with
      | @tup a2 ws _ f1 f2 =>
        have hu := dpa_len g2
        have hw := dpa_len f2
        refine ⟨a1, a2, us, ws, rfl, rfl, seqT_mono cut_full g1, seqT_mono cut_full f1, Nat.le_trans (by rw [hu, hw]; exact hz) (by decide), fun e => ?_, fun _ e => ?_, fun _ _ p hp => ?_⟩
        · have : xs = [] := by subst e; cases xs with | nil => rfl | cons _ _ => simp at hu
          subst this
          exact q _ H Same.rfl' (.tup f1 f2)
        · have : ys = [] := by subst e; cases ys with | nil => rfl | cons _ _ => simp at hw
          subst this
          exact q _ H Same.rfl' (.tup g1 (by rw [List.append_nil]; exact g2))
        · exact q _ _ (same_new hp) (.tup (.inl (.inl (cut_some.mpr ⟨fun z => al _ z hp, upd_same⟩))) (dpa_mono (cut_same (same_new hp)) _ _ (dpa_app g2 f2)))
/-- [..] * k, a list and a list -/
theorem bl_cat (ha : BE F ρ a (.list xs) ρ1) (hb : BE F ρ1 b (.list ys) ρ2) (hz : xs.length + ys.length ≤ 100000) : BL F ρ (.BinOp a .Add b pos) (xs ++ ys) ρ2 :=
  bl_bin (r := rCat) (fun X hX => op_cat) ha hb fun O H v w al d1 d2 Q q => by
    cases d1 with
    | @lst a1 us _ g1 g2 =>
      cases d2 with
      | @lst a2 ws _ f1 f2 =>
        have hu := dpa_len g2
        have hw := dpa_len f2
        exact ⟨a1, a2, us, ws, rfl, rfl, (cut_some.mp g1).2, (cut_some.mp f1).2, Nat.le_trans (by rw [hu, hw]; exact hz) (by decide), fun p hp => q p _ _ hp (same_new hp) upd_same (dpa_mono (cut_or1 (same_new hp) hp) _ _ (dpa_app g2 f2))⟩
theorem dqa_rep {K : PySem.W.Frag} {H : Hp} {vs : List V} (d : DqA K H vs xs) : ∀ k : Nat, DqA K H (List.replicate k vs).flatten (List.replicate k xs).flatten
  | 0 => .nil
  | k + 1 => by rw [List.replicate_succ, List.replicate_succ, List.flatten_cons, List.flatten_cons]; exact dpa_app d (dqa_rep d k)
theorem bl_rep {k : Int} (ha : BE F ρ a (.list xs) ρ1) (hb : BE F ρ1 b (.int k) ρ2) (hk : k ≤ 100000) (hk2 : -100000 ≤ k) (hz : xs.length * k.toNat ≤ 100000) : BL F ρ (.BinOp a .Mult b pos) (List.replicate k.toNat xs).flatten ρ2 :=
  bl_bin (r := rRep) (fun X hX => op_rep) ha hb fun O H v w al d1 d2 Q q => by
    cases d2
    cases d1 with
    | @lst a1 us _ g1 g2 =>
      have hu := dpa_len g2
      exact ⟨a1, k, us, rfl, rfl, (cut_some.mp g1).2, by omega, by omega, Nat.le_trans (by rw [hu]; exact hz) (by decide), fun p hp => q p _ _ hp (same_new hp) upd_same (dpa_mono (cut_or1 (same_new hp) hp) _ _ (dqa_rep g2 _))⟩
end
end TC

set_option maxRecDepth 100000
set_option maxHeartbeats 4000000
namespace TC
open PySem PySem.Spec L2
/-! ### names by their texts, found by computing -/
def lkp : List Str → List Sl → Str → Option (Nat × Sl)
  | m :: ms, s :: ss, n => if m == n then some (0, s) else (lkp ms ss n).map fun p => (p.1 + 1, p.2)
  | _, _, _ => none
theorem lkp_get : ∀ {N : List Str} {sl : List Sl} {n : Str} {i : Nat} {s : Sl}, lkp N sl n = some (i, s) → N[i]? = some n ∧ sl[i]? = some s
  | m :: ms, s :: ss, n, i, t, h => by
    unfold lkp at h
    by_cases e : (m == n) = true
    · rw [if_pos e] at h
      cases h
      exact ⟨by simp at e; simp [e], rfl⟩
    · rw [if_neg e] at h
      cases q : lkp ms ss n with
      | none => rw [q] at h; cases h
      | some p =>
        rw [q] at h
        obtain ⟨j, u⟩ := p
        cases h
        obtain ⟨h1, h2⟩ := lkp_get q
        exact ⟨by simpa using h1, by simpa using h2⟩
  | [], _, _, _, _, h => by simp [lkp] at h
  | _ :: _, [], _, _, _, h => by simp [lkp] at h
section
variable {F : Fam} {ρ ρ1 ρ2 ρ3 : En} {e a b c : Expr} {es : List Expr} {x y z : PyData} {xs ys zs : List PyData} {pos p apos cpos : Pos} {i j : Int}
theorem be_nm {n : Str} {k : Nat} (h : lkp F.N ρ.sl n = some (k, .d x)) (hv : Vis F.sc n := by first | exact Or.inl rfl | exact Or.inr (Or.inl rfl) | exact Or.inr (Or.inr rfl))
    (hd : (n == ("__debug__" : Str)) = false := by decide) (hcd : (n == ("__classdict__" : Str)) = false := by decide) : BE F ρ (.Name n pos) x ρ :=
  be_name k (lkp_get h).2 (lkp_get h).1 hv hd hcd
/-! ### in -/
def flatD : PyData → Bool
  | .none => true
  | .bool _ => true
  | .int _ => true
  | .str _ => true
  | _ => false
theorem flat_of {K : PySem.W.Frag} {H : Hp} {v : V} (h : Dq K H v x) (f : flatD x = true) : flatV v = true := by
  cases h <;> first | rfl | cases f
theorem eqV_of {K : PySem.W.Frag} {H : Hp} {v w : V} (h : Dq K H v x) (h2 : Dq K H w y) (f : flatD x = true) (g : flatD y = true) : eqV v w = PyData.eqv x y := by
  cases h <;> cases h2 <;> first | rfl | cases f | cases g
theorem inV_of {K : PySem.W.Frag} {H : Hp} {v : V} (h : Dq K H v x) (f : flatD x = true) : ∀ {ys : List PyData} {ws : List V}, DqA K H ws ys → ys.all flatD = true → ws.all flatV = true ∧ inV v ws = ys.any fun z => PyData.eqv z x
  | [], _, d, _ => by cases d; exact ⟨rfl, rfl⟩
  | y :: ys, _, d, g => by
    cases d with
    | cons d1 d2 =>
      rw [List.all_cons, Bool.and_eq_true] at g
      obtain ⟨h1, h2⟩ := inV_of h f d2 g.2
      refine ⟨by rw [List.all_cons, flat_of d1 g.1, h1]; rfl, ?_⟩
      unfold inV at h2 ⊢
      rw [List.any_cons, List.any_cons, h2, eqV_of d1 h g.1 f]
theorem c_inF (f : flatD x = true) (g : ys.all flatD = true) (q : isSq y ys) (hm : behindInMarks .In b = false := by rfl) : CmpD F .In b x y (ys.any fun z => PyData.eqv z x) := ⟨⟨rIn F.K false, fun X hX => by
  have h := op_in_seq (X := X)
  rw [hX.K] at h
  exact h, fun O H v w _ d1 d2 Q k => by
    rcases q with rfl | rfl
    · cases d2 with
      | @tup a ws _ h1 h2 =>
        obtain ⟨g1, g2⟩ := inV_of d1 f h2 g
        refine ⟨a, ws, rfl, .inr (seqT_mono cut_full h1), flat_of d1 f, g1, k _ H Same.rfl' ?_⟩
        rw [if_neg (by decide), g2]
        exact .bl _
    · cases d2 with
      | @lst a ws _ h1 h2 =>
        obtain ⟨g1, g2⟩ := inV_of d1 f h2 g
        refine ⟨a, ws, rfl, .inl (SqL.of (cut_some.mp h1).2), flat_of d1 f, g1, k _ H Same.rfl' ?_⟩
        rw [if_neg (by decide), g2]
        exact .bl _⟩, hm⟩
theorem c_notinF (f : flatD x = true) (g : ys.all flatD = true) (q : isSq y ys) (hm : behindInMarks .NotIn b = false := by rfl) : CmpD F .NotIn b x y (!ys.any fun z => PyData.eqv z x) := ⟨⟨rIn F.K true, fun X hX => by
  have h := op_notIn_seq (X := X)
  rw [hX.K] at h
  exact h, fun O H v w _ d1 d2 Q k => by
    rcases q with rfl | rfl
    · cases d2 with
      | @tup a ws _ h1 h2 =>
        obtain ⟨g1, g2⟩ := inV_of d1 f h2 g
        refine ⟨a, ws, rfl, .inr (seqT_mono cut_full h1), flat_of d1 f, g1, k _ H Same.rfl' ?_⟩
        rw [if_pos rfl, g2]
        exact .bl _
    · cases d2 with
      | @lst a ws _ h1 h2 =>
        obtain ⟨g1, g2⟩ := inV_of d1 f h2 g
        refine ⟨a, ws, rfl, .inl (SqL.of (cut_some.mp h1).2), flat_of d1 f, g1, k _ H Same.rfl' ?_⟩
        rw [if_pos rfl, g2]
        exact .bl _⟩, hm⟩
/-- in a list of data -/
theorem c_inL (hx : SeqAt.shaped x = true) (hy : SeqAt.shaped (.list ys) = true) (hm : behindInMarks .In b = false := by rfl) : CmpD F .In b x (.list ys) (ys.any fun z => PyData.eqv z x) := ⟨⟨rInD F.K, fun X hX => by
  have h := op_inD (X := X) (by have := hX.un; omega)
  rw [hX.K] at h
  exact h, fun O H v w _ d1 d2 Q q => ⟨x, ys, dq_dp _ _ (Bool.and_eq_true _ _ ▸ hx).1 (dp_mono cut_full _ _ d1), dq_dp _ _ (Bool.and_eq_true _ _ ▸ hy).1 (dp_mono cut_full _ _ d2), hx, hy, q _ H Same.rfl' (.bl _)⟩⟩, hm⟩
theorem eqv_str {s t : Str} : PyData.eqv (.str s) (.str t) = decide (s = t) := by
  rw [PyData.eqv]
  by_cases h : s = t
  · subst h; simp
  · rw [decide_eq_false h]; exact beq_false_of_ne h
theorem eqv_int {s t : Int} : PyData.eqv (.int s) (.int t) = decide (s = t) := by
  rw [PyData.eqv]
  by_cases h : s = t
  · subst h; simp
  · rw [decide_eq_false h]; exact beq_false_of_ne h
theorem c_eqStr {s t : Str} (h1 : SeqAt.shaped (.str s) = true) (h2 : SeqAt.shaped (.str t) = true) : CmpD F .Eq b (.str s) (.str t) (decide (s = t)) := by
  have h := c_eq (F := F) (b := b) h1 h2
  rw [eqv_str] at h; exact h
/-! ### one test, both ways -/
theorem BE.bt {k : Bool} (h : BE F ρ e (.bool k) ρ1) (he : ∀ env whole, isTrue e env whole = (do let v ← whole; standAt e.pos; holding [v] (truthy v)) := by intro _ _; rfl) : BT F ρ e k ρ1 := bt_val h he
end
end TC

set_option maxRecDepth 100000
set_option maxHeartbeats 4000000
namespace TC
open PySem PySem.Spec L2
def ifTest : Stmt → Expr
  | .If t _ _ _ => t
  | _ => .Name "" ⟨0, 0, 0, 0⟩
/-! ### the rules again, each condition said, what is evaluated first -/
section
variable {F : Fam} {ρ ρ1 ρ2 ρ3 : En} {e a b c : Expr} {es : List Expr} {x y z : PyData} {xs ys zs : List PyData} {pos p apos cpos p2 : Pos} {i j : Int} {k k' : Bool} {ss : List Sl} {ds : List Int} {q q' : Int} {o : Out} {sts sts2 : List Stmt} {st : Stmt}
theorem q_len (G : Gs F.mg) (ha : BE F ρ e x ρ1) (hq : isSq x xs) (hg : F.sc.names.lookup ("len" : Str) = some .globalImplicit) (hs : ∀ env, starEach [e] env = (false, eval e env) :: starEach [] env) : BE F ρ (.Call (.Name "len" p) [e] [] pos) (.int xs.length) ρ1 := be_lenQ hq G.len ha hg hs
theorem q_int (G : Gs F.mg) (ha : BE F ρ e (.int i) ρ1) (hg : F.sc.names.lookup ("int" : Str) = some .globalImplicit) (hs : ∀ env, starEach [e] env = (false, eval e env) :: starEach [] env) : BE F ρ (.Call (.Name "int" p) [e] [] pos) (.int i) ρ1 := be_intI G.int ha hg hs
theorem q_intB (G : Gs F.mg) (ha : BE F ρ e (.bool k) ρ1) (hg : F.sc.names.lookup ("int" : Str) = some .globalImplicit) (hs : ∀ env, starEach [e] env = (false, eval e env) :: starEach [] env) : BE F ρ (.Call (.Name "int" p) [e] [] pos) (.int (if k then 1 else 0)) ρ1 := be_intB G.int ha hg hs
theorem q_abs (G : Gs F.mg) (ha : BE F ρ e (.int i) ρ1) (hg : F.sc.names.lookup ("abs" : Str) = some .globalImplicit) (hs : ∀ env, starEach [e] env = (false, eval e env) :: starEach [] env) : BE F ρ (.Call (.Name "abs" p) [e] [] pos) (.int (i.natAbs : Int)) ρ1 := be_abs G.abs ha hg hs
theorem q_tupL (G : Gs F.mg) (ha : BE F ρ e (.list xs) ρ1) (hg : F.sc.names.lookup ("tuple" : Str) = some .globalImplicit) (hs : ∀ env, starEach [e] env = (false, eval e env) :: starEach [] env) : BE F ρ (.Call (.Name "tuple" p) [e] [] pos) (.tuple xs) ρ1 := be_tupL G.tuple ha hg hs
theorem q_listT (G : Gs F.mg) (ha : BE F ρ e (.tuple xs) ρ1) (hg : F.sc.names.lookup ("list" : Str) = some .globalImplicit) (hs : ∀ env, starEach [e] env = (false, eval e env) :: starEach [] env) : BL F ρ (.Call (.Name "list" p) [e] [] pos) xs ρ1 := bl_listT G.list ha hg hs
theorem q_min (G : Gs F.mg) (ha : BE F ρ a (.int i) ρ1) (hb : BE F ρ1 b (.int j) ρ2) (hg : F.sc.names.lookup ("min" : Str) = some .globalImplicit) (hs : ∀ env, starEach [a, b] env = (false, eval a env) :: starEach [b] env) (hs2 : ∀ env, starEach [b] env = (false, eval b env) :: starEach [] env) (hb' : ∀ env, (backTo pos (starEach [b] env)).any (·.1) = false) (hcm : F.ex = none := by rfl) : BE F ρ (.Call (.Name "min" p) [a, b] [] pos) (.int (min i j)) ρ2 := be_min2 G.min ha hb hcm hg hs hs2 hb'
theorem q_max (G : Gs F.mg) (ha : BE F ρ a (.int i) ρ1) (hb : BE F ρ1 b (.int j) ρ2) (hg : F.sc.names.lookup ("max" : Str) = some .globalImplicit) (hs : ∀ env, starEach [a, b] env = (false, eval a env) :: starEach [b] env) (hs2 : ∀ env, starEach [b] env = (false, eval b env) :: starEach [] env) (hb' : ∀ env, (backTo pos (starEach [b] env)).any (·.1) = false) (hcm : F.ex = none := by rfl) : BE F ρ (.Call (.Name "max" p) [a, b] [] pos) (.int (max i j)) ρ2 := be_max2 G.max ha hb hcm hg hs hs2 hb'
theorem q_sum {ns : List Int} (G : Gs F.mg) (ha : BE F ρ e (.list (ns.map .int)) ρ1) (hg : F.sc.names.lookup ("sum" : Str) = some .globalImplicit) (hs : ∀ env, starEach [e] env = (false, eval e env) :: starEach [] env) (hcm : F.ex = none := by rfl) : BE F ρ (.Call (.Name "sum" p) [e] [] pos) (.int ns.sum) ρ1 := be_sum G.sum ha hcm hg hs
theorem q_tup {m : Nat} (h : BD F ρ es xs ρ1) (hz : xs.length ≤ 1000) : BE F ρ (.Tuple es m pos) (.tuple xs) ρ1 := be_tup h hz
theorem q_lst (h : BD F ρ es xs ρ1) (hz : xs.length ≤ 1000) : BL F ρ (.List es pos) xs ρ1 := bl_lst h hz
theorem q_cons (h : BE F ρ e x ρ1) (r : BD F ρ1 es xs ρ2) (hs : ∀ env, starEach (e :: es) env = (false, eval e env) :: starEach es env) : BD F ρ (e :: es) (x :: xs) ρ2 := bd_cons h r hs
theorem q_acons (h : BE F ρ e x ρ1) (r : BA F ρ1 es ss ρ2) (hs : ∀ env, starEach (e :: es) env = (false, eval e env) :: starEach es env) : BA F ρ (e :: es) (.d x :: ss) ρ2 := ba_cons h r hs
theorem q_ascr {m : Nat} {n : Str} {ns : List Int} (hs : lkp F.N ρ.sl n = some (m, .scr ns)) (r : BA F ρ es ss ρ2) (hv : Vis F.sc n := by first | exact Or.inl rfl | exact Or.inr (Or.inl rfl) | exact Or.inr (Or.inr rfl))
    (hd : (n == ("__debug__" : Str)) = false := by decide) (hcd : (n == ("__classdict__" : Str)) = false := by decide) : BA F ρ (.Name n pos :: es) (.scr ns :: ss) ρ2 := ba_scr m (lkp_get hs).2 r (lkp_get hs).1 hv hd hcd
theorem q_bas {m : Nat} {n : Str} (hs : lkp F.N ρ.sl n = some (m, .stm)) (h : BA F ρ es ss ρ1) (hpl : ss.all plainSl = true) (hv : Vis F.sc n := by first | exact Or.inl rfl | exact Or.inr (Or.inl rfl) | exact Or.inr (Or.inr rfl))
    (hd : (n == ("__debug__" : Str)) = false := by decide) (hcd : (n == ("__classdict__" : Str)) = false := by decide) : BAs F ρ (.Name n p :: es) ss ρ1 := bas m (lkp_get hs).2 h hpl (lkp_get hs).1 hv hd hcd
theorem q_ix (ha : BE F ρ a x ρ1) (hb : BE F ρ1 b (.int i) ρ2) (hq : isSq x xs) (h : atI xs i = some y) (hs : PlainIx b) : BE F ρ (.Subscript a b pos) y ρ2 := be_ixQ hq ha hb h hs
theorem q_ixO {m : Nat} {n : Str} (hs : lkp F.N ρ.sl n = some (m, .own xs)) (hb : BE F ρ b (.int i) ρ) (h : atI xs i = some x) (hpl : PlainIx b) (hv : Vis F.sc n := by first | exact Or.inl rfl | exact Or.inr (Or.inl rfl) | exact Or.inr (Or.inr rfl))
    (hd : (n == ("__debug__" : Str)) = false := by decide) (hcd : (n == ("__classdict__" : Str)) = false := by decide) : BE F ρ (.Subscript (.Name n p) b pos) x ρ := be_ixO m (lkp_get hs).2 hb h (lkp_get hs).1 hv hpl hd hcd
theorem q_slT {lo hi : Option Expr} {l u : Option Int} (ha : BE F ρ a (.tuple xs) ρ1) (hl : BO F ρ1 lo l ρ2) (hu : BO F ρ2 hi u ρ3) : BE F ρ (.Subscript a (.Slice lo hi none p2) pos) (.tuple (cutD xs l u)) ρ3 := be_slT ha hl hu
theorem q_slL {lo hi : Option Expr} {l u : Option Int} (ha : BE F ρ a (.list xs) ρ1) (hl : BO F ρ1 lo l ρ2) (hu : BO F ρ2 hi u ρ3) : BL F ρ (.Subscript a (.Slice lo hi none p2) pos) (cutD xs l u) ρ3 := bl_slL ha hl hu
theorem q_chain {op op' : CmpOp} (ha : BE F ρ a x ρ1) (hb : BE F ρ1 b y ρ2) (hc : BE F ρ2 c z ρ2) (h : CmpD F op b x y k) (h' : CmpD F op' c y z k') (hl : lastMarks [op, op'] [b, c] = false) : BE F ρ (.Compare a [op, op'] [b, c] pos) (.bool (k && k')) ρ2 := be_chain ha hb hc h h' (fun _ => rfl) hl
theorem q_next {n : Str} {m : Int} {s : Nat} {sl : List Sl} (cN : Cal F "_law_next" (spS F.K RsNext)) (hs : lkp F.N ρ.sl n = some (s, .stm)) (h : BE F ρ e (.int m) ⟨some (ds, q), sl⟩) (hm : 0 < m) (hne : ds ≠ []) (hv : Vis F.sc n := by first | exact Or.inl rfl | exact Or.inr (Or.inl rfl) | exact Or.inr (Or.inr rfl))
    (hd : (n == ("__debug__" : Str)) = false := by decide) (hcd : (n == ("__classdict__" : Str)) = false := by decide) (hg : F.sc.names.lookup ("_law_next" : Str) = some .globalImplicit := by rfl)
    (he : ∀ env, starEach [e] env = (false, eval e env) :: starEach [] env := by intro _; rfl) (hpl2 : ∀ env, (backTo pos (starEach [e] env)).any (·.1) = false := by intro _; rfl) :
    BE F ρ (.Call (.Name "_law_next" p) [.Name n p2, e] [] pos) (.int (nxt ds q m)) ⟨some (ds, q + 1), sl⟩ :=
  be_callS (ρ1 := ⟨some (ds, q), sl⟩) cN (bas s (lkp_get hs).2 (ba_cons h ba_nil he) rfl (lkp_get hs).1 hv hd hcd) rfl ⟨m, rfl, hm, hne, rfl, rfl⟩ hg (by decide) (fun _ => rfl) hpl2
/-- a call of a def without arguments -/
theorem be_call0 {n : Str} {Rl : List Sl → Res → Prop} (cl : Cal F n (spP F.K Rl)) (hr : Rl [] (.d x)) (hg : F.sc.names.lookup n = some .globalImplicit := by rfl) (hdb : (n == ("__debug__" : Str)) = false := by decide) : BE F ρ (.Call (.Name n p) [] [] pos) x ρ := by
  obtain ⟨m, f, fd, ps, G, hk, hm, kp, bd⟩ := cl.ex
  refine ⟨tCall (spP F.K Rl) [] E0 tNil, fun X hX => ?_, fun C W H0 T O H σ R Q q => ?_⟩
  · exact pe_call0 (by rw [hX.prog, hX.w, hX.K, hX.mg, hX.base]; exact G) ((hX.room cl.cm).mono hk) (hX.gl hg) (by rw [hX.mg]; exact hm) (by rw [hX.K]; exact kp) (by rw [hX.K]; exact bd) .nil pass0 hdb
  · exact ⟨O, [], _, R.alloc, trivial, hr, fun v H2 s2 ok => q v H2 (R.grow s2) (cut_same s2) ok⟩
/-- statements -/
theorem q_set {n : Str} {m : Nat} {s : Sl} (h : BE F ρ e x ρ1) (hl : lkp F.N ρ1.sl n = some (m, s)) (hx : Loc F.sc n := by first | exact Or.inl rfl | exact Or.inr rfl) (hf : F.df = true ∨ F.sc.names.lookup n = some .local := by first | exact Or.inl rfl | exact Or.inr rfl)
    (hs : ∀ X, Fits F X → swapsWith e (some (.Name n p)) pos.line X.env = pure false := by intro _ _; rfl) : BS F ρ (.Assign [.Name n p] e pos) (.nx ⟨ρ1.tm, ρ1.sl.set m (.d x)⟩) := bs_set m h (lkp_get hl).1 hx hf hs
theorem q_setL {n : Str} {m : Nat} {s : Sl} (h : BL F ρ e xs ρ1) (hl : lkp F.N ρ1.sl n = some (m, s)) (hx : Loc F.sc n := by first | exact Or.inl rfl | exact Or.inr rfl) (hf : F.df = true ∨ F.sc.names.lookup n = some .local := by first | exact Or.inl rfl | exact Or.inr rfl)
    (hs : ∀ X, Fits F X → swapsWith e (some (.Name n p)) pos.line X.env = pure false := by intro _ _; rfl) : BS F ρ (.Assign [.Name n p] e pos) (.nx ⟨ρ1.tm, ρ1.sl.set m (.own xs)⟩) := bs_setL m h (lkp_get hl).1 hx hf hs
theorem bw_andD (h : BT F ρ a k ρ1) (h2 : k = true → BW F ρ1 (.BoolOp .And (b :: es) pos) k' ρ1) : BW F ρ (.BoolOp .And (a :: b :: es) pos) (k && k') ρ1 := by
  cases k with
  | true => exact bw_andT h (h2 rfl)
  | false => exact bw_andF h
theorem bw_orD (h : BT F ρ a k ρ1) (h2 : k = false → BW F ρ1 (.BoolOp .Or (b :: es) pos) k' ρ1) : BW F ρ (.BoolOp .Or (a :: b :: es) pos) (k || k') ρ1 := by
  cases k with
  | true => exact bw_orT h
  | false => exact bw_orF h (h2 rfl)
theorem q_ret {tm tm' : Option (List Int × Int)} {sl sl' : List Sl} (h : BE F ⟨tm, sl⟩ e x ⟨tm', sl'⟩) : BS F ⟨tm, sl⟩ (.Return (some e) pos) (.ret (.d x) tm') := bs_ret h
theorem q_retL {tm tm' : Option (List Int × Int)} {sl sl' : List Sl} (h : BL F ⟨tm, sl⟩ e xs ⟨tm', sl'⟩) : BS F ⟨tm, sl⟩ (.Return (some e) pos) (.ret (.l xs) tm') := bs_retL h
theorem q_retI {tm tm' : Option (List Int × Int)} {sl sl' : List Sl} (h : BE F ⟨tm, sl⟩ e y ⟨tm', sl'⟩) (q : y = x) : BS F ⟨tm, sl⟩ (.Return (some e) pos) (.ret (.d x) tm') := q ▸ bs_ret h
theorem bss_end (h : BSs F ρ sts (.nx ρ1)) (q : ρ1 = ρ2) : BSs F ρ sts (.nx ρ2) := q ▸ h
theorem atI_getD {l : List PyData} {m : Int} (h0 : 0 ≤ m) (h : m < l.length) : atI l m = some (l.getD m.toNat .none) := atI_nn h0 (by
  have : m.toNat < l.length := by omega
  rw [List.getD_eq_getElem?_getD, List.getElem?_eq_getElem this]; rfl)
theorem q_same {N : Nat} (cS : Cal F "_law_same" (spP F.K (RlSame N))) (h1 : BE F ρ a x ρ1) (h2 : BE F ρ1 b y ρ2) (hxy : y = x) (hx : shp N x) (hg : F.sc.names.lookup ("_law_same" : Str) = some .globalImplicit)
    (he : ∀ env, starEach [a, b] env = (false, eval a env) :: starEach [b] env) (he2 : ∀ env, starEach [b] env = (false, eval b env) :: starEach [] env) (hp : ∀ env, (backTo pos (starEach [b] env)).any (·.1) = false) : BE F ρ (.Call (.Name "_law_same" p) [a, b] [] pos) (.bool true) ρ2 :=
  be_call cS (ba_cons h1 (ba_cons (h2.is hxy) ba_nil he2) he) ⟨x, rfl, hx, rfl⟩ rfl hg (by decide) he hp
theorem q_cell {m k : Nat} {n : Str} {ns : List Int} (cC : Cal F "_law_cell" (spP F.K RlCell)) (hs : lkp F.N ρ.sl n = some (m, .scr ns)) (h : BE F ρ b (.int i) ρ1) (hi : i = (k : Int)) (hg : F.sc.names.lookup ("_law_cell" : Str) = some .globalImplicit)
    (he2 : ∀ env, starEach [b] env = (false, eval b env) :: starEach [] env) (hp : ∀ env, (backTo pos (starEach [b] env)).any (·.1) = false) (hv : Vis F.sc n := by first | exact Or.inl rfl | exact Or.inr (Or.inl rfl) | exact Or.inr (Or.inr rfl))
    (hd : (n == ("__debug__" : Str)) = false := by decide) (hcd : (n == ("__classdict__" : Str)) = false := by decide) : BE F ρ (.Call (.Name "_law_cell" p) [.Name n p2, b] [] pos) (.int (ns.getD k 0)) ρ1 := by
  subst hi
  exact be_call cC (ba_scr m (lkp_get hs).2 (ba_cons h ba_nil he2) (lkp_get hs).1 hv hd hcd) ⟨ns, k, rfl, rfl⟩ rfl hg (by decide) (fun _ => rfl) hp
/-- turns of a comprehension by their numbers -/
theorem lcomp_ix {S : PyData → Option (List Int × Int) → Option PyData → Option (List Int × Int) → Prop} (tm : Nat → Option (List Int × Int)) (f : Nat → PyData) : ∀ {xs : List PyData} (i : Nat), (∀ (j : Nat) (x : PyData), xs[j]? = some x → S x (tm (i + j)) (some (f (i + j))) (tm (i + j + 1))) → LComp S xs (tm i) ((List.range' i xs.length).map f) (tm (i + xs.length))
  | [], i, _ => .nil
  | x :: xs, i, h => by
    have h0 := h 0 x rfl
    have ih := lcomp_ix (S := S) tm f (xs := xs) (i + 1) fun j y hy => by
      have := h (j + 1) y (by simpa using hy)
      have e : i + 1 + j = i + (j + 1) := by omega
      rw [e]; exact this
    have e : i + (x :: xs).length = i + 1 + xs.length := by rw [List.length_cons]; omega
    rw [e, List.length_cons, List.range'_succ, List.map_cons]
    exact .item h0 ih
theorem lcomp_rg {S : PyData → Option (List Int × Int) → Option PyData → Option (List Int × Int) → Prop} {lo : Int} {n : Nat} (tm : Nat → Option (List Int × Int)) (f : Nat → PyData) (h : ∀ j : Nat, j < n → S (.int (lo + (j : Int))) (tm j) (some (f j)) (tm (j + 1))) : LComp S (rgD lo n) (tm 0) ((List.range n).map f) (tm n) := by
  have := lcomp_ix (S := S) tm f (xs := rgD lo n) 0 fun j x hx => by
    rw [rgD_get] at hx
    rw [Nat.zero_add]
    by_cases hj : j < n
    · rw [if_pos hj] at hx; cases hx; exact h j hj
    · rw [if_neg hj] at hx; cases hx
  rw [rgD_len, Nat.zero_add, ← List.range_eq_range'] at this
  exact this
end
/-! ### blocks, by checking -/
theorem Cal.blk {F : Fam} {n : Str} {sp : Sp} {scope : Scope} (c : Cal F n sp) : Cal (F.blk scope) n sp := ⟨c.ex, rfl⟩
def blkB (N : List Str) (sc scope : Scope) (own : List (Str × Nat)) : Bool := decide ((∀ y ∈ scope.names, scope.names.lookup y.1 = some y.2) ∧ (∀ p ∈ own, N[p.2]? = some p.1) ∧ (∀ y ∈ scope.names, y.2 = .free → sc.names.lookup y.1 = some .cell ∨ sc.names.lookup y.1 = some .free) ∧ ∀ y ∈ scope.names, y.2 = .local ∨ y.2 = .cell → y.1 ∈ own.map (·.1) ∨ y.1 ∉ N)
theorem blk_of {N : List Str} {sc scope : Scope} {own : List (Str × Nat)} (hk : scope.kind = .function) (h : blkB N sc scope own = true) : BlkOk N sc scope own := by
  obtain ⟨h1, h2, h3, h4⟩ := of_decide_eq_true h
  exact ⟨hk, h1, h2, h3, h4⟩
def isUn : Option Sl → Bool
  | some .un => true
  | none => true
  | _ => false
theorem lc_ok {F : Fam} {scope : Scope} {own : List (Str × Nat)} {js : List Nat} {sl : List Sl} (hb : BlkOk F.N F.sc scope own) (hs : js.all (fun j => (own.map (·.2)).contains j) = true) (hu : (own.map (·.2)).all (fun i => isUn sl[i]?) = true) : LcOk F scope own js sl where
  blk := hb
  sub := fun j hj => by
    have := List.all_eq_true.mp hs j hj
    simpa using this
  un := fun i hi s e => by
    have := List.all_eq_true.mp hu i hi
    rw [e] at this
    cases s <;> first | rfl | cases this
section
variable {F : Fam} {ρ ρ1 ρ2 ρ3 : En} {e a b c : Expr} {es : List Expr} {x y z : PyData} {xs ys zs : List PyData} {pos p apos cpos p2 : Pos} {i j : Int} {k k' : Bool} {ss : List Sl} {ds : List Int} {q q' : Int} {o : Out} {sts sts2 : List Stmt} {st : Stmt}
end
end TC

set_option maxRecDepth 100000
set_option maxHeartbeats 4000000
namespace TC
open PySem PySem.Spec L2 RZ
section
variable {F : Fam} {ρ ρ1 ρ2 ρ3 : En} {e a b c : Expr} {es : List Expr} {x y z : PyData} {xs ys zs : List PyData} {pos p apos cpos p2 p3 : Pos} {i j : Int} {k k' : Bool} {ss : List Sl} {ds : List Int} {q q' : Int} {o : Out} {sts sts2 : List Stmt} {st : Stmt}
/-! ### zip of two tuples -/
def zipD (xs ys : List PyData) : List PyData := List.zipWith (fun x y => .tuple [x, y]) xs ys
theorem bi_zipT {elts : List Expr} {kk : Nat} {tpos : Pos} (G : Gs F.mg) (ha : BE F ρ a (.tuple xs) ρ1) (hb : BE F ρ1 b (.tuple ys) ρ2) (hg : F.sc.names.lookup ("zip" : Str) = some .globalImplicit := by rfl)
    (hs : ∀ env, starEach [a, b] env = (false, eval a env) :: starEach [b] env := by intro _; rfl) (hs2 : ∀ env, starEach [b] env = (false, eval b env) :: starEach [] env := by intro _; rfl) (hb' : ∀ env, (backTo pos (starEach [b] env)).any (·.1) = false := by intro _; rfl) :
    BI F ρ (.Tuple elts kk tpos) (.Call (.Name "zip" p) [a, b] [] pos) (zipD xs ys) ρ2 := by
  obtain ⟨t, p1, e1⟩ := ha
  obtain ⟨u, p2, e2⟩ := hb
  refine ⟨iZipA F.K (tCons t (tCons u tNil)), fun X hX => ?_, fun C W H0 T O H σ R Rq q => e1 C W H0 T O H σ R _ fun v H1 R1 s1 d1 => e2 C W H0 T O H1 σ R1 _ fun w H2 R2 s2 d2 => ?_⟩
  · have h := pi_zipA (X := X) (elts := elts) (kk := kk) (tpos := tpos) (p := p) (hX.gl hg) (by rw [hX.mg]; exact G.zip) (pa_cons (p1 X hX) (pa_cons (p2 X hX) pa_nil (hs2 _)) (hs _)) (hs _) (hb' _)
    rw [hX.K] at h
    exact h
  · have d1' := dp_mono s2 _ _ d1
    cases d1' with
    | @tup a1 us _ g1 g2 =>
      cases d2 with
      | @tup a2 ws _ f1 f2 =>
        refine ⟨a1, a2, us, ws, rfl, .inr ⟨seqT_mono cut_full g1, seqT_mono cut_full f1, q _ H2 R2 (s1.trans s2) fun O' H' al s i => ?_⟩⟩
        have g3 := seqT_mono s g1
        have g4 := dpa_mono s _ _ g2
        have f3 := seqT_mono s f1
        have f4 := dpa_mono s _ _ f2
        have hu := dpa_len g2
        have hw := dpa_len f2
        refine ⟨fun hi => ⟨us, ws, seqT_mono cut_full g3, seqT_mono cut_full f3, ?_⟩, fun x hx => ?_⟩
        · rw [hu, hw]
          unfold zipD at hi
          rw [List.length_zipWith] at hi
          omega
        · unfold zipD at hx
          rw [List.getElem?_zipWith] at hx
          cases hx1 : xs[i]? with
          | none => rw [hx1] at hx; simp at hx
          | some x1 =>
            cases hy1 : ys[i]? with
            | none => rw [hx1, hy1] at hx; simp at hx
            | some y1 =>
              rw [hx1, hy1] at hx
              cases hx
              obtain ⟨v1, hv1, dv1⟩ := dpa_get g4 hx1
              obtain ⟨w1, hw1, dw1⟩ := dpa_get f4 hy1
              refine ⟨⟨us, ws, v1, w1, seqT_mono cut_full g3, seqT_mono cut_full f3, hv1, hw1⟩, fun v H'' y => ?_⟩
              obtain ⟨T, x', y', rfl, hT, rfl, hx', hy'⟩ := y
              have e1 := hx' us (seqT_mono cut_full g3)
              have e2 := hy' ws (seqT_mono cut_full f3)
              rw [hv1] at e1
              rw [hw1] at e2
              cases e1
              cases e2
              refine ⟨same_new hT, .tup (.inl (.inl (cut_some.mpr ⟨fun z => al _ z hT, upd_same⟩))) ?_⟩
              exact .cons (dp_mono (cut_same (same_new hT)) _ _ dv1) (.cons (dp_mono (cut_same (same_new hT)) _ _ dw1) .nil)
/-! ### type(x) is T -/
theorem dq_tyB {K : PySem.W.Frag} {H : Hp} {v : V} (h : Dq K H v x) (hi : insB x = false) : TyB K H v (tyD x) := by
  cases h with
  | non => exact .non
  | bl b => exact .bl b
  | int i => exact .int i
  | str s => exact .str s
  | lst h1 _ => exact .lst (SqL.of h1)
  | tup h1 _ => exact .tup h1
  | dic h1 _ => exact .dK h1
  | ins h1 _ => cases hi
theorem tyB_mono {K : PySem.W.Frag} {H H' : Hp} {v : V} {T : String} (e : Same H H') (t : TyB K H v T) : TyB K H' v T := by
  cases t with
  | non => exact .non
  | bl b => exact .bl b
  | int i => exact .int i
  | str s => exact .str s
  | byt b => exact .byt b
  | lst h => exact .lst (e.seq h)
  | tup h => exact .tup (seqT_mono e h)
  | dK h => exact .dK (e _ _ h)
theorem q_tyIs {T : Str} {Tn : String} (G : Gs F.mg) (hmT : F.mg T = none) (hT : bootBuiltins T = some (.type Tn)) (ha : BE F ρ e x ρ1) (hk : decide (tyD x = Tn) = k) (hg : F.sc.names.lookup ("type" : Str) = some .globalImplicit) (hgT : F.sc.names.lookup T = some .globalImplicit)
    (hnT : T ≠ "__name__") (hdT : (T == ("__debug__" : Str)) = false) (hs : ∀ env, starEach [e] env = (false, eval e env) :: starEach [] env) (hi : insB x = false := by first | rfl | assumption) : BE F ρ (.Compare (.Call (.Name "type" p) [e] [] p3) [.Is] [.Name T p2] pos) (.bool k) ρ1 := by
  obtain ⟨t, p1, e1⟩ := ha
  refine ⟨tOp (fun x y H Q => ∃ a b, x = .ty a ∧ y = .ty b ∧ Q (.bl (decide (a = b))) H) (tCB (rTyp F.K) (tCons t tNil)) (tC (.ty Tn)), fun X hX => ?_, fun C W H0 T O H σ R Q q => e1 C W H0 T O H σ R _ fun v H1 R1 s1 d1 => ?_⟩
  · refine pe_cmpR op_isTyB ?_ (pe_bltn (v := .ty Tn) (hX.gl hgT) (by rw [hX.mg]; exact hmT) hT rfl hnT hdT) (nomark _)
    rw [← hX.K]
    exact pe_callTy call_type1 (hX.gl hg) (by rw [hX.mg]; exact G.type) (by decide +kernel) (pa_cons (p1 X hX) pa_nil (hs _)) (by decide) (by decide) (hs _) rfl
  · refine ⟨v, tyD x, rfl, tyB_mono cut_full (dq_tyB d1 hi), tyD x, Tn, rfl, rfl, ?_⟩
    rw [hk]
    exact q _ H1 R1 s1 (.bl _)
theorem q_tyIsNot {T : Str} {Tn : String} (G : Gs F.mg) (hmT : F.mg T = none) (hT : bootBuiltins T = some (.type Tn)) (ha : BE F ρ e x ρ1) (hk : (!decide (tyD x = Tn)) = k) (hg : F.sc.names.lookup ("type" : Str) = some .globalImplicit) (hgT : F.sc.names.lookup T = some .globalImplicit)
    (hnT : T ≠ "__name__") (hdT : (T == ("__debug__" : Str)) = false) (hs : ∀ env, starEach [e] env = (false, eval e env) :: starEach [] env) (hi : insB x = false := by first | rfl | assumption) : BE F ρ (.Compare (.Call (.Name "type" p) [e] [] p3) [.IsNot] [.Name T p2] pos) (.bool k) ρ1 := by
  obtain ⟨t, p1, e1⟩ := ha
  refine ⟨tOp rNT (tCB (rTyp F.K) (tCons t tNil)) (tC (.ty Tn)), fun X hX => ?_, fun C W H0 T O H σ R Q q => e1 C W H0 T O H σ R _ fun v H1 R1 s1 d1 => ?_⟩
  · refine pe_cmpR op_notTyB ?_ (pe_bltn (v := .ty Tn) (hX.gl hgT) (by rw [hX.mg]; exact hmT) hT rfl hnT hdT) (nomark _)
    rw [← hX.K]
    exact pe_callTy call_type1 (hX.gl hg) (by rw [hX.mg]; exact G.type) (by decide +kernel) (pa_cons (p1 X hX) pa_nil (hs _)) (by decide) (by decide) (hs _) rfl
  · refine ⟨v, tyD x, rfl, tyB_mono cut_full (dq_tyB d1 hi), tyD x, Tn, rfl, rfl, ?_⟩
    rw [hk]
    exact q _ H1 R1 s1 (.bl _)
theorem bt_tyIs {T : Str} {Tn : String} (G : Gs F.mg) (hmT : F.mg T = none) (hT : bootBuiltins T = some (.type Tn)) (ha : BE F ρ e x ρ1) (hk : decide (tyD x = Tn) = k) (hg : F.sc.names.lookup ("type" : Str) = some .globalImplicit) (hgT : F.sc.names.lookup T = some .globalImplicit)
    (hnT : T ≠ "__name__") (hdT : (T == ("__debug__" : Str)) = false) (hs : ∀ env, starEach [e] env = (false, eval e env) :: starEach [] env) (hi : insB x = false := by first | rfl | assumption) : BT F ρ (.Compare (.Call (.Name "type" p) [e] [] p3) [.Is] [.Name T p2] pos) k ρ1 := by
  obtain ⟨t, p1, e1⟩ := ha
  refine ⟨_, fun X hX => pt_cmpR (ta := tCB (rTyp F.K) (tCons t tNil)) op_isTyB ?_ (pe_bltn (v := .ty Tn) (hX.gl hgT) (by rw [hX.mg]; exact hmT) hT rfl hnT hdT) (nomark _), fun C W H0 T O H σ R Q q => e1 C W H0 T O H σ R _ fun v H1 R1 s1 d1 => ?_⟩
  · rw [← hX.K]
    exact pe_callTy call_type1 (hX.gl hg) (by rw [hX.mg]; exact G.type) (by decide +kernel) (pa_cons (p1 X hX) pa_nil (hs _)) (by decide) (by decide) (hs _) rfl
  · refine ⟨v, tyD x, rfl, tyB_mono cut_full (dq_tyB d1 hi), tyD x, Tn, rfl, rfl, k, ?_, q H1 R1 s1⟩
    rw [hk]
theorem bt_tyIsNot {T : Str} {Tn : String} (G : Gs F.mg) (hmT : F.mg T = none) (hT : bootBuiltins T = some (.type Tn)) (ha : BE F ρ e x ρ1) (hk : (!decide (tyD x = Tn)) = k) (hg : F.sc.names.lookup ("type" : Str) = some .globalImplicit) (hgT : F.sc.names.lookup T = some .globalImplicit)
    (hnT : T ≠ "__name__") (hdT : (T == ("__debug__" : Str)) = false) (hs : ∀ env, starEach [e] env = (false, eval e env) :: starEach [] env) (hi : insB x = false := by first | rfl | assumption) : BT F ρ (.Compare (.Call (.Name "type" p) [e] [] p3) [.IsNot] [.Name T p2] pos) k ρ1 := by
  obtain ⟨t, p1, e1⟩ := ha
  refine ⟨_, fun X hX => pt_cmpR (ta := tCB (rTyp F.K) (tCons t tNil)) op_notTyB ?_ (pe_bltn (v := .ty Tn) (hX.gl hgT) (by rw [hX.mg]; exact hmT) hT rfl hnT hdT) (nomark _), fun C W H0 T O H σ R Q q => e1 C W H0 T O H σ R _ fun v H1 R1 s1 d1 => ?_⟩
  · rw [← hX.K]
    exact pe_callTy call_type1 (hX.gl hg) (by rw [hX.mg]; exact G.type) (by decide +kernel) (pa_cons (p1 X hX) pa_nil (hs _)) (by decide) (by decide) (hs _) rfl
  · refine ⟨v, tyD x, rfl, tyB_mono cut_full (dq_tyB d1 hi), tyD x, Tn, rfl, rfl, k, ?_, q H1 R1 s1⟩
    rw [hk]
end
end TC

set_option maxRecDepth 100000
set_option maxHeartbeats 4000000
namespace TC
open PySem PySem.Spec L2
section
variable {F : Fam} {ρ ρ1 ρ2 ρ3 : En} {e a b c : Expr} {es : List Expr} {x y z : PyData} {xs ys zs : List PyData} {pos p apos cpos p2 p3 : Pos} {i j : Int} {k k' : Bool} {ss : List Sl} {ds : List Int} {q q' : Int} {o : Out} {sts sts2 : List Stmt} {st : Stmt}
def asgVal : Stmt → Expr
  | .Assign _ e _ => e
  | _ => .Name "" ⟨0, 0, 0, 0⟩
def ifThen : Stmt → List Stmt
  | .If _ b _ _ => b
  | _ => []
def nth (b : List Stmt) (i : Nat) : Stmt := b.getD i (.Pass ⟨0, 0, 0, 0⟩)
theorem bss_weakB (h : BSs F ρ sts (.bk ρ1)) (w : En.Le ρ1 ρ2) : BSs F ρ sts (.bk ρ2) := by
  obtain ⟨t, p1, e1⟩ := h
  exact ⟨t, p1, fun C W H0 T0 T O H σ D e R k => e1 C W H0 T0 T O H σ D e R fun σ' H' O' T' e' R' s => k σ' H' O' T' e' (R'.weak w) s⟩
theorem atI_last (A : List PyData) (v : PyData) : atI (A ++ [v]) (-1) = some v := by
  unfold atI ixN
  rw [if_neg (by decide), List.length_append, List.length_singleton]
  rw [if_pos (by omega)]
  show (A ++ [v])[((((A.length + 1 : Nat) : Int) + (-1)).toNat)]? = some v
  have e : (((A.length + 1 : Nat) : Int) + (-1)).toNat = A.length := by omega
  rw [e, List.getElem?_append_right (Nat.le_refl _), Nat.sub_self]; rfl
theorem ixN_last (n : Nat) : ixN (n + 1) (-1) = some n := by
  unfold ixN
  rw [if_neg (by decide), if_pos (by omega)]
  congr 1
  omega
theorem set_last (A : List PyData) (v w : PyData) : (A ++ [v]).set A.length w = A ++ [w] := by
  rw [List.set_append_right _ _ (Nat.le_refl _), Nat.sub_self]; rfl
theorem eqv_pair {s t u v : Int} : PyData.eqv (.tuple [.int s, .int t]) (.tuple [.int u, .int v]) = decide (s = u ∧ t = v) := by
  rw [PyData.eqv, PyData.eqvAll, PyData.eqvAll, PyData.eqvAll, eqv_int, eqv_int]
  by_cases h1 : s = u <;> by_cases h2 : t = v <;> simp [h1, h2]
theorem c_eqP {s t u v : Int} : CmpD F .Eq b (.tuple [.int s, .int t]) (.tuple [.int u, .int v]) (decide (s = u ∧ t = v)) := by
  have h := c_eq (F := F) (b := b) (x := .tuple [.int s, .int t]) (y := .tuple [.int u, .int v]) rfl rfl
  rw [eqv_pair] at h; exact h
theorem c_neP {s t u v : Int} : CmpD F .NotEq b (.tuple [.int s, .int t]) (.tuple [.int u, .int v]) (!decide (s = u ∧ t = v)) := by
  have h := c_ne (F := F) (b := b) (x := .tuple [.int s, .int t]) (y := .tuple [.int u, .int v]) rfl rfl
  rw [eqv_pair] at h; exact h
theorem lcomp_map {α : Type} {S : PyData → Option (List Int × Int) → Option PyData → Option (List Int × Int) → Prop} {tm : Option (List Int × Int)} (d f : α → PyData) : ∀ {l : List α}, (∀ a ∈ l, S (d a) tm (some (f a)) tm) → LComp S (l.map d) tm (l.map f) tm
  | [], _ => .nil
  | a :: l, h => .item (h a (by simp)) (lcomp_map d f fun b hb => h b (by simp [hb]))
theorem lcomp_mapI {α : Type} {S : PyData → Option (List Int × Int) → Option PyData → Option (List Int × Int) → Prop} {tm : Option (List Int × Int)} (d : α → PyData) (f : α → Int) {l : List α} (h : ∀ a ∈ l, S (d a) tm (some (.int (f a))) tm) : LComp S (l.map d) tm ((l.map f).map .int) tm := by
  rw [List.map_map]
  exact lcomp_map d _ h
/-- a target tuple of names -/
theorem bg_two (i j : Nat) {k : Nat} {n m : Str} {p1 p2 : Pos} (hN : F.N[i]? = some n := by rfl) (hM : F.N[j]? = some m := by rfl) (hx : Loc F.sc n := by first | exact Or.inl rfl | exact Or.inr rfl) (hy : Loc F.sc m := by first | exact Or.inl rfl | exact Or.inr rfl)
    (hf : F.df = true ∨ F.sc.names.lookup n = some .local := by first | exact Or.inl rfl | exact Or.inr rfl) (hf2 : F.df = true ∨ F.sc.names.lookup m = some .local := by first | exact Or.inl rfl | exact Or.inr rfl) (hcm : F.ex = none := by rfl) : BG F ρ (.Tuple [.Name n p1, .Name m p2] k p) (.tuple [x, y]) ⟨ρ.tm, (ρ.sl.set i (.d x)).set j (.d y)⟩ :=
  bg_tup (bgs_cons (bg_name i hN hx hf) (bgs_cons (bg_name j hM hy hf2) bgs_nil)) hcm
theorem bg_three (i j l : Nat) {k : Nat} {n m r : Str} {p1 p2 p3 : Pos} (hN : F.N[i]? = some n := by rfl) (hM : F.N[j]? = some m := by rfl) (hR : F.N[l]? = some r := by rfl) (hx : Loc F.sc n := by first | exact Or.inl rfl | exact Or.inr rfl) (hy : Loc F.sc m := by first | exact Or.inl rfl | exact Or.inr rfl) (hz : Loc F.sc r := by first | exact Or.inl rfl | exact Or.inr rfl)
    (hf : F.df = true ∨ F.sc.names.lookup n = some .local := by first | exact Or.inl rfl | exact Or.inr rfl) (hf2 : F.df = true ∨ F.sc.names.lookup m = some .local := by first | exact Or.inl rfl | exact Or.inr rfl) (hf3 : F.df = true ∨ F.sc.names.lookup r = some .local := by first | exact Or.inl rfl | exact Or.inr rfl) (hcm : F.ex = none := by rfl) :
    BG F ρ (.Tuple [.Name n p1, .Name m p2, .Name r p3] k p) (.tuple [x, y, z]) ⟨ρ.tm, ((ρ.sl.set i (.d x)).set j (.d y)).set l (.d z)⟩ :=
  bg_tup (bgs_cons (bg_name i hN hx hf) (bgs_cons (bg_name j hM hy hf2) (bgs_cons (bg_name l hR hz hf3) bgs_nil))) hcm
theorem q_append {tm tm' : Option (List Int × Int)} {sl : List Sl} {n : Str} {m : Nat} (hs : lkp F.N sl n = some (m, .own xs)) (h : BE F ⟨tm, sl⟩ e x ⟨tm', sl⟩) (hz : xs.length ≤ 100000) (hv : Vis F.sc n := by first | exact Or.inl rfl | exact Or.inr (Or.inl rfl) | exact Or.inr (Or.inr rfl))
    (hd : (n == ("__debug__" : Str)) = false := by decide) (hcd : (n == ("__classdict__" : Str)) = false := by decide)
    (h1 : ∀ env, attributeBase (.Name n p) "append" env (eval (.Name n p) env) = eval (.Name n p) env := by intro _; rfl)
    (h2 : ∀ env, ((backTo cpos (starEach [e] env)).all (fun x => !x.1) && (backToKw cpos (keywordEach [] env)).all (fun x => x.1.isSome) && decide (([e] : List Expr).length + ([] : List Keyword).length + (if ([] : List Keyword).isEmpty then 0 else 1) < 30)) = true := by intro _; rfl)
    (h3 : (apos.endLine == cpos.line) = true := by rfl) (h4 : ∀ env, starEach [e] env = (false, eval e env) :: starEach [] env := by intro _; rfl) :
    BE F ⟨tm, sl⟩ (.Call (.Attribute (.Name n p) "append" apos) [e] [] cpos) .none ⟨tm', sl.set m (.own (xs ++ [x]))⟩ :=
  be_append m (lkp_get hs).2 h (lkp_get hs).2 hz (lkp_get hs).1 hv hd hcd h1 h2 h3 h4
theorem q_extend {tm tm' : Option (List Int × Int)} {sl : List Sl} {n : Str} {m : Nat} (hs : lkp F.N sl n = some (m, .own xs)) (h : BE F ⟨tm, sl⟩ e (.list ys) ⟨tm', sl⟩) (hz : xs.length + ys.length ≤ 100000) (hv : Vis F.sc n := by first | exact Or.inl rfl | exact Or.inr (Or.inl rfl) | exact Or.inr (Or.inr rfl))
    (hd : (n == ("__debug__" : Str)) = false := by decide) (hcd : (n == ("__classdict__" : Str)) = false := by decide)
    (h1 : ∀ env, attributeBase (.Name n p) "extend" env (eval (.Name n p) env) = eval (.Name n p) env := by intro _; rfl)
    (h2 : ∀ env, ((backTo cpos (starEach [e] env)).all (fun x => !x.1) && (backToKw cpos (keywordEach [] env)).all (fun x => x.1.isSome) && decide (([e] : List Expr).length + ([] : List Keyword).length + (if ([] : List Keyword).isEmpty then 0 else 1) < 30)) = true := by intro _; rfl)
    (h3 : (apos.endLine == cpos.line) = true := by rfl) (h4 : ∀ env, starEach [e] env = (false, eval e env) :: starEach [] env := by intro _; rfl) :
    BE F ⟨tm, sl⟩ (.Call (.Attribute (.Name n p) "extend" apos) [e] [] cpos) .none ⟨tm', sl.set m (.own (xs ++ ys))⟩ :=
  be_extend m (lkp_get hs).2 h (lkp_get hs).2 hz (lkp_get hs).1 hv hd hcd h1 h2 h3 h4
theorem q_retP {tm : Option (List Int × Int)} {sl : List Sl} (h : BE F ⟨tm, sl⟩ e x ⟨tm, sl⟩) : BS F ⟨tm, sl⟩ (.Return (some e) pos) (.ret (.d x) tm) := bs_ret h
theorem bs_asgP {tm : Option (List Int × Int)} {sl : List Sl} {tg : Expr} (h : BE F ⟨tm, sl⟩ e x ⟨tm, sl⟩) (g : BG F ⟨tm, sl⟩ tg x ρ2) (h1 : ∀ X, Fits F X → swapsWithSole [tg] e pos.line X.env = pure false := by intro _ _; rfl) (h2 : ∀ X, Fits F X → swappedStores [tg] e X.env = pure none := by intro _ _; rfl)
    (h3 : ∀ env, (assignEach [tg] env).map (·.2) = [assign tg env] := by intro _; rfl) : BS F ⟨tm, sl⟩ (.Assign [tg] e pos) (.nx ρ2) := bs_asg h g h1 h2 h3
theorem cutD_take {α : Type} (f : α → PyData) (l : List α) {k : Int} (h : 0 ≤ k) : cutD (l.map f) none (some k) = (l.take k.toNat).map f := by
  unfold cutD
  show List.take (HT.sIx (l.map f).length _ (some k) - 0) (List.drop 0 (l.map f)) = _
  rw [List.drop_zero, Nat.sub_zero, List.length_map, List.map_take]
  have e : HT.sIx l.length l.length (some k) = min k.toNat l.length := by
    show (if k < 0 then (k + (l.length : Int)).toNat else min k.toNat l.length) = _
    rw [if_neg (by omega)]
  rw [e]
  rcases Nat.le_total k.toNat l.length with h1 | h1
  · rw [Nat.min_eq_left h1]
  · rw [Nat.min_eq_right h1, List.take_of_length_le (by rw [List.length_map]; omega), List.take_of_length_le (by rw [List.length_map]; exact h1)]
theorem bs_setP {tm : Option (List Int × Int)} {sl : List Sl} (i : Nat) {n : Str} (h : BE F ⟨tm, sl⟩ e x ⟨tm, sl⟩) (hN : F.N[i]? = some n := by rfl) (hx : Loc F.sc n := by first | exact Or.inl rfl | exact Or.inr rfl) (hf : F.df = true ∨ F.sc.names.lookup n = some .local := by first | exact Or.inl rfl | exact Or.inr rfl)
    (hs : ∀ X, Fits F X → swapsWith e (some (.Name n p)) pos.line X.env = pure false := by intro _ _; rfl) : BS F ⟨tm, sl⟩ (.Assign [.Name n p] e pos) (.nx ⟨tm, sl.set i (.d x)⟩) := bs_set i h hN hx hf hs
end
end TC

set_option maxRecDepth 100000
set_option maxHeartbeats 4000000
namespace TC
open PySem PySem.Spec PyProof.Rows L2
/-! ### a tuple times an int, 1 and more -/
theorem tuple_mul1W (l : Addr) (items : Array Value) (n : Nat) (dd : Option Addr) (sl : Array (Option Value)) (u : Tok) :
    Meets (Builtin.«tuple.__mul__» ⟨[.ref l, .int 1 u], []⟩) (fun _ R s => s.heap.get? l = some { cls := .type "tuple", dict := dd, data := .seq items n, slots := sl } ∧
      R (.ok (.ret (Value.ref l))) s) :=
  .of_wp fun prog w A R s h => by
    obtain ⟨hp, g, d, tk, os⟩ := s
    obtain ⟨hl, h⟩ := h
    have f1 := AutoSeq1.idx_int
    wp_walk using wpAny_loadPart' hl
    exact ⟨_, rfl, h⟩
def rRepT1 (K : PySem.W.Frag) : R2 := fun x y H Q => ∃ l k xs, x = .ref l ∧ y = .int k ∧ SqT K H l xs ∧ xs ≠ [] ∧ 1 ≤ k ∧ k ≤ 1000 ∧ xs.length ≤ 1000 ∧ (k = 1 → Q (.ref l) H) ∧ (2 ≤ k → ∀ p, H p = none → Q (.ref p) (upd H p (.tup (List.replicate k.toNat xs).flatten)))
section
variable {X : Cx}
theorem op_repT1 : OpR X (binaryOp .Mult) (rRepT1 X.K) := by
  intro pins s σ H x y v u Q I rx ry h
  obtain ⟨l, k, xs, rfl, rfl, hT, hne, h1, h2, hz, q1, q2⟩ := h
  by_cases hk : 2 ≤ k
  · exact op_repT pins s σ H _ _ v u Q I rx ry ⟨l, k, xs, rfl, rfl, hT, hne, hk, h2, hz, q2 hk⟩
  · have e : k = 1 := by omega
    subst e
    cases rx
    obtain ⟨t, rfl⟩ := ry
    obtain ⟨its, r, ⟨⟨cls, dd, data, sl⟩, ho, hc, n, hd⟩, hs⟩ := I.tuple hT
    simp only at hc hd
    subst hc hd
    refine wpAny_binaryOp_repeat_ref (T := "tuple") (U := "int") (by decide) ⟨_, ho, rfl⟩ (fun s' => typeIs_int s' 1 t) noFill_tuple_mul F.fills_int_mul F.slot_int_rmul repeat_tuple F.slot_int_index.lookup
      (call_meets F.slot_int_rmul (typeIs_int s 1 t) F.entry_int_rmul (F.args_int_rmul_2 _ _) (int_rmul_tuple 1 t l its.toArray n dd sl)
        ⟨ho, rfl, ⟨_, ho, rfl⟩, call_meets F.slot_tuple_mul ⟨_, ho, rfl⟩ F.entry_tuple_mul (F.args_tuple_mul_2 _ _) (tuple_mul1W l its.toArray n dd sl t) ⟨ho, ?_⟩⟩)
    exact ⟨.ref l, H, I, rfl, q1 rfl⟩
end
section
variable {F : Fam} {ρ ρ1 ρ2 ρ3 : En} {e a b c : Expr} {es : List Expr} {x y z : PyData} {xs ys zs : List PyData} {pos p apos cpos p2 p3 : Pos} {i j : Int} {k k' : Bool} {ss : List Sl} {ds : List Int} {q q' : Int} {o : Out} {sts sts2 : List Stmt} {st : Stmt}
theorem be_repT {k : Int} (ha : BE F ρ a (.tuple xs) ρ1) (hb : BE F ρ1 b (.int k) ρ2) (hne : xs ≠ []) (hk : 1 ≤ k) (hk2 : k ≤ 1000) (hz : xs.length ≤ 1000) : BE F ρ (.BinOp a .Mult b pos) (.tuple (List.replicate k.toNat xs).flatten) ρ2 :=
  be_bin (r := rRepT1 F.K) (fun X hX => by rw [← hX.K]; exact op_repT1) ha hb fun O H v w al d1 d2 Q q => by
    cases d2
    cases d1 with
    | @tup a1 us _ g1 g2 =>
      have hu := dpa_len g2
      refine ⟨a1, k, us, rfl, rfl, seqT_mono cut_full g1, fun z => hne (List.eq_nil_of_length_eq_zero (by rw [← hu, z]; rfl)), hk, hk2, by rw [hu]; exact hz, fun e => ?_, fun _ p hp => ?_⟩
      · subst e
        have : (List.replicate (1 : Int).toNat xs).flatten = xs := by simp
        exact q _ H Same.rfl' (this.symm ▸ .tup g1 g2)
      · exact q _ _ (same_new hp) (.tup (.inl (.inl (cut_some.mpr ⟨fun z => al _ z hp, upd_same⟩))) (dpa_mono (cut_same (same_new hp)) _ _ (dqa_rep g2 _)))
/-- .. in name = len([..]) -/
def lcSc2 : Stmt → Scope
  | .Assign _ (.Call _ [.ListComp _ _ s _] _ _) _ => s
  | _ => default
def lcIf2 : Stmt → Expr
  | .Assign _ (.Call _ [.ListComp _ [c] _ _] _ _) _ => c.ifs.headD (.Name "" ⟨0, 0, 0, 0⟩)
  | _ => .Name "" ⟨0, 0, 0, 0⟩
theorem sw_cell {F : Fam} {X : Cx} {n : Str} {elt : Expr} {gs : List Comprehension} {scope : Scope} {pos py : Pos} {l : Nat} (hX : Fits F X) (hy : F.sc.names.lookup n = some .cell) : swapsWith (.ListComp elt gs scope pos) (some (.Name n py)) l X.env = pure false := by
  have h : X.env.kindOf n = some .cell := by
    show X.env.scope.names.lookup n = _
    rw [hX.sc]; exact hy
  show (pure (X.env.blockKind == .function && X.env.kindOf n == some .local && py.line == pos.line && !(scope.names.any fun (m, k) => m == n && (k == .local || k == .cell))) : Sem Bool) = pure false
  rw [h]
  have e : ((some NameKind.cell : Option NameKind) == some NameKind.local) = false := by decide
  rw [e, Bool.and_false, Bool.false_and, Bool.false_and]
/-- the comprehension in a returned call: its scope, its test -/
def lcSc : Stmt → Scope
  | .Return (some (.Call _ [.ListComp _ _ s _] _ _)) _ => s
  | _ => default
def lcIf : Stmt → Expr
  | .Return (some (.Call _ [.ListComp _ [c] _ _] _ _)) _ => c.ifs.headD (.Name "" ⟨0, 0, 0, 0⟩)
  | _ => .Name "" ⟨0, 0, 0, 0⟩
/-- max of a list of ints -/
theorem q_maxL {ns : List Int} {m : Int} (G : Gs F.mg) (ha : BE F ρ e (.list (ns.map .int)) ρ1) (hm : m ∈ ns) (hM : ∀ y ∈ ns, y ≤ m) (hcm : F.ex = none := by rfl) (hg : F.sc.names.lookup ("max" : Str) = some .globalImplicit) (hs : ∀ env, starEach [e] env = (false, eval e env) :: starEach [] env) : BE F ρ (.Call (.Name "max" p) [e] [] pos) (.int m) ρ1 :=
  be_cr (r := rMax F.K) (.inl ⟨"max", fun X hX => by rw [← hX.K]; exact cr_max (hX.calm hcm), by decide +kernel⟩) G.max (bd1 ha hs) (fun O H vs _ d Q q => by
    obtain ⟨v, rfl, d1⟩ := dqa1 d
    cases d1 with
    | @lst a us _ g1 g2 =>
      have eu := dpa_intsV g2
      subst eu
      refine ⟨a, ns, rfl, SqL.of (cut_some.mp g1).2, List.length_pos_of_mem hm, fun m' h1 h2 => ?_⟩
      have : m' = m := Int.le_antisymm (hM m' h1) (h2 m hm)
      subst this
      exact q _ H Same.rfl' (.int _)) hg (by decide) (by decide) hs (fun _ => rfl)
theorem lcomp_filter {α : Type} {S : PyData → Option (List Int × Int) → Option PyData → Option (List Int × Int) → Prop} {tm : Option (List Int × Int)} (d f : α → PyData) (pr : α → Bool) : ∀ {l : List α}, (∀ a ∈ l, pr a = true → S (d a) tm (some (f a)) tm) → (∀ a ∈ l, pr a = false → S (d a) tm none tm) → LComp S (l.map d) tm ((l.filter pr).map f) tm
  | [], _, _ => .nil
  | a :: l, h, h2 => by
    have ih := lcomp_filter (S := S) (tm := tm) d f pr (l := l) (fun b hb => h b (by simp [hb])) (fun b hb => h2 b (by simp [hb]))
    cases e : pr a with
    | true =>
      rw [List.filter_cons_of_pos e]
      exact .item (h a (by simp) e) ih
    | false =>
      rw [List.filter_cons_of_neg (by rw [e]; decide)]
      exact .skip (h2 a (by simp) e) ih
end
end TC

set_option maxRecDepth 100000
set_option maxHeartbeats 4000000
/-! ### t[::-1], a tuple -/
namespace TC.RvT
open PySem PySem.Spec PyProof.Rows L2 HT
variable {prog : Program} {w : World} {A : Around} {E : Value → Shared → Prop} {s : Shared}
theorem sliceApplied_rev {sl : Addr} {vs : Value} {n : Nat} {Q : Int × Int × Nat → Shared → Prop} (hs : s.heap.IsSliceOf sl .none .none vs) (ps : IsPart vs (some (-1)))
    (h : Q ((n : Int) - 1, -1, n) s) : wpAny (model prog w) A (Builtin.Slice.sliceApplied (.ref sl) (pure (n : Int))) Q E s := by
  obtain ⟨os, hos, hcs, hds⟩ := id hs
  unfold Builtin.Slice.sliceApplied Builtin.Slice.sliceFields
  refine wpAny_bind (wpAny_bind (wpAny_field hos hds (x := .none) rfl (wpAny_bind (wpAny_field hos hds (x := .none) rfl (wpAny_bind (wpAny_field hos hds (x := vs) rfl (wpAny_pure ?_)))))))
  refine wpAny_bind (slicePart_ ps ?_)
  show wpAny _ _ (if ((-1 : Int) == 0) = true then _ else _) _ _ s
  rw [if_neg (by decide)]
  refine wpAny_bind (slicePart_none (wpAny_bind (slicePart_none (wpAny_bind (wpAny_pure ?_)))))
  show wpAny _ _ (match Builtin.Slice.sliceAdjust none none (-1) (n : Int) with | (lo, hi) => pure (lo, (-1 : Int), Builtin.Slice.slicePlaces lo hi (-1))) _ _ s
  have e1 : Builtin.Slice.sliceAdjust none none (-1) (n : Int) = ((n : Int) - 1, -1) := rfl
  rw [e1]
  show wpAny _ _ (pure ((n : Int) - 1, (-1 : Int), Builtin.Slice.slicePlaces ((n : Int) - 1) (-1) (-1))) _ _ s
  have e2 : Builtin.Slice.slicePlaces ((n : Int) - 1) (-1) (-1) = n := by
    unfold Builtin.Slice.slicePlaces
    rw [if_neg (by decide)]
    by_cases hn : n = 0
    · subst hn; rfl
    · rw [if_pos (by omega)]
      have : ((n : Int) - 1 - -1 - 1) / (- -1) + 1 = n := by
        have e : (- (-1 : Int)) = 1 := rfl
        rw [e, Int.ediv_one]; omega
      rw [this]; omega
  rw [e2]
  exact wpAny_pure h
theorem pick_rev (xs : Array Value) : ((List.range xs.size).filterMap fun (k : Nat) => xs[((xs.size : Int) - 1 + (k : Int) * (-1)).toNat]?).toArray = xs.toList.reverse.toArray := by
  congr 1
  have e : ((List.range xs.size).filterMap fun (k : Nat) => xs[((xs.size : Int) - 1 + (k : Int) * (-1)).toNat]?) = (List.range xs.size).filterMap fun k => xs.toList.reverse[k]? := by
    have key : ∀ l : List Nat, (∀ k ∈ l, k < xs.size) → (l.filterMap fun (k : Nat) => xs[((xs.size : Int) - 1 + (k : Int) * (-1)).toNat]?) = l.filterMap fun k => xs.toList.reverse[k]? := fun l hl => by
      induction l with
      | nil => rfl
      | cons k l ih =>
        have hk := hl k (by simp)
        have e1 : ((xs.size : Int) - 1 + (k : Int) * (-1)).toNat = xs.size - 1 - k := by omega
        have e2 : xs[((xs.size : Int) - 1 + (k : Int) * (-1)).toNat]? = xs.toList.reverse[k]? := by
          rw [e1, List.getElem?_reverse (by rw [Array.length_toList]; exact hk), Array.length_toList, Array.getElem?_toList]
        rw [List.filterMap_cons, List.filterMap_cons, e2, ih fun j hj => hl j (by simp [hj])]
    exact key _ fun k hk => List.mem_range.mp hk
  rw [e]
  have key : ∀ (l : List Value), ((List.range l.length).filterMap fun k => l[k]?) = l := fun l => by
    induction l with
    | nil => rfl
    | cons x l ih =>
      rw [List.length_cons, List.range_succ_eq_map, List.filterMap_cons, List.filterMap_map]
      show x :: _ = _
      congr 1
  have := key xs.toList.reverse
  rw [List.length_reverse, Array.length_toList] at this
  exact this
theorem getItem_tuple_rev {t sl : Addr} {items : Array Value} {vs : Value} {Q : Value → Shared → Prop} (ht : IsTup s.heap t items) (hs : s.heap.IsSliceOf sl .none .none vs) (ps : IsPart vs (some (-1)))
    (h : Q (.ref s.heap.objs.size) { s with heap := s.heap.push { cls := .type "tuple", data := .seq items.toList.reverse.toArray } })
    (hsz : items.size ≤ sizeLine) : wpAny (model prog w) A (getItem (.ref t) (.ref sl)) Q E s := by
  have htake : sizeOk (.seq items.toList.reverse.toArray) := by
    show items.toList.reverse.toArray.size ≤ sizeLine
    rw [List.size_toArray, List.length_reverse, Array.length_toList]; exact hsz
  obtain ⟨os, hos, hcs, hds⟩ := id hs
  have hTs : s.TypeIs (.ref sl) "slice" := ⟨os, hos, hcs⟩
  unfold getItem
  try with_reducible refine wpAny_holding ?_
  first | refine wpAny_bind (wpAny_pure ?_) | skip
  refine wpAny_bind (wpAny_sequenceKey ht.typeIs (by decide) ?_)
  refine wpAny_bind (wpAny_callSpecial?_slot (name := Str.ofString "__getitem__") ht.typeIs PyProof.Rows.slot_tuple_getitem
    (wpAny_call_entry PyProof.Rows.slot_tuple_getitem ht.typeIs entry_tuple_getitem ?_ (args_tuple_getitem _ _)))
  show wpAny _ _ (Builtin.Tuple.tupleItemsOf (.ref t) >>= _) _ _ s
  refine wpAny_bind (tupleItemsOf_ ht ?_)
  refine wpAny_bind (wpAny_typeOf hTs ?_)
  rw [if_pos (by decide)]
  refine wpAny_bind (sliceApplied_rev hs ps ?_)
  have hno : ¬ ((((items.size : Int) - 1) == 0 && (-1 : Int) == 1 && items.size == items.size) = true) := by
    rw [show ((-1 : Int) == 1) = false from rfl, Bool.and_false, Bool.false_and]; decide
  show wpAny _ _ (if (((items.size : Int) - 1) == 0 && (-1 : Int) == 1 && items.size == items.size) = true then _ else _) _ _ s
  rw [if_neg hno, pick_rev]
  first
    | exact wpAny_bind (m := Builtin.Tuple.tupleExact _) (wpAny_newObj_type (wpAny_pure ⟨_, rfl, wpAny_pure h⟩) htake)
    | exact wpAny_bind (m := Builtin.Tuple.tupleExact _) (wpAny_newObj_type (wpAny_bind (wpAny_pure (wpAny_pure ⟨_, rfl, wpAny_pure h⟩))) htake)
    | exact wpAny_bind (wpAny_bind (m := Builtin.Tuple.tupleExact _) (wpAny_newObj_type (wpAny_pure (wpAny_pure ⟨_, rfl, wpAny_pure h⟩)) htake))
    | exact wpAny_bind (wpAny_bind (m := Builtin.Tuple.tupleExact _) (wpAny_newObj_type (wpAny_pure ⟨_, rfl, wpAny_pure h⟩) htake))
end TC.RvT
namespace TC
open PySem PySem.Spec PyProof.Rows L2
def boolFst : Expr → Expr
  | .BoolOp _ (e :: _) _ => e
  | e => e
def boolArgs : Expr → List Expr
  | .BoolOp _ es _ => es
  | _ => []
def boolPos : Expr → Pos
  | .BoolOp _ _ p => p
  | _ => ⟨0, 0, 0, 0⟩
def lstAt : Expr → Nat → Expr
  | .List es _, i => es.getD i (.Name "" ⟨0, 0, 0, 0⟩)
  | e, _ => e
def tupAt : Expr → Nat → Expr
  | .Tuple es _ _, i => es.getD i (.Name "" ⟨0, 0, 0, 0⟩)
  | e, _ => e
def callAt : Expr → Nat → Expr
  | .Call _ es _ _, i => es.getD i (.Name "" ⟨0, 0, 0, 0⟩)
  | e, _ => e
def retVal : Stmt → Expr
  | .Return (some e) _ => e
  | _ => .Name "" ⟨0, 0, 0, 0⟩
def tRevT (K : PySem.W.Frag) (te : TE) : TE := fun σ H Q => te σ H fun x H1 => ∃ a xs, x = .ref a ∧ SqT K H1 a xs ∧ ∀ p, H1 p = none → Q (.ref p) (upd H1 p (.tup xs.reverse))
theorem pe_revT {X : Cx} {e : Expr} {te : TE} {k : Nat} {p1 p2 p3 pos : Pos} (he : PE X e te) : PE X (.Subscript e (.Slice none none (some (.UnaryOp .USub (.Constant (.int 1) k p1) p2)) p3) pos) (tRevT X.K te) := by
  refine ⟨fun pins s σ H Q I h => ?_⟩
  refine Subscript_ (thn (he.run pins s σ H _ I h) fun v s1 ⟨x, H1, I1, r1, q1⟩ => ?_)
  obtain ⟨a, xs, ex, hx, q⟩ := q1
  subst ex
  cases r1
  have hst : PO X (some (.UnaryOp .USub (.Constant (.int 1) k p1) p2)) (tPart (tUn (rU fun i => .int (-i)) (tC (.int 1)))) := po_some (pe_un un_neg pe_int)
  refine wpAny_Slice (thn (po_none.run pins s1 σ H1 (fun o H2 => o = none ∧ H2 = H1) I1 ⟨rfl, rfl⟩) fun vl s2 ⟨l, H2, I2, pl, el, e2⟩ => ?_)
  subst el e2
  refine thn (po_none.run pins s2 σ H2 (fun o H3 => o = none ∧ H3 = H2) I2 ⟨rfl, rfl⟩) fun vu s3 ⟨u, H3, I3, pu, eu, e3⟩ => ?_
  subst eu e3
  refine thn (hst.run pins s3 σ H3 (fun o H4 => o = some (-1) ∧ H4 = H3) I3 ⟨1, rfl, -1, rfl, rfl, rfl⟩) fun vs s4 ⟨o, H4, I4, ps, eo, e4⟩ => ?_
  subst eo e4
  have I5 : Inv X pins σ H4 { s4 with heap := s4.heap.push { cls := .type "slice", data := .fields #[vl, vu, vs] } } := I4.kept (t' := s4.toks) fun b ob q => Heap.get?_push_of_some _ q
  obtain ⟨its, r, ht, hz⟩ := I5.tuple hx
  have hlen := r.length
  cases pl
  cases pu
  show wpAny (model X.prog X.w) X.A (subscriptTail e (.Slice none none (some (.UnaryOp .USub (.Constant (.int 1) k p1) p2)) p3) (.ref a) (.ref s4.heap.objs.size)) (EP X pins σ Q) X.xe { s4 with heap := s4.heap.push { cls := .type "slice", data := .fields #[.none, .none, vs] } }
  refine tail_any (ops := [.ref a, .ref s4.heap.objs.size]) ht.typeIs (PyProof.Rows.slot_tuple_getitem.lookup) ?_ (by with_unfolding_all rfl)
  refine RvT.getItem_tuple_rev ht (Heap.IsSliceOf.new _ .none .none vs) ps ?_ (by rw [List.size_toArray]; omega)
  refine ⟨.ref _, _, I5.laid (t' := s4.toks) (o := .tup xs.reverse) (fun b ob q => Heap.get?_push_of_some _ q) (Nat.le_refl _) ?_, rfl, q _ (I5.hok.fresh (Nat.le_refl _))⟩
  exact ⟨by rw [List.length_reverse]; exact hz, its.reverse, r.reverse, IsTup.new _ _⟩
theorem dqa_rev {K : PySem.W.Frag} {H : Hp} : ∀ {xs : List PyData} {vs : List V}, DqA K H vs xs → DqA K H vs.reverse xs.reverse
  | [], _, h => by cases h; exact .nil
  | x :: xs, _, h => by
    cases h with
    | cons h1 h2 => rw [List.reverse_cons, List.reverse_cons]; exact dpa_app (dqa_rev h2) (.cons h1 .nil)
section
variable {F : Fam} {ρ ρ1 ρ2 ρ3 : En} {e a b c : Expr} {es : List Expr} {x y z : PyData} {xs ys zs : List PyData} {pos p apos cpos p1 p2 p3 : Pos} {i j : Int} {k k' : Bool}
theorem be_revT {kc : Nat} (ha : BE F ρ a (.tuple xs) ρ1) : BE F ρ (.Subscript a (.Slice none none (some (.UnaryOp .USub (.Constant (.int 1) kc p1) p2)) p3) pos) (.tuple xs.reverse) ρ1 := by
  obtain ⟨t, p, e1⟩ := ha
  refine ⟨tRevT F.K t, fun X hX => by rw [← hX.K]; exact pe_revT (p X hX), fun C W H0 T O H σ R Q q => e1 C W H0 T O H σ R _ fun v H1 R1 s1 d1 => ?_⟩
  cases d1 with
  | @tup a1 us _ g1 g2 =>
    refine ⟨a1, us, rfl, seqT_mono cut_full g1, fun p hp => ?_⟩
    have s2 : Same H1 (upd H1 p (.tup us.reverse)) := same_new hp
    exact q _ _ (R1.grow s2) (s1.trans (cut_same s2)) (.tup (.inl (.inl (cut_some.mpr ⟨R1.nof hp, upd_same⟩))) (dpa_mono (cut_same s2) _ _ (dqa_rev g2)))
/-- a list unpacked -/
theorem bg_lst {k : Nat} (h : BGs F ρ es xs ρ1) (hcm : F.ex = none := by rfl) (hl : ∀ env, (assignEach es env).length = xs.length := by intro _; rfl) (hst : ∀ env, (assignEach es env).findIdx? (·.1) = none := by intro _; rfl) : BG F ρ (.Tuple es k p) (.list xs) ρ1 := by
  obtain ⟨g, p1, e1⟩ := h
  refine ⟨gLst F.K xs.length g, fun X hX => ?_, fun C W H0 T O H σ R v d Q q => ?_⟩
  · have h := pg_lst (X := X) (pos := p) (k := k) (hX.calm hcm) (p1 X hX) (hl _) (hst _)
    rw [hX.K] at h
    exact h
  · cases d with
    | @lst a vs _ g1 g2 => exact ⟨a, vs, rfl, SqL.of (cut_some.mp g1).2, dpa_len g2, e1 C W H0 T O H σ R vs g2 Q q⟩
/-- len of a list of one's own -/
theorem q_lenO {n : Str} {m : Nat} (G : Gs F.mg) (hs : lkp F.N ρ.sl n = some (m, .own xs)) (hg : F.sc.names.lookup ("len" : Str) = some .globalImplicit) (hv : Vis F.sc n := by first | exact Or.inl rfl | exact Or.inr (Or.inl rfl) | exact Or.inr (Or.inr rfl))
    (hd : (n == ("__debug__" : Str)) = false := by decide) (hcd : (n == ("__classdict__" : Str)) = false := by decide) : BE F ρ (.Call (.Name "len" p) [.Name n p2] [] pos) (.int xs.length) ρ := by
  refine ⟨tCB (fun vs H Q => ∃ p ys, vs = [.ref p] ∧ (SqL F.K H p ys ∨ SqT F.K H p ys) ∧ Q (.int ys.length) H) (tCons (tVar m) tNil), fun X hX => ?_, fun C W H0 T O H σ R Q q => ?_⟩
  · have h := call_len_seq (X := X)
    rw [hX.K] at h
    exact pe_callB h (hX.gl hg) (by rw [hX.mg]; exact G.len) PySem.boot_len (pa_cons (pe_var (by rw [hX.N]; exact (lkp_get hs).1) (hX.vis hv) hd hcd) pa_nil rfl) (by decide) (by decide) rfl rfl
  · obtain ⟨a, vs, e1, o1, c1, t1, h1, d⟩ := R.sl m _ (lkp_get hs).2
    refine ⟨_, e1, a, vs, rfl, .inl (SqL.of h1), ?_⟩
    rw [dpa_len d]
    exact q _ H R Same.rfl' (.int _)
end
end TC
namespace TC
open PySem PySem.Spec L2
/-! ### digits of a cell, the other way -/
def dig2 (c : Int) (j : Int) : Int := ((c * 48271 + j * 69621 + 1) % 2147483647 * ((c * 48271 + j * 69621 + 1) % 2147483647) + (c * 48271 + j * 69621 + 1) % 2147483647 * 40692) % 2147483399 / 7
def dst2 (c : Int) : Nat → Int × List Int
  | 0 => (c, [])
  | j + 1 => if (10 : Int) ^ Int.toNat 18 ≤ c then ((dst2 c j).1 / 1009, (dst2 c j).2 ++ [(dst2 c j).1 % 1009]) else ((dst2 c j).1, (dst2 c j).2 ++ [dig2 c j])
def draws2 (c : Int) (m : Nat) : List Int := (dst2 c m).2
theorem dst2_pos {c : Int} {j : Nat} (h : (10 : Int) ^ Int.toNat 18 ≤ c) : dst2 c (j + 1) = ((dst2 c j).1 / 1009, (dst2 c j).2 ++ [(dst2 c j).1 % 1009]) := by rw [dst2, if_pos h]
theorem dst2_neg {c : Int} {j : Nat} (h : ¬ (10 : Int) ^ Int.toNat 18 ≤ c) : dst2 c (j + 1) = ((dst2 c j).1, (dst2 c j).2 ++ [dig2 c j]) := by rw [dst2, if_neg h]
theorem dst2_len (c : Int) : ∀ j : Nat, (dst2 c j).2.length = j
  | 0 => rfl
  | j + 1 => by
    by_cases h : (10 : Int) ^ Int.toNat 18 ≤ c
    · rw [dst2_pos h, List.length_append, dst2_len c j]; rfl
    · rw [dst2_neg h, List.length_append, dst2_len c j]; rfl
theorem draws2_len (c : Int) (m : Nat) : (draws2 c m).length = m := dst2_len c m
theorem dst2_nn (c : Int) : ∀ j : Nat, ∀ d ∈ (dst2 c j).2, 0 ≤ d
  | 0 => fun d h => by simp [dst2] at h
  | j + 1 => fun d hd => by
    by_cases h : (10 : Int) ^ Int.toNat 18 ≤ c
    · rw [dst2_pos h] at hd
      rcases List.mem_append.mp hd with q | q
      · exact dst2_nn c j d q
      · have : d = (dst2 c j).1 % 1009 := by simpa using q
        rw [this]; exact Int.emod_nonneg _ (by decide)
    · rw [dst2_neg h] at hd
      rcases List.mem_append.mp hd with q | q
      · exact dst2_nn c j d q
      · have : d = dig2 c j := by simpa using q
        rw [this]
        exact Int.ediv_nonneg (Int.emod_nonneg _ (by decide)) (by decide)
theorem draws2_nn (c : Int) (m : Nat) : ∀ d ∈ draws2 c m, 0 ≤ d := dst2_nn c m
def RlDraws2 : List Sl → Res → Prop := fun ss r => ∃ (c : Int) (m : Nat), ss = [.d (.int c), .d (.int m)] ∧ m ≤ 1000 ∧ r = .l ((draws2 c m).map .int)
end TC
namespace TC
open PySem PySem.Spec L2
theorem cutD_map {α : Type} (f : α → PyData) (l : List α) (lo hi : Option Int) : ∃ l' : List α, cutD (l.map f) lo hi = l'.map f ∧ (∀ x ∈ l', x ∈ l) ∧ l'.length ≤ l.length := by
  unfold cutD
  refine ⟨(l.drop (HT.sIx (l.map f).length 0 lo)).take (HT.sIx (l.map f).length (l.map f).length hi - HT.sIx (l.map f).length 0 lo), ?_, fun x hx => List.mem_of_mem_drop (List.mem_of_mem_take hx), ?_⟩
  · rw [List.map_take, List.map_drop]
  · rw [List.length_take, List.length_drop]; omega
theorem cutD_drop {α : Type} (f : α → PyData) (l : List α) {k : Int} (h : 0 ≤ k) : cutD (l.map f) (some k) none = (l.drop k.toNat).map f := by
  unfold cutD
  have e : HT.sIx (l.map f).length 0 (some k) = min k.toNat (l.map f).length := by
    show (if k < 0 then (k + ((l.map f).length : Int)).toNat else min k.toNat (l.map f).length) = _
    rw [if_neg (by omega)]
  have e2 : HT.sIx (l.map f).length (l.map f).length none = (l.map f).length := rfl
  rw [e, e2, List.map_drop]
  rcases Nat.le_total k.toNat (l.map f).length with h1 | h1
  · rw [Nat.min_eq_left h1, List.take_of_length_le (by rw [List.length_drop]; omega)]
  · rw [Nat.min_eq_right h1, Nat.sub_self, List.take_zero, List.drop_eq_nil_of_le h1]
end TC

set_option maxRecDepth 100000
set_option maxHeartbeats 4000000
/-! Deeds, as plain mathematics and as data. -/
namespace DM
open PySem PySem.Spec L2 TC
abbrev De := Str × List Int
def deD (d : De) : PyData := .tuple (.str d.1 :: d.2.map .int)
def dsD (l : List De) : List PyData := l.map deD
def names : List Str := ["found", "train", "save", "crash", "evaluate", "stop", "drop", "copy"]
def Ok (d : De) : Prop := d.1 ∈ names ∧ 1 ≤ d.2.length ∧ (d.1 = "copy" → 3 ≤ d.2.length) ∧ d.2.length ≤ 10
def dep (d e : De) : Bool := decide (d.1 = "copy") && ((([.str "found", .str "save"] : List PyData).any fun z => PyData.eqv z (.str e.1)) && decide (d.2.getD 2 0 = e.2.getD 0 0))
def ind (d e : De) : Bool := if (decide (d.1 = "drop") || (decide (e.1 = "drop") || decide (d.2.getD 0 0 = e.2.getD 0 0))) = true then false else !dep d e && !dep e d
theorem names_ok : ∀ n ∈ names, SeqAt.shaped (.str n) = true := by decide +kernel
theorem at0 {n : Str} {l : List Int} : atI (.str n :: l.map PyData.int) 0 = some (.str n) := atI_nn (by decide) rfl
theorem at1 {n : Str} {l : List Int} (j : Nat) (i : Int) (hi : i = (j : Int) + 1) (h : j < l.length) : atI (.str n :: l.map PyData.int) i = some (.int (l.getD j 0)) := by
  refine atI_nn (by omega) ?_
  have e : i.toNat = j + 1 := by omega
  rw [e, List.getElem?_cons_succ, List.getElem?_map, List.getElem?_eq_getElem h, List.getD_eq_getElem?_getD, List.getElem?_eq_getElem h]
  rfl
def okN (n : Str) (m : Nat) : Bool := decide (n ∈ names) && decide (1 ≤ m) && (!decide (n = "copy") || decide (3 ≤ m)) && decide (m ≤ 10)
theorem ok_of {n : Str} {l : List Int} (m : Nat) (hl : l.length = m) (h : okN n m = true) : Ok (n, l) := by
  subst hl
  simp only [okN, Bool.and_eq_true, Bool.or_eq_true, decide_eq_true_eq, Bool.not_eq_true', decide_eq_false_iff_not] at h
  exact ⟨h.1.1.1, h.1.1.2, fun e => h.1.2.resolve_left fun z => z e, h.2⟩
def OkS (l : List De) : Prop := (∀ d ∈ l, Ok d) ∧ l.length ≤ 1000
theorem deD_shp {d : De} (h : Ok d) : shp 2 (deD d) := by
  refine ⟨by show (d.2.map PyData.int).length + 1 ≤ _; rw [List.length_map]; have := h.2.2.2; omega, fun y hy => ?_⟩
  rcases List.mem_cons.mp hy with rfl | hy
  · exact names_ok _ h.1
  · obtain ⟨i, _, rfl⟩ := List.mem_map.mp hy
    trivial
theorem dsD_shp {l : List De} (h : OkS l) : shp 3 (.tuple (dsD l)) := by
  refine ⟨by unfold dsD; rw [List.length_map]; have := h.2; omega, fun y hy => ?_⟩
  obtain ⟨d, hd, rfl⟩ := List.mem_map.mp hy
  exact deD_shp (h.1 d hd)
theorem dsD_shpL {l : List De} (h : OkS l) : shp 3 (.list (dsD l)) := by
  refine ⟨by unfold dsD; rw [List.length_map]; have := h.2; omega, fun y hy => ?_⟩
  obtain ⟨d, hd, rfl⟩ := List.mem_map.mp hy
  exact deD_shp (h.1 d hd)
theorem dsD_get {l : List De} {i : Nat} {d : De} (h : l[i]? = some d) : (dsD l)[i]? = some (deD d) := by
  unfold dsD; rw [List.getElem?_map, h]; rfl
theorem dsD_at {l : List De} {i : Nat} {d : De} {j : Int} (h : l[i]? = some d) (hj : j = (i : Int)) : atI (dsD l) j = some (deD d) := atI_nn (by omega) (by
  have e : j.toNat = i := by omega
  rw [e]; exact dsD_get h)
theorem dsD_len (l : List De) : (dsD l).length = l.length := List.length_map _
/-! ### exchanges -/
def isW : PyData → Int → Int → Bool
  | .int i, lo, hi => decide (lo ≤ i) && decide (i ≤ hi)
  | _, _, _ => false
def swp (l : List De) (i : Nat) : List De := (l.set i (l.getD (i + 1) ("", []))).set (i + 1) (l.getD i ("", []))
def stepX (row : List De) (i : Int) : Option (List De) := if isW (.int i) 0 ((row.length : Int) - 2) = true then (if ind (row.getD i.toNat ("", [])) (row.getD (i.toNat + 1) ("", [])) = true then some (swp row i.toNat) else none) else none
def stepJ (row : List De) : PyData → Option (List De)
  | .int i => stepX row i
  | _ => none
theorem isW_int {i lo hi : Int} : isW (.int i) lo hi = true ↔ lo ≤ i ∧ i ≤ hi := by
  show (decide (lo ≤ i) && decide (i ≤ hi)) = true ↔ _
  rw [Bool.and_eq_true, decide_eq_true_eq, decide_eq_true_eq]
def runJ : List De → List PyData → Option (List De)
  | row, [] => some row
  | row, x :: xs => match stepJ row x with
    | some r => runJ r xs
    | none => none
def judge (deeds others : List De) (x : PyData) : Bool := match x with
  | .tuple ps => match runJ deeds ps with
    | some row => PyData.eqvAll (dsD row) (dsD others)
    | none => false
  | _ => false
theorem swp_len (l : List De) (i : Nat) : (swp l i).length = l.length := by unfold swp; rw [List.length_set, List.length_set]
theorem swp_ok {l : List De} {i : Nat} (h : OkS l) (hi : i + 1 < l.length) : OkS (swp l i) := by
  refine ⟨fun d hd => ?_, by rw [swp_len]; exact h.2⟩
  unfold swp at hd
  have m1 : l.getD (i + 1) ("", []) ∈ l := by rw [List.getD_eq_getElem?_getD, List.getElem?_eq_getElem hi]; exact List.getElem_mem _
  have m2 : l.getD i ("", []) ∈ l := by rw [List.getD_eq_getElem?_getD, List.getElem?_eq_getElem (by omega)]; exact List.getElem_mem _
  rcases List.mem_or_eq_of_mem_set hd with hd | rfl
  · rcases List.mem_or_eq_of_mem_set hd with hd | rfl
    · exact h.1 d hd
    · exact h.1 _ m1
  · exact h.1 _ m2
theorem getD_get {l : List De} {i : Nat} (h : i < l.length) : l[i]? = some (l.getD i ("", [])) := by
  rw [List.getD_eq_getElem?_getD, List.getElem?_eq_getElem h]; rfl
theorem getD_ok {l : List De} {i : Nat} (h : OkS l) (hi : i < l.length) : Ok (l.getD i ("", [])) := by
  rw [List.getD_eq_getElem?_getD, List.getElem?_eq_getElem hi]
  exact h.1 _ (List.getElem_mem _)
theorem swp_dsD (l : List De) (i : Nat) : dsD (swp l i) = ((dsD l).set i (deD (l.getD (i + 1) ("", [])))).set (i + 1) (deD (l.getD i ("", []))) := by
  unfold swp dsD
  rw [List.map_set, List.map_set]
end DM
namespace DM
open PySem PySem.Spec L2 TC
theorem swp_cut : ∀ {l : List De} {i : Nat}, i + 1 < l.length → l.take i ++ [l.getD (i + 1) ("", []), l.getD i ("", [])] ++ l.drop (i + 2) = swp l i
  | [], _, h => by simp at h
  | [_], i, h => by simp at h
  | a :: b :: l, 0, _ => rfl
  | a :: b :: l, i + 1, h => by
    have ih := swp_cut (l := b :: l) (i := i) (by simpa using h)
    show a :: ((b :: l).take i ++ [(b :: l).getD (i + 1) ("", []), (b :: l).getD i ("", [])] ++ (b :: l).drop (i + 2)) = a :: swp (b :: l) i
    rw [ih]
theorem cut_swp {l : List De} {i : Int} (h0 : 0 ≤ i) (h : i.toNat + 1 < l.length) : cutD (dsD l) none (some i) ++ [deD (l.getD (i.toNat + 1) ("", [])), deD (l.getD i.toNat ("", []))] ++ cutD (dsD l) (some (i + 2)) none = dsD (swp l i.toNat) := by
  rw [← swp_cut h]
  unfold dsD
  rw [cutD_take deD l h0, cutD_drop deD l (by omega), List.map_append, List.map_append]
  have : (i + 2).toNat = i.toNat + 2 := by omega
  rw [this]; rfl
def led (ds : List De) : PyData → PyData
  | .tuple ps => match runJ ds ps with
    | some row => .tuple (dsD row)
    | none => .none
  | _ => .none
/-- rows mixed by digits: (the row, the places) -/
def mixS (n : List Int) (k : Nat) (s : List De × List Int) : List De × List Int :=
  let p := n.getD k 0 % max 1 (s.1.length : Int)
  if p + 1 < (s.1.length : Int) ∧ ind (s.1.getD p.toNat ("", [])) (s.1.getD (p.toNat + 1) ("", [])) = true then (swp s.1 p.toNat, s.2 ++ [p]) else s
def mix (n : List Int) (ds : List De) : Nat → List De × List Int
  | 0 => (ds, [])
  | k + 1 => mixS n k (mix n ds k)
theorem mix_ok {n : List Int} {ds : List De} (h : OkS ds) : ∀ k, OkS (mix n ds k).1 ∧ (mix n ds k).1.length = ds.length ∧ (mix n ds k).2.length ≤ k
  | 0 => ⟨h, rfl, Nat.le_refl _⟩
  | k + 1 => by
    obtain ⟨h1, h2, h3⟩ := mix_ok (n := n) h k
    show OkS (mixS n k (mix n ds k)).1 ∧ (mixS n k (mix n ds k)).1.length = _ ∧ (mixS n k (mix n ds k)).2.length ≤ _
    have hp : 0 ≤ n.getD k 0 % max 1 ((mix n ds k).1.length : Int) := Int.emod_nonneg _ (by omega)
    unfold mixS
    simp only []
    split
    · rename_i hc
      refine ⟨swp_ok h1 (by omega), by rw [swp_len]; exact h2, by rw [List.length_append, List.length_singleton]; omega⟩
    · exact ⟨h1, h2, by omega⟩
end DM

set_option maxRecDepth 100000
set_option maxHeartbeats 4000000
/-! What is raised, and what catches it. -/
namespace TC
open PySem PySem.Spec L2

/-! ### defs that may raise -/
/-- the promise of a def that changes nothing, and may raise -/
def spX (K : PySem.W.Frag) (Rl : List Sl → Res → Prop) : Sp := fun vs H Q E => ∃ (C : AS) (ss : List Sl) (r : Res), (∀ a, C a → H a ≠ none) ∧ AOk K none none C H vs ss ∧ Rl ss r ∧
  (∀ v H', Same H H' → ResOk K C H H' v r → Q v H') ∧ ∀ c fs, r = .x c fs → ∀ d H', Same H H' → XdOk K (cut C H') d fs → E c d H'
structure CalX (F : Fam) (n : Str) (sp : Sp) : Prop where
  ex : ∃ (k : Nat) (f : Addr) (fd : FuncData) (ps : List Str), FnOk F.P F.w F.K F.mg F.base (L2.CX F.P F.w) k f fd ps sp ∧ k ≤ F.k ∧ F.mg n = some (.ref f) ∧ PySem.W.keepIn F.K (.ref f) = true ∧ Binds F.K fd ps []
  cm : F.ex = none
theorem calX_of {F : Fam} {n : Str} {sp : Sp} {k : Nat} {f : Addr} {fd : FuncData} {ps : List Str} (G : FnOk F.P F.w F.K F.mg F.base (L2.CX F.P F.w) k f fd ps sp) (hk : k ≤ F.k) (hm : F.mg n = some (.ref f)) (kp : PySem.W.keepIn F.K (.ref f) = true) (b : Binds F.K fd ps []) (hcm : F.ex = none := by rfl) : CalX F n sp := ⟨⟨k, f, fd, ps, G, hk, hm, kp, b⟩, hcm⟩
theorem CalX.blk {F : Fam} {n : Str} {sp : Sp} {scope : Scope} (c : CalX F n sp) : CalX (F.blk scope) n sp := ⟨c.ex, rfl⟩
/-- the same def's text, other wishes -/
def Fam.tr (F : Fam) (W : WX) : Fam := { F with W := W, tk := true }
theorem CalX.tr {F : Fam} {n : Str} {sp : Sp} {W : WX} (c : CalX F n sp) : CalX (F.tr W) n sp := ⟨c.ex, c.cm⟩
theorem Cal.tr {F : Fam} {n : Str} {sp : Sp} {W : WX} (c : Cal F n sp) : Cal (F.tr W) n sp := ⟨c.ex, c.cm⟩
section
variable {P : Program} {w : World} {K : PySem.W.Frag} {mg : Str → Option Value} {base : Heap} {x qual : Str} {st : Stmt} {f : Addr} {fd : FuncData} {N ps : List Str} {k : Nat}
theorem po_of {cdv : Value} {A : Around} {outer : List Env} {s : Shared} {H : Hp} {E : XK} : PassesOwn (model P w) (cxOf (L2.CX P w) P w K mg base N qual (defScope st) f cdv A outer s H E).A (cxOf (L2.CX P w) P w K mg base N qual (defScope st) f cdv A outer s H E).env (cxOf (L2.CX P w) P w K mg base N qual (defScope st) f cdv A outer s H E).xe := PassesOwn.leaving
theorem fits_ofX {cdv : Value} {A : Around} {outer : List Env} {s : Shared} {H : Hp} {E : XK} (S : FnScope N ps (defScope st)) (hr : Room k (A.deeper (PyProof.Rows.envOfC qual (defScope st) s.heap.objs.size f cdv))) :
    Fits (famX P w K mg base N (defScope st) k fun cls d _ H => E cls d H) (cxOf (L2.CX P w) P w K mg base N qual (defScope st) f cdv A outer s H E) :=
  ⟨rfl, rfl, rfl, rfl, rfl, rfl, S.nd, rfl, fun _ => rfl, fun _ => hr, (Nat.lt_of_le_of_lt (Nat.add_le_add_right (Nat.le_add_right _ _) _) hr.un), fun _ _ => rfl, po_of, (fun _ => takes_of rfl rfl rfl rfl), (fun _ => ⟨rfl, rfl⟩), (fun _ h => nomatch h), (fun _ h => nomatch h), fun h => nomatch h⟩
/-- how a def begins -/
theorem rep_start {C : AS} {H : Hp} {vs : List V} {ss : List Sl} (al : ∀ a, C a → H a ≠ none) (ok : AOk K none none C H vs ss) : Rep K C (fun _ => False) H none C H (L2.start N vs) ⟨none, ss ++ List.replicate (N.length - ss.length) .un⟩ := by
  have hlen := aok_len ok
  refine ⟨fun _ h => h.elim, fun _ h => h, fun _ _ h _ => h, al, fun _ h => .inl h, ?_, fun t h => (nomatch h), trivial, fun i s hs => ?_, fun i j xs ys a ne h1 => ?_, own0 fun i Ψ h1 => ?_⟩
  · show (L2.start N vs).length = _
    unfold L2.start
    rw [List.length_append, List.length_append, List.length_map, List.length_replicate, List.length_replicate, hlen]
  · rcases pad_get hs with h1 | h1
    · obtain ⟨v, e1, q1⟩ := aok_get ok h1
      have hi : i < vs.length := (List.getElem?_eq_some_iff.mp e1).1
      have e2 : (L2.start N vs)[i]? = some (some v) := by rw [start_get hi, ← List.getElem?_eq_getElem hi, e1]
      cases s with
      | un => trivial
      | d x => exact ⟨v, e2, q1⟩
      | own xs => exact q1.elim
      | stm => obtain ⟨t, h, _⟩ := q1; cases h
      | plc => exact q1.elim
      | scr ns => obtain ⟨a, rfl, q2⟩ := q1; exact ⟨a, e2, q2⟩
      | fz Φ => exact ⟨v, e2, q1⟩
      | ow Ψ => trivial
    · subst h1; trivial
  · rcases pad_get h1 with h2 | h2
    · obtain ⟨v, _, q1⟩ := aok_get ok h2
      exact q1.elim
    · cases h2
  · rcases pad_get h1 with h2 | h2
    · obtain ⟨v, _, q1⟩ := aok_get ok h2
      exact q1.elim
    · cases h2
theorem def_okX {Rl : List Sl → Res → Prop} (Fn : Fun K x qual st f fd) (S : FnScope N ps (defScope st)) (len : ∀ ss r, Rl ss r → ss.length = ps.length)
    (body : ∀ ss r, Rl ss r → ∀ WW, ∃ o, BSs (famX P w K mg base N (defScope st) k WW) ⟨none, ss ++ List.replicate (N.length - ss.length) .un⟩ (defBody st) o ∧ OutIsX o r) : FnOk P w K mg base (L2.CX P w) (k + 1) f fd ps (spX K Rl) := by
  refine Fn.okX S (fun vs H Q E h => ?_) (fun cdv A outer s H vs Q E hr h => ?_)
  · obtain ⟨C, ss, r, _, h2, h3, _⟩ := h
    rw [aok_len h2]; exact len ss r h3
  obtain ⟨C, ss, r, al, ok, hR, q, qx⟩ := h
  obtain ⟨o, ⟨t, p1, e1⟩, ho⟩ := body ss r hR fun cls d _ H => E cls d H
  refine ⟨t, p1 _ (fits_ofX S hr), e1 C (fun _ => False) H none none C H _ _ (ExtT.rfl' fun _ => rfl) (rep_start al ok) ?_⟩
  cases o with
  | nx ρ' =>
    have e : r = .d .none := ho
    subst e
    exact fun σ' H' O' T' _ R _ => q _ H' (fun a o h => R.keep a o h id) .non
  | ret r' tm =>
    have e : r' = r := ho
    subst e
    exact fun v H' hk _ ok => q v H' (fun a o h => hk a o h id) ok
  | rz c fs ρ' => exact fun d σ' H' O' T' _ R _ xd => qx c fs ho d H' (fun a o h => R.keep a o h id) (xd.mono (cut_sub R.co))
  | bk => exact ho.elim
  | ct => exact ho.elim
end

section
variable {F : Fam} {ρ ρ1 ρ2 ρ3 : En} {e a b c : Expr} {es : List Expr} {x y z : PyData} {xs ys zs : List PyData} {pos p apos cpos p2 p3 : Pos} {ss : List Sl} {st : Stmt} {sts sts2 : List Stmt} {o : Out} {n : Str} {Rl : List Sl → Res → Prop} {cl : Value} {fs : List (Str × PyData)}
/-- an expression that raises -/
def BR (F : Fam) (ρ : En) (e : Expr) (cl : Value) (fs : List (Str × PyData)) (ρ' : En) : Prop := ∃ t : TE, (∀ X, Fits F X → PE X e t) ∧
  ∀ (C W : AS) (H0 : Hp) (T : Option Trip) (O : AS) (H : Hp) (σ : L2.St), Rep F.K C W H0 T O H σ ρ → (∀ d H', Rep F.K C W H0 T O H' σ ρ' → Same (cut O H) (cut O H') → XdOk F.K (cut O H') d fs → F.W cl d σ H') → ∀ Q : VK, t σ H Q
theorem pe_calX {sp : Sp} {X : Cx} {t : TA} {WW : WX} (c : CalX F n sp) (hX : Fits F X) (tk : Takes X WW) (ha : PA X (e :: es) t) (hg : F.sc.names.lookup n = some .globalImplicit) (hdb : (n == ("__debug__" : Str)) = false)
    (he : ∀ env, starEach (e :: es) env = (false, eval e env) :: starEach es env) (hpl : ∀ env, (backTo pos (starEach es env)).any (·.1) = false) : PE X (.Call (.Name n p) (e :: es) [] pos) (tCallS sp (WE WW) t) := by
  obtain ⟨k, f, fd, ps, G, hk, hm, kp, bd⟩ := c.ex
  exact pe_callS (by rw [hX.prog, hX.w, hX.K, hX.mg, hX.base]; exact G) ((hX.room c.cm).mono hk) (hX.gl hg) (by rw [hX.mg]; exact hm) (by rw [hX.K]; exact kp) (by rw [hX.K]; exact bd) (by have := passAt tk; rw [hX.prog, hX.w] at this; exact this) ha hdb (he _) (hpl _)
theorem be_callX (c : CalX F n (spX F.K Rl)) (ha : BA F ρ (e :: es) ss ρ1) (hr : Rl ss (.d x)) (hpl : ss.all plainSl = true := by rfl) (hg : F.sc.names.lookup n = some .globalImplicit := by rfl) (hdb : (n == ("__debug__" : Str)) = false := by decide)
    (he : ∀ env, starEach (e :: es) env = (false, eval e env) :: starEach es env := by intro _; rfl) (hpl2 : ∀ env, (backTo pos (starEach es env)).any (·.1) = false := by intro _; rfl) : BE F ρ (.Call (.Name n p) (e :: es) [] pos) x ρ1 := by
  obtain ⟨t, p1, e1⟩ := ha
  refine ⟨_, fun X hX => pe_calX (WW := fun _ _ _ _ => False) c hX takes0 (p1 X hX) hg hdb he hpl2, fun C W H0 T O H σ R Q q => e1 C W H0 T O H σ R _ fun vs H1 R1 s1 d1 => ?_⟩
  exact ⟨O, ss, .d x, R1.alloc, aok_plain d1 hpl, hr, fun v H2 s2 ok => q v H2 (R1.grow s2) (s1.trans (cut_same s2)) ok, fun c fs h => nomatch h⟩
theorem br_call (c : CalX F n (spX F.K Rl)) (ha : BA F ρ (e :: es) ss ρ1) (hr : Rl ss (.x cl fs)) (htk : F.tk = true := by rfl) (hpl : ss.all plainSl = true := by rfl) (hg : F.sc.names.lookup n = some .globalImplicit := by rfl) (hdb : (n == ("__debug__" : Str)) = false := by decide)
    (he : ∀ env, starEach (e :: es) env = (false, eval e env) :: starEach es env := by intro _; rfl) (hpl2 : ∀ env, (backTo pos (starEach es env)).any (·.1) = false := by intro _; rfl) : BR F ρ (.Call (.Name n p) (e :: es) [] pos) cl fs ρ1 := by
  obtain ⟨t, p1, e1⟩ := ha
  refine ⟨_, fun X hX => pe_calX c hX (hX.tk htk) (p1 X hX) hg hdb he hpl2, fun C W H0 T O H σ R k Q => e1 C W H0 T O H σ R _ fun vs H1 R1 s1 d1 => ?_⟩
  exact ⟨O, ss, .x cl fs, R1.alloc, aok_plain d1 hpl, hr, fun v H2 s2 ok => ok.elim, fun c' fs' h d H2 s2 xd => by
    cases h
    exact k d H2 (R1.grow s2) (s1.trans (cut_same s2)) xd⟩
theorem br_run {D : Ends} {C W : AS} {H0 : Hp} {T0 T : Option Trip} {O : AS} {H : Hp} {σ : L2.St} (e : ExtT F.lc T0 T) (k : EndOk F.W F.lc F.K C W H0 T0 O H D (.rz cl fs ρ1)) : ∀ d H', Rep F.K C W H0 T O H' σ ρ1 → Same (cut O H) (cut O H') → XdOk F.K (cut O H') d fs → F.W cl d σ H' := fun d H' R' s xd => k d σ H' O T e R' s xd
theorem bs_exprR (h : BR F ρ e cl fs ρ1) (hs : ∀ (line : Nat) (env : Env), swapsWith e none line env = pure false := by intro _ _; rfl) : BS F ρ (.Expr e pos) (.rz cl fs ρ1) := by
  obtain ⟨t, p1, e1⟩ := h
  exact ⟨_, fun X hX => ps_expr (p1 X hX) (hs _ _), fun C W H0 T0 T O H σ D e R k => e1 C W H0 T O H σ R (br_run e k) _⟩
theorem bs_retR (h : BR F ρ e cl fs ρ1) : BS F ρ (.Return (some e) pos) (.rz cl fs ρ1) := by
  obtain ⟨t, p1, e1⟩ := h
  exact ⟨_, fun X hX => ps_ret (p1 X hX), fun C W H0 T0 T O H σ D e R k => e1 C W H0 T O H σ R (br_run e k) _⟩
theorem bs_setR (i : Nat) {n : Str} (h : BR F ρ e cl fs ρ1) (hN : F.N[i]? = some n := by rfl) (hx : Loc F.sc n := by first | exact Or.inl rfl | exact Or.inr rfl) (hf : F.df = true ∨ F.sc.names.lookup n = some .local := by first | exact Or.inl rfl | exact Or.inr rfl)
    (hs : ∀ X, Fits F X → swapsWith e (some (.Name n p)) pos.line X.env = pure false := by intro _ _; rfl) : BS F ρ (.Assign [.Name n p] e pos) (.rz cl fs ρ1) := by
  obtain ⟨t, p1, e1⟩ := h
  exact ⟨_, fun X hX => ps_set (i := i) (by rw [hX.N]; exact hX.nd) (by rw [hX.N]; exact hN) (by rw [hX.sc]; exact hx) (p1 X hX) (hs X hX) (by rw [hX.sc]; exact hf.imp (fun z => hX.fn z n) id), fun C W H0 T0 T O H σ D e R k => e1 C W H0 T O H σ R (br_run e k) _⟩

/-! ### raise of an own class without __init__ -/
/-- the class n, at the address C, over ValueError -/
structure XCl (F : Fam) (n : Str) (C : Addr) : Prop where
  ex : PySem.W.excIn F.K C [.type "ValueError", .type "Exception", .type "BaseException", .type "object"] "ValueError.__new__" = true
  g : F.mg n = some (.ref C)
  kp : PySem.W.keepIn F.K (.ref C) = true
  b : PySem.W.subIn F.K (.ref C) (.type "BaseException") = some true
  t : PySem.W.typeIn F.K (.ref C) = some (.type "type")
theorem bs_raise1 {C : Addr} (c : XCl F n C) (h : BE F ρ e x ρ1) (htk : F.tk = true := by rfl) (hcm : F.ex = none := by rfl) (hg : F.sc.names.lookup n = some .globalImplicit := by rfl) (hd : (n == ("__debug__" : Str)) = false := by decide)
    (hs : ∀ env, starEach [e] env = (false, eval e env) :: starEach [] env := by intro _; rfl) : BS F ρ (.Raise (some (.Call (.Name n p) [e] [] pos)) none p2) (.rz (.ref C) [] ρ1) := by
  obtain ⟨t, p1, e1⟩ := h
  refine ⟨_, fun X hX => ps_raise (hX.calm hcm) (hX.tk htk) (SkE.pmk_own1 PySem.F.excBase_ValueError (by rw [hX.K]; exact c.ex) (by rw [hX.mg]; exact c.g) (by rw [hX.K]; exact c.kp) (raises_own (by rw [hX.K]; exact c.b) (by rw [hX.K]; exact c.t)) (hX.gl hg) (p1 X hX) (hs _) hd), fun C' W H0 T0 T O H σ D e R k => e1 C' W H0 T O H σ R _ fun v H1 R1 s1 d1 => ?_⟩
  exact k none σ H1 O T e R1 s1 (.inl ⟨rfl, rfl⟩)
end
end TC

set_option maxRecDepth 100000
set_option maxHeartbeats 4000000
/-! f-strings; try; what an except suite knows. -/
namespace TC
open PySem PySem.Spec L2
section
variable {F : Fam} {ρ ρ1 ρ2 ρ3 : En} {e a b c : Expr} {es : List Expr} {x y z : PyData} {xs ys zs : List PyData} {pos p apos cpos p2 p3 : Pos} {ss : List Sl} {st : Stmt} {sts sts2 : List Stmt} {o : Out} {n : Str} {Rl : List Sl → Res → Prop} {cl : Value} {fs : List (Str × PyData)}
/-! ### f-strings -/
theorem be_fmtI {i : Int} (h : BE F ρ e (.int i) ρ1) (hi : i.natAbs.log2 < 1920) : BE F ρ (.FormattedValue e (-1) none pos) (.str (toString i)) ρ1 := by
  obtain ⟨t, p1, e1⟩ := h
  exact ⟨_, fun X hX => pe_fmt (p1 X hX), fun C W H0 T O H σ R Q q => e1 C W H0 T O H σ R _ fun v H1 R1 s1 d1 => by
    cases d1
    exact .inr ⟨i, rfl, hi, q _ H1 R1 s1 (.str _)⟩⟩
theorem be_fmtS {s : Str} (h : BE F ρ e (.str s) ρ1) (hs : s.length ≤ sizeLine) : BE F ρ (.FormattedValue e (-1) none pos) (.str s) ρ1 := by
  obtain ⟨t, p1, e1⟩ := h
  exact ⟨_, fun X hX => pe_fmt (p1 X hX), fun C W H0 T O H σ R Q q => e1 C W H0 T O H σ R _ fun v H1 R1 s1 d1 => by
    cases d1
    exact .inl ⟨s, rfl, hs, q _ H1 R1 s1 (.str _)⟩⟩
/-- the parts of an f-string -/
def BJ (F : Fam) (ρ : En) (es : List Expr) (ys : List Str) : Prop := ∃ ts : List TE, (∀ X, Fits F X → PJ X es ts) ∧
  ∀ (C W : AS) (H0 : Hp) (T : Option Trip) (O : AS) (H : Hp) (σ : L2.St), Rep F.K C W H0 T O H σ ρ → ∀ acc : Str, (∀ k, (ys.take k |>.foldl (· ++ ·) acc).length ≤ sizeLine) → ∀ Q : Str → Hp → Prop, (∀ H', Rep F.K C W H0 T O H' σ ρ → Same (cut O H) (cut O H') → Q (ys.foldl (· ++ ·) acc) H') → tJs ts acc σ H Q
theorem bj_nil : BJ F ρ [] [] := ⟨[], fun X hX => .nil, fun C W H0 T O H σ R acc _ Q q => q H R Same.rfl'⟩
theorem bj_cons {s : Str} {ts : List Str} (h : BE F ρ e (.str s) ρ) (r : BJ F ρ es ts) : BJ F ρ (e :: es) (s :: ts) := by
  obtain ⟨t, p1, e1⟩ := h
  obtain ⟨us, p2, e2⟩ := r
  refine ⟨t :: us, fun X hX => .cons (p1 X hX) (p2 X hX), fun C W H0 T O H σ R acc hl Q q => ?_⟩
  refine e1 C W H0 T O H σ R _ fun v H1 R1 s1 d1 => ?_
  cases d1
  exact ⟨s, rfl, hl 1, e2 C W H0 T O H1 σ R1 (acc ++ s) (fun k => hl (k + 1)) Q fun H' R' s' => q H' R' (s1.trans s')⟩
theorem be_fstr {ys : List Str} (h : BJ F ρ (a :: b :: es) ys) (hl : ∀ k, (ys.take k |>.foldl (· ++ ·) Str.empty).length ≤ sizeLine) : BE F ρ (.JoinedStr (a :: b :: es) pos) (.str (ys.foldl (· ++ ·) Str.empty)) ρ := by
  obtain ⟨ts, p1, e1⟩ := h
  exact ⟨_, fun X hX => pe_joined (p1 X hX), fun C W H0 T O H σ R Q q => e1 C W H0 T O H σ R Str.empty hl _ fun H' R' s => q _ H' R' s (.str _)⟩

/-! ### try -/
/-- the suite that handles the exception at a -/
def Fam.su (F : Fam) (a : Addr) (cls : Value) (d : Option Addr) : Fam := { F with W := fun _ _ _ _ => False, tk := false, fs := false, ex := some (a, cls, d) }
theorem fits_tr {X : Cx} {W : WX} {pn : List (Addr × Obj)} {xe : Value → Shared → Prop} (hX : Fits F X) (hcm : F.ex = none) (tk : Takes (X.tr pn xe) W) (po : PassesOwn (model X.prog X.w) X.A X.env xe) : Fits (F.tr W) (X.tr pn xe) :=
  ⟨hX.prog, hX.w, hX.K, hX.mg, hX.base, hX.N, hX.nd, hX.sc, hX.calm, hX.room, hX.un, hX.fn, po, fun _ => tk, hX.fr, (fun z h => by rw [show (F.tr W).ex = F.ex from rfl, hcm] at h; cases h), hX.cf, hX.gu⟩
theorem fits_su {X : Cx} {A : Addr} {oe : Obj} {cls : Value} {d : Option Addr} {pn : List (Addr × Obj)} (hX : Fits F X) (hz : Zc cls d oe) (hf : ∃ vs, oe.data = .fields vs) : Fits (F.su A cls d) (X.suite A ((A, oe) :: pn)) :=
  ⟨hX.prog, hX.w, hX.K, hX.mg, hX.base, hX.N, hX.nd, hX.sc, (fun h => nomatch h), (fun h => nomatch h), hX.un, hX.fn, PassesOwn.never, (fun h => nomatch h), (fun h => nomatch h), (fun z h => by
    cases h
    exact ⟨X, oe, pn, rfl, hz, hf⟩), hX.cf, hX.gu⟩
/-- the caught exception, as its name has it -/
def exV (K : PySem.W.Frag) (A : Addr) (d : Option Addr) (fs : List (Str × PyData)) : Fz := ⟨fun v Z => v = .ref A ∧ XdOk K Z d fs, fun e h => ⟨h.1, h.2.mono e⟩⟩
/-- behind the suite, the name is gone -/
def Out.off (i : Nat) : Out → Out
  | .nx ρ => .nx ⟨ρ.tm, ρ.sl.set i .un⟩
  | .bk ρ => .bk ⟨ρ.tm, ρ.sl.set i .un⟩
  | .ct ρ => .ct ⟨ρ.tm, ρ.sl.set i .un⟩
  | o => o
theorem Rep.off {K : PySem.W.Frag} {C W O : AS} {H0 H : Hp} {T : Option Trip} {σ : L2.St} (R : Rep K C W H0 T O H σ ρ) (i : Nat) : Rep K C W H0 T O H (σ.set i none) ⟨ρ.tm, ρ.sl.set i .un⟩ :=
  Rep.out (tm := ρ.tm) (sb := ρ.sl) (vs := [i]) R (by rw [List.length_set, List.length_set]; exact R.len) (fun j hj s hs => by
    rw [List.mem_singleton] at hj
    subst hj
    rcases set_get hs with ⟨_, h⟩ | ⟨h, _⟩
    · exact h
    · exact absurd rfl h) (fun j hj => (List.getElem?_set_ne (fun z => hj (by rw [z]; simp))).symm) (fun j hj => (List.getElem?_set_ne (fun z => hj (by rw [z]; simp))).symm)
def Out.calm : Out → Bool
  | .rz _ _ _ => false
  | _ => true
theorem EndOk.calm {WW WW' : WX} {lc : Bool} {K : PySem.W.Frag} {C W : AS} {H0 : Hp} {T0 : Option Trip} {O : AS} {H : Hp} {D : Ends} : ∀ {o : Out}, o.calm = true → EndOk WW lc K C W H0 T0 O H D o → EndOk WW' lc K C W H0 T0 O H D o
  | .nx _, _, h => h
  | .bk _, _, h => h
  | .ct _, _, h => h
  | .ret _ _, _, h => h
  | .rz _ _ _, q, _ => nomatch q
section
variable {m : Str} {body suite : List Stmt} {b₀ : Stmt} {np pos' : Pos} {c : Value} {cx : Addr}
/-- the clause is never reached -/
theorem bs_try_asN (i : Nat) (hb : ∀ W, BSs (F.tr W) ρ body o) (ho : o.calm = true) (hm : F.mg n = some c) (hcm : F.ex = none := by rfl) (hfs : F.fs = true := by rfl) (hN : F.N[i]? = some m := by rfl) (hl : F.sc.names.lookup m = some .local := by rfl) (hg : F.sc.names.lookup n = some .globalImplicit := by rfl) (hd : (n == ("__debug__" : Str)) = false := by decide)
    (hsu : ∀ A cls d, ∃ t, ∀ X, Fits (F.su A cls d) X → PSs X (b₀ :: suite) t := by intro _ _ _; exact ⟨_, fun X _ => pss_never⟩) : BS F ρ (.Try body [.ExceptHandler (some (.Name n np)) (some m) (b₀ :: suite) pos'] [] [] pos) o := by
  refine ⟨fun D σ H => supS (F.tr (wAs F.K c i (fun A cls d => supS (F.su A cls d) (b₀ :: suite)) (fun _ _ _ _ => False) D)) body D σ H, fun X hX => ?_, fun C W H0 T0 T O H σ D e R k => ?_⟩
  · have h := ps_try_as (X := X) (i := i) (n := m) (x := n) (c := c) (body := body) (b₀ := b₀) (suite := suite) (np := np) (pos' := pos') (pos := pos) (tb := fun W => supS (F.tr W) body) (ts := fun A cls d => supS (F.su A cls d) (b₀ :: suite)) (Wout := fun _ _ _ _ => False) (hX.fr hfs).1 (hX.fr hfs).2 (by rw [hX.N]; exact hX.nd) (by rw [hX.N]; exact hN) (by show X.env.scope.names.lookup m = _; rw [hX.sc]; exact hl) ⟨hX.gl hg, hd, .inl (by rw [hX.mg]; exact hm)⟩ takes0
      (fun W pn xe tk po => supS_ok (fits_tr hX hcm tk po)) (fun A oe cls d pn hz hf => supS_ok (fits_su hX hz hf))
    rw [hX.K] at h
    exact h
  · exact (hb _).uni C W H0 T0 T O H σ D e R (k.calm ho)
/-- the exception is caught, the suite runs -/
theorem bs_try_asR {o' : Out} (i : Nat) (hb : ∀ W, BSs (F.tr W) ρ body (.rz cl fs ρ1)) (hm : F.mg n = some c) (hx : PySem.W.exmOne F.K cl c = some true) (hsu : ∀ A d, BSs (F.su A cl d) ⟨ρ1.tm, ρ1.sl.set i (.fz (exV F.K A d fs))⟩ (b₀ :: suite) o') (ho : o'.calm = true)
    (hcm : F.ex = none := by rfl) (hfs : F.fs = true := by rfl) (hN : F.N[i]? = some m := by rfl) (hl : F.sc.names.lookup m = some .local := by rfl) (hg : F.sc.names.lookup n = some .globalImplicit := by rfl) (hd : (n == ("__debug__" : Str)) = false := by decide) : BS F ρ (.Try body [.ExceptHandler (some (.Name n np)) (some m) (b₀ :: suite) pos'] [] [] pos) (o'.off i) := by
  refine ⟨fun D σ H => supS (F.tr (wAs F.K c i (fun A cls d => supS (F.su A cls d) (b₀ :: suite)) (fun _ _ _ _ => False) D)) body D σ H, fun X hX => ?_, fun C W H0 T0 T O H σ D e R k => ?_⟩
  · have h := ps_try_as (X := X) (i := i) (n := m) (x := n) (c := c) (body := body) (b₀ := b₀) (suite := suite) (np := np) (pos' := pos') (pos := pos) (tb := fun W => supS (F.tr W) body) (ts := fun A cls d => supS (F.su A cls d) (b₀ :: suite)) (Wout := fun _ _ _ _ => False) (hX.fr hfs).1 (hX.fr hfs).2 (by rw [hX.N]; exact hX.nd) (by rw [hX.N]; exact hN) (by show X.env.scope.names.lookup m = _; rw [hX.sc]; exact hl) ⟨hX.gl hg, hd, .inl (by rw [hX.mg]; exact hm)⟩ takes0
      (fun W pn xe tk po => supS_ok (fits_tr hX hcm tk po)) (fun A oe cls d pn hz hf => supS_ok (fits_su hX hz hf))
    rw [hX.K] at h
    exact h
  · refine (hb _).uni C W H0 T0 T O H σ D e R fun d σ1 H1 O1 T1 e1 R1 s1 xd => ⟨true, hx, fun _ A hA => ?_, fun h => nomatch h⟩
    have R2 := R1.putX (i := i) (v := .ref A) (s := .fz (exV F.K A d fs)) (fun _ h => nomatch h) (fun _ h => nomatch h) fun hl => ⟨_, List.getElem?_set_self hl, rfl, xd⟩
    refine (hsu A d).uni C W H0 T0 T1 O1 H1 _ _ e1 R2 ?_
    cases o' with
    | nx ρ' => exact fun σ' H' O' T' e' R' s' => k _ H' O' T' e' (R'.off i) (s1.trans s')
    | bk ρ' => exact fun σ' H' O' T' e' R' s' => k _ H' O' T' e' (R'.off i) (s1.trans s')
    | ct ρ' => exact fun σ' H' O' T' e' R' s' => k _ H' O' T' e' (R'.off i) (s1.trans s')
    | ret r tm => exact k
    | rz => cases ho
/-- without a name -/
theorem bs_try_onN (hb : ∀ W, BSs (F.tr W) ρ body o) (ho : o.calm = true) (hm : F.mg n = some c) (hcm : F.ex = none := by rfl) (hfs : F.fs = true := by rfl) (hg : F.sc.names.lookup n = some .globalImplicit := by rfl) (hd : (n == ("__debug__" : Str)) = false := by decide) : BS F ρ (.Try body [.ExceptHandler (some (.Name n np)) none (b₀ :: suite) pos'] [] [] pos) o := by
  refine ⟨fun D σ H => supS (F.tr (wOnly F.K c (fun A cls d => supS (F.su A cls d) (b₀ :: suite)) (fun _ _ _ _ => False) D)) body D σ H, fun X hX => ?_, fun C W H0 T0 T O H σ D e R k => ?_⟩
  · have h := ps_try_only (X := X) (x := n) (c := c) (body := body) (b₀ := b₀) (suite := suite) (np := np) (pos' := pos') (pos := pos) (tb := fun W => supS (F.tr W) body) (ts := fun A cls d => supS (F.su A cls d) (b₀ :: suite)) (Wout := fun _ _ _ _ => False) (hX.fr hfs).1 (hX.fr hfs).2 ⟨hX.gl hg, hd, .inl (by rw [hX.mg]; exact hm)⟩ takes0
      (fun W pn xe tk po => supS_ok (fits_tr hX hcm tk po)) (fun A oe cls d pn hz hf => supS_ok (fits_su hX hz hf))
    rw [hX.K] at h
    exact h
  · exact (hb _).uni C W H0 T0 T O H σ D e R (k.calm ho)
theorem bs_try_onR {o' : Out} (hb : ∀ W, BSs (F.tr W) ρ body (.rz cl fs ρ1)) (hm : F.mg n = some c) (hx : PySem.W.exmOne F.K cl c = some true) (hsu : ∀ A d, BSs (F.su A cl d) ρ1 (b₀ :: suite) o') (ho : o'.calm = true)
    (hcm : F.ex = none := by rfl) (hfs : F.fs = true := by rfl) (hg : F.sc.names.lookup n = some .globalImplicit := by rfl) (hd : (n == ("__debug__" : Str)) = false := by decide) : BS F ρ (.Try body [.ExceptHandler (some (.Name n np)) none (b₀ :: suite) pos'] [] [] pos) o' := by
  refine ⟨fun D σ H => supS (F.tr (wOnly F.K c (fun A cls d => supS (F.su A cls d) (b₀ :: suite)) (fun _ _ _ _ => False) D)) body D σ H, fun X hX => ?_, fun C W H0 T0 T O H σ D e R k => ?_⟩
  · have h := ps_try_only (X := X) (x := n) (c := c) (body := body) (b₀ := b₀) (suite := suite) (np := np) (pos' := pos') (pos := pos) (tb := fun W => supS (F.tr W) body) (ts := fun A cls d => supS (F.su A cls d) (b₀ :: suite)) (Wout := fun _ _ _ _ => False) (hX.fr hfs).1 (hX.fr hfs).2 ⟨hX.gl hg, hd, .inl (by rw [hX.mg]; exact hm)⟩ takes0
      (fun W pn xe tk po => supS_ok (fits_tr hX hcm tk po)) (fun A oe cls d pn hz hf => supS_ok (fits_su hX hz hf))
    rw [hX.K] at h
    exact h
  · refine (hb _).uni C W H0 T0 T O H σ D e R fun d σ1 H1 O1 T1 e1 R1 s1 xd => ⟨true, hx, fun _ A hA => ?_, fun h => nomatch h⟩
    exact (hsu A d).uni C W H0 T0 T1 O1 H1 _ _ e1 R1 ((k.mono s1).calm ho)
end

/-! ### in a suite -/
theorem be_exf (i : Nat) {A C : Addr} {d : Option Addr} {m : Str} (hs : ρ.sl[i]? = some (.fz (exV F.K A d fs))) (hex : F.ex = some (A, .ref C, d)) (T : XfC F.K C) (hno : PySem.W.findIn F.K (.ref C) n = some none) (hf : fs.lookup n = some x) (hN : F.N[i]? = some m := by rfl) (hv : Vis F.sc m := by first | exact Or.inl rfl | exact Or.inr (Or.inl rfl) | exact Or.inr (Or.inr rfl))
    (hd : (m == ("__debug__" : Str)) = false := by decide) (hcd : (m == ("__classdict__" : Str)) = false := by decide) (hb : ∀ env, attributeBase (.Name m p) n env (eval (.Name m p) env) = eval (.Name m p) env := by intro _; rfl) : BE F ρ (.Attribute (.Name m p) n pos) x ρ := by
  refine ⟨tXf A (.ref C) d C n (tVar i), fun X hX => ?_, fun C' W H0 T O H σ R Q q => ?_⟩
  · obtain ⟨X0, oe, pn, rfl, hz, hfl⟩ := hX.su _ hex
    exact pe_xf (X := X0) (by rw [show X0.K = F.K from hX.K]; exact T) (by rw [show X0.K = F.K from hX.K]; exact hno) hz hfl (pe_var (by rw [hX.N]; exact hN) (hX.vis hv) hd hcd) (hb _)
  · obtain ⟨v, e1, rfl, xd⟩ := R.sl i _ hs
    refine ⟨_, e1, rfl, rfl, ?_⟩
    rcases xd with ⟨rfl, _⟩ | ⟨a, kvs, rfl, h2, h3, h4⟩
    · cases hf
    · have key : ∀ (kvs : List (Str × V)) (fs : List (Str × PyData)), kvs.map (·.1) = fs.map (·.1) → DqA F.K (cut O H) (kvs.map (·.2)) (fs.map (·.2)) → fs.lookup n = some x → ∃ v, kvs.lookup n = some v ∧ Dq F.K (cut O H) v x := by
        intro kvs
        induction kvs with
        | nil => intro fs h1 _ h3; cases fs with
          | nil => cases h3
          | cons => cases h1
        | cons kv kvs ih =>
          intro fs h1 h2 h3
          cases fs with
          | nil => cases h1
          | cons f fs =>
            obtain ⟨k1, v1⟩ := kv
            obtain ⟨k2, x2⟩ := f
            simp only [List.map_cons, List.cons.injEq] at h1
            obtain ⟨rfl, h1⟩ := h1
            cases h2 with
            | cons d1 d2 =>
              rw [List.lookup_cons] at h3 ⊢
              cases hk : (n == k1) with
              | true => rw [hk] at h3; cases h3; exact ⟨v1, rfl, d1⟩
              | false => rw [hk] at h3; exact ih fs h1 d2 h3
      obtain ⟨v, g1, g2⟩ := key kvs fs h3 h4 hf
      exact ⟨a, kvs, v, rfl, (cut_some.mp h2).2, g1, q v H R Same.rfl' g2⟩
end
end TC

set_option maxRecDepth 100000
set_option maxHeartbeats 4000000
/-! An own exception class with an own __init__ that calls its base class's. -/
namespace TC
open PySem PySem.Spec L2
section
variable {X : Cx} {e : Expr} {es : List Expr} {ta : TA} {n : Str} {p1 p2 pos : Pos} {CT : Addr} {mc : Value}
/-- Base.__init__(self, ..), Base a class of the program over ValueError that has none of its own -/
theorem pe_cinit {pl : Sem Bool} (hg : Gl X n) (hm : X.mg n = some (.ref CT)) (hga : PySem.W.specialIn X.K (.ref CT) "__getattribute__" = some (some (.builtin "type.__getattribute__"))) (hmt : PySem.W.typeIn X.K (.ref CT) = some mc) (hr : PySem.W.readsIn X.K CT mc = true)
    (hf : PySem.W.findCls X.K (.ref CT) mc "__init__" = some (.val (.builtin "ValueError.__init__"))) (ha : PA X (e :: es) ta) (hdb : (n == ("__debug__" : Str)) = false)
    (hc : eval (.Call (.Attribute (.Name n p1) "__init__" p2) (e :: es) [] pos) X.env = (do
      let ov ← eval (.Name n p1) X.env
      standAt p2.atName
      let (f, first) ← holding [ov] (getMethod ov "__init__" pl)
      callWith pos f first (backTo pos (starEach (e :: es) X.env)) (backToKw pos (keywordEach [] X.env))) := by rfl)
    (he : starEach (e :: es) X.env = (false, eval e X.env) :: starEach es X.env := by rfl) (hpl : (backTo pos (starEach es X.env)).any (·.1) = false := by rfl) :
    PE X (.Call (.Attribute (.Name n p1) "__init__" p2) (e :: es) [] pos) (tVeI X.K ta) := by
  refine ⟨fun pins s σ H Q I h => ?_⟩
  refine PySem.W.methodCall_KW (ld_glob I hg hm ?_ hdb) hc
  obtain ⟨m, fr⟩ := I.fr
  refine PySem.W.method_of_cls fr I.ok.mod.kin hga (PySem.W.cls_val fr I.ok.mod.kin hmt hr hf (by decide +kernel) ?_)
  show wpAny _ _ (callWith pos (Value.builtin "ValueError.__init__") [] (backTo pos (starEach (e :: es) X.env)) []) _ _ _
  refine PyProof.Rows.callWith_method1 (thn (ha.run pos pins _ σ H _ (I.tok _) h) fun us s1 ⟨vs, H1, I1, r1, a, C, ws, ev, hl, T, ea, q⟩ => ?_) he hpl
  subst ev
  cases r1 with
  | @cons _ u0 _ ur ra rw' =>
    obtain rfl : u0 = Value.ref a := ra
    have hlen : ur.length ≤ sizeLine := by
      rw [← Paired.length rw', sizeLine_eq]
      omega
    exact oinit_ok T I1 ea hlen fun s' J => ⟨.non, H1, J, rfl, q⟩
end
/-- the promise of an exception's __init__: the fields that it leaves -/
def spInit (C : Addr) (ok : List V → Prop) (fsv : List V → List (Str × V)) : Sp := fun vs H Q _ => ∃ (a : Addr) (ws : List V), vs = .ref a :: ws ∧ ok ws ∧ H a = some (exo a C none) ∧
  ∀ d H', H d = none → d ≠ a → H' a = some (exo a C (some d)) → H' d = some (exd d (fsv ws)) → (∀ b, b ≠ a → b ≠ d → H' b = H b) → Q .non H'
structure XIn (F : Fam) (n : Str) (C : Addr) (ok : List V → Prop) (fsv : List V → List (Str × V)) : Prop where
  T : OexC F.K C
  ini : ∃ (fI : Addr) (k : Nat) (fd : FuncData) (ps : List Str), PySem.W.findIn F.K (.ref C) "__init__" = some (some (.ref fI)) ∧ PySem.W.typeIn F.K (.ref fI) = some (.type "function") ∧ FnOk F.P F.w F.K F.mg F.base CX0 k fI fd ps (spInit C ok fsv) ∧ k + 1 ≤ F.k ∧ Binds F.K fd ps []
  g : F.mg n = some (.ref C)
section
variable {F : Fam} {ρ ρ1 : En} {e : Expr} {es : List Expr} {xs : List PyData} {pos p p2 : Pos} {n : Str} {fs : List (Str × PyData)} {C : Addr} {ok : List V → Prop} {fsv : List V → List (Str × V)}
theorem XIn.tr {W : WX} (c : XIn F n C ok fsv) : XIn (F.tr W) n C ok fsv := ⟨c.T, c.ini, c.g⟩
theorem bs_raiseO (c : XIn F n C ok fsv) (h : BD F ρ (e :: es) xs ρ1) (hfs : ∀ Z ws, DqA F.K Z ws xs → ok ws ∧ (fsv ws).map (·.1) = fs.map (·.1) ∧ DqA F.K Z ((fsv ws).map (·.2)) (fs.map (·.2))) (hl : xs.length ≤ 1000 := by decide) (htk : F.tk = true := by rfl) (hcm : F.ex = none := by rfl) (hg : F.sc.names.lookup n = some .globalImplicit := by rfl) (hd : (n == ("__debug__" : Str)) = false := by decide)
    (hs : ∀ env, starEach (e :: es) env = (false, eval e env) :: starEach es env := by intro _; rfl) (hpl : ∀ env, (backTo pos (starEach es env)).any (·.1) = false := by intro _; rfl) : BS F ρ (.Raise (some (.Call (.Name n p) (e :: es) [] pos)) none p2) (.rz (.ref C) fs ρ1) := by
  obtain ⟨t, p1, e1⟩ := h
  obtain ⟨fI, k, fd, ps, h1, h2, h3, h4, h5⟩ := c.ini
  refine ⟨_, fun X hX => ps_raise (hX.calm hcm) (hX.tk htk) (pmk_oex (CX := CX0) (ds := []) (dvs := []) (by rw [hX.K]; exact c.T) (by rw [hX.K]; exact h1) (by rw [hX.K]; exact h2) (by rw [hX.prog, hX.w, hX.K, hX.mg, hX.base]; exact h3) ((hX.room hcm).mono h4) (by rw [hX.K]; exact h5) .nil pass0 (hX.gl hg) (by rw [hX.mg]; exact c.g) (p1 X hX) hd (hs _) (hpl _)), fun C' W H0 T0 T O H σ D e R kk => e1 C' W H0 T O H σ R _ fun vs H1 R1 s1 d1 => ?_⟩
  refine ⟨by rw [dpa_len d1]; exact hl, fun a ha => ?_⟩
  rw [List.append_nil]
  obtain ⟨g1, g2, g3⟩ := hfs _ _ d1
  refine ⟨a, vs, rfl, g1, upd_same, fun d H' hd0 hda ea ed hb => ⟨rfl, d, fsv vs, ea, ed, ?_, ?_⟩⟩
  · rw [upd_ne hda] at hd0; exact hd0
  · rw [upd_ne hda] at hd0
    have eH : upd (del H' a) d (.xd (fsv vs)) = upd H1 d (.xd (fsv vs)) := by
      funext b
      by_cases z : b = d
      · rw [z, upd_same, upd_same]
      · rw [upd_ne z, upd_ne z]
        by_cases y : b = a
        · rw [y, del_same, ha]
        · rw [del_ne y, hb b y z, upd_ne y]
    show F.W (.ref C) (some d) σ _
    rw [eH]
    have s2 : Same H1 (upd H1 d (.xd (fsv vs))) := same_new hd0
    exact kk (some d) σ _ O T e (R1.grow s2) (s1.trans (cut_same s2)) (.inr ⟨d, fsv vs, rfl, cut_some.mpr ⟨R1.nof hd0, upd_same⟩, g2, dpa_mono (cut_same s2) _ _ g3⟩)
end
end TC

set_option maxRecDepth 100000
set_option maxHeartbeats 4000000
/-! Things of one's own with a region: made, changed, read. -/
namespace TC
open PySem PySem.Spec L2
def orS (O S : AS) : AS := fun a => O a ∨ S a
section
variable {K : PySem.W.Frag} {C W O : AS} {H0 H H' : Hp} {T T0 : Option Trip} {σ : L2.St} {ρ ρ' ρ1 : En} {x : PyData} {xs ys : List PyData} {Ψ Ψ' : Fo}
/-- a slot takes a new thing of its own -/
theorem Rep.putO {l : Addr} (R0 : Rep K C W H0 T O H σ ρ1) (RR : Rep K (or1 C l) W H0 T (or1 O l) H' σ ρ) {i : Nat} (hn : H l = none) (ok : Ψ.ok (.ref l) (fun a => a = l) H' (cut (or1 O l) H'))
    (hT : ∀ t, T = some t → l ≠ t.2.2) : Rep K C W H0 T (or1 O l) H' (σ.set i (some (.ref l))) ⟨ρ.tm, ρ.sl.set i (.ow Ψ)⟩ := by
  have nW : ¬ W l := fun z => R0.nof hn (R0.co l (R0.wc l z))
  have R := RR.unC nW (R0.none0 hn)
  have nC : ¬ C l := fun z => R0.nof hn (R0.co l z)
  have hfree : ∀ (j : Nat) (ys : List PyData), ρ.sl[j]? = some (.own ys) → σ[j]? ≠ some (some (.ref l)) := fun j ys h z => by
    obtain ⟨a, us, e1, _, c1, _⟩ := RR.sl j _ h
    rw [z] at e1
    cases e1
    exact c1 (.inr rfl)
  obtain ⟨rg, w⟩ := RR.ow
  have nin : ∀ (j : Nat) (Ψ : Fo), ρ.sl[j]? = some (.ow Ψ) → ¬ rg j l := fun j Ψ h r => (w.rin j Ψ l h r).2.1.elim (fun y => y (.inr rfl)) nW
  have hli : ∀ {s : Sl}, (ρ.sl.set i (.ow Ψ))[i]? = some s → i < σ.length := fun {s} h => by
    have := (List.getElem?_eq_some_iff.mp h).1
    rw [List.length_set] at this
    rw [R.len]; exact this
  refine ⟨R.wc, R.co, R.keep, R.alloc, R.loc, by rw [List.length_set]; show σ.length = (ρ.sl.set i (.ow Ψ)).length; rw [List.length_set]; exact R.len, R.tl, R.tm, fun j s hs => ?_, fun j k xs ys a ne h1 h2 e1 => ?_, fun j a => (j = i ∧ a = l) ∨ (j ≠ i ∧ rg j a), ?_⟩
  · rcases set_get hs with ⟨rfl, rfl⟩ | ⟨ne, hs'⟩
    · trivial
    · have q := R.sl j s hs'
      have en : (σ.set i (some (.ref l)))[j]? = σ[j]? := List.getElem?_set_ne (Ne.symm ne)
      cases s with
      | un => trivial
      | d y => obtain ⟨u, e1, q⟩ := q; exact ⟨u, en.trans e1, q⟩
      | own ys => obtain ⟨a, vs, e1, q⟩ := q; exact ⟨a, vs, en.trans e1, q⟩
      | stm => obtain ⟨t, e1, e2, e3⟩ := q; exact ⟨t, e1, e2, en.trans e3⟩
      | plc => obtain ⟨t, e1, e2, e3⟩ := q; exact ⟨t, e1, e2, en.trans e3⟩
      | scr ns => obtain ⟨a, e1, q⟩ := q; exact ⟨a, en.trans e1, q⟩
      | fz Φ => obtain ⟨a, e1, q⟩ := q; exact ⟨a, en.trans e1, q⟩
      | ow Ψ => trivial
  · rcases set_get h1 with ⟨_, q⟩ | ⟨n1, h1'⟩
    · cases q
    rcases set_get h2 with ⟨_, q⟩ | ⟨n2, h2'⟩
    · cases q
    rw [List.getElem?_set_ne (Ne.symm n1)] at e1
    rw [List.getElem?_set_ne (Ne.symm n2)]
    exact R.apart j k xs ys a ne h1' h2' e1
  · refine ⟨fun j Φ h => ?_, fun j Φ a h r => ?_, fun j k Φ Φ' a ne h1 h2 r1 r2 => ?_, fun j k Φ xs a h1 h2 e r => ?_⟩
    · rcases set_get h with ⟨rfl, q⟩ | ⟨n1, h'⟩
      · cases q
        refine ⟨.ref l, List.getElem?_set_self (hli h), ?_⟩
        have e : (fun a => (j = j ∧ a = l) ∨ (j ≠ j ∧ rg j a)) = fun a => a = l := funext fun a => propext ⟨fun z => z.elim (·.2) fun z => absurd rfl z.1, fun z => .inl ⟨rfl, z⟩⟩
        rw [e]
        exact ok
      · obtain ⟨v, e1, q⟩ := w.ok j Φ h'
        refine ⟨v, (List.getElem?_set_ne (Ne.symm n1)).trans e1, ?_⟩
        have e : (fun a => (j = i ∧ a = l) ∨ (j ≠ i ∧ rg j a)) = rg j := funext fun a => propext ⟨fun z => z.elim (fun z => absurd z.1 n1) (·.2), fun z => .inr ⟨n1, z⟩⟩
        rw [e]
        exact q
    · rcases r with ⟨rfl, rfl⟩ | ⟨n1, r⟩
      · exact ⟨.inr rfl, .inl nC, hT⟩
      · obtain ⟨q1, q2, q3⟩ := w.rin j Φ a ((set_get h).elim (fun z => absurd z.1 n1) (·.2)) r
        exact ⟨q1, q2.imp (fun z y => z (.inl y)) id, q3⟩
    · rcases r1 with ⟨rfl, rfl⟩ | ⟨n1, r1⟩
      · rcases r2 with ⟨e, _⟩ | ⟨n2, r2⟩
        · exact ne e.symm
        · exact nin k Φ' ((set_get h2).elim (fun z => absurd z.1 n2) (·.2)) r2
      · have h1' := (set_get h1).elim (fun z => absurd z.1 n1) (·.2)
        rcases r2 with ⟨rfl, rfl⟩ | ⟨n2, r2⟩
        · exact nin j Φ h1' r1
        · exact w.sep j k Φ Φ' a ne h1' ((set_get h2).elim (fun z => absurd z.1 n2) (·.2)) r1 r2
    · rcases set_get h2 with ⟨_, q⟩ | ⟨n2, h2'⟩
      · cases q
      rw [List.getElem?_set_ne (Ne.symm n2)] at e
      rcases r with ⟨rfl, rfl⟩ | ⟨n1, r⟩
      · exact hfree k xs h2' e
      · exact w.sepL j k Φ xs a ((set_get h1).elim (fun z => absurd z.1 n1) (·.2)) h2' e r
/-- a thing of one's own is looked at, and changed -/
theorem Rep.mutO (R : Rep K C W H0 T O H σ ρ) {i : Nat} (hs : ρ.sl[i]? = some (.ow Ψ)) : ∃ (v : V) (S : AS), σ[i]? = some (some v) ∧ Ψ.ok v S H (cut O H) ∧ (∀ a, S a → O a ∧ H a ≠ none) ∧
    ∀ (H' : Hp) (S' : AS) (Ψ' : Fo), (∀ a, ¬ S a → ¬ S' a → H' a = H a) → (∀ a, S a → H' a ≠ none) → (∀ a, S' a → (S a ∨ H a = none) ∧ H' a ≠ none) → Ψ'.ok v S' H' (cut (orS O S') H') →
      Rep K C W H0 T (orS O S') H' σ ⟨ρ.tm, ρ.sl.set i (.ow Ψ')⟩ ∧ Same (cut O H) (cut (orS O S') H') := by
  obtain ⟨rg, w⟩ := R.ow
  obtain ⟨v, e1, ok⟩ := w.ok i Ψ hs
  have inO : ∀ a, rg i a → O a := fun a h => (w.rin i Ψ a hs h).1
  refine ⟨v, rg i, e1, ok, fun a h => ⟨inO a h, R.alloc a (inO a h)⟩, fun H' S' Ψ' h1 h2 h3 ok' => ?_⟩
  have out : ∀ a, O a → ¬ rg i a → H' a = H a := fun a ho hn => h1 a hn fun z => (h3 a z).1.elim hn fun y => R.alloc a ho y
  have sc : Same (cut O H) (cut (orS O S') H') := fun a o h => by
    rw [cut_some] at h ⊢
    have nS' : ¬ S' a := fun z => (h3 a z).1.elim (fun y => h.1 (inO a y)) fun y => by rw [h.2] at y; cases y
    exact ⟨fun z => z.elim h.1 nS', (h1 a (fun z => h.1 (inO a z)) nS').trans h.2⟩
  have nT : ∀ t, T = some t → ¬ rg i t.2.2 := fun t hT z => (w.rin i Ψ _ hs z).2.2 t hT rfl
  refine ⟨⟨R.wc, fun a h => .inl (R.co a h), fun a o h n => ?_, fun a h => ?_, fun a h => ?_, ?_, fun t h => .inl (R.tl t h), ?_, fun j s hj => ?_, fun j k xs ys b ne g1 g2 e => ?_, fun j a => (j = i ∧ S' a) ∨ (j ≠ i ∧ rg j a), ?_⟩, sc⟩
  · have q := R.keep a o h n
    by_cases z : rg i a
    · obtain ⟨q1, q2, _⟩ := w.rin i Ψ a hs z
      rcases q2 with q2 | q2
      · rw [(R.loc a q1).resolve_left q2] at h; cases h
      · exact absurd q2 n
    · rw [h1 a z fun y => (h3 a y).1.elim z fun y => by rw [q] at y; cases y]
      exact q
  · rcases h with h | h
    · by_cases z : rg i a
      · exact h2 a z
      · rw [out a h z]; exact R.alloc a h
    · exact (h3 a h).2
  · rcases h with h | h
    · exact R.loc a h
    · rcases (h3 a h).1 with z | z
      · exact R.loc a (inO a z)
      · exact .inr (R.none0 z)
  · show σ.length = (ρ.sl.set i _).length
    rw [List.length_set]; exact R.len
  · have q := R.tm
    show TmOk W C H0 T (orS O S') H' ρ.tm
    revert q
    cases ρ.tm with
    | none => exact fun q => q
    | some z =>
      intro ⟨t, hT, m⟩
      exact ⟨t, hT, sc _ _ m.s, sc _ _ m.g, .inl m.o, (out _ m.o (nT t hT)).trans m.l, m.w⟩
  · rcases set_get hj with ⟨rfl, rfl⟩ | ⟨ne, hj'⟩
    · trivial
    · have q := R.sl j s hj'
      cases s with
      | un => trivial
      | d y => obtain ⟨u, e1, q⟩ := q; exact ⟨u, e1, dp_mono sc _ _ q⟩
      | own zs =>
        obtain ⟨b, ws, f1, q1, q2, q3, q4, q5⟩ := q
        exact ⟨b, ws, f1, .inl q1, q2, q3, (out b q1 (w.sepL i j Ψ zs b hs hj' f1)).trans q4, dpa_mono sc _ _ q5⟩
      | stm => exact q
      | plc => exact q
      | scr ns => obtain ⟨b, e1, q⟩ := q; exact ⟨b, e1, sc.seq q⟩
      | fz Φ => obtain ⟨b, e1, q⟩ := q; exact ⟨b, e1, Φ.mono sc q⟩
      | ow Ψ => trivial
  · rcases set_get g1 with ⟨_, q⟩ | ⟨_, g1'⟩
    · cases q
    rcases set_get g2 with ⟨_, q⟩ | ⟨_, g2'⟩
    · cases q
    exact R.apart j k xs ys b ne g1' g2' e
  · have fr : ∀ (j : Nat) (Φ : Fo) (a : Addr), j ≠ i → ρ.sl[j]? = some (.ow Φ) → rg j a → ¬ rg i a ∧ ¬ S' a := fun j Φ a ne hj r => by
      have z := w.sep j i Φ Ψ a ne hj hs r
      exact ⟨z, fun y => (h3 a y).1.elim z fun y => R.alloc a (w.rin j Φ a hj r).1 y⟩
    refine ⟨fun j Φ h => ?_, fun j Φ a h r => ?_, fun j k Φ Φ' a ne g1 g2 r1 r2 => ?_, fun j k Φ xs a g1 g2 e r => ?_⟩
    · rcases set_get h with ⟨rfl, q⟩ | ⟨n1, h'⟩
      · cases q
        refine ⟨v, e1, ?_⟩
        have e : (fun a => (j = j ∧ S' a) ∨ (j ≠ j ∧ rg j a)) = S' := funext fun a => propext ⟨fun z => z.elim (·.2) fun z => absurd rfl z.1, fun z => .inl ⟨rfl, z⟩⟩
        rw [e]
        exact ok'
      · obtain ⟨u, f1, q⟩ := w.ok j Φ h'
        refine ⟨u, f1, ?_⟩
        have e : (fun a => (j = i ∧ S' a) ∨ (j ≠ i ∧ rg j a)) = rg j := funext fun a => propext ⟨fun z => z.elim (fun z => absurd z.1 n1) (·.2), fun z => .inr ⟨n1, z⟩⟩
        rw [e]
        exact Φ.mono sc (Φ.loc (fun a r => h1 a (fr j Φ a n1 h' r).1 (fr j Φ a n1 h' r).2) q)
    · rcases r with ⟨rfl, r⟩ | ⟨n1, r⟩
      · rcases (h3 a r).1 with z | z
        · obtain ⟨q1, q2, q3⟩ := w.rin j Ψ a hs z
          exact ⟨.inl q1, q2, q3⟩
        · exact ⟨.inr r, .inl fun y => R.alloc a (R.co a y) z, fun t hT e => R.alloc _ (R.tl t hT) (e ▸ z)⟩
      · obtain ⟨q1, q2, q3⟩ := w.rin j Φ a ((set_get h).elim (fun z => absurd z.1 n1) (·.2)) r
        exact ⟨.inl q1, q2, q3⟩
    · rcases r1 with ⟨rfl, r1⟩ | ⟨n1, r1⟩
      · rcases r2 with ⟨e, _⟩ | ⟨n2, r2⟩
        · exact ne e.symm
        · exact (fr k Φ' a n2 ((set_get g2).elim (fun z => absurd z.1 n2) (·.2)) r2).2 r1
      · have g1' := (set_get g1).elim (fun z => absurd z.1 n1) (·.2)
        rcases r2 with ⟨rfl, r2⟩ | ⟨n2, r2⟩
        · exact (fr j Φ a n1 g1' r1).2 r2
        · exact w.sep j k Φ Φ' a ne g1' ((set_get g2).elim (fun z => absurd z.1 n2) (·.2)) r1 r2
    · rcases set_get g2 with ⟨_, q⟩ | ⟨n2, g2'⟩
      · cases q
      rcases r with ⟨rfl, r⟩ | ⟨n1, r⟩
      · rcases (h3 a r).1 with z | z
        · exact w.sepL j k Ψ xs a hs g2' e z
        · obtain ⟨b, ws, f1, q1, _⟩ := R.sl k _ g2'
          rw [e] at f1
          cases f1
          exact R.alloc a q1 z
      · exact w.sepL j k Φ xs a ((set_get g1).elim (fun z => absurd z.1 n1) (·.2)) g2' e r
end
end TC

set_option maxRecDepth 100000
set_option maxHeartbeats 4000000
/-! Dicts whose keys are ints or texts: of one's own, and such that stand still. -/
namespace TC
open PySem PySem.Spec L2
def kD (k : Key) : PyData := Sum.elim PyData.int PyData.str k
theorem dq_kV {K : PySem.W.Frag} {H : Hp} {v : V} {k : Key} (h : Dq K H v (kD k)) : v = kV k := by
  cases k with
  | inl i => cases h; rfl
  | inr s => cases h; rfl
abbrev KD := List (Key × PyData)
inductive DKs (K : PySem.W.Frag) (Z : Hp) : List (Key × V) → KD → Prop
  | nil : DKs K Z [] []
  | cons {k : Key} {v : V} {kvs : List (Key × V)} {d : PyData} {ks : KD} : Dq K Z v d → DKs K Z kvs ks → DKs K Z ((k, v) :: kvs) ((k, d) :: ks)
def valP (ks : KD) (k : Key) : Option PyData := (ks.find? fun p => decide (p.1 = k)).map (·.2)
def putP (ks : KD) (k : Key) (x : PyData) : KD := if (ks.any fun p => decide (p.1 = k)) = true then ks.map (fun p => if p.1 = k then (p.1, x) else p) else ks ++ [(k, x)]
def dropP (ks : KD) (k : Key) : KD := ks.filter fun p => decide (p.1 ≠ k)
def dD (ks : KD) : PyData := .dict (ks.map fun p => (kD p.1, p.2))
section
variable {K : PySem.W.Frag} {Z Z' : Hp} {kvs : List (Key × V)} {ks : KD} {k : Key} {v : V} {x : PyData}
theorem DKs.mono (e : Same Z Z') (h : DKs K Z kvs ks) : DKs K Z' kvs ks := by
  induction h with
  | nil => exact .nil
  | cons d _ ih => exact .cons (dp_mono e _ _ d) ih
theorem DKs.len (h : DKs K Z kvs ks) : kvs.length = ks.length := by
  induction h with
  | nil => rfl
  | cons _ _ ih => rw [List.length_cons, List.length_cons, ih]
theorem DKs.get (h : DKs K Z kvs ks) (k : Key) : (valP ks k = none ∧ valV kvs k = none) ∨ ∃ v x, valP ks k = some x ∧ valV kvs k = some v ∧ Dq K Z v x := by
  induction h with
  | nil => exact .inl ⟨rfl, rfl⟩
  | @cons k0 v kvs d ks h1 h2 ih =>
    by_cases e : k0 = k
    · refine .inr ⟨v, d, ?_, valV_pos (p := (k0, v)) e, h1⟩
      unfold valP
      rw [List.find?_cons_of_pos (by simpa using e)]; rfl
    · rw [valV_neg (p := (k0, v)) e]
      have : valP ((k0, d) :: ks) k = valP ks k := by
        unfold valP
        rw [List.find?_cons_of_neg (by simpa using e)]
      rw [this]
      exact ih
theorem DKs.any (h : DKs K Z kvs ks) : (kvs.any fun p => decide (p.1 = k)) = ks.any fun p => decide (p.1 = k) := by
  induction h with
  | nil => rfl
  | cons _ _ ih => rw [List.any_cons, List.any_cons, ih]
theorem DKs.app {kvs2 : List (Key × V)} {ks2 : KD} (h : DKs K Z kvs ks) (h2 : DKs K Z kvs2 ks2) : DKs K Z (kvs ++ kvs2) (ks ++ ks2) := by
  induction h with
  | nil => exact h2
  | cons d _ ih => exact .cons d ih
theorem DKs.put (h : DKs K Z kvs ks) (d : Dq K Z v x) : DKs K Z (putK kvs k v) (putP ks k x) := by
  unfold putK putP
  rw [h.any (k := k)]
  by_cases e : (ks.any fun p => decide (p.1 = k)) = true
  · rw [if_pos e, if_pos e]
    clear e
    induction h with
    | nil => exact .nil
    | @cons k0 v0 kvs d0 ks h1 h2 ih =>
      rw [List.map_cons, List.map_cons]
      by_cases e : k0 = k
      · rw [if_pos e, if_pos e]; exact .cons d ih
      · rw [if_neg e, if_neg e]; exact .cons h1 ih
  · rw [if_neg e, if_neg e]
    exact h.app (.cons d .nil)
theorem DKs.drop (h : DKs K Z kvs ks) : DKs K Z (dropK kvs k) (dropP ks k) := by
  unfold dropK dropP
  induction h with
  | nil => exact .nil
  | @cons k0 v0 kvs d0 ks h1 h2 ih =>
    by_cases e : k0 = k
    · rw [List.filter_cons_of_neg (by simpa using e), List.filter_cons_of_neg (by simpa using e)]; exact ih
    · rw [List.filter_cons_of_pos (by simpa using e), List.filter_cons_of_pos (by simpa using e)]; exact .cons h1 ih
theorem dks_of : ∀ {ks : KD} {kvs : List (Key × V)}, DqK K Z kvs (ks.map fun p => (kD p.1, p.2)) → DKs K Z kvs ks
  | [], _, h => by cases h; exact .nil
  | (k, d) :: ks, _, h => by
    generalize e : (((k, d) :: ks).map fun p : Key × PyData => (kD p.1, p.2)) = l at h
    cases h with
    | nil => cases e
    | @cons k' v kvs d' ks' h1 h2 =>
      rw [List.map_cons] at e
      simp only [List.cons.injEq, Prod.mk.injEq] at e
      obtain ⟨⟨e1, rfl⟩, rfl⟩ := e
      have ek : k' = k := by
        cases k <;> cases k' <;> first | (cases e1; rfl) | cases e1
      subst ek
      exact .cons h1 (dks_of h2)
theorem DKs.toK (h : DKs K Z kvs ks) : DqK K Z kvs (ks.map fun p => (kD p.1, p.2)) := by
  induction h with
  | nil => exact .nil
  | @cons k v kvs d ks h1 _ ih => exact .cons (k := k) h1 ih
end
/-- a dict of one's own -/
def dcO (K : PySem.W.Frag) (ks : KD) : Fo where
  ok := fun v S H Z => ∃ (a : Addr) (kvs : List (Key × V)), v = .ref a ∧ S = (fun b => b = a) ∧ H a = some (.dK kvs) ∧ DKs K Z kvs ks
  loc := fun e ⟨a, kvs, h1, h2, h3, h4⟩ => ⟨a, kvs, h1, h2, (e a (by rw [h2])).trans h3, h4⟩
  mono := fun e ⟨a, kvs, h1, h2, h3, h4⟩ => ⟨a, kvs, h1, h2, h3, h4.mono e⟩
/-- a dict that stands still -/
def dcZ (K : PySem.W.Frag) (ks : KD) : Fz where
  ok := fun v Z => ∃ (a : Addr) (kvs : List (Key × V)), v = .ref a ∧ Z a = some (.dK kvs) ∧ DKs K Z kvs ks
  mono := fun e ⟨a, kvs, h1, h2, h3⟩ => ⟨a, kvs, h1, e _ _ h2, h3.mono e⟩
inductive DcS (K : PySem.W.Frag) (ks : KD) : Sl → Prop
  | o : DcS K ks (.ow (dcO K ks))
  | z : DcS K ks (.fz (dcZ K ks))
  | d : DcS K ks (.d (dD ks))
section
variable {K : PySem.W.Frag} {C W O : AS} {H0 H H' : Hp} {T : Option Trip} {σ : L2.St} {ρ ρ' : En} {ks : KD} {s : Sl}
theorem dc_view {i : Nat} (hs : ρ.sl[i]? = some s) (d : DcS K ks s) (R : Rep K C W H0 T O H σ ρ) : ∃ (a : Addr) (kvs : List (Key × V)), σ[i]? = some (some (.ref a)) ∧ H a = some (.dK kvs) ∧ DKs K (cut O H) kvs ks := by
  cases d with
  | o =>
    obtain ⟨rg, w⟩ := R.ow
    obtain ⟨v, e1, a, kvs, rfl, _, h3, h4⟩ := w.ok i _ hs
    exact ⟨a, kvs, e1, h3, h4⟩
  | z =>
    obtain ⟨v, e1, a, kvs, rfl, h3, h4⟩ := R.sl i _ hs
    exact ⟨a, kvs, e1, (cut_some.mp h3).2, h4⟩
  | d =>
    obtain ⟨v, e1, h⟩ := R.sl i _ hs
    unfold dD at h
    generalize e : (ks.map fun p => (kD p.1, p.2)) = l at h
    cases h with
    | dic h3 h4 => subst e; exact ⟨_, _, e1, (cut_some.mp h3).2, dks_of h4⟩
    | ins h3 h4 =>
      cases ks with
      | nil => cases e
      | cons p ks =>
        rw [List.map_cons] at e
        simp only [List.cons.injEq, Prod.mk.injEq] at e
        obtain ⟨k, x⟩ := p
        cases k <;> cases e.1.1
end
section
variable {F : Fam} {ρ ρ1 ρ2 : En} {e a b : Expr} {x : PyData} {pos p p2 p3 : Pos} {n : Str} {ks : KD} {k : Key} {s : Sl}
theorem be_dgetN (i : Nat) {tm tm' : Option (List Int × Int)} {sl : List Sl} (hs : sl[i]? = some s) (d : DcS F.K ks s) (hb : BE F ⟨tm, sl⟩ b (kD k) ⟨tm', sl⟩) (hv' : valP ks k = some x) (hN : F.N[i]? = some n := by rfl) (hv : Vis F.sc n := by first | exact Or.inl rfl | exact Or.inr (Or.inl rfl) | exact Or.inr (Or.inr rfl))
    (hno : NoSl b := by intro _ _; rfl) (hd : (n == ("__debug__" : Str)) = false := by decide) (hcd : (n == ("__classdict__" : Str)) = false := by decide) : BE F ⟨tm, sl⟩ (.Subscript (.Name n p) b pos) x ⟨tm', sl⟩ := by
  obtain ⟨tb, pb, eb⟩ := hb
  refine ⟨tDGet (tVar i) tb, fun X hX => pe_dget (by have := hX.un; omega) (pe_var (by rw [hX.N]; exact hN) (hX.vis hv) hd hcd) (pb X hX) hno, fun C W H0 T O H σ R Q q => ?_⟩
  obtain ⟨a0, _, e0, _⟩ := dc_view (ρ := ⟨tm, sl⟩) hs d R
  refine ⟨_, e0, eb C W H0 T O H σ R _ fun w H1 R1 s1 d1 => ?_⟩
  obtain ⟨a1, kvs, e1, h1, h2⟩ := dc_view (ρ := ⟨tm', sl⟩) hs d R1
  rw [e0] at e1
  cases e1
  rcases h2.get k with ⟨z, _⟩ | ⟨v, y, g1, g2, g3⟩
  · rw [hv'] at z; cases z
  · rw [hv'] at g1
    cases g1
    exact ⟨a0, v, rfl, .inl ⟨kvs, k, .inl h1, dq_kV d1, g2.symm⟩, q v H1 R1 s1 g3⟩
theorem be_dinN (i : Nat) {tm tm' : Option (List Int × Int)} {sl : List Sl} (hs : sl[i]? = some s) (d : DcS F.K ks s) (hb : BE F ⟨tm, sl⟩ b (kD k) ⟨tm', sl⟩) (hN : F.N[i]? = some n := by rfl) (hv : Vis F.sc n := by first | exact Or.inl rfl | exact Or.inr (Or.inl rfl) | exact Or.inr (Or.inr rfl))
    (hm : behindInMarks .In (.Name n p) = false := by rfl) (hd : (n == ("__debug__" : Str)) = false := by decide) (hcd : (n == ("__classdict__" : Str)) = false := by decide) : BE F ⟨tm, sl⟩ (.Compare b [.In] [.Name n p] pos) (.bool (valP ks k).isSome) ⟨tm', sl⟩ := by
  obtain ⟨tb, pb, eb⟩ := hb
  refine ⟨tDIn tb (tVar i), fun X hX => pe_cmp (pc_din (by have := hX.un; omega) (pb X hX) (pe_var (by rw [hX.N]; exact hN) (hX.vis hv) hd hcd)) hm, fun C W H0 T O H σ R Q q => eb C W H0 T O H σ R _ fun w H1 R1 s1 d1 => ?_⟩
  obtain ⟨a1, kvs, e1, h1, h2⟩ := dc_view (ρ := ⟨tm', sl⟩) hs d R1
  refine ⟨_, e1, a1, valV kvs k, rfl, .inl ⟨kvs, k, .inl h1, dq_kV d1, rfl⟩, q _ H1 R1 s1 ?_⟩
  have : (valV kvs k).isSome = (valP ks k).isSome := by
    rcases h2.get k with ⟨z, y⟩ | ⟨v, y, g1, g2, g3⟩
    · rw [z, y]; rfl
    · rw [g1, g2]; rfl
  rw [this]
  exact .bl _
theorem bt_dinN (i : Nat) {tm tm' : Option (List Int × Int)} {sl : List Sl} (hs : sl[i]? = some s) (d : DcS F.K ks s) (hb : BE F ⟨tm, sl⟩ b (kD k) ⟨tm', sl⟩) (hN : F.N[i]? = some n := by rfl) (hv : Vis F.sc n := by first | exact Or.inl rfl | exact Or.inr (Or.inl rfl) | exact Or.inr (Or.inr rfl))
    (hm : behindInMarks .In (.Name n p) = false := by rfl) (hd : (n == ("__debug__" : Str)) = false := by decide) (hcd : (n == ("__classdict__" : Str)) = false := by decide) : BT F ⟨tm, sl⟩ (.Compare b [.In] [.Name n p] pos) (valP ks k).isSome ⟨tm', sl⟩ := by
  obtain ⟨tb, pb, eb⟩ := hb
  refine ⟨tB (tDIn tb (tVar i)), fun X hX => pt_cmp (pc_din (by have := hX.un; omega) (pb X hX) (pe_var (by rw [hX.N]; exact hN) (hX.vis hv) hd hcd)) hm, fun C W H0 T O H σ R Q q => eb C W H0 T O H σ R _ fun w H1 R1 s1 d1 => ?_⟩
  obtain ⟨a1, kvs, e1, h1, h2⟩ := dc_view (ρ := ⟨tm', sl⟩) hs d R1
  refine ⟨_, e1, a1, valV kvs k, rfl, .inl ⟨kvs, k, .inl h1, dq_kV d1, rfl⟩, ?_⟩
  have : (valV kvs k).isSome = (valP ks k).isSome := by
    rcases h2.get k with ⟨z, y⟩ | ⟨v, y, g1, g2, g3⟩
    · rw [z, y]; rfl
    · rw [g1, g2]; rfl
  exact ⟨_, by rw [this], q H1 R1 s1⟩
theorem bt_dninN (i : Nat) {tm tm' : Option (List Int × Int)} {sl : List Sl} (hs : sl[i]? = some s) (d : DcS F.K ks s) (hb : BE F ⟨tm, sl⟩ b (kD k) ⟨tm', sl⟩) (hN : F.N[i]? = some n := by rfl) (hv : Vis F.sc n := by first | exact Or.inl rfl | exact Or.inr (Or.inl rfl) | exact Or.inr (Or.inr rfl))
    (hm : behindInMarks .NotIn (.Name n p) = false := by rfl) (hd : (n == ("__debug__" : Str)) = false := by decide) (hcd : (n == ("__classdict__" : Str)) = false := by decide) : BT F ⟨tm, sl⟩ (.Compare b [.NotIn] [.Name n p] pos) (!(valP ks k).isSome) ⟨tm', sl⟩ := by
  obtain ⟨tb, pb, eb⟩ := hb
  refine ⟨tB (tDNotIn tb (tVar i)), fun X hX => pt_cmp (pc_dnotin (by have := hX.un; omega) (pb X hX) (pe_var (by rw [hX.N]; exact hN) (hX.vis hv) hd hcd)) hm, fun C W H0 T O H σ R Q q => eb C W H0 T O H σ R _ fun w H1 R1 s1 d1 => ?_⟩
  obtain ⟨a1, kvs, e1, h1, h2⟩ := dc_view (ρ := ⟨tm', sl⟩) hs d R1
  refine ⟨_, e1, a1, valV kvs k, rfl, .inl ⟨kvs, k, .inl h1, dq_kV d1, rfl⟩, ?_⟩
  have : (valV kvs k).isSome = (valP ks k).isSome := by
    rcases h2.get k with ⟨z, y⟩ | ⟨v, y, g1, g2, g3⟩
    · rw [z, y]; rfl
    · rw [g1, g2]; rfl
  exact ⟨_, by rw [this], q H1 R1 s1⟩
theorem be_lenDN (i : Nat) (hs : ρ.sl[i]? = some s) (d : DcS F.K ks s) (hm : F.mg "len" = none) (hg : F.sc.names.lookup ("len" : Str) = some .globalImplicit := by rfl) (hN : F.N[i]? = some n := by rfl) (hv : Vis F.sc n := by first | exact Or.inl rfl | exact Or.inr (Or.inl rfl) | exact Or.inr (Or.inr rfl))
    (hd : (n == ("__debug__" : Str)) = false := by decide) (hcd : (n == ("__classdict__" : Str)) = false := by decide) : BE F ρ (.Call (.Name "len" p) [.Name n p2] [] pos) (.int ks.length) ρ := by
  refine ⟨tCB (fun xs H Q => ∃ a kvs, xs = [V.ref a] ∧ H a = some (.dK kvs) ∧ Q (.int kvs.length) H) (tCons (tVar i) tNil), fun X hX => ?_, fun C W H0 T O H σ R Q q => ?_⟩
  · exact pe_callB call_lenD (hX.gl hg) (by rw [hX.mg]; exact hm) PySem.boot_len (pa_cons (pe_var (by rw [hX.N]; exact hN) (hX.vis hv) hd hcd) pa_nil rfl) (by decide) (by decide) rfl rfl
  · obtain ⟨a1, kvs, e1, h1, h2⟩ := dc_view hs d R
    refine ⟨_, e1, a1, kvs, rfl, h1, ?_⟩
    rw [h2.len]
    exact q _ H R Same.rfl' (.int _)
/-- name = {} -/
theorem bs_dnew (i : Nat) (hN : F.N[i]? = some n := by rfl) (hx : Loc F.sc n := by first | exact Or.inl rfl | exact Or.inr rfl) (hf : F.df = true ∨ F.sc.names.lookup n = some .local := by first | exact Or.inl rfl | exact Or.inr rfl)
    (hs : ∀ X, Fits F X → swapsWith (.Dict [] [] p2) (some (.Name n p)) pos.line X.env = pure false := by intro _ _; rfl) : BS F ρ (.Assign [.Name n p] (.Dict [] [] p2) pos) (.nx ⟨ρ.tm, ρ.sl.set i (.ow (dcO F.K []))⟩) := by
  refine ⟨_, fun X hX => ps_set (i := i) (by rw [hX.N]; exact hX.nd) (by rw [hX.N]; exact hN) (by rw [hX.sc]; exact hx) pe_dnewK (hs X hX) (by rw [hX.sc]; exact hf.imp (fun z => hX.fn z n) id), fun C W H0 T0 T O H σ D e R kk => fun l hl => ?_⟩
  have s1 : Same H (upd H l (.dK [])) := same_new hl
  have R1 := R.hide hl s1 (by rw [upd_same]; simp)
  exact kk _ _ (or1 O l) T e (R.putO R1 hl ⟨l, [], rfl, rfl, upd_same, .nil⟩ fun t hT z => R.nof hl (z ▸ R.tl t hT)) (cut_or1 s1 hl)
end
end TC

set_option maxRecDepth 100000
set_option maxHeartbeats 4000000
/-! Dicts of one's own, changed. -/
namespace TC
open PySem PySem.Spec L2
section
variable {K : PySem.W.Frag} {C W O : AS} {H0 H H' : Hp} {T : Option Trip} {σ : L2.St} {ρ : En} {ks ks' : KD}
/-- another dict in its place -/
theorem Rep.dmut (R : Rep K C W H0 T O H σ ρ) {i : Nat} (hs : ρ.sl[i]? = some (.ow (dcO K ks))) : ∃ (a : Addr) (kvs : List (Key × V)), σ[i]? = some (some (.ref a)) ∧ H a = some (.dK kvs) ∧ DKs K (cut O H) kvs ks ∧
    ∀ (kvs' : List (Key × V)) (ks' : KD), DKs K (cut O H) kvs' ks' → Rep K C W H0 T O (upd H a (.dK kvs')) σ ⟨ρ.tm, ρ.sl.set i (.ow (dcO K ks'))⟩ ∧ Same (cut O H) (cut O (upd H a (.dK kvs'))) := by
  obtain ⟨v, S, e1, ⟨a, kvs, rfl, rfl, h3, h4⟩, hin, m⟩ := R.mutO hs
  have eO : orS O (fun b => b = a) = O := funext fun b => propext ⟨fun z => z.elim id fun z => z ▸ (hin a rfl).1, .inl⟩
  refine ⟨a, kvs, e1, h3, h4, fun kvs' ks' d => ?_⟩
  have hS : ∀ b, b = a → (upd H a (.dK kvs')) b ≠ none := fun b z => by rw [z, upd_same]; simp
  have z := m (upd H a (.dK kvs')) (fun b => b = a) (dcO K ks') (fun b n _ => upd_ne n) hS (fun b z => ⟨.inl z, hS b z⟩) ⟨a, kvs', rfl, rfl, upd_same, d.mono fun b o h => ?_⟩
  · rw [eO] at z
    exact z
  rw [eO]
  rw [cut_some] at h ⊢
  have nb : b ≠ a := fun z => h.1 (z ▸ (hin a rfl).1)
  exact ⟨h.1, (upd_ne nb).trans h.2⟩
end
section
variable {F : Fam} {ρ ρ1 ρ2 : En} {e a b : Expr} {x : PyData} {pos p p2 p3 : Pos} {n : Str} {ks : KD} {k : Key}
/-- d[k] = e -/
theorem bs_dput (i : Nat) {tm tm1 tm2 : Option (List Int × Int)} {sl : List Sl} (he : BE F ⟨tm, sl⟩ e x ⟨tm1, sl⟩) (hb : BE F ⟨tm1, sl⟩ b (kD k) ⟨tm2, sl⟩) (hs : sl[i]? = some (.ow (dcO F.K ks))) (hz : ks.length ≤ 100000) (hN : F.N[i]? = some n := by rfl) (hv : Vis F.sc n := by first | exact Or.inl rfl | exact Or.inr (Or.inl rfl) | exact Or.inr (Or.inr rfl))
    (hd : (n == ("__debug__" : Str)) = false := by decide) (hcd : (n == ("__classdict__" : Str)) = false := by decide) (hw : ∀ X, Fits F X → swapsWith e (some (.Subscript (.Name n p) b p2)) pos.line X.env = pure false := by intro _ _; rfl) : BS F ⟨tm, sl⟩ (.Assign [.Subscript (.Name n p) b p2] e pos) (.nx ⟨tm2, sl.set i (.ow (dcO F.K (putP ks k x)))⟩) := by
  obtain ⟨te, pe, ee⟩ := he
  obtain ⟨tb, pb, eb⟩ := hb
  refine ⟨_, fun X hX => ps_dput (by have := hX.un; omega) (pe_var (i := i) (by rw [hX.N]; exact hN) (hX.vis hv) hd hcd) (pb X hX) (pe X hX) (hw X hX), fun C W H0 T0 T O H σ D e R kk => ee C W H0 T O H σ R _ fun v H1 R1 s1 d1 => ?_⟩
  obtain ⟨a0, kv0, e0, h0, _⟩ := dc_view (ρ := ⟨tm1, sl⟩) hs .o R1
  refine ⟨_, e0, eb C W H0 T O H1 σ R1 _ fun w H2 R2 s2 d2 => ?_⟩
  obtain ⟨a1, kvs, e1, h1, h2, m⟩ := Rep.dmut (ρ := ⟨tm2, sl⟩) R2 hs
  rw [e0] at e1
  cases e1
  obtain ⟨R', s'⟩ := m (putK kvs k v) (putP ks k x) (h2.put (dp_mono s2 _ _ d1))
  exact ⟨a0, _, rfl, .inl ⟨kvs, k, h1, dq_kV d2, Nat.lt_of_le_of_lt (by rw [h2.len]; exact hz) (by decide), rfl⟩, kk σ _ O T e R' ((s1.trans s2).trans s')⟩
/-- del d[k] -/
theorem bs_ddel (i : Nat) {tm tm1 : Option (List Int × Int)} {sl : List Sl} (hb : BE F ⟨tm, sl⟩ b (kD k) ⟨tm1, sl⟩) (hs : sl[i]? = some (.ow (dcO F.K ks))) (hk : (valP ks k).isSome = true) (hN : F.N[i]? = some n := by rfl) (hv : Vis F.sc n := by first | exact Or.inl rfl | exact Or.inr (Or.inl rfl) | exact Or.inr (Or.inr rfl))
    (hd : (n == ("__debug__" : Str)) = false := by decide) (hcd : (n == ("__classdict__" : Str)) = false := by decide) : BS F ⟨tm, sl⟩ (.Delete [.Subscript (.Name n p) b p2] pos) (.nx ⟨tm1, sl.set i (.ow (dcO F.K (dropP ks k)))⟩) := by
  obtain ⟨tb, pb, eb⟩ := hb
  refine ⟨_, fun X hX => ps_ddel (pe_var (i := i) (by rw [hX.N]; exact hN) (hX.vis hv) hd hcd) (pb X hX), fun C W H0 T0 T O H σ D e R kk => ?_⟩
  obtain ⟨a0, kv0, e0, h0, _⟩ := dc_view (ρ := ⟨tm, sl⟩) hs .o R
  refine ⟨_, e0, eb C W H0 T O H σ R _ fun w H2 R2 s2 d2 => ?_⟩
  obtain ⟨a1, kvs, e1, h1, h2, m⟩ := Rep.dmut (ρ := ⟨tm1, sl⟩) R2 hs
  rw [e0] at e1
  cases e1
  obtain ⟨R', s'⟩ := m (dropK kvs k) (dropP ks k) h2.drop
  refine ⟨a0, kvs, k, rfl, h1, dq_kV d2, ?_, kk σ _ O T e R' (s2.trans s')⟩
  rcases h2.get k with ⟨z, _⟩ | ⟨v, y, g1, g2, _⟩
  · rw [z] at hk; cases hk
  · rw [g2]; rfl
/-- d.pop(k), what it hands back -/
theorem be_dpop (i : Nat) {tm tm1 : Option (List Int × Int)} {sl : List Sl} {apos cpos : Pos} (hb : BE F ⟨tm, sl⟩ b (kD k) ⟨tm1, sl⟩) (hs : sl[i]? = some (.ow (dcO F.K ks))) (hk : valP ks k = some x) (hN : F.N[i]? = some n := by rfl) (hv : Vis F.sc n := by first | exact Or.inl rfl | exact Or.inr (Or.inl rfl) | exact Or.inr (Or.inr rfl))
    (hd : (n == ("__debug__" : Str)) = false := by decide) (hcd : (n == ("__classdict__" : Str)) = false := by decide) (hm : ∀ X, Fits F X → M1 X (.Name n p) "pop" apos b cpos := by intro _ _; exact ⟨rfl, rfl, rfl, rfl⟩) : BE F ⟨tm, sl⟩ (.Call (.Attribute (.Name n p) "pop" apos) [b] [] cpos) x ⟨tm1, sl.set i (.ow (dcO F.K (dropP ks k)))⟩ := by
  obtain ⟨tb, pb, eb⟩ := hb
  refine ⟨_, fun X hX => pe_dpop1 (m := hm X hX) (pe_var (i := i) (by rw [hX.N]; exact hN) (hX.vis hv) hd hcd) (pb X hX), fun C W H0 T O H σ R Q q => ?_⟩
  obtain ⟨a0, kv0, e0, h0, _⟩ := dc_view (ρ := ⟨tm, sl⟩) hs .o R
  refine ⟨_, e0, a0, rfl, .inl ⟨kv0, .inl h0⟩, eb C W H0 T O H σ R _ fun w H2 R2 s2 d2 => ?_⟩
  obtain ⟨a1, kvs, e1, h1, h2, m⟩ := Rep.dmut (ρ := ⟨tm1, sl⟩) R2 hs
  rw [e0] at e1
  cases e1
  obtain ⟨R', s'⟩ := m (dropK kvs k) (dropP ks k) h2.drop
  rcases h2.get k with ⟨z, _⟩ | ⟨v, y, g1, g2, g3⟩
  · rw [z] at hk; cases hk
  · rw [hk] at g1
    cases g1
    exact ⟨kvs, k, v, h1, dq_kV d2, g2, q v _ R' (s2.trans s') (dp_mono s' _ _ g3)⟩
end
end TC

set_option maxRecDepth 100000
set_option maxHeartbeats 4000000
/-! enumerate(tuple). -/
namespace PySem
namespace EnT
open Sem (wp)
open PyProof.Rows
set_option maxHeartbeats 1000000 in
/-- enumerate(v): the call of its maker -/
theorem meets1 {v : Value} {o : Obj} {H : Heap → Prop} (B : Begins v o H) :
    Meets (Builtin.«enumerate.__new__» ⟨[.type "enumerate", v], []⟩) (fun _ R s => H s.heap ∧
      R (.ok (.ret (.ref (s.heap.push o).objs.size))) { s with heap := (s.heap.push o).push { cls := .type "enumerate", data := .fields #[.none, .bool false, .ref s.heap.objs.size, rawInt 0, .none, .none] } }) :=
  .of_wp fun prog w A R s h => by
    obtain ⟨hp, g, d, tk, os⟩ := s; obtain ⟨h1, h⟩ := h
    have hsub := sub_enumerate
    have q1 : ∀ {A' : Around} {E : Value → Shared → Prop} {Q : Value → Shared → Prop}, Q (.ref hp.objs.size) ⟨hp.push o, g, d, tk, os⟩ → wpAny (model prog w) A' (pyIter v) Q E ⟨hp, g, d, tk, os⟩ :=
      fun q => B.iter prog w _ _ ⟨hp, g, d, tk, os⟩ _ h1 q
    wp_walk using q1
    refine wpAny_stack_any fun st => wpAny_pure ?_
    split
    · rename_i c _ _ _ _ _
      cases (c == Value.type "enumerate") <;> (wp_walk using q1) <;> exact ⟨_, rfl, h⟩
    · wp_walk using q1
      exact ⟨_, rfl, h⟩
section
variable {prog : Program} {w : World} {A : Around} {E : Value → Shared → Prop} {s : Shared}
theorem begins1 {v : Value} {o : Obj} {H : Heap → Prop} {Q : Value → Shared → Prop} (B : Begins v o H) (h1 : H s.heap)
    (h : ∀ h', IsEnum h' (s.heap.objs.size + 1) s.heap.objs.size 0 .none → h'.get? s.heap.objs.size = some o →
      (∀ b o, s.heap.get? b = some o → h'.get? b = some o) → Q (.ref (s.heap.objs.size + 1)) { s with heap := h' }) :
    wpAny (model prog w) A (call (.type "enumerate") [v]) Q E s := by
  refine callType_new F.called_enumerate (by decide) (F.typeCall_enumerate_1 _) (F.newCall_enumerate_1 _) (fun obj => F.args_object_init_2 obj _) F.entry_enumerate_new (meets1 B) ⟨h1, ?_⟩
  have hz : (s.heap.push o).objs.size = s.heap.objs.size + 1 := Heap.size_push ..
  show _ ∧ _
  rw [hz]
  have he : IsEnum ((s.heap.push o).push { cls := .type "enumerate", data := .fields #[.none, .bool false, .ref s.heap.objs.size, rawInt 0, .none, .none] }) (s.heap.objs.size + 1) s.heap.objs.size 0 .none := by
    have := Heap.get?_push_size (s.heap.push o) (o := { cls := .type "enumerate", data := .fields #[.none, .bool false, .ref s.heap.objs.size, rawInt 0, .none, .none] }) rfl
    rw [hz] at this; exact this
  exact ⟨⟨_, he, rfl⟩, h _ he (Heap.get?_push_of_some _ (Heap.get?_push_size _ B.free)) fun b o x => Heap.get?_push_of_some _ (Heap.get?_push_of_some _ x)⟩
end
end EnT
end PySem
namespace TC
open PySem PySem.Spec L2 PyProof.Rows
/-- the tuple at a, each item in a new pair -/
def ItT (K : PySem.W.Frag) (a : Addr) : It :=
  ⟨fun i H => ∃ (xs : List V) (x : V), SqT K H a xs ∧ xs[i]? = some x, fun i H v H' => ∃ T x, v = .ref T ∧ H T = none ∧ H' = upd H T (.tup [.int (i : Nat), x]) ∧ ∀ xs, SqT K H a xs → xs[i]? = some x, fun i H => ∃ xs : List V, SqT K H a xs ∧ xs.length = i⟩
theorem turn_enumT {P : Program} {w : World} {K : PySem.W.Frag} {elts : List Expr} {kk : Nat} {tpos : Pos} (a e it : Addr) :
    Turn P w K (.Tuple elts kk tpos) (ItT K a) [e, it] e (fun i h => (∃ old, IsEnum h e it ((i : Nat) : Int) old) ∧ h.IsTupleIter it a i ∧ e ≠ it) where
  mem := by simp
  obj := fun i h st b hb => by
    obtain ⟨⟨old, he⟩, ⟨o, ho, hc, hd⟩, _⟩ := st
    have e' : b = e ∨ b = it := by simpa using hb
    rcases e' with z | z
    · rw [z]; exact ⟨_, he, fun v q => nomatch q⟩
    · rw [z]; exact ⟨o, ho, fun v q => by rw [hd] at q; cases q⟩
  keep := fun i h h' st k => let ⟨⟨old, he⟩, hi, hne⟩ := st; ⟨⟨old, k e (by simp) _ he⟩, hi.at fun o q => k it (by simp) o q, hne⟩
  item := by
    intro X hP hw hK hc i pins s σ H E I hf st hg
    subst hP hw hK
    obtain ⟨⟨old, he⟩, hit, hne⟩ := st
    obtain ⟨xs, x, hq, hx⟩ := hg
    obtain ⟨its, rv, hl, hz⟩ := I.tuple hq
    have ht : s.heap.IsTuple a its.toArray := hl
    have hi : i < its.length := by
      have := (List.getElem?_eq_some_iff.mp hx).1
      rw [rv.length] at this; exact this
    have hae : a ≠ e := fun z => by
      obtain ⟨o, ho, hoc, _⟩ := ht
      rw [z] at ho
      rw [he] at ho
      cases ho
      exact absurd (Value.type.inj hoc) (by decide)
    have hai : a ≠ it := fun z => by
      obtain ⟨o, ho, hoc, _⟩ := ht
      obtain ⟨o2, ho2, hc2, _⟩ := hit
      rw [z, ho2] at ho
      cases ho
      rw [hoc] at hc2
      exact absurd (Value.type.inj hc2) (by decide)
    have hel : e < s.heap.objs.size := Heap.lt_size he
    have hil : it < s.heap.objs.size := by obtain ⟨_, q, _⟩ := hit; exact Heap.lt_size q
    have D := Draws.tuple (prog := X.prog) (w := X.w) (A := X.A.in1) (I.ok.hd hc) it a hai its.toArray
    refine wpAny_pyNext_enum_itemD D he ⟨hit, ht⟩ (by simpa using hi) hne (by simp [hne, Ne.symm hae]) fun y h' tk hy ho hst hT hsz hk => ?_
    obtain ⟨hit', ht'⟩ := hst
    obtain ⟨u, hu, ru⟩ := rv.get hx
    have eu : y = u := by
      have : its.toArray[i]? = its[i]? := by simp
      rw [this, hu] at hy
      exact (Option.some.inj hy).symm
    subst eu
    refine ⟨_, rfl, wpAny_letOwnedTupleGo_enum (s := { s with heap := h', toks := tk + 1 }) ho fun h'' he' sb => ?_⟩
    have hT2 : h''.get? s.heap.objs.size = some { cls := .type "tuple", data := .seq #[.int i tk, y] } := (sb.2 _ (Nat.ne_of_gt hel)).trans hT
    have new : ObjOk X.prog X.w (upd H s.heap.objs.size (.tup [.int (i : Nat), x])) h'' s.heap.objs.size (.tup [.int (i : Nat), x]) :=
      ⟨by show 2 ≤ sizeLine; decide, [.int i tk, y], .cons ⟨_, rfl⟩ (.cons ru .nil), ⟨_, hT2, rfl, _, rfl⟩⟩
    have I1 : Inv X pins σ (upd H s.heap.objs.size (.tup [.int (i : Nat), x])) { s with heap := h'', toks := tk + 1 } :=
      I.turnedNew (ch := [e, it]) (fun b ob hb q => (sb.2 b (fun z => hb (by simp [z]))).trans (hk b ob (fun z => hb (by simp [z])) (fun z => hb (by simp [z])) q)) hf (Nat.le_refl _) new
    refine ⟨.ref s.heap.objs.size, _, I1, rfl, ⟨_, x, rfl, I.hok.fresh (Nat.le_refl _), rfl, fun ys hy => by rw [I.tuple_inj hy hq]; exact hx⟩, ⟨⟨y, ?_⟩, hit'.at fun o q => (sb.2 it (Ne.symm hne)).trans q, hne⟩, fun b hb => ?_⟩
    · have e1 : ((i + 1 : Nat) : Int) = (i : Int) + 1 := by omega
      rw [e1]; exact he'
    · have hb' : b < s.heap.objs.size := by
        have e' : b = e ∨ b = it := by simpa using hb
        rcases e' with z | z
        · rw [z]; exact hel
        · rw [z]; exact hil
      rw [upd_ne (Nat.ne_of_lt hb')]
      exact (hf b hb).1
  done := by
    intro X hP hw hK hc i pins s σ H E I hf st hg
    subst hP hw hK
    obtain ⟨⟨old, he⟩, hit, hne⟩ := st
    obtain ⟨xs, hq, hx⟩ := hg
    obtain ⟨its, rv, hl, hz⟩ := I.tuple hq
    have ht : s.heap.IsTuple a its.toArray := hl
    have hai : a ≠ it := fun z => by
      obtain ⟨o, ho, hoc, _⟩ := ht
      obtain ⟨o2, ho2, hc2, _⟩ := hit
      rw [z, ho2] at ho
      cases ho
      rw [hoc] at hc2
      exact absurd (Value.type.inj hc2) (by decide)
    obtain ⟨f0, f1, f2, f3, f4, f5⟩ := hf it (by simp)
    have D := Draws.tuple (prog := X.prog) (w := X.w) (A := X.A.in1) (I.ok.hd hc) it a hai its.toArray
    have en : its.toArray.size = i := by
      rw [List.size_toArray, ← rv.length]; exact hx
    rw [← en] at hit
    exact wpAny_pyNext_enum_endD D he ⟨hit, ht⟩ fun h' eb => ⟨rfl, I.turned (t' := s.toks) (fun b o hb q => eb b o hb q) f0 f1 f3 f4 f5⟩
  self := fun A i s Q E st h => let ⟨⟨_, he⟩, _⟩ := st; wpAny_pyIter_enum he h
def iEnumT (K : PySem.W.Frag) (ta : TA) : TI := fun σ H R => ta σ H fun vs H1 => ∃ a xs, vs = [.ref a] ∧ SqT K H1 a xs ∧ R (ItT K a) H1
theorem pi_enumT {X : Cx} {e : Expr} {ta : TA} {p pos tpos : Pos} {elts : List Expr} {kk : Nat} (hg : Gl X "enumerate") (hm : X.mg "enumerate" = none) (ha : PA X [e] ta) (hs : starEach [e] X.env = [(false, eval e X.env)] := by rfl) :
    PI X (.Tuple elts kk tpos) (.Call (.Name "enumerate" p) [e] [] pos) (iEnumT X.K ta) := by
  refine ⟨fun pins s σ H R I h => ?_⟩
  refine Call_ (ld_blt I hg hm boot_enumerate (PyProof.Rows.callWith_type1 (thn (ha.run pos pins s σ H _ I h) fun us s1 ⟨vs, H1, I1, r1, q1⟩ => ?_) hs rfl))
  obtain ⟨a, xs, ex, hq, q⟩ := q1
  subst ex
  cases r1 with
  | cons r rr =>
    cases rr
    cases r
    obtain ⟨its, rv, hl, hz⟩ := I1.tuple hq
    have ht : s1.heap.IsTuple a its.toArray := hl
    refine PySem.EnT.begins1 (begins_tuple a its.toArray) ht fun h' he hit hk => wpAny_pyIter_enum he ?_
    have I2 : Inv X pins σ H1 { s1 with heap := h' } := I1.kept (t' := s1.toks) hk
    refine ⟨s1.heap.objs.size + 1, [s1.heap.objs.size + 1, s1.heap.objs.size], _, _, H1, rfl, I2, turn_enumT a (s1.heap.objs.size + 1) s1.heap.objs.size, ⟨⟨.none, he⟩, ⟨_, hit, rfl, rfl⟩, Nat.succ_ne_self _⟩, fun b hb => ?_, q⟩
    have e' : b = s1.heap.objs.size + 1 ∨ b = s1.heap.objs.size := by simpa using hb
    have hle : s1.heap.objs.size ≤ b := by
      rcases e' with z | z
      · rw [z]; exact Nat.le_add_right _ _
      · rw [z]; exact Nat.le_refl _
    exact I1.fpOk hle (I1.hok.fresh hle)
/-- the pairs of places and items -/
def enD (xs : List PyData) : List PyData := (List.range xs.length).zipWith (fun (i : Nat) x => .tuple [.int (i : Int), x]) xs
theorem enD_len {xs : List PyData} : (enD xs).length = xs.length := by unfold enD; rw [List.length_zipWith, List.length_range, Nat.min_self]
theorem enD_get {xs : List PyData} {i : Nat} {y : PyData} (h : (enD xs)[i]? = some y) : ∃ x, xs[i]? = some x ∧ y = .tuple [.int (i : Int), x] := by
  unfold enD at h
  rw [List.getElem?_zipWith] at h
  cases hx : xs[i]? with
  | none => rw [hx] at h; simp at h
  | some x =>
    have hi := (List.getElem?_eq_some_iff.mp hx).1
    rw [hx, List.getElem?_range hi] at h
    cases h
    exact ⟨x, rfl, rfl⟩
section
variable {F : Fam} {ρ ρ1 : En} {e : Expr} {xs : List PyData} {pos p tpos : Pos}
theorem bi_enumT {elts : List Expr} {kk : Nat} (ha : BE F ρ e (.tuple xs) ρ1) (hm : F.mg "enumerate" = none) (hg : F.sc.names.lookup ("enumerate" : Str) = some .globalImplicit := by rfl) (hs : ∀ env, starEach [e] env = [(false, eval e env)] := by intro _; rfl) :
    BI F ρ (.Tuple elts kk tpos) (.Call (.Name "enumerate" p) [e] [] pos) (enD xs) ρ1 := by
  obtain ⟨t, p1, e1⟩ := ha
  refine ⟨iEnumT F.K (tCons t tNil), fun X hX => ?_, fun C W H0 T O H σ R Rq q => e1 C W H0 T O H σ R _ fun v H1 R1 s1 d1 => ?_⟩
  · rw [← hX.K]
    exact pi_enumT (hX.gl hg) (by rw [hX.mg]; exact hm) (pa_cons (p1 X hX) pa_nil (hs _)) (hs _)
  · cases d1 with
    | @tup a us _ g1 g2 =>
      refine ⟨a, us, rfl, seqT_mono cut_full g1, q _ H1 R1 s1 fun O' H' al s i => ?_⟩
      have g3 := seqT_mono s g1
      have g4 := dpa_mono s _ _ g2
      rw [enD_len]
      refine ⟨fun hi => ⟨us, seqT_mono cut_full g3, (dpa_len g4).trans hi.symm⟩, fun x hx => ?_⟩
      obtain ⟨x1, hx1, rfl⟩ := enD_get hx
      obtain ⟨v1, hv1, dv1⟩ := dpa_get g4 hx1
      refine ⟨⟨us, v1, seqT_mono cut_full g3, hv1⟩, fun v H'' y => ?_⟩
      obtain ⟨T', x', rfl, hT, rfl, hx'⟩ := y
      have e1 := hx' us (seqT_mono cut_full g3)
      rw [hv1] at e1
      cases e1
      exact ⟨same_new hT, .tup (.inl (.inl (cut_some.mpr ⟨fun z => al _ z hT, upd_same⟩))) (.cons (.int _) (.cons (dp_mono (cut_same (same_new hT)) _ _ dv1) .nil))⟩
end
end TC

set_option maxRecDepth 100000
set_option maxHeartbeats 4000000
/-! a, b, *rest = a tuple. -/
namespace PySem
namespace StarT
open Sem (wp)
open PyProof.Rows
section
variable {prog : Program} {w : World} {A : Around} {E : Value → Shared → Prop} {s : Shared}
theorem walks {it t : Addr} {items : Array Value} {k : Nat} (hh : A.handled = none) (hne : t ≠ it) (hk : k ≤ items.size) :
    WalksS prog w A it [it, t] [it] (fun a b => a = b) (items.size - k) (fun j v => items[k + j]? = some v) (fun j s => IsTupIter s.heap it t (k + j) ∧ IsTup s.heap t items) where
  sub := fun b hb => by rw [List.mem_singleton.mp hb]; simp
  grefl := fun _ => rfl
  gtrans := fun _ _ _ h1 h2 => h1.trans h2
  frame := fun i s h' tk st _ hk => ⟨by
    obtain ⟨o, ho, r⟩ := st.1
    exact ⟨o, hk it (by simp) o ho, r⟩, by
    obtain ⟨o, ho, r⟩ := st.2
    exact ⟨o, hk t (by simp) o ho, r⟩⟩
  item := fun i s Q E hi st hQ => by
    have hlt : k + i < items.size := by omega
    refine next_tuple_item st.1 st.2 (x := items[k + i]) (by simp [hlt]) fun h' hit' hs' => ?_
    exact hQ _ { s with heap := h' } (by simp [hlt]) ⟨hit', st.2.extBut hs'.extBut hne⟩ ⟨fun b o hb e => hs'.extBut b o (by simpa using hb) e, rfl, rfl, rfl, Nat.le_refl _⟩
  done := fun s Q E st hQ => by
    refine next_tuple_end hh st.1 st.2 (by simp; omega) fun h' he => ?_
    exact hQ { s with heap := h' } ⟨fun b o hb e => he b o (by simpa using hb) e, rfl, rfl, rfl, Nat.le_refl _⟩
  self := fun i s Q E st h => by
    obtain ⟨o, ho, hc, hd⟩ := st.1
    exact wpAny_pyIter_tupleiter ⟨o, ho, hc, hd⟩ h
theorem unpack {t : Addr} {items : Array Value} {k : Nat} {Q : List Value → Shared → Prop} (hh : A.handled = none) (ht : IsTup s.heap t items) (hz : items.size ≤ sizeLine) (hk : k ≤ items.size)
    (hQ : ∀ (h1 : Heap) (tk : Nat), (∀ b o, s.heap.get? b = some o → h1.get? b = some o) → Q (items.toList.take k ++ [.ref h1.objs.size]) { s with heap := h1.push { cls := .type "list", data := .seq (items.toList.drop k).toArray }, toks := tk }) :
    wpAny (model prog w) A (unpackItems (.ref t) (k + 1) (some k)) Q E s := by
  have hlt : t ≠ s.heap.objs.size := by obtain ⟨o, ho, _⟩ := ht; exact Nat.ne_of_lt (Heap.lt_size ho)
  have hts : t < s.heap.objs.size := by obtain ⟨o, ho, _⟩ := ht; exact Heap.lt_size ho
  unfold unpackItems
  refine wpAny_bind ?_
  unfold notIterableAtAll
  refine wpAny_bind (wpAny_specialOf ht.typeIs slot_tuple_iter.lookup ?_)
  refine wpAny_pure ?_
  simp only [Bool.false_eq_true, if_false]
  refine wpAny_bind (wpAny_holding (iter_tuple ht ?_))
  refine wpAny_bind (wpAny_holding (draw_tuple hlt k 0 _ _ ⟨_, Heap.get?_push_size _ rfl, rfl, rfl⟩ (ht.push _) (by omega) fun h₁ hit₁ hs₁ => ?_))
  have hf : (items.toList.drop 0).take k = items.toList.take k := by rw [List.drop_zero]
  rw [hf]
  have hl : (items.toList.take k).length = k := by rw [List.length_take, Array.length_toList]; omega
  rw [if_neg (by rw [hl]; omega)]
  have ht₁ : IsTup h₁ t items := (ht.push _).extBut hs₁.extBut hlt
  have hsz1 : s.heap.objs.size < h₁.objs.size := by obtain ⟨o, ho, _⟩ := hit₁; exact Heap.lt_size ho
  refine wpAny_bind (wpAny_holding ?_)
  rw [show 0 + k = k + 0 by omega] at hit₁
  have W : WalksS prog w A.in1 s.heap.objs.size [s.heap.objs.size, t] [s.heap.objs.size] (fun a b => a = b) (items.size - k) (fun j v => items[k + j]? = some v) (fun j s' => IsTupIter s'.heap s.heap.objs.size t (k + j) ∧ IsTup s'.heap t items) :=
    walks (by exact hh) hlt hk
  refine wpAny_collect_iter (T := "tuple_iterator") (by simp) W (fun i s' st => by
    obtain ⟨o, ho, hc, _⟩ := st.1
    exact ⟨o, ho, hc⟩) ⟨hit₁, ht₁⟩ (fun b hb => ?_) (by simp) (fun s' acc hm hacc => ?_) (by omega)
  · rcases List.mem_cons.mp hb with rfl | hb
    · exact hsz1
    · rw [List.mem_singleton.mp hb]; exact Nat.lt_trans hts hsz1
  · have hal : acc.toList = items.toList.drop k := by
      apply List.ext_getElem?
      intro j
      rw [List.getElem?_drop, Array.getElem?_toList, Array.getElem?_toList]
      cases ha : acc[j]? with
      | some v => exact (hacc.2 j v ha).symm
      | none =>
        have h2 : acc.size ≤ j := by simpa using ha
        rw [hacc.1] at h2
        symm
        simp
        omega
    have e0 : k + 1 - 1 - k = 0 := by omega
    rw [e0]
    rw [if_neg (by omega)]
    refine wpAny_bind (wpAny_newList ?_ (by rw [Nat.sub_zero, List.take_length, hal, List.length_drop, Array.length_toList]; omega))
    refine wpAny_pure ?_
    rw [Nat.sub_zero, List.take_length, List.drop_length, List.append_nil, hal]
    obtain ⟨hp', g', d', tk', os'⟩ := s'
    have e1 := hm.gens
    have e2 := hm.drawn
    have e3 := hm.os
    dsimp only at e1 e2 e3
    subst e1 e2 e3
    have keep : ∀ b o, s.heap.get? b = some o → hp'.get? b = some o := fun b o e => hm.heap b o (by rw [List.mem_singleton]; exact Nat.ne_of_lt (Heap.lt_size e)) (hs₁.extBut b o (Nat.ne_of_lt (Heap.lt_size e)) (Heap.get?_push_of_some _ e))
    exact hQ hp' tk' keep
end
end StarT
end PySem

namespace TC
open PySem PySem.Spec L2 PyProof.Rows
def gStar (K : PySem.W.Frag) (n : Nat) (t : TGs) : TG := fun v σ H Q => ∃ a xs, v = .ref a ∧ SqT K H a xs ∧ n ≤ xs.length ∧ ∀ l, H l = none → t (xs.take n ++ [.ref l]) σ (upd H l (.lst (xs.drop n))) Q
theorem pg_star {X : Cx} {es us : List Expr} {k n : Nat} {t : TGs} {pos : Pos} (hc : X.calm = true) (h : PGs X us t)
    (hm : (assignEach es X.env).map (·.2) = (assignEach us X.env).map (·.2)) (hn : (assignEach es X.env).length = n + 1) (hst : (assignEach es X.env).findIdx? (·.1) = some n) : PG X (.Tuple es k pos) (gStar X.K n t) := by
  refine ⟨fun pins s σ H v u Q I r hw => ?_⟩
  obtain ⟨a, xs, e1, hq, hl, hw⟩ := hw
  subst e1
  cases r
  obtain ⟨its, rv, ht, hz⟩ := I.tuple hq
  have hlen := rv.length
  rw [assign_Tuple]
  refine wpAny_bind (wpAny_standAt ?_)
  unfold PySem.unpack
  rw [hn, hst, hm]
  refine wpAny_bind (wpAny_holding (PySem.StarT.unpack (I.ok.hd hc) ht (by rw [List.size_toArray, ← hlen]; exact hz) (by rw [List.size_toArray, ← hlen]; exact hl) fun h1 tk hk => ?_))
  have I1 : Inv X pins σ H { s with heap := h1, toks := tk } := I.kept (t' := tk) hk
  have rd : Vals (xs.drop n) (its.drop n) := by
    have : ∀ (n : Nat) {xs : List V} {its : List Value}, Vals xs its → Vals (xs.drop n) (its.drop n) := by
      intro n
      induction n with
      | zero => intro xs its r; exact r
      | succ n ih => intro xs its r; cases r with
        | nil => exact .nil
        | cons r rr => exact ih rr
    exact this n rv
  have rt : Vals (xs.take n) (its.take n) := by
    have : ∀ (n : Nat) {xs : List V} {its : List Value}, Vals xs its → Vals (xs.take n) (its.take n) := by
      intro n
      induction n with
      | zero => intro xs its r; exact .nil
      | succ n ih => intro xs its r; cases r with
        | nil => exact .nil
        | cons r rr => exact .cons r (ih rr)
    exact this n rv
  have hfr : H h1.objs.size = none := I1.hok.fresh (Nat.le_refl _)
  have I2 : Inv X pins σ (upd H h1.objs.size (.lst (xs.drop n))) { s with heap := h1.push { cls := .type "list", data := .seq (its.toArray.toList.drop n).toArray }, toks := tk } :=
    I1.laid (t' := tk) (a := h1.objs.size) (o := .lst (xs.drop n)) (fun b o e => Heap.get?_push_of_some _ e) (Nat.le_refl _) (show ObjOk X.prog X.w _ _ _ (.lst (xs.drop n)) from ⟨by rw [List.length_drop]; omega, its.drop n, 0, rd, Heap.get?_push_size _ rfl⟩)
  have r3 : Vals (xs.take n ++ [.ref h1.objs.size]) (its.toArray.toList.take n ++ [.ref h1.objs.size]) := rt.append (.cons rfl .nil)
  exact h.run pins _ σ _ _ _ Q I2 r3 (hw _ hfr)
section
variable {F : Fam} {ρ ρ1 ρ2 : En} {es us : List Expr} {xs : List PyData} {p : Pos}
/-- a, b, *rest = a tuple: rest is data -/
theorem bg_star {k n : Nat} (h : BGs F ρ us (xs.take n ++ [.list (xs.drop n)]) ρ1) (hx : n ≤ xs.length) (hcm : F.ex = none := by rfl) (hm : ∀ env, (assignEach es env).map (·.2) = (assignEach us env).map (·.2) := by intro _; rfl) (hn : ∀ env, (assignEach es env).length = n + 1 := by intro _; rfl) (hst : ∀ env, (assignEach es env).findIdx? (·.1) = some n := by intro _; rfl) : BG F ρ (.Tuple es k p) (.tuple xs) ρ1 := by
  obtain ⟨g, p1, e1⟩ := h
  refine ⟨gStar F.K n g, fun X hX => ?_, fun C W H0 T O H σ R v d Q q => ?_⟩
  · rw [← hX.K]
    exact pg_star (hX.calm hcm) (p1 X hX) (hm _) (hn _) (hst _)
  · cases d with
    | @tup a vs _ g1 g2 =>
      refine ⟨a, vs, rfl, seqT_mono cut_full g1, by rw [dpa_len g2]; exact hx, fun l hl => ?_⟩
      have s1 : Same H (upd H l (.lst (vs.drop n))) := same_new hl
      refine e1 C W H0 T O _ σ (R.grow s1) _ (dpa_app (dpa_mono (cut_same s1) _ _ (dpa_take n g2)) (.cons (.lst (cut_some.mpr ⟨R.nof hl, upd_same⟩) (dpa_mono (cut_same s1) _ _ (dpa_drop n g2))) .nil)) Q fun σ' H' R' s' => q σ' H' R' ((cut_same s1).trans s')
end
end TC

set_option maxRecDepth 100000
set_option maxHeartbeats 4000000
/-! Instances of own classes that stand still; things that stand still, handed on. -/
namespace TC
open PySem PySem.Spec L2
def FsOk (K : PySem.W.Frag) (Z : Hp) (kvs : List (Str × V)) (fs : List (Str × PyData)) : Prop := kvs.map (·.1) = fs.map (·.1) ∧ DqA K Z (kvs.map (·.2)) (fs.map (·.2))
theorem FsOk.look {K : PySem.W.Frag} {Z : Hp} {n : Str} : ∀ {kvs : List (Str × V)} {fs : List (Str × PyData)}, FsOk K Z kvs fs → (fs.lookup n = none ∧ kvs.lookup n = none) ∨ ∃ v x, fs.lookup n = some x ∧ kvs.lookup n = some v ∧ Dq K Z v x
  | [], [], _ => .inl ⟨rfl, rfl⟩
  | [], _ :: _, h => by cases h.1
  | _ :: _, [], h => by cases h.1
  | (k1, v1) :: kvs, (k2, x2) :: fs, h => by
    obtain ⟨h1, h2⟩ := h
    simp only [List.map_cons, List.cons.injEq] at h1
    obtain ⟨rfl, h1⟩ := h1
    rw [List.map_cons, List.map_cons] at h2
    cases h2 with
    | cons d1 d2 =>
      rw [List.lookup_cons, List.lookup_cons]
      cases hk : (n == k1) with
      | true => exact .inr ⟨v1, x2, rfl, rfl, d1⟩
      | false => exact FsOk.look ⟨h1, d2⟩
theorem FsOk.mono {K : PySem.W.Frag} {Z Z' : Hp} {kvs : List (Str × V)} {fs : List (Str × PyData)} (e : Same Z Z') (h : FsOk K Z kvs fs) : FsOk K Z' kvs fs := ⟨h.1, dpa_mono e _ _ h.2⟩
/-- an instance of the class at C with these fields -/
def inZ (K : PySem.W.Frag) (C : Addr) (fs : List (Str × PyData)) : Fz where
  ok := fun v Z => ∃ (a dx : Addr) (kvs : List (Str × V)), v = .ref a ∧ Z a = some (.ins C dx kvs) ∧ FsOk K Z kvs fs
  mono := fun e ⟨a, dx, kvs, h1, h2, h3⟩ => ⟨a, dx, kvs, h1, e _ _ h2, h3.mono e⟩
def EvZ (K : PySem.W.Frag) (te : TE) (ρ : En) (Φ : Fz) (ρ' : En) : Prop :=
  ∀ (C W : AS) (H0 : Hp) (T : Option Trip) (O : AS) (H : Hp) (σ : L2.St), Rep K C W H0 T O H σ ρ →
    ∀ Q : VK, (∀ v H', Rep K C W H0 T O H' σ ρ' → Same (cut O H) (cut O H') → Φ.ok v (cut O H') → Q v H') → te σ H Q
/-- an expression that hands back a thing that stands still -/
def BZ (F : Fam) (ρ : En) (e : Expr) (Φ : Fz) (ρ' : En) : Prop := ∃ t, (∀ X, Fits F X → PE X e t) ∧ EvZ F.K t ρ Φ ρ'
section
variable {F : Fam} {ρ ρ1 ρ2 : En} {e : Expr} {es : List Expr} {x : PyData} {pos p p2 apos : Pos} {n m : Str} {Φ : Fz} {ss : List Sl} {fs : List (Str × PyData)} {C : Addr} {Rl : List Sl → Res → Prop}
theorem bz_name (i : Nat) (hs : ρ.sl[i]? = some (.fz Φ)) (hN : F.N[i]? = some n := by rfl) (hv : Vis F.sc n := by first | exact Or.inl rfl | exact Or.inr (Or.inl rfl) | exact Or.inr (Or.inr rfl))
    (hd : (n == ("__debug__" : Str)) = false := by decide) (hcd : (n == ("__classdict__" : Str)) = false := by decide) : BZ F ρ (.Name n pos) Φ ρ :=
  ⟨tVar i, fun X hX => pe_var (by rw [hX.N]; exact hN) (hX.vis hv) hd hcd, fun C W H0 T O H σ R Q q => by
    obtain ⟨v, e1, h⟩ := R.sl i _ hs
    exact ⟨v, e1, q v H R Same.rfl' h⟩⟩
theorem ba_consZ (h : BZ F ρ e Φ ρ1) (r : BA F ρ1 es ss ρ2) (hs : ∀ env, starEach (e :: es) env = (false, eval e env) :: starEach es env := by intro _; rfl) : BA F ρ (e :: es) (.fz Φ :: ss) ρ2 := by
  obtain ⟨t, p1, e1⟩ := h
  obtain ⟨u, p2, e2⟩ := r
  refine ⟨_, fun X hX => pa_cons (p1 X hX) (p2 X hX) (hs X.env), fun C W H0 T O H σ R Q q => ?_⟩
  exact e1 C W H0 T O H σ R _ fun v H1 R1 s1 d1 => e2 C W H0 T O H1 σ R1 _ fun vs H2 R2 s2 d2 => q _ H2 R2 (s1.trans s2) ⟨Φ.mono s2 d1, d2⟩
theorem bs_setZ (i : Nat) (h : BZ F ρ e Φ ρ1) (hN : F.N[i]? = some n := by rfl) (hx : Loc F.sc n := by first | exact Or.inl rfl | exact Or.inr rfl) (hf : F.df = true ∨ F.sc.names.lookup n = some .local := by first | exact Or.inl rfl | exact Or.inr rfl)
    (hs : ∀ X, Fits F X → swapsWith e (some (.Name n p)) pos.line X.env = pure false := by intro _ _; rfl) : BS F ρ (.Assign [.Name n p] e pos) (.nx ⟨ρ1.tm, ρ1.sl.set i (.fz Φ)⟩) := by
  obtain ⟨t, p1, e1⟩ := h
  refine ⟨_, fun X hX => ps_set (i := i) (by rw [hX.N]; exact hX.nd) (by rw [hX.N]; exact hN) (by rw [hX.sc]; exact hx) (p1 X hX) (hs X hX) (by rw [hX.sc]; exact hf.imp (fun z => hX.fn z n) id), fun C W H0 T0 T O H σ D e R k => e1 C W H0 T O H σ R _ fun v H1 R1 s1 d1 => ?_⟩
  exact k _ H1 O T e (R1.putX (fun _ h => nomatch h) (fun _ h => nomatch h) fun hl => ⟨v, List.getElem?_set_self hl, d1⟩) s1
/-- o.f, o a name -/
theorem be_fldN (i : Nat) (hs : ρ.sl[i]? = some (.fz (inZ F.K C fs))) (c : Cls F.K C) (hno : NoAttr F.K C m) (hf : fs.lookup m = some x) (hN : F.N[i]? = some n := by rfl) (hv : Vis F.sc n := by first | exact Or.inl rfl | exact Or.inr (Or.inl rfl) | exact Or.inr (Or.inr rfl))
    (hd : (n == ("__debug__" : Str)) = false := by decide) (hcd : (n == ("__classdict__" : Str)) = false := by decide) (hb : ∀ env, attributeBase (.Name n p) m env (eval (.Name n p) env) = eval (.Name n p) env := by intro _; rfl) : BE F ρ (.Attribute (.Name n p) m pos) x ρ := by
  refine ⟨tFld F.K (tVar i) m, fun X hX => ?_, fun C' W H0 T O H σ R Q q => ?_⟩
  · rw [← hX.K]
    exact pe_fld (pe_var (by rw [hX.N]; exact hN) (hX.vis hv) hd hcd) (hb _)
  · obtain ⟨v, e1, a, dx, kvs, rfl, h2, h3⟩ := R.sl i _ hs
    rcases h3.look (n := m) with ⟨z, _⟩ | ⟨w, y, g1, g2, g3⟩
    · rw [hf] at z; cases z
    · rw [hf] at g1
      cases g1
      exact ⟨_, e1, a, C, dx, kvs, w, rfl, (cut_some.mp h2).2, c, hno, g2, q w H R Same.rfl' g3⟩
/-- a method of a class, with its promise -/
structure MetF (F : Fam) (C : Addr) (m : Str) (sp : Sp) : Prop where
  cls : Cls F.K C
  ex : ∃ (k : Nat) (f : Addr) (fd : FuncData) (ps : List Str), Meth F.K C m f ∧ FnOk F.P F.w F.K F.mg F.base CX0 k f fd ps sp ∧ k ≤ F.k ∧ Binds F.K fd ps []
  cm : F.ex = none
theorem MetF.tr {W : WX} {sp : Sp} (c : MetF F C m sp) : MetF (F.tr W) C m sp := ⟨c.cls, c.ex, c.cm⟩
theorem be_methZ (i : Nat) {pl : Env → Sem Bool} (c : MetF F C m (spP F.K Rl)) (hs : ρ.sl[i]? = some (.fz (inZ F.K C fs))) (ha : BA F ρ (e :: es) ss ρ1) (hs1 : ρ1.sl[i]? = some (.fz (inZ F.K C fs))) (hr : Rl (.fz (inZ F.K C fs) :: ss) (.d x)) (hno : fs.lookup m = none := by rfl) (hpl : ss.all plainSl = true := by rfl) (hN : F.N[i]? = some n := by rfl) (hv : Vis F.sc n := by first | exact Or.inl rfl | exact Or.inr (Or.inl rfl) | exact Or.inr (Or.inr rfl))
    (hd : (n == ("__debug__" : Str)) = false := by decide) (hcd : (n == ("__classdict__" : Str)) = false := by decide) (he : ∀ env, starEach (e :: es) env = (false, eval e env) :: starEach es env := by intro _; rfl) (hpl2 : ∀ env, (backTo pos (starEach es env)).any (·.1) = false := by intro _; rfl)
    (hc : ∀ env, eval (.Call (.Attribute (.Name n p) m apos) (e :: es) [] pos) env = (do
      let ov ← eval (.Name n p) env
      standAt apos.atName
      let (f, first) ← holding [ov] (getMethod ov m (pl env))
      callWith pos f first (backTo pos (starEach (e :: es) env)) (backToKw pos (keywordEach [] env))) := by intro _; rfl) : BE F ρ (.Call (.Attribute (.Name n p) m apos) (e :: es) [] pos) x ρ1 := by
  obtain ⟨t, p1, e1⟩ := ha
  obtain ⟨k, f, fd, ps, h1, h2, h3, h4⟩ := c.ex
  refine ⟨_, fun X hX => pe_meth (pl := pl X.env) (pe_var (i := i) (by rw [hX.N]; exact hN) (hX.vis hv) hd hcd) (by rw [hX.K]; exact c.cls) (by rw [hX.K]; exact h1) (by rw [hX.prog, hX.w, hX.K, hX.mg, hX.base]; exact h2) ((hX.room c.cm).mono h3) (by rw [hX.K]; exact h4) .nil pass0 (p1 X hX) (he _) (hpl2 _) (hc _), fun C' W H0 T O H σ R Q q => ?_⟩
  obtain ⟨v, e0, hok⟩ := R.sl i _ hs
  obtain ⟨a, dx, kvs, rfl, g2, g3⟩ := id hok
  refine ⟨_, e0, a, dx, kvs, rfl, (cut_some.mp g2).2, ?_, e1 C' W H0 T O H σ R _ fun vs H1 R1 s1 d1 => ?_⟩
  · rcases g3.look (n := m) with ⟨_, z⟩ | ⟨w, y, z, _⟩
    · exact z
    · rw [hno] at z; cases z
  · rw [List.append_nil]
    exact ⟨O, .fz (inZ F.K C fs) :: ss, .d x, R1.alloc, ⟨(inZ F.K C fs).mono s1 hok, aok_plain d1 hpl⟩, hr, fun v' H2 s2 ok => q v' H2 (R1.grow s2) (s1.trans (cut_same s2)) ok⟩
/-- the promise of an __init__ that stores fields alone -/
def spMk (C : Addr) (ok : List V → Prop) (fsv : List V → List (Str × V)) : Sp := fun vs H Q _ => ∃ (a dx : Addr) (ws : List V), vs = .ref a :: ws ∧ ok ws ∧ H a = some (.ins C dx []) ∧ Q .non (upd H a (.ins C dx (fsv ws)))
structure MkF (F : Fam) (n : Str) (C : Addr) (ok : List V → Prop) (fsv : List V → List (Str × V)) : Prop where
  ex : ∃ (k : Nat) (f : Addr) (fd : FuncData) (ps : List Str), Mk F.K C f ∧ FnOk F.P F.w F.K F.mg F.base CX0 k f fd ps (spMk C ok fsv) ∧ k + 1 ≤ F.k ∧ Binds F.K fd ps []
  g : F.mg n = some (.ref C)
  cm : F.ex = none
/-- C(e, ..) -/
theorem bz_make {xs : List PyData} {ok : List V → Prop} {fsv : List V → List (Str × V)} (c : MkF F n C ok fsv) (h : BD F ρ (e :: es) xs ρ1) (hfs : ∀ Z ws, DqA F.K Z ws xs → ok ws ∧ FsOk F.K Z (fsv ws) fs) (hg : F.sc.names.lookup n = some .globalImplicit := by rfl) (hd : (n == ("__debug__" : Str)) = false := by decide)
    (hs : ∀ env, starEach (e :: es) env = (false, eval e env) :: starEach es env := by intro _; rfl) (hpl : ∀ env, (backTo pos (starEach es env)).any (·.1) = false := by intro _; rfl) : BZ F ρ (.Call (.Name n p) (e :: es) [] pos) (inZ F.K C fs) ρ1 := by
  obtain ⟨t, p1, e1⟩ := h
  obtain ⟨k, f, fd, ps, h1, h2, h3, h4⟩ := c.ex
  refine ⟨_, fun X hX => pe_make (CX := CX0) (ds := []) (dvs := []) (E := E0) (by rw [hX.K]; exact h1) (by rw [hX.prog, hX.w, hX.K, hX.mg, hX.base]; exact h2) ((hX.room c.cm).mono h3) (hX.gl hg) (by rw [hX.mg]; exact c.g) (by rw [hX.K]; exact h4) .nil pass0 (p1 X hX) hd (hs _) (hpl _), fun C' W H0 T O H σ R Q q => e1 C' W H0 T O H σ R _ fun vs H1 R1 s1 d1 => fun a dx ha hdx hne => ?_⟩
  rw [List.append_nil]
  obtain ⟨g1, g2⟩ := hfs _ _ d1
  refine ⟨a, dx, vs, rfl, g1, upd_same, rfl, ?_⟩
  have s2 : Same H1 (upd (upd (upd H1 dx (.own a)) a (.ins C dx [])) a (.ins C dx (fsv vs))) := fun b o hb => by
    rw [upd_ne (ne_of_none hb ha), upd_ne (ne_of_none hb ha), upd_ne (ne_of_none hb hdx)]; exact hb
  exact q _ _ (R1.grow s2) (s1.trans (cut_same s2)) ⟨a, dx, fsv vs, rfl, cut_some.mpr ⟨R1.nof ha, upd_same⟩, g2.mono (cut_same s2)⟩
end
end TC

set_option maxRecDepth 100000
set_option maxHeartbeats 4000000
/-! A dict of one's own handed to a callee that only looks at it. -/
namespace TC
open PySem PySem.Spec L2
def scal : PyData → Bool
  | .none => true
  | .bool _ => true
  | .int _ => true
  | .str _ => true
  | _ => false
theorem dq_scal {K : PySem.W.Frag} {H H' : Hp} {v : V} {x : PyData} (h : scal x = true) (d : Dq K H v x) : Dq K H' v x := by
  cases d with
  | non => exact .non
  | bl b => exact .bl b
  | int i => exact .int i
  | str s => exact .str s
  | lst => cases h
  | tup => cases h
  | dic => cases h
  | ins => cases h
theorem aok_sub {K : PySem.W.Frag} {T : Option Trip} {tm : Option (List Int × Int)} {O O' : AS} {H : Hp} (e : ∀ a, O' a → O a) : ∀ {vs : List V} {ss : List Sl}, AOk K T tm O H vs ss → AOk K T tm O' H vs ss
  | [], [], _ => trivial
  | v :: vs, s :: ss, h => by
    refine ⟨?_, aok_sub e h.2⟩
    cases s with
    | d x => exact dp_mono (cut_sub e) _ _ h.1
    | scr ns => obtain ⟨a, e1, q⟩ := h.1; exact ⟨a, e1, Same.seq (cut_sub e) q⟩
    | un => exact h.1
    | own xs => exact h.1
    | stm => exact h.1
    | plc => exact h.1
    | fz Φ => exact Φ.mono (cut_sub e) h.1
    | ow Ψ => exact h.1
  | [], _ :: _, h => h.elim
  | _ :: _, [], h => h.elim
/-- arguments, some of them seen through what is hidden -/
def BAw (F : Fam) (ρ : En) (es : List Expr) (ss : List Sl) (ρ' : En) : Prop := ∃ t, (∀ X, Fits F X → PA X es t) ∧
  ∀ (C W : AS) (H0 : Hp) (T : Option Trip) (O : AS) (H : Hp) (σ : L2.St), Rep F.K C W H0 T O H σ ρ →
    ∀ Q : List V → Hp → Prop, (∀ vs H' O', (∀ a, O' a → O a) → Rep F.K C W H0 T O H' σ ρ' → Same (cut O H) (cut O H') → AOk F.K T ρ'.tm O' H' vs ss → Q vs H') → t σ H Q
section
variable {F : Fam} {ρ ρ1 ρ2 : En} {e : Expr} {es : List Expr} {x : PyData} {pos p p2 : Pos} {n m : Str} {Φ : Fz} {ss : List Sl} {ks : KD} {Rl : List Sl → Res → Prop}
theorem baw_of (h : BA F ρ es ss ρ1) : BAw F ρ es ss ρ1 := by
  obtain ⟨t, p1, e1⟩ := h
  exact ⟨t, p1, fun C W H0 T O H σ R Q q => e1 C W H0 T O H σ R Q fun vs H1 R1 s1 d1 => q vs H1 O (fun _ h => h) R1 s1 d1⟩
theorem baw_cons (h : BE F ρ e x ρ1) (r : BAw F ρ1 es ss ρ2) (hs : ∀ env, starEach (e :: es) env = (false, eval e env) :: starEach es env := by intro _; rfl) : BAw F ρ (e :: es) (.d x :: ss) ρ2 := by
  obtain ⟨t, p1, e1⟩ := h
  obtain ⟨u, p2, e2⟩ := r
  refine ⟨_, fun X hX => pa_cons (p1 X hX) (p2 X hX) (hs X.env), fun C W H0 T O H σ R Q q => ?_⟩
  exact e1 C W H0 T O H σ R _ fun v H1 R1 s1 d1 => e2 C W H0 T O H1 σ R1 _ fun vs H2 O' ho R2 s2 d2 => q _ H2 O' ho R2 (s1.trans s2) ⟨dp_mono (s2.trans (cut_sub ho)) _ _ d1, d2⟩
theorem baw_consZ (h : BZ F ρ e Φ ρ1) (r : BAw F ρ1 es ss ρ2) (hs : ∀ env, starEach (e :: es) env = (false, eval e env) :: starEach es env := by intro _; rfl) : BAw F ρ (e :: es) (.fz Φ :: ss) ρ2 := by
  obtain ⟨t, p1, e1⟩ := h
  obtain ⟨u, p2, e2⟩ := r
  refine ⟨_, fun X hX => pa_cons (p1 X hX) (p2 X hX) (hs X.env), fun C W H0 T O H σ R Q q => ?_⟩
  exact e1 C W H0 T O H σ R _ fun v H1 R1 s1 d1 => e2 C W H0 T O H1 σ R1 _ fun vs H2 O' ho R2 s2 d2 => q _ H2 O' ho R2 (s1.trans s2) ⟨Φ.mono (s2.trans (cut_sub ho)) d1, d2⟩
/-- a dict of one's own, by its name -/
theorem baw_own (i : Nat) (hs : ρ.sl[i]? = some (.ow (dcO F.K ks))) (r : BAw F ρ es ss ρ1) (hs1 : ρ1.sl[i]? = some (.ow (dcO F.K ks))) (hN : F.N[i]? = some n := by rfl) (hv : Vis F.sc n := by first | exact Or.inl rfl | exact Or.inr (Or.inl rfl) | exact Or.inr (Or.inr rfl))
    (hd : (n == ("__debug__" : Str)) = false := by decide) (hcd : (n == ("__classdict__" : Str)) = false := by decide) : BAw F ρ (.Name n pos :: es) (.fz (dcZ F.K ks) :: ss) ρ1 := by
  obtain ⟨u, p2, e2⟩ := r
  refine ⟨_, fun X hX => pa_cons (pe_var (by rw [hX.N]; exact hN) (hX.vis hv) hd hcd) (p2 X hX) rfl, fun C W H0 T O H σ R Q q => ?_⟩
  obtain ⟨a, _, e0, _⟩ := dc_view hs .o R
  refine ⟨_, e0, e2 C W H0 T O H σ R _ fun vs H2 O' ho R2 s2 d2 => ?_⟩
  obtain ⟨a1, kvs, e1, h1, h2⟩ := dc_view hs1 .o R2
  rw [e0] at e1
  cases e1
  have sub : ∀ b, (O' b ∧ b ≠ a) → O' b := fun b h => h.1
  refine q _ H2 (fun b => O' b ∧ b ≠ a) (fun b h => ho b h.1) R2 s2 ⟨⟨a, kvs, rfl, cut_some.mpr ⟨fun z => z.2 rfl, h1⟩, h2.mono (cut_sub fun b h => ho b h.1)⟩, aok_sub sub d2⟩
/-- a call whose answer is a plain value -/
theorem be_callW (c : Cal F n (spP F.K Rl)) (ha : BAw F ρ (e :: es) ss ρ1) (hr : Rl ss (.d x)) (hx : scal x = true) (hpl : ss.all plainSl = true := by rfl) (hg : F.sc.names.lookup n = some .globalImplicit := by rfl) (hdb : (n == ("__debug__" : Str)) = false := by decide)
    (he : ∀ env, starEach (e :: es) env = (false, eval e env) :: starEach es env := by intro _; rfl) (hpl2 : ∀ env, (backTo pos (starEach es env)).any (·.1) = false := by intro _; rfl) : BE F ρ (.Call (.Name n p) (e :: es) [] pos) x ρ1 := by
  obtain ⟨t, p1, e1⟩ := ha
  refine ⟨_, fun X hX => pe_cal c hX (p1 X hX) hg hdb he hpl2, fun C W H0 T O H σ R Q q => e1 C W H0 T O H σ R _ fun vs H1 O' ho R1 s1 d1 => ?_⟩
  rw [List.append_nil]
  exact ⟨O', ss, .d x, fun a h => R1.alloc a (ho a h), aok_plain d1 hpl, hr, fun v H2 s2 ok => q v H2 (R1.grow s2) (s1.trans (cut_same s2)) (dq_scal hx ok)⟩
end
end TC

set_option maxRecDepth 100000
set_option maxHeartbeats 4000000
/-! a, b, .. = a list. -/
namespace TC
open PySem PySem.Spec L2
section
variable {F : Fam} {ρ ρ1 ρ2 : En} {es us : List Expr} {xs : List PyData} {x y z : PyData} {p : Pos}
theorem bg_lstD {k : Nat} (h : BGs F ρ es xs ρ1) (hcm : F.ex = none := by rfl) (hl : ∀ env, (assignEach es env).length = xs.length := by intro _; rfl) (hst : ∀ env, (assignEach es env).findIdx? (·.1) = none := by intro _; rfl) : BG F ρ (.Tuple es k p) (.list xs) ρ1 := by
  obtain ⟨g, p1, e1⟩ := h
  refine ⟨gLst F.K xs.length g, fun X hX => ?_, fun C W H0 T O H σ R v d Q q => ?_⟩
  · have h := pg_lst (X := X) (pos := p) (k := k) (hX.calm hcm) (p1 X hX) (hl _) (hst _)
    rw [hX.K] at h
    exact h
  · cases d with
    | @lst a vs _ g1 g2 => exact ⟨a, vs, rfl, SqL.of (cut_some.mp g1).2, dpa_len g2, e1 C W H0 T O H σ R vs g2 Q q⟩
theorem bg_threeL (i j l : Nat) {k : Nat} {n m r : Str} {p1 p2 p3 : Pos} (hN : F.N[i]? = some n := by rfl) (hM : F.N[j]? = some m := by rfl) (hR : F.N[l]? = some r := by rfl) (hx : Loc F.sc n := by first | exact Or.inl rfl | exact Or.inr rfl) (hy : Loc F.sc m := by first | exact Or.inl rfl | exact Or.inr rfl) (hz : Loc F.sc r := by first | exact Or.inl rfl | exact Or.inr rfl)
    (hf : F.df = true ∨ F.sc.names.lookup n = some .local := by first | exact Or.inl rfl | exact Or.inr rfl) (hf2 : F.df = true ∨ F.sc.names.lookup m = some .local := by first | exact Or.inl rfl | exact Or.inr rfl) (hf3 : F.df = true ∨ F.sc.names.lookup r = some .local := by first | exact Or.inl rfl | exact Or.inr rfl) (hcm : F.ex = none := by rfl) :
    BG F ρ (.Tuple [.Name n p1, .Name m p2, .Name r p3] k p) (.list [x, y, z]) ⟨ρ.tm, ((ρ.sl.set i (.d x)).set j (.d y)).set l (.d z)⟩ :=
  bg_lstD (bgs_cons (bg_name i hN hx hf) (bgs_cons (bg_name j hM hy hf2) (bgs_cons (bg_name l hR hz hf3) bgs_nil))) hcm
/-- a, b, *rest = a tuple of two and more: a, b at their slots -/
theorem bg_star2 (i j l : Nat) {k : Nat} {n m r : Str} {p1 p2 p3 p4 : Pos} (hN : F.N[i]? = some n := by rfl) (hM : F.N[j]? = some m := by rfl) (hR : F.N[l]? = some r := by rfl) (hx : Loc F.sc n := by first | exact Or.inl rfl | exact Or.inr rfl) (hy : Loc F.sc m := by first | exact Or.inl rfl | exact Or.inr rfl) (hz : Loc F.sc r := by first | exact Or.inl rfl | exact Or.inr rfl)
    (hf : F.df = true ∨ F.sc.names.lookup n = some .local := by first | exact Or.inl rfl | exact Or.inr rfl) (hf2 : F.df = true ∨ F.sc.names.lookup m = some .local := by first | exact Or.inl rfl | exact Or.inr rfl) (hf3 : F.df = true ∨ F.sc.names.lookup r = some .local := by first | exact Or.inl rfl | exact Or.inr rfl) (hcm : F.ex = none := by rfl) :
    BG F ρ (.Tuple [.Name n p1, .Name m p2, .Starred (.Name r p3) p4] k p) (.tuple (x :: y :: xs)) ⟨ρ.tm, ((ρ.sl.set i (.d x)).set j (.d y)).set l (.d (.list xs))⟩ :=
  bg_star (n := 2) (us := [.Name n p1, .Name m p2, .Name r p3]) (bgs_cons (bg_name i hN hx hf) (bgs_cons (bg_name j hM hy hf2) (bgs_cons (bg_name l hR hz hf3) bgs_nil))) (by simp) hcm
end
end TC

set_option maxRecDepth 100000
set_option maxHeartbeats 4000000
/-! isinstance of the caught exception, with a dict or without one. -/
namespace TC
open PySem PySem.Spec L2
def rIsD (K : PySem.W.Frag) (D a : Addr) (d : Option Addr) : List V → Hp → VK → Prop := fun us H Q => ∃ (y : V) (cv : Value) (ans : Bool), us = [.ref a, y] ∧ (∀ z, RelV y z → z = cv) ∧ PySem.W.kitOne K (.ref D) cv = some ans ∧ (d = none ∨ ∃ dd kvs, d = some dd ∧ H dd = some (.xd kvs)) ∧ Q (.bl ans) H
theorem call_isD {X : Cx} {a D : Addr} {d : Option Addr} {oe : Obj} {pn : List (Addr × Obj)} (T : ExcC X.K D) (hz : Zc (.ref D) d oe) (hf : ∃ vs, oe.data = .fields vs) : CallR (X.suite a ((a, oe) :: pn)) (.builtin "isinstance") (rIsD X.K D a d) := by
  intro pins s σ H xs us Q I r h
  obtain ⟨y, cv, ans, rfl, hy, hk, hd, q⟩ := h
  cases r with | cons r1 r2 => cases r2 with | cons r3 r4 =>
    cases r4
    cases r1
    have e3 := hy _ r3
    subst e3
    have hp := (I.pin (a, oe) (List.mem_append.mpr (.inl List.mem_cons_self))).1
    obtain ⟨vs, hv⟩ := hf
    have hcl : (PySem.W.clsIn X.K D).isSome = true := by
      obtain ⟨cd, e, _⟩ := PySem.W.any_some T.hd
      rw [e]; rfl
    have J : ∃ od, PySem.W.InstAt s.heap a oe D od := by
      rcases hd with rfl | ⟨dd, kvs, rfl, ea⟩
      · obtain ⟨oc, oq, oda, osl⟩ := oe
        obtain ⟨h1, h2⟩ := hz
        dsimp only at h1 h2 hv
        subst h1 h2 hv
        exact ⟨none, hp, rfl, rfl, trivial⟩
      · obtain ⟨mA, hns, _⟩ : ObjOk X.prog X.w H s.heap dd (.xd kvs) := I.hok dd _ ea
        obtain ⟨od, ho, _⟩ := lookIn_ns hns
        exact ⟨some od, hp, hz.1, (by unfold PySem.W.notCls; rw [hv] <;> rfl), by rw [hz.2]; exact ho⟩
    obtain ⟨od, J⟩ := J
    exact PySem.W.kia_one (PySem.W.kitx_exc hcl T.hg T.hk T.hs T.ha T.hn T.ht T.hm) I.kIn J hk (fun z => nomatch z) fun tk => ⟨.bl ans, H, I.kept (t' := tk) fun _ _ z => z, rfl, q⟩
section
variable {F : Fam} {ρ : En} {fs : List (Str × PyData)} {pos p p1 p2 : Pos} {m n : Str}
theorem be_isX (i : Nat) {A C CT : Addr} {d : Option Addr} {ans : Bool} (hs : ρ.sl[i]? = some (.fz (exV F.K A d fs))) (hex : F.ex = some (A, .ref C, d)) (T : ExcC F.K C) (hm : F.mg n = some (.ref CT)) (hk : PySem.W.kitOne F.K (.ref C) (.ref CT) = some ans) (hI : F.mg "isinstance" = none)
    (hg : F.sc.names.lookup ("isinstance" : Str) = some .globalImplicit := by rfl) (hgn : F.sc.names.lookup n = some .globalImplicit := by rfl) (hN : F.N[i]? = some m := by rfl) (hv : Vis F.sc m := by first | exact Or.inl rfl | exact Or.inr (Or.inl rfl) | exact Or.inr (Or.inr rfl))
    (hd : (m == ("__debug__" : Str)) = false := by decide) (hcd : (m == ("__classdict__" : Str)) = false := by decide) (hd2 : (n == ("__debug__" : Str)) = false := by decide) : BE F ρ (.Call (.Name "isinstance" p) [.Name m p1, .Name n p2] [] pos) (.bool ans) ρ := by
  refine ⟨tCB (rIsD F.K C A d) (tCons (tVar i) (tCons (tC (.ref CT)) tNil)), fun X hX => ?_, fun C' W H0 T0 O H σ R Q q => ?_⟩
  · obtain ⟨X0, oe, pn, rfl, hz, hfl⟩ := hX.su _ hex
    have hh : CallR (X0.suite A ((A, oe) :: pn)) (.builtin "isinstance") (rIsD X0.K C A d) := call_isD (by rw [show X0.K = F.K from hX.K]; exact T) hz hfl
    rw [show X0.K = F.K from hX.K] at hh
    exact pe_callB hh (hX.gl hg) (by rw [hX.mg]; exact hI) (by decide +kernel) (pa_cons (pe_var (by rw [hX.N]; exact hN) (hX.vis hv) hd hcd) (pa_cons (pe_glob (hX.gl hgn) (by rw [hX.mg]; exact hm) rfl hd2) pa_nil rfl) rfl) (by decide) (by decide) rfl rfl
  · obtain ⟨v, e1, rfl, xd⟩ := R.sl i _ hs
    refine ⟨_, e1, .ref CT, .ref CT, ans, rfl, fun z hz => hz, hk, ?_, q _ H R Same.rfl' (.bl _)⟩
    rcases xd with ⟨_, z⟩ | ⟨a, kvs, z, h2, _⟩
    · exact .inl z
    · exact .inr ⟨a, kvs, z, (cut_some.mp h2).2⟩
end
end TC

set_option maxRecDepth 100000
set_option maxHeartbeats 4000000
/-! Several except clauses, each with a name. -/
namespace TC
open PySem PySem.Spec L2 PyProof.Rows
abbrev Cl := Value × Nat × (Addr → Value → Option Addr → TS)
/-- behind a suite its name, at slot i, is gone -/
def endsOff (i : Nat) (D : Ends) : Ends := ⟨fun τ G => D.nx (τ.set i none) G, D.rt, fun τ G => D.bk (τ.set i none) G, fun τ G => D.ct (τ.set i none) G⟩
def wAsM (K : PySem.W.Frag) (Wo : WX) (D : Ends) : List Cl → WX
  | [] => Wo
  | (c, i, ts) :: r => fun cls d τ G => ∃ hit, PySem.W.exmOne K cls c = some hit ∧ (hit = true → ∀ a, G a = none → ts a cls d (endsOff i D) (τ.set i (some (.ref a))) G) ∧ (hit = false → wAsM K Wo D r cls d τ G)
inductive ClsOk (X : Cx) : List ExceptHandler → List Cl → Prop
  | nil : ClsOk X [] []
  | cons {x n : Str} {c : Value} {i : Nat} {ts : Addr → Value → Option Addr → TS} {b₁ : Stmt} {su : List Stmt} {q1 q2 : Pos} {more : List ExceptHandler} {l : List Cl} (hc : Names X x c) (hi : X.N[i]? = some n) (hn : X.env.kindOf n = some .local)
      (hs : ∀ (a : Addr) (ob : Obj) (cls : Value) (d : Option Addr) (pn : List (Addr × Obj)), Zc cls d ob → (∃ vs, ob.data = .fields vs) → PSs (X.suite a ((a, ob) :: pn)) (b₁ :: su) (ts a cls d)) (r : ClsOk X more l) :
      ClsOk X (.ExceptHandler (some (.Name x q1)) (some n) (b₁ :: su) q2 :: more) ((c, i, ts) :: l)
section
variable {X : Cx} {blk : List Stmt} {e₀ : ExceptHandler} {es : List ExceptHandler} {l : List Cl} {pos : Pos} {tb : WX → TS} {Wo : WX}
theorem ps_try_asM (hk : X.stack = X.env :: X.outer) (hl : X.env.frame = some X.env.locals) (nd : X.N.Nodup) (tk : Takes X Wo)
    (hb : ∀ (W : WX) (pn : List (Addr × Obj)) (xe : Value → Shared → Prop), Takes (X.tr pn xe) W → PassesOwn (model X.prog X.w) X.A X.env xe → PSs (X.tr pn xe) blk (tb W)) (hh : ClsOk X (e₀ :: es) l) :
    PS X (.Try blk (e₀ :: es) [] [] pos) (fun D τ G => tb (wAsM X.K Wo D l) D τ G) := by
  refine ⟨fun pp s τ G D I hw => ?_⟩
  have okX := I.ok
  have frX : X.A.frames = some (X.env :: X.outer) := okX.frames.trans (by rw [hk])
  refine wpAny_Try_except (wpAny_mono ((hb (wAsM X.K Wo D l) (X.pn ++ pp) (fun e u1 => wpAny (model X.prog X.w) X.A (noteFrame e X.env) (fun _ u2 => wpAny (model X.prog X.w) X.A (setFlight e none) (fun _ u3 => wpAny (model X.prog X.w) X.A (handleBy e X.env (e₀ :: es)) (SP X pp D) X.xe u3) X.xe u2) X.xe u1) (fun u s1 caught => ?_) PassesOwn.looking).run [] s τ G D (I.toTry _) hw) (fun fl s1 fine => ?_) (fun e s1 z => z))
  · obtain ⟨a, B, sI, pp1, τ1, G1, cls, d, rfl, Ja, nb, up, sky, na, os, ag, wish⟩ := caught
    have J : Inv X pp τ1 G1 sI := Ja.ofTry okX
    show wpAny (model X.prog X.w) X.A (noteFrame (.ref a) X.env) _ _ _
    refine Sky.land Zc.steady frX hl (by rw [← hk]; exact sky) fun h3 f3 up3 => ?_
    have J3 : Inv X pp τ1 G1 { s1 with heap := h3 } := J.landed nb f3.1 (up.trans up3) os ag
    obtain ⟨o3, v3, g3, z3, d3⟩ := f3.there
    have nfr : a ∉ frs (X.env :: X.outer) := fun hm => by
      obtain ⟨_, o1, g1, hnf⟩ := f3.2.2.1.mem hm
      rw [g3] at g1
      cases g1
      exact hnf _ d3
    have nL : a ≠ X.env.locals := fun z => nfr (List.mem_filterMap.mpr ⟨X.env, .head _, hl.trans (by rw [z])⟩)
    have nF : a ∉ X.fs := fun hm => by
      obtain ⟨e, he, q⟩ := List.mem_filterMap.mp hm
      exact nfr (List.mem_filterMap.mpr ⟨e, .tail _ he, q⟩)
    have S3 := J3.suite g3 d3 na nL nF
    suffices go : ∀ {hs : List ExceptHandler} {cs : List Cl}, ClsOk X hs cs → wAsM X.K Wo D cs cls d τ1 G1 → wpAny (model X.prog X.w) X.A (handleBy (.ref a) X.env hs) (SP X pp D) X.xe { s1 with heap := h3 } from go hh wish
    intro hs cs ck
    induction ck with
    | nil =>
      intro wish
      refine wpAny_handleBy_nil ?_
      obtain ⟨_, _, _, ob, vs, T, oT, u, gb, zb, db, hT, _⟩ := id f3
      unfold PySem.passOn
      refine wpAny_bind (wpAny_field gb db hT ?_)
      have noT : ¬ ((Value.ref T == Value.none) = true) := by simp
      rw [if_neg noT]
      have last : wpAny (model X.prog X.w) X.A (setFlight (.ref a) X.env.frame) (fun _ u4 => wpAny (model X.prog X.w) X.A (throw (.ref a) : Sem Flow) (SP X pp D) X.xe u4) X.xe { s1 with heap := h3 } := by
        rw [hl]
        exact HandSPX.setFlight_upZ f3 fun h4 g4 up4 => wpAny_throw (tk _ _ ⟨a, B, sI, pp, τ1, G1, cls, d, rfl, J, nb, (up.trans up3).trans up4, .inr (.inr (by rw [hk]; exact g4)), na, os, ag, wish⟩)
      first | exact wpAny_bind (wpAny_pure (wpAny_bind last)) | exact wpAny_bind last
    | @cons x n c i ts b₁ su q1 q2 more l2 hc hi hn hsu r ih =>
      intro wish
      obtain ⟨hit, hx, yes, no⟩ := wish
      refine wpAny_handleBy_cons (codeAny_handlers_test ?_) (fun q => by cases q)
      have ty : PySem.W.Looks (model X.prog X.w) h3 (typeOf (.ref a)) cls := fun A Q E s k q => wpAny_typeOf_ref (k _ _ g3) (by rw [z3.1]; exact q)
      have is := PySem.W.exm_one (M := model X.prog X.w) J3.kIn ty hx
      have named : ∀ {Q E : Value → Shared → Prop}, Q c { s1 with heap := h3 } → wpAny (model X.prog X.w) (X.A.mark (some (.ref a))) (eval (.Name x q1) X.env) Q E { s1 with heap := h3 } := fun {Q E} q => by
        obtain ⟨hg, hdb, hm | ⟨hm, hv, hnn⟩⟩ := hc
        · exact ld_glob (X := X.suite a ((a, o3) :: (X.pn ++ pp))) S3 hg hm q hdb
        · exact ld_blt (X := X.suite a ((a, o3) :: (X.pn ++ pp))) S3 hg hm hv q hnn hdb
      refine named (is.here ?_)
      cases hit with
      | false => exact ih (no rfl)
      | true =>
        refine codeAny_handlers_suite_as (HandSPX.lands_againZ f3 fun h4 f4 up4 => ?_)
        obtain ⟨o4, v4, g4, z4, d4⟩ := f4.there
        have S4 := Inv.suite (J.landed nb f4.1 ((up.trans up3).trans up4) os ag : Inv X pp τ1 G1 { s1 with heap := h4 }) g4 d4 na nL nF
        refine store_ok (X := X.suite a ((a, o4) :: (X.pn ++ pp))) (v := .ref a) S4 nd hi (.inl hn) rfl (fun s5 S5 => ?_) (.inr hn)
        refine wpAny_mono ((hsu a o4 cls d (X.pn ++ pp) z4 ⟨_, d4⟩).run [] s5 _ G1 _ S5 (yes rfl a na)) (fun fl s6 fine => ?_) (fun _ _ z => z.elim)
        have off : ∀ {τ6 : L2.St} {G6 : Hp} {Q : Shared → Prop}, Inv (X.suite a ((a, o4) :: (X.pn ++ pp))) [] τ6 G6 s6 → (∀ s7, Inv X pp (τ6.set i none) G6 s7 → Q s7) →
            wpAny (model X.prog X.w) X.A (do bindName X.env n .none; unbindBehindTheSuite X.env n q2) (fun _ s7 => Q s7) X.xe s6 := fun S6 hq => gone_ok (S6.unsuite okX) nd hi hn hq
        cases fl with
        | next => exact (fun ⟨_, _, S6, q6⟩ => off S6 fun s7 J7 => ⟨_, _, J7, q6⟩) fine
        | brk => exact (fun ⟨_, _, S6, q6⟩ => off S6 fun s7 J7 => ⟨_, _, J7, q6⟩) fine
        | cont => exact (fun ⟨_, _, S6, q6⟩ => off S6 fun s7 J7 => ⟨_, _, J7, q6⟩) fine
        | ret u => exact (fun ⟨_, _, _, S6, r6, q6⟩ => off S6 fun s7 J7 => ⟨_, _, _, J7, r6, q6⟩) fine
  · cases fl with
    | next => exact (fun ⟨τ1, G1, J1, q⟩ => wpAny_execs_nil ⟨τ1, G1, J1.ofTry okX, q⟩) fine
    | brk => exact (fun ⟨τ1, G1, J1, q⟩ => ⟨τ1, G1, J1.ofTry okX, q⟩) fine
    | cont => exact (fun ⟨τ1, G1, J1, q⟩ => ⟨τ1, G1, J1.ofTry okX, q⟩) fine
    | ret u => exact (fun ⟨v1, τ1, G1, J1, r, q⟩ => ⟨v1, τ1, G1, J1.ofTry okX, r, q⟩) fine
end
end TC

set_option maxRecDepth 100000
set_option maxHeartbeats 4000000
/-! try with two except clauses, each with a name. -/
namespace TC
open PySem PySem.Spec L2
abbrev two (body : List Stmt) (n1 n2 m1 m2 : Str) (b1 b2 : Stmt) (s1 s2 : List Stmt) (q1 q2 q3 q4 pos : Pos) : Stmt := .Try body [.ExceptHandler (some (.Name n1 q1)) (some m1) (b1 :: s1) q2, .ExceptHandler (some (.Name n2 q3)) (some m2) (b2 :: s2) q4] [] [] pos
section
variable {F : Fam} {ρ ρ1 : En} {n1 n2 m1 m2 : Str} {body s1 s2 : List Stmt} {b1 b2 : Stmt} {q1 q2 q3 q4 pos : Pos} {c1 c2 cl : Value} {fs : List (Str × PyData)} {o o' : Out}
/-- the names of the two clauses -/
structure Two (F : Fam) (n1 n2 m1 m2 : Str) (c1 c2 : Value) (i1 i2 : Nat) : Prop where
  h1 : F.mg n1 = some c1
  h2 : F.mg n2 = some c2
  cm : F.ex = none
  fs : F.fs = true
  N1 : F.N[i1]? = some m1
  N2 : F.N[i2]? = some m2
  l1 : F.sc.names.lookup m1 = some .local
  l2 : F.sc.names.lookup m2 = some .local
  g1 : F.sc.names.lookup n1 = some .globalImplicit
  g2 : F.sc.names.lookup n2 = some .globalImplicit
  d1 : (n1 == ("__debug__" : Str)) = false
  d2 : (n2 == ("__debug__" : Str)) = false
def wTwo (F : Fam) (c1 c2 : Value) (i1 i2 : Nat) (k1 k2 : List Stmt) (D : Ends) : WX := wAsM F.K (fun _ _ _ _ => False) D [(c1, i1, fun A cls d => supS (F.su A cls d) k1), (c2, i2, fun A cls d => supS (F.su A cls d) k2)]
theorem two_ps {i1 i2 : Nat} (w : Two F n1 n2 m1 m2 c1 c2 i1 i2) {X : Cx} (hX : Fits F X) : PS X (two body n1 n2 m1 m2 b1 b2 s1 s2 q1 q2 q3 q4 pos) (fun D σ H => supS (F.tr (wTwo F c1 c2 i1 i2 (b1 :: s1) (b2 :: s2) D)) body D σ H) := by
  have h := ps_try_asM (X := X) (blk := body) (pos := pos) (tb := fun W => supS (F.tr W) body) (Wo := fun _ _ _ _ => False) (hX.fr w.fs).1 (hX.fr w.fs).2 (by rw [hX.N]; exact hX.nd) takes0 (fun W pn xe tk po => supS_ok (fits_tr hX w.cm tk po))
    (.cons (q1 := q1) (q2 := q2) (ts := fun A cls d => supS (F.su A cls d) (b1 :: s1)) ⟨hX.gl w.g1, w.d1, .inl (by rw [hX.mg]; exact w.h1)⟩ (by rw [hX.N]; exact w.N1) (by show X.env.scope.names.lookup m1 = _; rw [hX.sc]; exact w.l1) (fun A oe cls d pn hz hf => supS_ok (fits_su hX hz hf))
      (.cons (q1 := q3) (q2 := q4) (ts := fun A cls d => supS (F.su A cls d) (b2 :: s2)) ⟨hX.gl w.g2, w.d2, .inl (by rw [hX.mg]; exact w.h2)⟩ (by rw [hX.N]; exact w.N2) (by show X.env.scope.names.lookup m2 = _; rw [hX.sc]; exact w.l2) (fun A oe cls d pn hz hf => supS_ok (fits_su hX hz hf)) .nil))
  rw [hX.K] at h
  exact h
theorem bs_two_n (i1 i2 : Nat) (w : Two F n1 n2 m1 m2 c1 c2 i1 i2) (hb : ∀ W, BSs (F.tr W) ρ body o) (ho : o.calm = true) : BS F ρ (two body n1 n2 m1 m2 b1 b2 s1 s2 q1 q2 q3 q4 pos) o :=
  ⟨_, fun X hX => two_ps w hX, fun C W H0 T0 T O H σ D e R k => (hb _).uni C W H0 T0 T O H σ D e R (k.calm ho)⟩
theorem suite_off {A : Addr} {d : Option Addr} {i : Nat} {st : List Stmt} {C W : AS} {H0 : Hp} {T0 T1 : Option Trip} {O O1 : AS} {H H1 : Hp} {σ1 : L2.St} {D : Ends} (hsu : BSs (F.su A cl d) ⟨ρ1.tm, ρ1.sl.set i (.fz (exV F.K A d fs))⟩ st o') (ho : o'.calm = true) (e1 : ExtT F.lc T0 T1) (R1 : Rep F.K C W H0 T1 O1 H1 σ1 ρ1)
    (sm : Same (cut O H) (cut O1 H1)) (xd : XdOk F.K (cut O1 H1) d fs) (k : EndOk F.W F.lc F.K C W H0 T0 O H D (o'.off i)) : supS (F.su A cl d) st (endsOff i D) (σ1.set i (some (.ref A))) H1 := by
  have R2 := R1.putX (i := i) (v := .ref A) (s := .fz (exV F.K A d fs)) (fun _ h => nomatch h) (fun _ h => nomatch h) fun hl => ⟨_, List.getElem?_set_self hl, rfl, xd⟩
  refine hsu.uni C W H0 T0 T1 O1 H1 _ _ e1 R2 ?_
  cases o' with
  | nx ρ' => exact fun σ' H' O' T' e' R' s' => k _ H' O' T' e' (R'.off i) (sm.trans s')
  | bk ρ' => exact fun σ' H' O' T' e' R' s' => k _ H' O' T' e' (R'.off i) (sm.trans s')
  | ct ρ' => exact fun σ' H' O' T' e' R' s' => k _ H' O' T' e' (R'.off i) (sm.trans s')
  | ret r tm => exact k
  | rz => cases ho
theorem bs_two_a (i1 i2 : Nat) (w : Two F n1 n2 m1 m2 c1 c2 i1 i2) (hb : ∀ W, BSs (F.tr W) ρ body (.rz cl fs ρ1)) (hx : PySem.W.exmOne F.K cl c1 = some true) (hsu : ∀ A d, BSs (F.su A cl d) ⟨ρ1.tm, ρ1.sl.set i1 (.fz (exV F.K A d fs))⟩ (b1 :: s1) o') (ho : o'.calm = true) :
    BS F ρ (two body n1 n2 m1 m2 b1 b2 s1 s2 q1 q2 q3 q4 pos) (o'.off i1) :=
  ⟨_, fun X hX => two_ps w hX, fun C W H0 T0 T O H σ D e R k => (hb _).uni C W H0 T0 T O H σ D e R fun d σ1 H1 O1 T1 e1 R1 sm xd => ⟨true, hx, fun _ A hA => suite_off (hsu A d) ho e1 R1 sm xd k, fun h => nomatch h⟩⟩
theorem bs_two_b (i1 i2 : Nat) (w : Two F n1 n2 m1 m2 c1 c2 i1 i2) (hb : ∀ W, BSs (F.tr W) ρ body (.rz cl fs ρ1)) (hx : PySem.W.exmOne F.K cl c1 = some false) (hx2 : PySem.W.exmOne F.K cl c2 = some true) (hsu : ∀ A d, BSs (F.su A cl d) ⟨ρ1.tm, ρ1.sl.set i2 (.fz (exV F.K A d fs))⟩ (b2 :: s2) o') (ho : o'.calm = true) :
    BS F ρ (two body n1 n2 m1 m2 b1 b2 s1 s2 q1 q2 q3 q4 pos) (o'.off i2) :=
  ⟨_, fun X hX => two_ps w hX, fun C W H0 T0 T O H σ D e R k => (hb _).uni C W H0 T0 T O H σ D e R fun d σ1 H1 O1 T1 e1 R1 sm xd => ⟨false, hx, (fun h => nomatch h), fun _ => ⟨true, hx2, fun _ A hA => suite_off (hsu A d) ho e1 R1 sm xd k, fun h => nomatch h⟩⟩⟩
end
end TC

set_option maxRecDepth 100000
set_option maxHeartbeats 4000000
/-! a <= b <= c as a test; isinstance of a caught one and a built-in class. -/
namespace TC
open PySem PySem.Spec L2
section
variable {F : Fam} {ρ ρ1 ρ2 ρ3 : En} {a b c : Expr} {x y z : PyData} {pos p p1 p2 : Pos} {fs : List (Str × PyData)} {m n : Str}
theorem bt_chain {op op' : CmpOp} {k k' : Bool} (ha : BE F ρ a x ρ1) (hb : BE F ρ1 b y ρ2) (hc : BE F ρ2 c z ρ2) (h : CmpD F op b x y k) (h' : CmpD F op' c y z k')
    (hl : lastMarks [op, op'] [b, c] = false := by rfl) : BT F ρ (.Compare a [op, op'] [b, c] pos) (k && k') ρ2 := by
  obtain ⟨ta, pa, ea⟩ := ha
  obtain ⟨tb, pb, eb⟩ := hb
  obtain ⟨tc, pc, ec⟩ := hc
  obtain ⟨⟨r, h1, h2⟩, _⟩ := h
  obtain ⟨⟨r', h1', h2'⟩, _⟩ := h'
  refine ⟨_, fun X hX => pt_chain (h1 X hX) (h1' X hX) (pa X hX) (pb X hX) (pc X hX) hl, fun C W H0 T O H σ R Q q => ?_⟩
  refine ea C W H0 T O H σ R _ fun v H1 R1 s1 d1 => eb C W H0 T O H1 σ R1 _ fun w H2 R2 s2 d2 => h2 O H2 v w R2.alloc (dp_mono s2 _ _ d1) d2 _ fun u H3 s3 d3 => ?_
  cases d3
  refine ⟨k, rfl, ?_⟩
  have R3 := R2.grow s3
  have s23 := (s1.trans s2).trans (cut_same (O := O) s3)
  have last : ∀ {u : V} {H5 : Hp}, Dq F.K (cut O H5) u (.bool k') → (Q k' H5) → ∃ j, u = V.bl j ∧ Q j H5 := fun d5 z => by
    cases d5
    exact ⟨k', rfl, z⟩
  cases k with
  | false => exact ⟨false, rfl, q H3 R3 s23⟩
  | true => exact ec C W H0 T O H3 σ R3 _ fun w' H4 R4 s4 d4 => h2' O H4 w w' R4.alloc (dp_mono ((cut_same s3).trans s4) _ _ d2) d4 _ fun u H5 s5 d5 => last d5 (q H5 (R4.grow s5) ((s23.trans s4).trans (cut_same s5)))
/-- isinstance(e, T), T built in -/
theorem be_isXb (i : Nat) {A C : Addr} {d : Option Addr} {Tn : String} {ans : Bool} (hs : ρ.sl[i]? = some (.fz (exV F.K A d fs))) (hex : F.ex = some (A, .ref C, d)) (T : ExcC F.K C) (hm : F.mg n = none) (hT : bootBuiltins n = some (.type Tn)) (hk : PySem.W.kitOne F.K (.ref C) (.type Tn) = some ans) (hI : F.mg "isinstance" = none)
    (hnn : n ≠ "__name__" := by decide) (hg : F.sc.names.lookup ("isinstance" : Str) = some .globalImplicit := by rfl) (hgn : F.sc.names.lookup n = some .globalImplicit := by rfl) (hN : F.N[i]? = some m := by rfl) (hv : Vis F.sc m := by first | exact Or.inl rfl | exact Or.inr (Or.inl rfl) | exact Or.inr (Or.inr rfl))
    (hd : (m == ("__debug__" : Str)) = false := by decide) (hcd : (m == ("__classdict__" : Str)) = false := by decide) (hd2 : (n == ("__debug__" : Str)) = false := by decide) : BE F ρ (.Call (.Name "isinstance" p) [.Name m p1, .Name n p2] [] pos) (.bool ans) ρ := by
  refine ⟨tCB (rIsD F.K C A d) (tCons (tVar i) (tCons (tC (.ty Tn)) tNil)), fun X hX => ?_, fun C' W H0 T0 O H σ R Q q => ?_⟩
  · obtain ⟨X0, oe, pn, rfl, hz, hfl⟩ := hX.su _ hex
    have hh : CallR (X0.suite A ((A, oe) :: pn)) (.builtin "isinstance") (rIsD X0.K C A d) := call_isD (by rw [show X0.K = F.K from hX.K]; exact T) hz hfl
    rw [show X0.K = F.K from hX.K] at hh
    exact pe_callB hh (hX.gl hg) (by rw [hX.mg]; exact hI) (by decide +kernel) (pa_cons (pe_var (by rw [hX.N]; exact hN) (hX.vis hv) hd hcd) (pa_cons (pe_bltn (v := .ty Tn) (hX.gl hgn) (by rw [hX.mg]; exact hm) hT rfl hnn hd2) pa_nil rfl) rfl) (by decide) (by decide) rfl rfl
  · obtain ⟨v, e1, rfl, xd⟩ := R.sl i _ hs
    refine ⟨_, e1, .ty Tn, .type Tn, ans, rfl, fun z hz => hz, hk, ?_, q _ H R Same.rfl' (.bl _)⟩
    rcases xd with ⟨_, z⟩ | ⟨a, kvs, z, h2, _⟩
    · exact .inl z
    · exact .inr ⟨a, kvs, z, (cut_some.mp h2).2⟩
end
end TC

set_option maxRecDepth 100000
set_option maxHeartbeats 4000000
/-! A dict of one's own that is walked: locked, and seen, meanwhile. -/
namespace TC
open PySem PySem.Spec L2
def out1 (O : AS) (l : Addr) : AS := fun a => O a ∧ a ≠ l
open Classical in
noncomputable def hp1 (H : Hp) (l : Addr) : Hp := fun a => if a = l then none else H a
theorem hp1_ne {H : Hp} {l a : Addr} (h : a ≠ l) : hp1 H l a = H a := if_neg h
theorem hp1_eq {H : Hp} {l : Addr} : hp1 H l l = none := if_pos rfl
/-- what no tuple and no list may be missed for -/
structure Keep1 (Z Z' : Hp) (l : Addr) (od : Obj) (kvs : List (Key × V)) : Prop where
  at' : Z l = some (.frz od (.dK kvs)) ∨ Z l = none
  same : ∀ a o, a ≠ l → Z a = some o → Z' a = some o
section
variable {K : PySem.W.Frag} {Z Z' : Hp} {l : Addr} {od : Obj} {kv0 : List (Key × V)}
theorem Keep1.get (k : Keep1 Z Z' l od kv0) {a : Addr} {o : HO} (h : Z a = some o) (n : ∀ p u, o ≠ .frz p (.dK u)) : Z' a = some o := by
  by_cases e : a = l
  · subst e
    rcases k.at' with q | q
    · rw [q] at h; cases h; exact absurd rfl (n _ _)
    · rw [q] at h; cases h
  · exact k.same a o e h
theorem Keep1.seqT (k : Keep1 Z Z' l od kv0) {a : Addr} {xs : List V} (h : SqT K Z a xs) : SqT K Z' a xs := by
  rcases h with (h | ⟨o, h⟩) | h
  · exact .inl (.inl (k.get h fun _ _ z => nomatch z))
  · exact .inl (.inr ⟨o, k.get h fun _ _ z => by cases z⟩)
  · exact .inr h
mutual
theorem dq_keep1 (k : Keep1 Z Z' l od kv0) : ∀ (d : PyData) (v : V), Dq K Z v d → Dq K Z' v d
  | .none, _, h => by cases h; exact .non
  | .bool b, _, h => by cases h; exact .bl b
  | .int i, _, h => by cases h; exact .int i
  | .str x, _, h => by cases h; exact .str x
  | .list ds, _, h => by
    cases h with
    | lst h1 h2 => exact .lst (k.get h1 fun _ _ z => nomatch z) (dqa_keep1 k ds _ h2)
  | .tuple ds, _, h => by
    cases h with
    | tup h1 h2 => exact .tup (k.seqT h1) (dqa_keep1 k ds _ h2)
  | .dict ks, _, h => by
    cases h with
    | dic h1 h2 => exact .dic (k.get h1 fun _ _ z => nomatch z) (dqk_keep1 k ks _ h2)
    | ins h1 h2 => exact .ins (k.get h1 fun _ _ z => nomatch z) (dqf_keep1 k _ _ h2)
theorem dqa_keep1 (k : Keep1 Z Z' l od kv0) : ∀ (ds : List PyData) (vs : List V), DqA K Z vs ds → DqA K Z' vs ds
  | [], _, h => by cases h; exact .nil
  | d :: ds, _, h => by
    cases h with
    | cons h1 h2 => exact .cons (dq_keep1 k d _ h1) (dqa_keep1 k ds _ h2)
theorem dqk_keep1 (k : Keep1 Z Z' l od kv0) : ∀ (ks : List (PyData × PyData)) (kvs : List (Key × V)), DqK K Z kvs ks → DqK K Z' kvs ks
  | [], _, h => by cases h; exact .nil
  | (_, d) :: ks, _, h => by
    cases h with
    | cons h1 h2 => exact .cons (dq_keep1 k d _ h1) (dqk_keep1 k ks _ h2)
theorem dqf_keep1 (k : Keep1 Z Z' l od kv0) : ∀ (fs : List (PyData × PyData)) (kvs : List (Str × V)), DqF K Z kvs fs → DqF K Z' kvs fs
  | [], _, h => by cases h; exact .nil
  | (_, d) :: fs, _, h => by
    cases h with
    | cons h1 h2 => exact .cons (dq_keep1 k d _ h1) (dqf_keep1 k fs _ h2)
end
theorem dks_keep1 {ks : KD} {kvs : List (Key × V)} (k : Keep1 Z Z' l od kv0) (h : DKs K Z kvs ks) : DKs K Z' kvs ks := by
  induction h with
  | nil => exact .nil
  | cons d _ ih => exact .cons (dq_keep1 k _ _ d) ih
theorem Keep1.sqL (k : Keep1 Z Z' l od kv0) {a : Addr} {xs : List V} (h : SqL K Z a xs) : SqL K Z' a xs := by
  rcases h with (h | ⟨o, h⟩) | h
  · exact .inl (.inl (k.get h fun _ _ z => nomatch z))
  · exact .inl (.inr ⟨o, k.get h fun _ _ z => by cases z⟩)
  · exact .inr h
end
/-- the dict, locked and seen -/
def dcF (K : PySem.W.Frag) (ks : KD) : Fz where
  ok := fun v Z => ∃ (a : Addr) (kvs : List (Key × V)) (od : Obj), v = .ref a ∧ Z a = some (.frz od (.dK kvs)) ∧ DKs K Z kvs ks
  mono := fun e ⟨a, kvs, od, h1, h2, h3⟩ => ⟨a, kvs, od, h1, e _ _ h2, h3.mono e⟩
/-- a row of slots of data alone -/
def plainRow : List Sl → Bool
  | [] => true
  | .fz _ :: _ => false
  | .ow _ :: _ => false
  | _ :: r => plainRow r
theorem plainRow_get : ∀ {r : List Sl} {j : Nat} {s : Sl}, plainRow r = true → r[j]? = some s → (∀ Φ, s ≠ .fz Φ) ∧ ∀ Ψ, s ≠ .ow Ψ
  | [], _, _, _, h => by simp at h
  | x :: r, 0, s, hp, h => by
    simp at h
    subst h
    exact ⟨(fun Φ e => by subst e; cases hp), (fun Ψ e => by subst e; cases hp)⟩
  | x :: r, j + 1, s, hp, h => by
    have : plainRow r = true := by cases x <;> first | exact hp | cases hp
    exact plainRow_get this (by simpa using h)
section
variable {K : PySem.W.Frag} {C W O : AS} {H0 H H1 : Hp} {T : Option Trip} {σ : L2.St} {ρ ρ1 : En} {ks : KD}
theorem Rep.lend (R : Rep K C W H0 T O H σ ρ) {i : Nat} (hs : ρ.sl[i]? = some (.ow (dcO K ks))) : ∃ (a : Addr) (kvs : List (Key × V)), σ[i]? = some (some (.ref a)) ∧ H a = some (.dK kvs) ∧ O a ∧ (¬ C a ∨ W a) ∧ (∀ t, T = some t → a ≠ t.2.2) ∧
    ∀ od, Rep K (out1 C a) (out1 W a) (hp1 H0 a) T (out1 O a) (upd H a (.frz od (.dK kvs))) σ ⟨ρ.tm, ρ.sl.set i (.fz (dcF K ks))⟩ ∧ Same (cut O H) (cut (out1 O a) (upd H a (.frz od (.dK kvs)))) := by
  obtain ⟨rg, w⟩ := R.ow
  obtain ⟨v, e1, a, kvs, rfl, eS, h3, h4⟩ := w.ok i _ hs
  have ra : rg i a := by rw [eS]
  obtain ⟨aO, aC, aT⟩ := w.rin i _ a hs ra
  refine ⟨a, kvs, e1, h3, aO, aC, aT, fun od => ?_⟩
  have sm : Same (cut O H) (cut (out1 O a) (upd H a (.frz od (.dK kvs)))) := fun b o h => by
    rw [cut_some] at h ⊢
    have nb : b ≠ a := fun z => h.1 (z ▸ aO)
    exact ⟨fun z => h.1 z.1, (upd_ne nb).trans h.2⟩
  refine ⟨⟨fun b h => ⟨R.wc b h.1, h.2⟩, fun b h => ⟨R.co b h.1, h.2⟩, fun b o h n => ?_, fun b h => ?_, fun b h => ?_, ?_, fun t h => ⟨R.tl t h, fun z => aT t h z.symm⟩, ?_, fun j s hj => ?_, fun j k xs ys b ne g1 g2 e => ?_, rg, ?_⟩, sm⟩
  · have nb : b ≠ a := fun z => by rw [z, hp1_eq] at h; cases h
    rw [hp1_ne nb] at h
    rw [upd_ne nb]
    exact R.keep b o h fun z => n ⟨z, nb⟩
  · rw [upd_ne h.2]; exact R.alloc b h.1
  · rw [hp1_ne h.2]
    exact (R.loc b h.1).imp (fun z => ⟨z, h.2⟩) id
  · show σ.length = (ρ.sl.set i _).length
    rw [List.length_set]; exact R.len
  · have q := R.tm
    show TmOk _ _ _ T _ _ ρ.tm
    revert q
    cases ρ.tm with
    | none => exact fun q => q
    | some z =>
      intro ⟨t, hT, m⟩
      have nt : t.2.2 ≠ a := fun z => aT t hT z.symm
      exact ⟨t, hT, sm _ _ m.s, sm _ _ m.g, ⟨m.o, nt⟩, (upd_ne nt).trans m.l, m.w.imp (fun z => ⟨z, nt⟩) fun z => ⟨fun y => z.1 y.1, (hp1_ne nt).trans z.2⟩⟩
  · rcases set_get hj with ⟨rfl, rfl⟩ | ⟨ne, hj'⟩
    · exact ⟨.ref a, e1, a, kvs, od, rfl, cut_some.mpr ⟨fun z => z.2 rfl, upd_same⟩, h4.mono sm⟩
    · have q := R.sl j s hj'
      cases s with
      | un => trivial
      | d y => obtain ⟨u, e1, q⟩ := q; exact ⟨u, e1, dp_mono sm _ _ q⟩
      | own zs =>
        obtain ⟨b, ws, f1, q1, q2, q3, q4, q5⟩ := q
        have nb : b ≠ a := fun z => w.sepL i j _ zs b hs hj' f1 (z ▸ ra)
        exact ⟨b, ws, f1, ⟨q1, nb⟩, fun z => q2 z.1, q3, (upd_ne nb).trans q4, dpa_mono sm _ _ q5⟩
      | stm => exact q
      | plc => exact q
      | scr ns => obtain ⟨b, e1, q⟩ := q; exact ⟨b, e1, sm.seq q⟩
      | fz Φ => obtain ⟨b, e1, q⟩ := q; exact ⟨b, e1, Φ.mono sm q⟩
      | ow Ψ => trivial
  · rcases set_get g1 with ⟨_, q⟩ | ⟨_, g1'⟩
    · cases q
    rcases set_get g2 with ⟨_, q⟩ | ⟨_, g2'⟩
    · cases q
    exact R.apart j k xs ys b ne g1' g2' e
  · have un : ∀ {j : Nat} {Ψ : Fo}, (ρ.sl.set i (.fz (dcF K ks)))[j]? = some (.ow Ψ) → j ≠ i ∧ ρ.sl[j]? = some (.ow Ψ) := fun h => by
      rcases set_get h with ⟨_, q⟩ | ⟨n, h'⟩
      · cases q
      · exact ⟨n, h'⟩
    refine ⟨fun j Ψ h => ?_, fun j Ψ b h r => ?_, fun j k Ψ Ψ' b ne h h2 r => w.sep j k Ψ Ψ' b ne (un h).2 (un h2).2 r, fun j k Ψ xs b h h2 e r => ?_⟩
    · obtain ⟨n, h'⟩ := un h
      obtain ⟨v, e, q⟩ := w.ok j Ψ h'
      exact ⟨v, e, Ψ.mono sm (Ψ.loc (fun b hb => upd_ne fun z => w.sep i j _ Ψ a (Ne.symm n) hs h' ra (z ▸ hb)) q)⟩
    · obtain ⟨n, h'⟩ := un h
      obtain ⟨q1, q2, q3⟩ := w.rin j Ψ b h' r
      have nb : b ≠ a := fun z => w.sep i j _ Ψ a (Ne.symm n) hs h' ra (z ▸ r)
      exact ⟨⟨q1, nb⟩, q2.imp (fun z y => z y.1) (fun z => ⟨z, nb⟩), q3⟩
    · obtain ⟨n, h'⟩ := un h
      rcases set_get h2 with ⟨_, q⟩ | ⟨_, h2'⟩
      · cases q
      · exact w.sepL j k Ψ xs b h' h2' e r
theorem Rep.unlend (R : Rep K C W H0 T O H σ ρ) {i : Nat} {a : Addr} {kvs : List (Key × V)} {od : Obj} (aO : O a) (aC : ¬ C a ∨ W a) (aT : ∀ t, T = some t → a ≠ t.2.2) (R1 : Rep K (out1 C a) (out1 W a) (hp1 H0 a) T (out1 O a) H1 σ ρ1) (e1 : σ[i]? = some (some (.ref a)))
    (ea : H1 a = some (.frz od (.dK kvs))) (h1 : ρ1.sl[i]? = some (.fz (dcF K ks))) (hp : plainRow (ρ1.sl.set i .un) = true) : Keep1 (cut (out1 O a) H1) (cut O (upd H1 a (.dK kvs))) a od kvs ∧ Rep K C W H0 T O (upd H1 a (.dK kvs)) σ ⟨ρ1.tm, ρ1.sl.set i (.ow (dcO K ks))⟩ := by
  have kp : Keep1 (cut (out1 O a) H1) (cut O (upd H1 a (.dK kvs))) a od kvs := ⟨.inl (cut_some.mpr ⟨fun z => z.2 rfl, ea⟩), fun b o nb h => by
    rw [cut_some] at h ⊢
    exact ⟨fun z => h.1 ⟨z, nb⟩, (upd_ne nb).trans h.2⟩⟩
  have dk : DKs K (cut (out1 O a) H1) kvs ks := by
    obtain ⟨v, f1, a', kvs', od', rfl, f2, f3⟩ := R1.sl i _ h1
    rw [e1] at f1
    cases f1
    have := (cut_some.mp f2).2
    rw [ea] at this
    cases this
    exact f3
  have other : ∀ {j : Nat} {s : Sl}, j ≠ i → ρ1.sl[j]? = some s → (∀ Φ, s ≠ .fz Φ) ∧ ∀ Ψ, s ≠ .ow Ψ := fun n h => plainRow_get hp ((List.getElem?_set_ne (Ne.symm n)).trans h)
  have li : i < σ.length := (List.getElem?_eq_some_iff.mp e1).1
  refine ⟨kp, R.wc, R.co, fun b o h n => ?_, fun b h => ?_, R.loc, ?_, R.tl, ?_, fun j s hj => ?_, fun j k xs ys b ne g1 g2 e => ?_, fun j b => j = i ∧ b = a, fun j Ψ h => ?_, fun j Ψ b h r => ?_, fun j k Ψ Ψ' b ne h h2 r r2 => ne (r.1.trans r2.1.symm), fun j k Ψ xs b h h2 e r => ?_⟩
  · have nb : b ≠ a := fun z => by
      subst z
      rcases aC with z | z
      · rw [(R.loc b aO).resolve_left z] at h; cases h
      · exact n z
    rw [upd_ne nb]
    exact R1.keep b o ((hp1_ne nb).trans h) fun z => n z.1
  · by_cases z : b = a
    · rw [z, upd_same]; simp
    · rw [upd_ne z]; exact R1.alloc b ⟨h, z⟩
  · show σ.length = (ρ1.sl.set i _).length
    rw [List.length_set]; exact R1.len
  · have q := R1.tm
    show TmOk W C H0 T O (upd H1 a (.dK kvs)) ρ1.tm
    revert q
    cases ρ1.tm with
    | none => exact fun q => q
    | some z =>
      intro ⟨t, hT, m⟩
      have nt : t.2.2 ≠ a := m.o.2
      exact ⟨t, hT, kp.get m.s (fun _ _ z => nomatch z), kp.get m.g (fun _ _ z => nomatch z), m.o.1, (upd_ne nt).trans m.l, m.w.imp (fun z => z.1) fun z => ⟨fun y => z.1 ⟨y, nt⟩, (hp1_ne nt).symm.trans z.2⟩⟩
  · rcases set_get hj with ⟨rfl, rfl⟩ | ⟨ne, hj'⟩
    · trivial
    · have q := R1.sl j s hj'
      have ot := other ne hj'
      cases s with
      | un => trivial
      | d y => obtain ⟨u, e1, q⟩ := q; exact ⟨u, e1, dq_keep1 kp _ _ q⟩
      | own zs =>
        obtain ⟨b, ws, f1, q1, q2, q3, q4, q5⟩ := q
        exact ⟨b, ws, f1, q1.1, fun z => q2 ⟨z, q1.2⟩, q3, (upd_ne q1.2).trans q4, dqa_keep1 kp _ _ q5⟩
      | stm => exact q
      | plc => exact q
      | scr ns => obtain ⟨b, e1, q⟩ := q; exact ⟨b, e1, kp.sqL q⟩
      | fz Φ => exact absurd rfl (ot.1 Φ)
      | ow Ψ => trivial
  · rcases set_get g1 with ⟨_, q⟩ | ⟨_, g1'⟩
    · cases q
    rcases set_get g2 with ⟨_, q⟩ | ⟨_, g2'⟩
    · cases q
    exact R1.apart j k xs ys b ne g1' g2' e
  · rcases set_get h with ⟨rfl, q⟩ | ⟨n, h'⟩
    · cases q
      refine ⟨.ref a, e1, a, kvs, rfl, funext fun b => propext ⟨fun z => z.2, fun z => ⟨rfl, z⟩⟩, upd_same, dks_keep1 kp dk⟩
    · exact absurd rfl ((other n h').2 Ψ)
  · obtain ⟨rfl, rfl⟩ := r
    exact ⟨aO, aC, aT⟩
  · obtain ⟨rfl, rfl⟩ := r
    rcases set_get h2 with ⟨_, q⟩ | ⟨n, h2'⟩
    · cases q
    · obtain ⟨b', ws, f1, q1, _⟩ := R1.sl k _ h2'
      rw [e] at f1
      cases f1
      exact q1.2 rfl
end
theorem set_self {l : List Sl} {i : Nat} {s : Sl} (h : l[i]? = some s) (t : Sl) : (l.set i t).set i s = l := by
  apply List.ext_getElem?
  intro j
  by_cases e : j = i
  · subst e
    have hl := (List.getElem?_eq_some_iff.mp h).1
    rw [List.getElem?_set_self (by rw [List.length_set]; exact hl), h]
  · rw [List.getElem?_set_ne (Ne.symm e), List.getElem?_set_ne (Ne.symm e)]
section
variable {F : Fam} {ρ : En} {e b : Expr} {x : PyData} {pos p p2 : Pos} {n : Str} {ks : KD} {k : Key}
/-- an expression that only looks at the dict of one's own at slot i -/
theorem be_lock (i : Nat) {tm tm' : Option (List Int × Int)} {sl : List Sl} (hs : sl[i]? = some (.ow (dcO F.K ks))) (h : BE F ⟨tm, sl.set i (.fz (dcF F.K ks))⟩ e x ⟨tm', sl.set i (.fz (dcF F.K ks))⟩) (hp : plainRow (sl.set i .un) = true := by rfl) : BE F ⟨tm, sl⟩ e x ⟨tm', sl⟩ := by
  refine ⟨tLockE (supE F e), fun X hX => pe_lock (supE_ok hX), fun C W H0 T O H σ R Q q => ?_⟩
  obtain ⟨a, kvs, e1, h1, aO, aC, aT, L⟩ := Rep.lend (ρ := ⟨tm, sl⟩) R hs
  refine ⟨a, .dK kvs, h1, trivial, fun od => ?_⟩
  obtain ⟨R', sm⟩ := L od
  refine h.uni _ _ _ _ _ _ _ R' _ fun v H' R1 s1 d1 => ?_
  have ea : H' a = some (.frz od (.dK kvs)) := (cut_some.mp (s1 _ _ (cut_some.mpr ⟨fun z => z.2 rfl, upd_same⟩))).2
  have hl : i < sl.length := (List.getElem?_eq_some_iff.mp hs).1
  obtain ⟨kp, R2⟩ := Rep.unlend (ks := ks) (ρ1 := ⟨tm', sl.set i (.fz (dcF F.K ks))⟩) R aO aC aT R1 e1 ea (List.getElem?_set_self hl) (by
    show plainRow ((sl.set i _).set i .un) = true
    rw [List.set_set]; exact hp)
  have eq : (sl.set i (.fz (dcF F.K ks))).set i (.ow (dcO F.K ks)) = sl := set_self hs _
  rw [eq] at R2
  refine ⟨ea, q v _ R2 (fun c o hc => ?_) (dq_keep1 kp _ _ d1)⟩
  have nc : c ≠ a := fun z => (cut_some.mp hc).1 (z ▸ aO)
  exact kp.same c o nc (s1 _ _ (sm _ _ hc))
/-- the keys of a locked dict -/
theorem bi_dkeys (i : Nat) {tg : Expr} (hs : ρ.sl[i]? = some (.fz (dcF F.K ks))) (hN : F.N[i]? = some n := by rfl) (hv : Vis F.sc n := by first | exact Or.inl rfl | exact Or.inr (Or.inl rfl) | exact Or.inr (Or.inr rfl))
    (hd : (n == ("__debug__" : Str)) = false := by decide) (hcd : (n == ("__classdict__" : Str)) = false := by decide) : BI F ρ tg (.Name n p) (ks.map fun q => kD q.1) ρ := by
  refine ⟨iKeys (tVar i), fun X hX => pi_keys (pe_var (by rw [hX.N]; exact hN) (hX.vis hv) hd hcd), fun C W H0 T O H σ R Rq q => ?_⟩
  obtain ⟨v, e1, a, kvs, od, rfl, h2, h3⟩ := R.sl i _ hs
  refine ⟨_, e1, a, od, rfl, .inl ⟨kvs, (cut_some.mp h2).2, q _ H R Same.rfl' fun O' H' al s j => ?_⟩⟩
  have g2 : H' a = some (.frz od (.dK kvs)) := (cut_some.mp (s _ _ h2)).2
  rw [List.length_map, ← h3.len]
  refine ⟨fun hj => ⟨g2, by omega⟩, fun x hx => ?_⟩
  rw [List.getElem?_map] at hx
  have key : ∀ {kvs : List (Key × V)} {ks : KD} {j : Nat}, DKs F.K (cut O H) kvs ks → (ks[j]?.map fun q => kD q.1) = some x → ∃ k v, kvs[j]? = some (k, v) ∧ x = kD k := by
    intro kvs ks j d
    induction d generalizing j with
    | nil => intro h; simp at h
    | @cons k v kvs d ks _ _ ih =>
      intro h
      cases j with
      | zero => simp at h; exact ⟨k, v, by simp, h.symm⟩
      | succ j => obtain ⟨k', v', q1, q2⟩ := ih (by simpa using h); exact ⟨k', v', by simpa using q1, q2⟩
  obtain ⟨k, v, hk, rfl⟩ := key h3 hx
  refine ⟨⟨g2, (List.getElem?_eq_some_iff.mp hk).1⟩, fun w H'' y => ?_⟩
  obtain ⟨rfl, k', v', hk', rfl⟩ := y
  rw [hk] at hk'
  cases hk'
  refine ⟨Same.rfl', ?_⟩
  cases k with
  | inl i => exact .int i
  | inr s => exact .str s
/-- an item of a locked dict -/
theorem be_dgetF (i : Nat) {tm tm' : Option (List Int × Int)} {sl : List Sl} (hs : sl[i]? = some (.fz (dcF F.K ks))) (hb : BE F ⟨tm, sl⟩ b (kD k) ⟨tm', sl⟩) (hv' : valP ks k = some x) (hN : F.N[i]? = some n := by rfl) (hv : Vis F.sc n := by first | exact Or.inl rfl | exact Or.inr (Or.inl rfl) | exact Or.inr (Or.inr rfl))
    (hno : NoSl b := by intro _ _; rfl) (hd : (n == ("__debug__" : Str)) = false := by decide) (hcd : (n == ("__classdict__" : Str)) = false := by decide) : BE F ⟨tm, sl⟩ (.Subscript (.Name n p) b pos) x ⟨tm', sl⟩ := by
  obtain ⟨tb, pb, eb⟩ := hb
  refine ⟨tDGet (tVar i) tb, fun X hX => pe_dget (by have := hX.un; omega) (pe_var (by rw [hX.N]; exact hN) (hX.vis hv) hd hcd) (pb X hX) hno, fun C W H0 T O H σ R Q q => ?_⟩
  obtain ⟨v0, e0, a, kvs, od, rfl, h2, h3⟩ := R.sl i _ hs
  refine ⟨_, e0, eb C W H0 T O H σ R _ fun w H1 R1 s1 d1 => ?_⟩
  have h3' := h3.mono s1
  rcases h3'.get k with ⟨z, _⟩ | ⟨v, y, g1, g2, g3⟩
  · rw [hv'] at z; cases z
  · rw [hv'] at g1
    cases g1
    exact ⟨a, v, rfl, .inl ⟨kvs, k, .inr ⟨od, (cut_some.mp (s1 _ _ h2)).2⟩, dq_kV d1, g2.symm⟩, q v H1 R1 s1 g3⟩
end
def prD (q : Key × PyData) : PyData := .tuple [kD q.1, q.2]
theorem pairs_out {K : PySem.W.Frag} {Z : Hp} : ∀ {ks : KD} {vs : List V}, DqA K Z vs (ks.map prD) → ∃ (ps : List Addr) (kvs : List (Key × V)), vs = ps.map V.ref ∧ Paired (fun p kv => SqT K Z p [kV kv.1, kv.2]) ps kvs ∧ DKs K Z kvs ks
  | [], _, h => by cases h; exact ⟨[], [], rfl, .nil, .nil⟩
  | (k, x) :: ks, _, h => by
    cases h with
    | cons h1 h2 =>
      obtain ⟨ps, kvs, rfl, g1, g2⟩ := pairs_out h2
      unfold prD at h1
      cases h1 with
      | @tup a us _ f1 f2 =>
        cases f2 with
        | cons q1 q2 =>
          cases q2 with
          | cons q3 q4 =>
            cases q4
            have := dq_kV q1
            subst this
            exact ⟨a :: ps, (k, _) :: kvs, rfl, .cons f1 g1, .cons q3 g2⟩
theorem dks_merge {K : PySem.W.Frag} {Z : Hp} {kvs : List (Key × V)} {ks : KD} (h : DKs K Z kvs ks) : ∀ {acc : List (Key × V)} {ac : KD}, DKs K Z acc ac → DKs K Z (mergeK acc kvs) (ks.foldl (fun a q => putP a q.1 q.2) ac) := by
  induction h with
  | nil => exact fun h => h
  | cons d _ ih => exact fun h => ih (h.put d)
section
variable {F : Fam} {ρ ρ1 : En} {e : Expr} {pos p p2 p3 : Pos} {n : Str} {ks : KD}
def rDp (K : PySem.W.Frag) : List V → Hp → VK → Prop := fun us H Q => ∃ (a : Addr) (ps : List Addr) (kvs : List (Key × V)), us = [.ref a] ∧ SqL K H a (ps.map V.ref) ∧ Paired (fun p kv => SqT K H p [kV kv.1, kv.2]) ps kvs ∧ ∀ p, H p = none → Q (.ref p) (upd H p (.dK (mergeK [] kvs)))
theorem paired_mono {α β : Type} {R R' : α → β → Prop} (e : ∀ a b, R a b → R' a b) : ∀ {xs : List α} {ys : List β}, Paired R xs ys → Paired R' xs ys
  | _, _, .nil => .nil
  | _, _, .cons h t => .cons (e _ _ h) (paired_mono e t)
/-- name = dict(a list of pairs) -/
theorem bs_dictP (i : Nat) (h : BE F ρ e (.list (ks.map prD)) ρ1) (hm : F.mg "dict" = none) (hcm : F.ex = none := by rfl) (hg : F.sc.names.lookup ("dict" : Str) = some .globalImplicit := by rfl) (hN : F.N[i]? = some n := by rfl) (hx : Loc F.sc n := by first | exact Or.inl rfl | exact Or.inr rfl) (hf : F.df = true ∨ F.sc.names.lookup n = some .local := by first | exact Or.inl rfl | exact Or.inr rfl)
    (hst : ∀ env, starEach [e] env = [(false, eval e env)] := by intro _; rfl) (hs : ∀ X, Fits F X → swapsWith (.Call (.Name "dict" p3) [e] [] p2) (some (.Name n p)) pos.line X.env = pure false := by intro _ _; rfl) :
    BS F ρ (.Assign [.Name n p] (.Call (.Name "dict" p3) [e] [] p2) pos) (.nx ⟨ρ1.tm, ρ1.sl.set i (.ow (dcO F.K (ks.foldl (fun a q => putP a q.1 q.2) [])))⟩) := by
  obtain ⟨t, p1, e1⟩ := h
  have cd : ∀ X, Fits F X → CallR X (.type "dict") (rDp F.K) := fun X hX => by
    rw [← hX.K]
    exact call_dictP (hX.calm hcm)
  refine ⟨_, fun X hX => ps_set (i := i) (by rw [hX.N]; exact hX.nd) (by rw [hX.N]; exact hN) (by rw [hX.sc]; exact hx) (pe_callTy (cd X hX) (hX.gl hg) (by rw [hX.mg]; exact hm) (by decide +kernel) (pa_cons (p1 X hX) pa_nil (hst _)) (by decide) (by decide) (hst _) rfl) (hs X hX) (by rw [hX.sc]; exact hf.imp (fun z => hX.fn z n) id), fun C W H0 T0 T O H σ D e R kk => ?_⟩
  refine e1 C W H0 T O H σ R _ fun v H1 R1 s1 d1 => ?_
  cases d1 with
  | @lst a vs _ g1 g2 =>
    obtain ⟨ps, kvs, rfl, f1, f2⟩ := pairs_out g2
    refine ⟨a, ps, kvs, rfl, SqL.of (cut_some.mp g1).2, paired_mono (fun _ _ z => seqT_mono cut_full z) f1, fun l hl => ?_⟩
    have s2 : Same H1 (upd H1 l (.dK (mergeK [] kvs))) := same_new hl
    have R2 := R1.hide hl s2 (by rw [upd_same]; simp)
    refine kk _ _ (or1 O l) T e (R1.putO R2 hl ⟨l, _, rfl, rfl, upd_same, (dks_merge f2 .nil).mono (cut_or1 s2 hl)⟩ fun t hT z => R1.nof hl (z ▸ R1.tl t hT)) (s1.trans (cut_or1 s2 hl))
end
end TC

set_option maxRecDepth 100000
set_option maxHeartbeats 4000000
/-! a, b = e, where e raises. -/
namespace TC
open PySem PySem.Spec L2
section
variable {F : Fam} {ρ ρ1 ρ2 : En} {e tg : Expr} {x : PyData} {cl : Value} {fs : List (Str × PyData)} {pos : Pos}
theorem bs_asgR (h : BR F ρ e cl fs ρ1) (g : BG F ρ1 tg x ρ2) (h1 : ∀ X, Fits F X → swapsWithSole [tg] e pos.line X.env = pure false := by intro _ _; rfl) (h2 : ∀ X, Fits F X → swappedStores [tg] e X.env = pure none := by intro _ _; rfl)
    (h3 : ∀ env, (assignEach [tg] env).map (·.2) = [assign tg env] := by intro _; rfl) : BS F ρ (.Assign [tg] e pos) (.rz cl fs ρ1) := by
  obtain ⟨t, p1, e1⟩ := h
  obtain ⟨g, p2, _⟩ := g
  exact ⟨_, fun X hX => ps_asg (p1 X hX) (p2 X hX) (h1 X hX) (h2 X hX) (h3 _), fun C W H0 T0 T O H σ D e R k => e1 C W H0 T O H σ R (br_run e k) _⟩
end
end TC

set_option maxRecDepth 100000
set_option maxHeartbeats 4000000
/-! A list of one's own, looked at in an expression. -/
namespace TC
open PySem PySem.Spec L2
section
variable {F : Fam} {ρ ρ1 ρ2 : En} {e a b : Expr} {x : PyData} {xs ys : List PyData} {pos p p2 : Pos} {n : Str} {tm tm' tm1 : Option (List Int × Int)} {sl : List Sl}
/-- a list of one's own + a list -/
theorem bl_catO (i : Nat) (hs : sl[i]? = some (.own xs)) (hb : BE F ⟨tm, sl⟩ b (.list ys) ⟨tm', sl⟩) (hz : xs.length + ys.length ≤ 100000) (hN : F.N[i]? = some n := by rfl) (hv : Vis F.sc n := by first | exact Or.inl rfl | exact Or.inr (Or.inl rfl) | exact Or.inr (Or.inr rfl))
    (hd : (n == ("__debug__" : Str)) = false := by decide) (hcd : (n == ("__classdict__" : Str)) = false := by decide) : BL F ⟨tm, sl⟩ (.BinOp (.Name n p) .Add b pos) (xs ++ ys) ⟨tm', sl⟩ := by
  obtain ⟨tb, pb, eb⟩ := hb
  refine ⟨_, fun X hX => pe_op op_cat (pe_var (i := i) (by rw [hX.N]; exact hN) (hX.vis hv) hd hcd) (pb X hX), fun C W H0 T O H σ R Q q => ?_⟩
  obtain ⟨a, us, e1, o1, _⟩ := R.sl i _ hs
  refine ⟨_, e1, eb C W H0 T O H σ R _ fun w H2 R2 s2 d2 => ?_⟩
  obtain ⟨a', us', f1, o2, c2, t2, h2, d⟩ := R2.sl i _ hs
  rw [e1] at f1
  cases f1
  cases d2 with
  | @lst a2 ws _ g1 g2 =>
    refine ⟨a, a2, us', ws, rfl, rfl, h2, (cut_some.mp g1).2, Nat.le_trans (by rw [dpa_len d, dpa_len g2]; exact hz) (by decide), fun l hl => ?_⟩
    have s3 : Same H2 (upd H2 l (.lst (us' ++ ws))) := same_new hl
    have nl : cut O H l = none := by
      cases e : cut O H l with
      | none => rfl
      | some o =>
        have := (cut_some.mp (s2 l o e)).2
        rw [hl] at this; cases this
    have hH : H l = none := by
      cases e : H l with
      | none => rfl
      | some o =>
        by_cases z : O l
        · exact absurd hl (R2.alloc l z)
        · rw [cut_some.mpr ⟨z, e⟩] at nl; cases nl
    exact q l _ _ hH upd_same (R2.hide hl s3 (by rw [upd_same]; simp)) (R2.grow s3) (s2.trans (cut_or1 s3 hl)) (dpa_mono (cut_or1 s3 hl) _ _ (dpa_app d g2))
/-- e not in a list of one's own, flat things -/
theorem bt_ninO (i : Nat) (hs : sl[i]? = some (.own xs)) (ha : BE F ⟨tm, sl⟩ e x ⟨tm', sl⟩) (f : flatD x = true) (g : xs.all flatD = true) (hN : F.N[i]? = some n := by rfl) (hv : Vis F.sc n := by first | exact Or.inl rfl | exact Or.inr (Or.inl rfl) | exact Or.inr (Or.inr rfl))
    (hm : behindInMarks .NotIn (.Name n p) = false := by rfl) (hd : (n == ("__debug__" : Str)) = false := by decide) (hcd : (n == ("__classdict__" : Str)) = false := by decide) : BT F ⟨tm, sl⟩ (.Compare e [.NotIn] [.Name n p] pos) (!xs.any fun z => PyData.eqv z x) ⟨tm', sl⟩ := by
  obtain ⟨ta, pa, ea⟩ := ha
  have op : ∀ X, Fits F X → OpR X (compareOp .NotIn) (rIn F.K true) := fun X hX => by
    rw [← hX.K]
    exact op_notIn_seq
  refine ⟨_, fun X hX => pt_cmpR (op X hX) (pa X hX) (pe_var (i := i) (by rw [hX.N]; exact hN) (hX.vis hv) hd hcd) hm, fun C W H0 T O H σ R Q q => ea C W H0 T O H σ R _ fun v H1 R1 s1 d1 => ?_⟩
  obtain ⟨a, us, e1, o1, c1, t1, h1, d⟩ := R1.sl i _ hs
  obtain ⟨g1, g2⟩ := inV_of d1 f d g
  refine ⟨_, e1, a, us, rfl, .inl (SqL.of h1), flat_of d1 f, g1, ?_⟩
  rw [if_pos rfl, g2]
  exact ⟨_, rfl, q H1 R1 s1⟩
end
end TC

set_option maxRecDepth 100000
set_option maxHeartbeats 4000000
/-! A table of the module (a dict of texts and numbers), only looked at. -/
namespace TC
open PySem PySem.Spec L2
inductive TabE (w : World) : List DictEntry → List (Str × Int) → Prop
  | nil : TabE w [] []
  | cons {k : Str} {v : Int} {t u : Tok} {es : List DictEntry} {T : List (Str × Int)} : TabE w es T → TabE w (⟨hashStr w k, .str k t, .int v u⟩ :: es) ((k, v) :: T)
structure Tab (w : World) (K : PySem.W.Frag) (D : Addr) (T : List (Str × Int)) : Prop where
  ex : ∃ (es : Array DictEntry) (ep : Nat), K.lookup D = some ⟨.type "dict", none, .dict es ep, #[]⟩ ∧ TabE w es.toList T
  sm : (D == sysModules) = false
def tabV (T : List (Str × Int)) (k : Str) : Option Int := (T.find? fun p => p.1 == k).map (·.2)
theorem TabE.find {w : World} {es : List DictEntry} {T : List (Str × Int)} (h : TabE w es T) (k : Str) :
    (tabV T k = none ∧ (es.find? fun e => Value.isStrOf k e.key) = none) ∨ ∃ n t e, tabV T k = some n ∧ (es.find? fun e => Value.isStrOf k e.key) = some e ∧ e.val = .int n t := by
  induction h with
  | nil => exact .inl ⟨rfl, rfl⟩
  | @cons k0 v t u es T _ ih =>
    by_cases e : (k0 == k) = true
    · refine .inr ⟨v, u, _, ?_, List.find?_cons_of_pos (by exact e), rfl⟩
      unfold tabV
      rw [List.find?_cons_of_pos (by exact e)]; rfl
    · have q : tabV ((k0, v) :: T) k = tabV T k := by
        unfold tabV
        rw [List.find?_cons_of_neg (by exact e)]
      rw [q, List.find?_cons_of_neg (by exact e)]
      exact ih
theorem TabE.keys {P : Program} {w : World} {es : List DictEntry} {T : List (Str × Int)} (h : TabE w es T) : ∀ e ∈ es, ∃ k, (strKind P w).is k e.key = true ∧ e.hash = (strKind P w).hash k := by
  induction h with
  | nil => intro e he; cases he
  | @cons k0 v t u es T _ ih =>
    intro e he
    rcases List.mem_cons.mp he with rfl | he
    · exact ⟨k0, strKind_is P w k0 t, rfl⟩
    · exact ih e he
theorem Tab.map {P : Program} {w : World} {K : PySem.W.Frag} {D : Addr} {T : List (Str × Int)} (h : Tab w K D T) {hp : Heap} (I : K.In hp) :
    ∃ f : Str → Option Value, hp.MapOf (strKind P w) D f ∧ ∀ k, (tabV T k = none ∧ f k = none) ∨ ∃ n t, tabV T k = some n ∧ f k = some (.int n t) := by
  obtain ⟨es, ep, h1, h2⟩ := h.ex
  refine ⟨_, ⟨_, es, ep, I D _ h1, ⟨rfl, rfl, rfl⟩, rfl, fun e he => h2.keys e (by simpa using he), fun k => rfl⟩, fun k => ?_⟩
  have q : findBy (strKind P w).is es k = (es.toList.find? fun e => Value.isStrOf k e.key).map (·.val) := by
    unfold findBy
    rw [← Array.find?_toList]
    rfl
  rw [q]
  rcases h2.find k with ⟨a, b⟩ | ⟨n, t, e, a, b, c⟩
  · exact .inl ⟨a, by rw [b]; rfl⟩
  · exact .inr ⟨n, t, a, by rw [b, ← c]; rfl⟩
def tTabIn (T : List (Str × Int)) (neg : Bool) (te : TE) : TE := fun σ H Q => te σ H fun y H1 => ∃ k, y = .str k ∧ Q (.bl ((tabV T k).isSome != neg)) H1
def tTabGet (T : List (Str × Int)) (te : TE) : TE := fun σ H Q => te σ H fun y H1 => ∃ k n, y = .str k ∧ tabV T k = some n ∧ Q (.int n) H1
section
variable {X : Cx} {D : Addr} {T : List (Str × Int)} {i : Expr} {td ty te : TE} {x : Str} {p pos : Pos}
theorem pc_tabN (hT : Tab X.w X.K D T) (hi : PE X i te) (hg : Gl X x) (hm : X.mg x = some (.ref D)) (hd : (x == ("__debug__" : Str)) = false := by decide) : PC X .NotIn i (.Name x p) (tTabIn T true te) := by
  refine ⟨fun pins s σ H Q I h => ?_⟩
  refine thn (hi.run pins s σ H _ I h) fun iv s1 ⟨y, H1, I1, ry, k, ey, q1⟩ => ld_glob I1 hg hm ?_ hd
  subst ey
  obtain ⟨t, rfl⟩ := ry
  obtain ⟨f, m, hf⟩ := hT.map (P := X.prog) I1.kIn
  refine wpAny_notIn_of (strKind_is _ _ _ _) hT.sm m ⟨.bl ((tabV T k).isSome != true), H1, I1.tok _, ?_, q1⟩
  rcases hf k with ⟨a, b⟩ | ⟨n, t, a, b⟩
  · rw [a, b]; exact rfl
  · rw [a, b]; exact rfl
theorem pc_tabI (hT : Tab X.w X.K D T) (hi : PE X i te) (hg : Gl X x) (hm : X.mg x = some (.ref D)) (hd : (x == ("__debug__" : Str)) = false := by decide) : PC X .In i (.Name x p) (tTabIn T false te) := by
  refine ⟨fun pins s σ H Q I h => ?_⟩
  refine thn (hi.run pins s σ H _ I h) fun iv s1 ⟨y, H1, I1, ry, k, ey, q1⟩ => ld_glob I1 hg hm ?_ hd
  subst ey
  obtain ⟨t, rfl⟩ := ry
  obtain ⟨f, m, hf⟩ := hT.map (P := X.prog) I1.kIn
  refine wpAny_in_of (strKind_is _ _ _ _) hT.sm m ⟨.bl ((tabV T k).isSome != false), H1, I1.tok _, ?_, q1⟩
  rcases hf k with ⟨a, b⟩ | ⟨n, t, a, b⟩
  · rw [a, b]; exact rfl
  · rw [a, b]; exact rfl
theorem pe_tabG (hT : Tab X.w X.K D T) (hi : PE X i te) (hs : NoSl i) (hg : Gl X x) (hm : X.mg x = some (.ref D)) (hd : (x == ("__debug__" : Str)) = false := by decide) : PE X (.Subscript (.Name x p) i pos) (tTabGet T te) := by
  refine ⟨fun pins s σ H Q I h => ?_⟩
  refine subD_of PySem.F.slot_dict_getitem.lookup hs (ld_glob I hg hm (thn (hi.run pins s σ H _ I h) fun iv s1 ⟨y, H1, I1, ry, k, n, ey, et, q1⟩ => ?_) hd)
  subst ey
  obtain ⟨t, rfl⟩ := ry
  obtain ⟨f, m, hf⟩ := hT.map (P := X.prog) I1.kIn
  rcases hf k with ⟨a, b⟩ | ⟨n', t', a, b⟩
  · rw [et] at a; cases a
  · rw [et] at a
    cases a
    exact ⟨m.typeIs, wpAny_getItem_of (strKind_is _ _ _ _) m b ⟨.int n, H1, I1.tok _, ⟨_, rfl⟩, q1⟩⟩
end
section
variable {F : Fam} {ρ ρ1 : En} {b : Expr} {pos p : Pos} {n : Str} {T : List (Str × Int)} {D : Addr} {k : Str} {i : Int}
theorem bt_tabN (hT : Tab F.w F.K D T) (hmg : F.mg n = some (.ref D)) (hb : BE F ρ b (.str k) ρ1) (hg : F.sc.names.lookup n = some .globalImplicit := by rfl)
    (hm : behindInMarks .NotIn (.Name n p) = false := by rfl) (hd : (n == ("__debug__" : Str)) = false := by decide) : BT F ρ (.Compare b [.NotIn] [.Name n p] pos) (!(tabV T k).isSome) ρ1 := by
  obtain ⟨tb, pb, eb⟩ := hb
  refine ⟨tB (tTabIn T true tb), fun X hX => pt_cmp (pc_tabN (by rw [hX.w, hX.K]; exact hT) (pb X hX) (hX.gl hg) (by rw [hX.mg]; exact hmg) hd) hm, fun C W H0 T0 O H σ R Q q => eb C W H0 T0 O H σ R _ fun w H1 R1 s1 d1 => ?_⟩
  cases d1
  refine ⟨k, rfl, _, rfl, ?_⟩
  rw [Bool.bne_true]
  exact q H1 R1 s1
theorem be_tabG (hT : Tab F.w F.K D T) (hmg : F.mg n = some (.ref D)) (hb : BE F ρ b (.str k) ρ1) (hk : tabV T k = some i) (hg : F.sc.names.lookup n = some .globalImplicit := by rfl)
    (hno : NoSl b := by intro _ _; rfl) (hd : (n == ("__debug__" : Str)) = false := by decide) : BE F ρ (.Subscript (.Name n p) b pos) (.int i) ρ1 := by
  obtain ⟨tb, pb, eb⟩ := hb
  refine ⟨tTabGet T tb, fun X hX => pe_tabG (by rw [hX.w, hX.K]; exact hT) (pb X hX) hno (hX.gl hg) (by rw [hX.mg]; exact hmg) hd, fun C W H0 T0 O H σ R Q q => eb C W H0 T0 O H σ R _ fun w H1 R1 s1 d1 => ?_⟩
  cases d1
  exact ⟨k, i, rfl, hk, q _ H1 R1 s1 (.int i)⟩
end
end TC

set_option maxRecDepth 100000
set_option maxHeartbeats 4000000
/-! all(list of truth values); an empty dict as data. -/
namespace TC
open PySem PySem.Spec L2
def rAll (K : PySem.W.Frag) : List V → Hp → VK → Prop := fun vs H Q => ∃ (a : Addr) (bs : List Bool), vs = [V.ref a] ∧ SqL K H a (bs.map V.bl) ∧ Q (.bl (bs.all id)) H
theorem vals_bools {h : Heap} : ∀ {bs : List Bool} {us : List Value}, Vals (bs.map V.bl) us → ReadsAll h us (bs.map PyData.bool) []
  | [], us, r => by
    rw [Vals.zero r]; exact .nil
  | b :: bs, us, r => by
    cases r with
    | cons r1 r2 =>
      cases r1
      exact ReadsAll.cons (as := []) (bs := []) (.bool b) (vals_bools r2)
theorem plain_bools : ∀ bs : List Bool, PyData.plainAll (bs.map PyData.bool) = true
  | [] => rfl
  | b :: bs => by
    rw [List.map_cons, PyData.plainAll, plain_bools bs]; rfl
theorem truthy_bools (bs : List Bool) : (bs.map PyData.bool).all PyData.truthy = bs.all id := by
  rw [List.all_map]; rfl
section
variable {X : Cx}
theorem cr_all (hc : X.calm = true) : CallR X (.builtin "all") (rAll X.K) := by
  intro pins s σ H vs us Q I r h
  obtain ⟨a, bs, rfl, hs, q⟩ := h
  obtain ⟨its, rv, hl, _⟩ := I.list hs
  rw [Vals.ref1 r]
  refine PySem.W.all_list_data (I.ok.hd hc) hl.isList (vals_bools rv) (plain_bools bs) (fun x hx => ?_) fun h' tk hk => ⟨.bl (bs.all id), H, I.kept hk, by rw [truthy_bools]; exact rfl, q⟩
  obtain ⟨b, _, rfl⟩ := List.mem_map.mp hx
  exact trivial
end
theorem dpa_boolsV {K : PySem.W.Frag} {H : Hp} : ∀ {bs : List Bool} {vs : List V}, DqA K H vs (bs.map PyData.bool) → vs = bs.map V.bl
  | [], _, h => by cases h; rfl
  | b :: bs, _, h => by
    cases h with
    | cons h1 h2 => cases h1; rw [dpa_boolsV h2]; rfl
section
variable {F : Fam} {ρ ρ1 : En} {e : Expr} {p pos : Pos}
theorem be_all {bs : List Bool} (hm : F.mg "all" = none) (ha : BE F ρ e (.list (bs.map .bool)) ρ1) (hcm : F.ex = none := by rfl) (hg : F.sc.names.lookup ("all" : Str) = some .globalImplicit := by rfl) (hs : ∀ env, starEach [e] env = (false, eval e env) :: starEach [] env := by intro _; rfl) : BE F ρ (.Call (.Name "all" p) [e] [] pos) (.bool (bs.all id)) ρ1 :=
  be_cr (r := rAll F.K) (.inl ⟨"all", fun X hX => by rw [← hX.K]; exact cr_all (hX.calm hcm), by decide +kernel⟩) hm (bd1 ha hs) (fun O H vs _ d Q q => by
    obtain ⟨v, rfl, d1⟩ := dqa1 d
    cases d1 with
    | @lst a us _ g1 g2 =>
      have eu := dpa_boolsV g2
      subst eu
      exact ⟨a, bs, rfl, SqL.of (cut_some.mp g1).2, q _ H Same.rfl' (.bl _)⟩) hg (by decide) (by decide) hs (fun _ => rfl)
theorem be_dict0 : BE F ρ (.Dict [] [] p) (.dict []) ρ :=
  ⟨_, fun X hX => pe_dnewK, fun C W H0 T O H σ R Q q => fun l hl => q (.ref l) (upd H l (.dK [])) (R.grow (same_new hl)) (cut_same (same_new hl)) (.dic (cut_some.mpr ⟨fun z => R.alloc l z hl, upd_same⟩) .nil)⟩
end
end TC

set_option maxRecDepth 100000
set_option maxHeartbeats 4000000
/-! C(), whose __init__ stores an empty dict; the instance is handed on without a look at it. -/
namespace TC
open PySem PySem.Spec L2
def anyZ : Fz := ⟨fun _ _ => True, fun _ _ => trivial⟩
def spMkD (C : Addr) (n : Str) : Sp := fun vs H Q _ => ∃ (a dx : Addr), vs = [.ref a] ∧ H a = some (.ins C dx []) ∧ ∀ l, H l = none → Q .non (upd (upd H l (.dK [])) a (.ins C dx [(n, .ref l)]))
structure MkD (F : Fam) (n : Str) (C : Addr) (m : Str) : Prop where
  ex : ∃ (k : Nat) (f : Addr) (fd : FuncData) (ps : List Str), Mk F.K C f ∧ FnOk F.P F.w F.K F.mg F.base CX0 k f fd ps (spMkD C m) ∧ k + 1 ≤ F.k ∧ Binds F.K fd ps []
  g : F.mg n = some (.ref C)
  cm : F.ex = none
section
variable {F : Fam} {ρ : En} {p pos : Pos} {n m : Str} {C : Addr}
theorem bz_makeD (c : MkD F n C m) (hg : F.sc.names.lookup n = some .globalImplicit := by rfl) (hd : (n == ("__debug__" : Str)) = false := by decide) : BZ F ρ (.Call (.Name n p) [] [] pos) anyZ ρ := by
  obtain ⟨k, f, fd, ps, h1, h2, h3, h4⟩ := c.ex
  refine ⟨_, fun X hX => pe_make0 (CX := CX0) (ds := []) (dvs := []) (E := E0) (by rw [hX.K]; exact h1) (by rw [hX.prog, hX.w, hX.K, hX.mg, hX.base]; exact h2) ((hX.room c.cm).mono h3) (hX.gl hg) (by rw [hX.mg]; exact c.g) (by rw [hX.K]; exact h4) .nil pass0 hd, fun C' W H0 T O H σ R Q q => fun a dx ha hdx hne => ?_⟩
  refine ⟨a, dx, rfl, upd_same, fun l hl => ⟨rfl, ?_⟩⟩
  have s2 : Same H (upd (upd (upd (upd H dx (.own a)) a (.ins C dx [])) l (.dK [])) a (.ins C dx [(m, .ref l)])) := fun b o hb => by
    have hl' : b ≠ l := fun z => by
      subst z
      have e : upd (upd H dx (.own a)) a (.ins C dx []) b = some o := by rw [upd_ne (ne_of_none hb ha), upd_ne (ne_of_none hb hdx)]; exact hb
      rw [hl] at e; cases e
    rw [upd_ne (ne_of_none hb ha), upd_ne hl', upd_ne (ne_of_none hb ha), upd_ne (ne_of_none hb hdx)]; exact hb
  exact q _ _ (R.grow s2) (cut_same s2) trivial
end
end TC

set_option maxRecDepth 100000
set_option maxHeartbeats 4000000
/-! The truth of a tuple; sorted(list of ints). -/
namespace TC
open PySem PySem.Spec L2
section
variable {F : Fam} {ρ ρ1 : En} {e : Expr} {xs : List PyData} {p pos : Pos} {ns ms : List Int}
theorem bt_truT (h : BE F ρ e (.tuple xs) ρ1) (he : ∀ env whole, isTrue e env whole = (do let v ← whole; standAt e.pos; holding [v] (truthy v)) := by intro _ _; rfl) : BT F ρ e (!xs.isEmpty) ρ1 := by
  obtain ⟨t, p1, e1⟩ := h
  refine ⟨fun σ H Q => t σ H fun x H' => ∃ k, TruV F.K x H' k ∧ Q k H', fun X hX => ?_, fun C W H0 T O H σ R Q q => e1 C W H0 T O H σ R _ fun v H1 R1 s1 d1 => ?_⟩
  · have h := pt_truth (X := X) (p1 X hX) (he X.env)
    rw [hX.K] at h
    exact h
  · cases d1 with
    | @tup a us _ g1 g2 =>
      refine ⟨!us.isEmpty, .inr (.inl ⟨us, seqT_mono cut_full g1, rfl⟩), ?_⟩
      have e : us.isEmpty = xs.isEmpty := by
        have := dpa_len g2
        cases us <;> cases xs <;> simp at this ⊢
      rw [e]
      exact q H1 R1 s1
theorem bl_sortedL (hm : F.mg "sorted" = none) (ha : BE F ρ e (.list (ns.map .int)) ρ1) (hl : ns.length < 64) (hp : ms.Perm ns) (hs' : ms.Pairwise (· ≤ ·)) (hg : F.sc.names.lookup ("sorted" : Str) = some .globalImplicit := by rfl) (hs : ∀ env, starEach [e] env = (false, eval e env) :: starEach [] env := by intro _; rfl) :
    BL F ρ (.Call (.Name "sorted" p) [e] [] pos) (ms.map .int) ρ1 :=
  bl_cr (r := rSorted F.K) (.inl ⟨"sorted", fun X hX => by rw [← hX.K]; exact cr_sorted, by decide +kernel⟩) hm (bd1 ha hs) (fun O H vs al d Q q => by
    obtain ⟨v, rfl, d1⟩ := dqa1 d
    cases d1 with
    | @lst a us _ g1 g2 =>
      have eu := dpa_intsV g2
      subst eu
      refine ⟨a, ns, rfl, SqL.of (cut_some.mp g1).2, hl, fun ms' l h1 h2 hl => ?_⟩
      have e : ms' = ms := PySem.W.ksm_same (h1.trans hp.symm) h2 hs'
      subst e
      exact q l _ _ hl (same_new hl) upd_same (dpa_ints _)) hg (by decide) (by decide) hs (fun _ => rfl)
end
end TC

set_option maxRecDepth 100000
set_option maxHeartbeats 4000000
/-! Instances of own classes as data: made by an __init__ that stores what it reckons, read by their fields. -/
namespace TC
open PySem PySem.Spec L2
def insD (C : Addr) (fs : List (Str × PyData)) : PyData := .dict ((.none, .int (C : Int)) :: fs.map fun p => (.str p.1, p.2))
theorem dqf_of {K : PySem.W.Frag} {H : Hp} : ∀ {fs : List (Str × PyData)} {kvs : List (Str × V)}, DqF K H kvs (fs.map fun p => (.str p.1, p.2)) → FsOk K H kvs fs
  | [], _, h => by cases h; exact ⟨rfl, .nil⟩
  | (n, d) :: fs, _, h => by
    rw [List.map_cons] at h
    cases h with
    | cons h1 h2 =>
      obtain ⟨q1, q2⟩ := dqf_of h2
      exact ⟨by rw [List.map_cons, List.map_cons, q1], .cons h1 q2⟩
theorem dqf_to {K : PySem.W.Frag} {H : Hp} : ∀ {fs : List (Str × PyData)} {kvs : List (Str × V)}, FsOk K H kvs fs → DqF K H kvs (fs.map fun p => (.str p.1, p.2))
  | [], [], _ => .nil
  | [], _ :: _, h => by cases h.1
  | _ :: _, [], h => by cases h.1
  | (n, d) :: fs, (m, v) :: kvs, h => by
    obtain ⟨h1, h2⟩ := h
    simp only [List.map_cons, List.cons.injEq] at h1
    obtain ⟨rfl, h1⟩ := h1
    rw [List.map_cons, List.map_cons] at h2
    cases h2 with
    | cons d1 d2 => exact .cons d1 (dqf_to ⟨h1, d2⟩)
theorem dq_ins {K : PySem.W.Frag} {H : Hp} {v : V} {C : Addr} {fs : List (Str × PyData)} (h : Dq K H v (insD C fs)) : ∃ (a dx : Addr) (kvs : List (Str × V)), v = .ref a ∧ H a = some (.ins C dx kvs) ∧ FsOk K H kvs fs := by
  unfold insD at h
  generalize e : ((PyData.none, PyData.int (C : Int)) :: fs.map fun p => (PyData.str p.1, p.2)) = l at h
  cases h with
  | @dic a kvs ks h1 h2 =>
    subst e
    generalize e2 : ((PyData.none, PyData.int (C : Int)) :: fs.map fun p => (PyData.str p.1, p.2)) = l at h2
    cases h2 with
    | nil => cases e2
    | @cons k v kvs d ks _ _ =>
      simp only [List.cons.injEq, Prod.mk.injEq] at e2
      cases k <;> cases e2.1.1
  | @ins a dx C1 kvs fs1 h1 h2 =>
    simp only [List.cons.injEq, Prod.mk.injEq, PyData.int.injEq] at e
    obtain ⟨⟨_, e1⟩, e2⟩ := e
    have : C = C1 := Int.ofNat.inj e1
    subst this
    subst e2
    exact ⟨a, dx, kvs, rfl, h1, dqf_of h2⟩
theorem dq_insI {K : PySem.W.Frag} {H : Hp} {a dx C : Addr} {kvs : List (Str × V)} {fs : List (Str × PyData)} (h : H a = some (.ins C dx kvs)) (f : FsOk K H kvs fs) : Dq K H (.ref a) (insD C fs) := .ins h (dqf_to f)
def putFs (f : Str) (x : PyData) : List (Str × PyData) → List (Str × PyData)
  | [] => [(f, x)]
  | (g, y) :: r => if g = f then (g, x) :: r else (g, y) :: putFs f x r
theorem FsOk.put {K : PySem.W.Frag} {Z : Hp} {f : Str} {v : V} {x : PyData} (d : Dq K Z v x) : ∀ {kvs : List (Str × V)} {fs : List (Str × PyData)}, FsOk K Z kvs fs → FsOk K Z (putF f v kvs) (putFs f x fs)
  | [], [], _ => ⟨rfl, .cons d .nil⟩
  | [], _ :: _, h => by cases h.1
  | _ :: _, [], h => by cases h.1
  | (k1, v1) :: kvs, (k2, x2) :: fs, h => by
    obtain ⟨h1, h2⟩ := h
    simp only [List.map_cons, List.cons.injEq] at h1
    obtain ⟨rfl, h1⟩ := h1
    rw [List.map_cons, List.map_cons] at h2
    cases h2 with
    | cons d1 d2 =>
      unfold putF putFs
      by_cases e : k1 = f
      · rw [if_pos e, if_pos e]
        exact ⟨by rw [List.map_cons, List.map_cons, h1], .cons d d2⟩
      · rw [if_neg e, if_neg e]
        obtain ⟨q1, q2⟩ := FsOk.put (f := f) (v := v) d ⟨h1, d2⟩
        exact ⟨by rw [List.map_cons, List.map_cons, q1], .cons d1 q2⟩
theorem FsOk.len {K : PySem.W.Frag} {Z : Hp} {kvs : List (Str × V)} {fs : List (Str × PyData)} (h : FsOk K Z kvs fs) : kvs.length = fs.length := by
  have := congrArg List.length h.1
  rwa [List.length_map, List.length_map] at this
/-- an instance that is being made -/
def inO (K : PySem.W.Frag) (C a dx : Addr) (fs : List (Str × PyData)) : Fo where
  ok := fun v S H Z => ∃ kvs : List (Str × V), v = .ref a ∧ S = (fun b => b = a) ∧ H a = some (.ins C dx kvs) ∧ FsOk K Z kvs fs
  loc := fun e ⟨kvs, h1, h2, h3, h4⟩ => ⟨kvs, h1, h2, (e a (by rw [h2])).trans h3, h4⟩
  mono := fun e ⟨kvs, h1, h2, h3, h4⟩ => ⟨kvs, h1, h2, h3, h4.mono e⟩
section
variable {F : Fam} {ρ ρ1 : En} {e : Expr} {es : List Expr} {x : PyData} {pos p p2 : Pos} {n m : Str} {C a dx : Addr} {fs : List (Str × PyData)} {ss : List Sl}
/-- e.f, e an instance -/
theorem be_fldD (h : BE F ρ e (insD C fs) ρ1) (c : Cls F.K C) (hno : NoAttr F.K C m) (hf : fs.lookup m = some x) (hb : ∀ env, attributeBase e m env (eval e env) = eval e env := by intro _; rfl) : BE F ρ (.Attribute e m pos) x ρ1 := by
  obtain ⟨t, p1, e1⟩ := h
  refine ⟨tFld F.K t m, fun X hX => ?_, fun C' W H0 T O H σ R Q q => e1 C' W H0 T O H σ R _ fun v H1 R1 s1 d1 => ?_⟩
  · rw [← hX.K]
    exact pe_fld (p1 X hX) (hb _)
  · obtain ⟨a, dx, kvs, rfl, h2, h3⟩ := dq_ins d1
    rcases h3.look (n := m) with ⟨z, _⟩ | ⟨w, y, g1, g2, g3⟩
    · rw [hf] at z; cases z
    · rw [hf] at g1
      cases g1
      exact ⟨a, C, dx, kvs, w, rfl, (cut_some.mp h2).2, c, hno, g2, q w H1 R1 s1 g3⟩
/-- self.f = e -/
theorem bs_fldI (i : Nat) {tm tm1 : Option (List Int × Int)} {sl : List Sl} (he : BE F ⟨tm, sl⟩ e x ⟨tm1, sl⟩) (hs : sl[i]? = some (.ow (inO F.K C a dx fs))) (c : Cls F.K C) (hno : NoAttr F.K C m) (hz : fs.length < 1000 := by decide) (hN : F.N[i]? = some n := by rfl) (hv : Vis F.sc n := by first | exact Or.inl rfl | exact Or.inr (Or.inl rfl) | exact Or.inr (Or.inr rfl))
    (hd : (n == ("__debug__" : Str)) = false := by decide) (hcd : (n == ("__classdict__" : Str)) = false := by decide) (hw : ∀ X, Fits F X → swapsWith e (some (.Attribute (.Name n p) m p2)) pos.line X.env = pure false := by intro _ _; rfl) : BS F ⟨tm, sl⟩ (.Assign [.Attribute (.Name n p) m p2] e pos) (.nx ⟨tm1, sl.set i (.ow (inO F.K C a dx (putFs m x fs)))⟩) := by
  obtain ⟨te, pe, ee⟩ := he
  refine ⟨sFld F.K (tVar i) te m, fun X hX => ?_, fun C' W H0 T0 T O H σ D e R kk => ee C' W H0 T O H σ R _ fun v H1 R1 s1 d1 => ?_⟩
  · rw [← hX.K]
    exact ps_fld (pe_var (i := i) (by rw [hX.N]; exact hN) (hX.vis hv) hd hcd) (pe X hX) (hw X hX)
  obtain ⟨u, S, e1, ⟨kvs, rfl, rfl, h3, h4⟩, hin, mm⟩ := Rep.mutO (ρ := ⟨tm1, sl⟩) R1 hs
  obtain ⟨oa, _⟩ := hin a rfl
  have eo : orS O (fun b => b = a) = O := funext fun b => propext ⟨fun z => z.elim id fun (y : b = a) => by rw [y]; exact oa, .inl⟩
  have eo1 : Same (cut O H1) (cut (orS O fun b => b = a) (upd H1 a (.ins C dx (putF m v kvs)))) := fun b o hb => by
    rw [eo]
    obtain ⟨q1, q2⟩ := cut_some.mp hb
    exact cut_some.mpr ⟨q1, by rw [upd_ne (fun (y : b = a) => q1 (by rw [y]; exact oa))]; exact q2⟩
  have h4' : FsOk F.K (cut (orS O fun b => b = a) (upd H1 a (.ins C dx (putF m v kvs)))) (putF m v kvs) (putFs m x fs) := (h4.put d1).mono eo1
  obtain ⟨R', s'⟩ := mm (upd H1 a (.ins C dx (putF m v kvs))) (fun b => b = a) (inO F.K C a dx (putFs m x fs)) (fun b n1 _ => upd_ne n1) (fun b z => by subst z; rw [upd_same]; simp) (fun b z => ⟨.inl z, by subst z; rw [upd_same]; simp⟩) ⟨_, rfl, rfl, upd_same, h4'⟩
  exact ⟨_, e1, a, C, dx, kvs, rfl, h3, c, hno, by rw [h4.len]; exact hz, kk σ _ _ T e R' (s1.trans s')⟩
end
/-- the promise of an __init__ -/
def spI (K : PySem.W.Frag) (C : Addr) (Rl : List Sl → List (Str × PyData) → Prop) : Sp := fun vs H Q _ => ∃ (a dx : Addr) (Cc : AS) (ss : List Sl) (fs : List (Str × PyData)) (ws : List V), vs = .ref a :: ws ∧ H a = some (.ins C dx []) ∧ (∀ b, Cc b → H b ≠ none) ∧ AOk K none none (or1 Cc a) H ws ss ∧ Rl ss fs ∧
  ∀ kvs H', (∀ b o, H b = some o → b ≠ a → H' b = some o) → H' a = some (.ins C dx kvs) → FsOk K (cut (or1 Cc a) H') kvs fs → Q .non H'
section
variable {P : Program} {w : World} {K : PySem.W.Frag} {mg : Str → Option Value} {base : Heap} {x qual : Str} {st : Stmt} {f : Addr} {fd : FuncData} {N ps : List Str} {k : Nat} {C : Addr}
theorem def_okI {Rl : List Sl → List (Str × PyData) → Prop} (Fn : Fun K x qual st f fd) (S : FnScope N ps (defScope st)) (hN : ps.length ≤ N.length) (len : ∀ ss fs, Rl ss fs → ss.length + 1 = ps.length)
    (body : ∀ ss fs, Rl ss fs → ∀ a dx, ∃ sl, BSs (fam P w K mg base N (defScope st) k) ⟨none, .ow (inO K C a dx []) :: ss ++ List.replicate (N.length - (ss.length + 1)) .un⟩ (defBody st) (.nx ⟨none, .ow (inO K C a dx fs) :: sl⟩)) : FnOk P w K mg base CX0 (k + 1) f fd ps (spI K C Rl) := by
  refine Fn.ok S (fun vs H Q E h => ?_) (fun cdv A outer s H vs Q E hr h => ?_)
  · obtain ⟨a, dx, Cc, ss, fs, ws, rfl, _, _, h2, h3, _⟩ := h
    rw [List.length_cons, aok_len h2]; exact len ss fs h3
  obtain ⟨a, dx, Cc, ss, fs, ws, rfl, ha, al, ok, hR, q⟩ := h
  obtain ⟨sl, t, p1, e1⟩ := body ss fs hR a dx
  have hlen := aok_len ok
  have hps := len ss fs hR
  have get0 : (L2.start N (.ref a :: ws))[0]? = some (some (.ref a)) := start_get (i := 0) (by simp)
  refine ⟨t, p1 _ (fits_of S hr), e1 (or1 Cc a) (fun b => b = a) H none none (or1 Cc a) H _ _ (ExtT.rfl' fun _ => rfl) ⟨fun _ h => .inr h, fun _ h => h, fun _ _ h _ => h, fun b h => h.elim (al b) fun z => by subst z; rw [ha]; simp, fun _ h => .inl h, ?_, fun t h => (nomatch h), trivial, fun i s hs => ?_, fun i j xs ys b ne h1 => ?_, ⟨fun i b => i = 0 ∧ b = a, ⟨fun i Ψ h => ?_, fun i Ψ b h r => ?_, fun i j Ψ Ψ' b ne h1 h2 r1 r2 => ne (r1.1.trans r2.1.symm), fun i j Ψ xs b h1 h2 => ?_⟩⟩⟩ ?_⟩
  · show (L2.start N (.ref a :: ws)).length = (.ow (inO K C a dx []) :: ss ++ List.replicate (N.length - (ss.length + 1)) Sl.un).length
    unfold L2.start
    rw [List.length_append, List.length_append, List.length_map, List.length_replicate, List.length_replicate, List.length_cons, List.length_cons, hlen]
  · cases i with
    | zero => simp at hs; subst hs; trivial
    | succ i =>
      have hs : (ss ++ List.replicate (N.length - (ss.length + 1)) Sl.un)[i]? = some s := by simpa using hs
      rcases pad_get hs with h1 | h1
      · obtain ⟨v, e1, q1⟩ := aok_get ok h1
        have hi : i < ws.length := (List.getElem?_eq_some_iff.mp e1).1
        have e2 : (L2.start N (.ref a :: ws))[i + 1]? = some (some v) := by
          rw [start_get (i := i + 1) (by rw [List.length_cons]; omega), ← List.getElem?_eq_getElem, List.getElem?_cons_succ, e1]
        cases s with
        | un => trivial
        | d x => exact ⟨v, e2, q1⟩
        | own xs => exact q1.elim
        | stm => obtain ⟨t, h, _⟩ := q1; cases h
        | plc => exact q1.elim
        | scr ns => obtain ⟨b, rfl, q2⟩ := q1; exact ⟨b, e2, q2⟩
        | fz Φ => exact ⟨v, e2, q1⟩
        | ow Ψ => exact q1.elim
      · subst h1; trivial
  · cases i with
    | zero => simp at h1
    | succ i =>
      have h1 : (ss ++ List.replicate (N.length - (ss.length + 1)) Sl.un)[i]? = some (.own xs) := by simpa using h1
      rcases pad_get h1 with h2 | h2
      · obtain ⟨v, _, q1⟩ := aok_get ok h2
        exact q1.elim
      · cases h2
  · cases i with
    | zero =>
      simp at h
      subst h
      refine ⟨.ref a, get0, [], rfl, ?_, ha, rfl, .nil⟩
      funext b
      exact propext ⟨fun z => z.2, fun z => ⟨rfl, z⟩⟩
    | succ i =>
      have h : (ss ++ List.replicate (N.length - (ss.length + 1)) Sl.un)[i]? = some (.ow Ψ) := by simpa using h
      rcases pad_get h with h2 | h2
      · obtain ⟨v, _, q1⟩ := aok_get ok h2
        exact q1.elim
      · cases h2
  · obtain ⟨_, rfl⟩ := r
    exact ⟨.inr rfl, .inr rfl, fun t h => nomatch h⟩
  · cases j with
    | zero => simp at h2
    | succ j =>
      have h2 : (ss ++ List.replicate (N.length - (ss.length + 1)) Sl.un)[j]? = some (.own xs) := by simpa using h2
      rcases pad_get h2 with h3 | h3
      · obtain ⟨v, _, q1⟩ := aok_get ok h3
        exact q1.elim
      · cases h3
  · intro σ' H' O' T' _ R _
    obtain ⟨rg, wo⟩ := R.ow
    obtain ⟨v, _, kvs, rfl, _, h3, h4⟩ := wo.ok 0 _ rfl
    exact q kvs H' (fun b o hb nb => R.keep b o hb nb) h3 (h4.mono (cut_sub R.co))
end
structure MkI (F : Fam) (n : Str) (C : Addr) (Rl : List Sl → List (Str × PyData) → Prop) : Prop where
  ex : ∃ (k : Nat) (f : Addr) (fd : FuncData) (ps : List Str), Mk F.K C f ∧ FnOk F.P F.w F.K F.mg F.base CX0 k f fd ps (spI F.K C Rl) ∧ k + 1 ≤ F.k ∧ Binds F.K fd ps []
  g : F.mg n = some (.ref C)
  cm : F.ex = none
theorem MkI.blk {F : Fam} {n : Str} {C : Addr} {Rl : List Sl → List (Str × PyData) → Prop} {scope : Scope} (c : MkI F n C Rl) : MkI (F.blk scope) n C Rl := ⟨c.ex, c.g, rfl⟩
theorem aok_to {K : PySem.W.Frag} {T : Option Trip} {tm : Option (List Int × Int)} {O O' : AS} {H H' : Hp} (e : Same (cut O H) (cut O' H')) : ∀ {vs : List V} {ss : List Sl}, AOk K T tm O H vs ss → AOk K T tm O' H' vs ss
  | [], [], _ => trivial
  | v :: vs, s :: ss, h => by
    refine ⟨?_, aok_to e h.2⟩
    cases s with
    | d x => exact dp_mono e _ _ h.1
    | scr ns => obtain ⟨a, e1, q⟩ := h.1; exact ⟨a, e1, e.seq q⟩
    | fz Φ => exact Φ.mono e h.1
    | un => exact h.1
    | own xs => exact h.1
    | stm => exact h.1
    | plc => exact h.1
    | ow Ψ => exact h.1
  | [], _ :: _, h => h.elim
  | _ :: _, [], h => h.elim
section
variable {F : Fam} {ρ ρ1 : En} {e : Expr} {es : List Expr} {pos p : Pos} {n : Str} {C : Addr} {fs : List (Str × PyData)} {ss : List Sl} {Rl : List Sl → List (Str × PyData) → Prop}
/-- C(e, ..) -/
theorem be_makeI (c : MkI F n C Rl) (h : BA F ρ (e :: es) ss ρ1) (hr : Rl ss fs) (hpl : ss.all plainSl = true := by rfl) (hg : F.sc.names.lookup n = some .globalImplicit := by rfl) (hd : (n == ("__debug__" : Str)) = false := by decide)
    (hs : ∀ env, starEach (e :: es) env = (false, eval e env) :: starEach es env := by intro _; rfl) (hpl2 : ∀ env, (backTo pos (starEach es env)).any (·.1) = false := by intro _; rfl) : BE F ρ (.Call (.Name n p) (e :: es) [] pos) (insD C fs) ρ1 := by
  obtain ⟨t, p1, e1⟩ := h
  obtain ⟨k, f, fd, ps, h1, h2, h3, h4⟩ := c.ex
  refine ⟨_, fun X hX => pe_make (CX := CX0) (ds := []) (dvs := []) (E := E0) (by rw [hX.K]; exact h1) (by rw [hX.prog, hX.w, hX.K, hX.mg, hX.base]; exact h2) ((hX.room c.cm).mono h3) (hX.gl hg) (by rw [hX.mg]; exact c.g) (by rw [hX.K]; exact h4) .nil pass0 (p1 X hX) hd (hs _) (hpl2 _), fun C' W H0 T O H σ R Q q => e1 C' W H0 T O H σ R _ fun vs H1 R1 s1 d1 => fun a dx ha hdx hne => ?_⟩
  rw [List.append_nil]
  have s2 : Same H1 (upd (upd H1 dx (.own a)) a (.ins C dx [])) := fun b o hb => by
    rw [upd_ne (ne_of_none hb ha), upd_ne (ne_of_none hb hdx)]; exact hb
  refine ⟨a, dx, O, ss, fs, vs, rfl, upd_same, fun b hb => ?_, aok_to (cut_or1 s2 ha) (aok_plain d1 hpl), hr, fun kvs H3 k1 k2 k3 => ⟨rfl, ?_⟩⟩
  · cases z : H1 b with
    | none => exact absurd z (R1.alloc b hb)
    | some o => rw [s2 b o z]; simp
  · have s3 : Same H1 H3 := fun b o hb => k1 b o (s2 b o hb) (ne_of_none hb ha)
    refine q _ _ (R1.grow s3) (s1.trans (cut_same s3)) (dq_insI (cut_some.mpr ⟨R1.nof ha, k2⟩) (k3.mono (cut_sub fun _ => .inl)))
end
end TC

set_option maxRecDepth 100000
set_option maxHeartbeats 4000000
/-! A dict whose keys are (int, (int, int)): at the hand layer, told by its one object. -/
namespace TC
open PySem PySem.Spec L2
abbrev GK := Int × Int × Int
def nk (k : GK) : NestedKey := .tup [.num k.1, .tup [.num k.2.1, .num k.2.2]]
theorem nk_inj {a b : GK} (h : nk a = nk b) : a = b := by
  obtain ⟨a1, a2, a3⟩ := a
  obtain ⟨b1, b2, b3⟩ := b
  unfold nk at h
  injection h with h
  simp only [List.cons.injEq, NestedKey.num.injEq, NestedKey.tup.injEq, and_true] at h
  obtain ⟨rfl, rfl, rfl⟩ := h
  rfl
abbrev GE := NestedKey × Addr × Value
def GD (P : Program) (w : World) (h : Heap) (d : Addr) (xs : List GE) : Prop := (d == sysModules) = false ∧ xs.length ≤ 10000 ∧ ∃ o es ep, h.get? d = some o ∧ o.ExactDict ∧ o.data = .dict es ep ∧ es.toList = xs.map (entryOfKey (nestedKind P w)) ∧ (xs.map (·.1)).Nodup
def gdO (P : Program) (w : World) (d : Addr) (xs : List GE) : HO := .ext fun h => GD P w h d xs
section
variable {P : Program} {w : World} {h : Heap} {d : Addr} {xs : List GE} {H : Hp}
theorem gd_ok (x : GD P w h d xs) : ObjOk P w H h d (gdO P w d xs) := by
  obtain ⟨x1, x2, o, es, ep, x3, x4⟩ := id x
  exact ⟨x, ⟨o, x3⟩, fun h1 h2 ⟨g1, g2, o', es', ep', g3, g4⟩ k => ⟨g1, g2, o', es', ep', k _ g3, g4⟩⟩
theorem gd_of (x : ObjOk P w H h d (gdO P w d xs)) : GD P w h d xs := x.1
theorem gd_new (hb : sysModules < h.objs.size) : ObjOk P w H (h.push { cls := .type "dict", data := .dict #[] }) h.objs.size (gdO P w h.objs.size []) :=
  gd_ok ⟨beq_eq_false_iff_ne.mpr (Ne.symm (Nat.ne_of_lt hb)), Nat.zero_le _, _, #[], 0, Heap.get?_push_size _ rfl, ⟨rfl, rfl, rfl⟩, rfl, rfl, List.nodup_nil⟩
theorem gd_dict (x : GD P w h d xs) (k : ∀ e ∈ xs, (nestedKind P w).is h e.1 e.2.1) : h.DictOfH (nestedKind P w) d xs := by
  obtain ⟨_, _, o, es, ep, x3, x4, x5, x6, x7⟩ := x
  exact ⟨o, es, ep, x3, x4, x5, x6, k, x7⟩
theorem gd_back (hd : (d == sysModules) = false) (hl : xs.length ≤ 10000) (x : h.DictOfH (nestedKind P w) d xs) : GD P w h d xs := by
  obtain ⟨o, es, ep, x3, x4, x5, x6, _, x7⟩ := x
  exact ⟨hd, hl, o, es, ep, x3, x4, x5, x6, x7⟩
end
/-- the tuple at a is the key k -/
def KeyAt (K : PySem.W.Frag) (H : Hp) (a : Addr) (k : GK) : Prop := ∃ b, SqT K H a [.int k.1, .ref b] ∧ SqT K H b [.int k.2.1, .int k.2.2]
def Keys (K : PySem.W.Frag) (H : Hp) (xs : List GE) : Prop := ∀ e ∈ xs, ∃ k, e.1 = nk k ∧ KeyAt K H e.2.1 k
theorem tup_nested {h : Heap} {a : Addr} {its : List Value} {ks : List NestedKey} (t : PyProof.Rows.IsTup h a its.toArray) (n : NestedAll h ks its) : NestedIs h (.tup ks) (.ref a) := by
  obtain ⟨o, h1, h2, n', h3⟩ := t
  exact .tup h1 h2 h3 (by simpa using n)
section
variable {X : Cx} {pins : List (Addr × Obj)} {σ : St} {H : Hp} {s : Shared} {a : Addr} {k : GK}
theorem key_is (I : Inv X pins σ H s) (x : KeyAt X.K H a k) : (nestedKind X.prog X.w).is s.heap (nk k) a := by
  obtain ⟨b, h1, h2⟩ := x
  obtain ⟨its, r, t, _⟩ := I.tuple h1
  obtain ⟨its2, r2, t2, _⟩ := I.tuple h2
  obtain ⟨u, v, rfl, ⟨t1, rfl⟩, ru⟩ := Vals.two r
  obtain rfl : v = Value.ref b := ru
  obtain ⟨u2, v2, rfl, ⟨t3, rfl⟩, ⟨t4, rfl⟩⟩ := Vals.two r2
  exact ⟨tup_nested t (.cons (.int _ _) (.cons (tup_nested t2 (.cons (.int _ _) (.cons (.int _ _) .nil))) .nil)), Nat.le_of_ble_eq_true rfl⟩
/-- {} -/
def tGNew (P : Program) (w : World) : TE := fun _ H Q => ∀ p, H p = none → Q (.ref p) (upd H p (gdO P w p []))
theorem pe_gnew {pos : Pos} : PE X (.Dict [] [] pos) (tGNew X.prog X.w) := ⟨fun pins s σ H Q I h =>
  wpAny_Dict_empty ⟨.ref s.heap.objs.size, _, I.laid (a := s.heap.objs.size) (o := gdO X.prog X.w s.heap.objs.size []) (t' := s.toks) (fun _ _ q => Heap.get?_push_of_some _ q) (Nat.le_refl _) (gd_new I.big), rfl, h _ (I.hok.fresh (Nat.le_refl _))⟩⟩
theorem gd_at {d : Addr} {xs : List GE} (I : Inv X pins σ H s) (e : H d = some (gdO X.prog X.w d xs)) (ks : Keys X.K H xs) : GD X.prog X.w s.heap d xs ∧ s.heap.DictOfH (nestedKind X.prog X.w) d xs := by
  have g := gd_of (I.hok d _ e)
  refine ⟨g, gd_dict g fun x hx => ?_⟩
  obtain ⟨k, e1, e2⟩ := ks x hx
  rw [e1]
  exact key_is I e2
/-- d.setdefault(k, x) -/
def tGSet (P : Program) (w : World) (K : PySem.W.Frag) (td ty tx : TE) : TE := fun σ H Q => td σ H fun x H1 => ∃ d xs, x = .ref d ∧ H1 d = some (gdO P w d xs) ∧ Keys K H1 xs ∧ ty σ H1 fun y H2 => tx σ H2 fun z H3 =>
  ∃ a k xs', y = .ref a ∧ H3 d = some (gdO P w d xs') ∧ Keys K H3 xs' ∧ KeyAt K H3 a k ∧ ((∃ l a', atKey xs' (nk k) = some (a', .ref l) ∧ Q (.ref l) H3) ∨ (∃ l, z = .ref l ∧ atKey xs' (nk k) = none ∧ xs'.length < 10000 ∧ Q (.ref l) (upd H3 d (gdO P w d (xs' ++ [(nk k, a, .ref l)])))))
theorem pe_gset {o e f : Expr} {apos cpos : Pos} {td ty tx : TE} (hu : X.A.units + 100 < cLine) (ho : PE X o td) (he : PE X e ty) (hf : PE X f tx) (m : M2 X o "setdefault" apos e f cpos) : PE X (.Call (.Attribute o "setdefault" apos) [e, f] [] cpos) (tGSet X.prog X.w X.K td ty tx) := by
  refine ⟨fun pins s σ H Q I h => ?_⟩
  refine wpAny_Call_method m.base m.few m.line PySem.F.plainAttrs_dict PySem.F.slot_dict_setdefault PySem.F.type_dict_setdefault (thn (ho.run pins s σ H _ I h) fun u s1 ⟨x, H1, I1, rx, d, xs, ex, ed, ks, q1⟩ => ?_)
  subst ex
  obtain rfl : u = Value.ref d := rx
  obtain ⟨g1, g2⟩ := gd_at I1 ed ks
  refine ⟨g2.typeIs, fun b q => ?_, ?_⟩
  · cases q
    obtain ⟨_, _, o, es, ep, x3, x4, _⟩ := g1
    exact ⟨o, x3, x4.2.1⟩
  rw [m.trees]
  refine Calls.callWith_builtin rfl (Calls.evalArgs_plain (Calls.spliced_cons (thn (he.run pins s1 σ H1 _ I1 q1) fun iv s2 ⟨y, H2, I2, ry, q2⟩ =>
    Calls.spliced_cons (thn (hf.run pins s2 σ H2 _ I2 q2) fun fv s3 ⟨z, H3, I3, rz, a, k, xs', ey, e3, ks3, ka, q3⟩ => Calls.spliced_nil ?_))))
  subst ey
  obtain rfl : iv = Value.ref a := ry
  obtain ⟨g3, g4⟩ := gd_at I3 e3 ks3
  have hd := g3.1
  have hl := g3.2.1
  refine call_setdefault_heap (hsz := Nat.le_trans hl (by decide)) (knd := nestedKind X.prog X.w) (show X.A.in1.units + 8 < cLine from ?_) (key_is I3 ka) hd g4 (fun p hp => ?_) fun hn h' hm' hs => ?_
  · show X.A.units + 1 + 8 < cLine
    omega
  · rcases q3 with ⟨l, a', e1, q⟩ | ⟨l, _, e1, _⟩
    · rw [hp] at e1
      cases e1
      exact ⟨.ref l, H3, I3.tok _, rfl, q⟩
    · rw [hp] at e1; cases e1
  · rcases q3 with ⟨l, a', e1, _⟩ | ⟨l, ez, e1, hz, q⟩
    · rw [hn] at e1; cases e1
    · subst ez
      obtain rfl : fv = Value.ref l := rz
      rw [storedH_new hn] at hm'
      have hg : ∃ ob, h'.get? d = some ob := by
        obtain ⟨ob, _, _, e, _⟩ := hm'
        exact ⟨ob, e⟩
      refine ⟨.ref l, _, d_write I3 (by rw [e3]; trivial) hs hg (gd_ok (gd_back hd ?_ hm')), rfl, q⟩
      rw [List.length_append]
      show _ + 1 ≤ _
      omega
/-- d[k] -/
def tGGet (P : Program) (w : World) (K : PySem.W.Frag) (td ty : TE) : TE := fun σ H Q => td σ H fun x H1 => ty σ H1 fun y H2 =>
  ∃ d xs a k l a', x = .ref d ∧ y = .ref a ∧ H2 d = some (gdO P w d xs) ∧ Keys K H2 xs ∧ KeyAt K H2 a k ∧ atKey xs (nk k) = some (a', .ref l) ∧ Q (.ref l) H2
theorem pe_gget {o i : Expr} {pos : Pos} {td ty : TE} (hu : X.A.units + 100 < cLine) (ho : PE X o td) (hi : PE X i ty) (hs : NoSl i) : PE X (.Subscript o i pos) (tGGet X.prog X.w X.K td ty) := by
  refine ⟨fun pins s σ H Q I h => ?_⟩
  refine subD_of PySem.F.slot_dict_getitem.lookup hs (thn (ho.run pins s σ H _ I h) fun u s1 ⟨x, H1, I1, rx, q1⟩ => thn (hi.run pins s1 σ H1 _ I1 q1) fun iv s2 ⟨y, H2, I2, ry, d, xs, a, k, l, a', ex, ey, e2, ks, ka, hk, q2⟩ => ?_)
  subst ex
  subst ey
  obtain rfl : u = Value.ref d := rx
  obtain rfl : iv = Value.ref a := ry
  obtain ⟨g1, g2⟩ := gd_at I2 e2 ks
  refine ⟨g2.typeIs, wpAny_getItem_heap (knd := nestedKind X.prog X.w) (show X.A.in1.units + 8 < cLine from ?_) (key_is I2 ka) g2 hk ⟨.ref l, H2, I2.tok _, rfl, q2⟩⟩
  show X.A.units + 1 + 8 < cLine
  omega
end
end TC

set_option maxRecDepth 100000
set_option maxHeartbeats 4000000
/-! sorted(d), d a dict whose keys are (int, (int, int)). -/
namespace TC
open PySem PySem.Spec L2
def kdD (k : GK) : PyData := .tuple [.int k.1, .tuple [.int k.2.1, .int k.2.2]]
def gkSort (ks : List GK) : List GK := ks.mergeSort (PySem.W.dataLe false kdD)
abbrev KsAre (K : PySem.W.Frag) (H : Hp) (xs : List GE) (ks : List GK) : Prop := Paired (fun (e : GE) (k : GK) => e.1 = nk k ∧ KeyAt K H e.2.1 k) xs ks
def rSortedG (P : Program) (w : World) (K : PySem.W.Frag) : List V → Hp → VK → Prop := fun vs H Q => ∃ (d : Addr) (xs : List GE) (ks : List GK) (Rr : Addr → GK → Prop), vs = [V.ref d] ∧ H d = some (gdO P w d xs) ∧ Paired (fun (e : GE) (k : GK) => KeyAt K H e.2.1 k ∧ Rr e.2.1 k) xs ks ∧
  ∀ (as : List Addr) (p : Addr), Paired Rr as (gkSort ks) → H p = none → Q (.ref p) (upd H p (.lst (as.map V.ref)))
theorem each_of {α β γ : Type} {R : α → β → Prop} {S : γ → β → Prop} (f : α → γ) (h : ∀ a b, R a b → S (f a) b) : ∀ {xs : List α} {ys : List β}, Paired R xs ys → PySem.W.EachIs S (xs.map f) ys
  | _, _, .nil => .nil
  | _, _, .cons r t => .cons (h _ _ r) (each_of f h t)
theorem each_back {Rr : Addr → GK → Prop} : ∀ {out : List Value} {ks : List GK}, PySem.W.EachIs (fun (v : Value) (k : GK) => ∃ a, v = .ref a ∧ Rr a k) out ks → ∃ as : List Addr, out = as.map Value.ref ∧ Paired Rr as ks
  | _, _, .nil => ⟨[], rfl, .nil⟩
  | _, _, .cons ⟨a, e, r⟩ t => by
    obtain ⟨as, e1, e2⟩ := each_back t
    exact ⟨a :: as, by rw [e, e1]; rfl, .cons r e2⟩
section
variable {X : Cx} {pins : List (Addr × Obj)} {σ : St} {H : Hp} {s : Shared}
theorem key_reads (I : Inv X pins σ H s) {a : Addr} {k : GK} (x : KeyAt X.K H a k) : Reads s.heap (.ref a) (kdD k) [] := by
  obtain ⟨b, h1, h2⟩ := x
  obtain ⟨its, r, ⟨o, g1, g2, n, g3⟩, _⟩ := I.tuple h1
  obtain ⟨its2, r2, ⟨o2, g4, g5, n2, g6⟩, _⟩ := I.tuple h2
  obtain ⟨u, v, rfl, ⟨t1, rfl⟩, ru⟩ := Vals.two r
  obtain rfl : v = Value.ref b := ru
  obtain ⟨u2, v2, rfl, ⟨t3, rfl⟩, ⟨t4, rfl⟩⟩ := Vals.two r2
  have in2 : Reads s.heap (.ref b) (.tuple [.int k.2.1, .int k.2.2]) [] := Reads.tuple g4 g5 g6 (ReadsAll.cons (as := []) (bs := []) (.int _ _) (ReadsAll.cons (as := []) (bs := []) (.int _ _) .nil))
  exact Reads.tuple g1 g2 g3 (ReadsAll.cons (as := []) (bs := []) (.int _ _) (ReadsAll.cons (as := []) (bs := []) in2 .nil))
theorem cr_sortedG (hc : X.calm = true) (hu : X.A.units + 100 < cLine) : CallR X (.builtin "sorted") (rSortedG X.prog X.w X.K) := by
  intro pins s σ H vs us Q I r h
  obtain ⟨d, xs, ks, Rr, rfl, e, pr, q⟩ := h
  rw [Vals.ref1 r]
  obtain ⟨hd, hl, o, es, ep, ho, hx, hdt, hes, nd⟩ := gd_of (I.hok d _ e)
  have l1 : es.size = xs.length := size_of_entries hes
  have l2 : xs.length = ks.length := Paired.length pr
  have hz : xs.length ≤ sizeLine := Nat.le_trans hl (by decide)
  refine Calls.call_function_entry PyProof.Rows.kind_sorted PyProof.Rows.plain_sorted PyProof.Rows.entry_sorted (PyProof.Rows.args_sorted1 _) ?_
  unfold Builtin.«sorted»
  refine wpAny_bind (m := checkCount "sorted" 1 1 _) (wpAny_pure ?_)
  refine wpAny_bind (PySem.W.kdu_collect (A := X.A.in1) (kdl_raw hd hx hdt) (I.ok.hd hc) ho (by omega) fun h' tk acc hk it => ?_)
  have ea : acc.toList = xs.map fun x => Value.ref x.2.1 := by
    have hl : acc.toList.length = xs.length := by rw [Array.length_toList, it.1]; exact l1
    apply List.ext_getElem?
    intro j
    rw [List.getElem?_map]
    cases hj : acc.toList[j]? with
    | none =>
      have h1 := List.getElem?_eq_none_iff.mp hj
      rw [List.getElem?_eq_none (by omega)]
      all_goals rfl
    | some v =>
      obtain ⟨en, hen, hv⟩ := it.2 j v (by rw [← Array.getElem?_toList]; exact hj)
      have qe := entry_at hes j
      rw [hen] at qe
      cases hb : xs[j]? with
      | none =>
        rw [hb] at qe
        exact nomatch (show some en = none from qe)
      | some b =>
        rw [hb] at qe
        have e2 : en = entryOfKey (nestedKind X.prog X.w) b := Option.some.inj qe
        rw [hv, e2]
        all_goals rfl
  have al : acc.toList.length ≤ sizeLine := by rw [ea, List.length_map]; exact hz
  refine wpAny_bind (wpAny_newList ?_ al)
  have I1 : Inv X pins σ H { s with heap := h', toks := tk } := I.kept hk
  have hk2 : ∀ b u, h'.get? b = some u → (h'.push { cls := .type "list", data := .seq acc.toList.toArray }).get? b = some u := fun b u z => Heap.get?_push_of_some _ z
  have I2 : Inv X pins σ H { s with heap := h'.push { cls := .type "list", data := .seq acc.toList.toArray }, toks := tk } := I1.kept (t' := tk) hk2
  have hoL : (h'.push { cls := .type "list", data := .seq acc.toList.toArray }).get? h'.objs.size = some (PyProof.Rows.seqObj "list" acc.toList.toArray 0) := Heap.get?_push_size _ rfl
  refine wpAny_bind (wpAny_holding (PySem.W.list_sort_data (R := fun (v : Value) (k : GK) => ∃ a, v = .ref a ∧ Rr a k) (enc := kdD) (bs := ks) (vs := acc.toList) hoL ?e1 ?e2 ?e3 ?e4 (by omega) ?e5 fun out hlen hout => ?_))
  case e1 =>
    have t := each_of (S := fun (v : Value) (k : GK) => ∃ a, v = .ref a ∧ Rr a k) (fun x : GE => Value.ref x.2.1) (fun x k r => ⟨_, rfl, r.2⟩) pr
    rw [← ea] at t
    exact t
  case e2 =>
    have t := each_of (S := fun (v : Value) (k : GK) => ∃ as, Reads (h'.push { cls := .type "list", data := .seq acc.toList.toArray }) v (kdD k) as ∧ h'.objs.size ∉ as) (fun x : GE => Value.ref x.2.1) (fun x k r => ⟨[], key_reads I2 r.1, by simp⟩) pr
    rw [← ea] at t
    exact t
  case e3 => exact PySem.W.AllAlike.of fun b b' => rfl
  case e4 => exact PySem.W.Sortable.tuples fun b => ⟨_, _, rfl⟩
  case e5 => exact fun b _ => by show X.A.units + 1 + 1 + 2 < cLine; omega
  obtain ⟨as, eo, pa⟩ := each_back hout
  obtain ⟨ep', hat⟩ := PyProof.Rows.sortedHeap_at (out := out.toArray) hoL
  refine wpAny_pure ⟨_, rfl, .ref h'.objs.size, upd H h'.objs.size (.lst (as.map V.ref)), I1.laid (t' := _) (fun b u z => ?_) (Nat.le_refl _) ?_, rfl, q as _ pa (I1.hok.fresh (Nat.le_refl _))⟩
  · have hb : b < h'.objs.size := Heap.lt_size z
    rw [PyProof.Rows.sortedHeap_old (Nat.ne_of_lt hb) (Heap.lt_size (hk2 b u z))]
    exact hk2 b u z
  · have la : as.length = ks.length := by
      have := Paired.length pa
      rw [this]
      exact List.length_mergeSort _
    refine ⟨by rw [List.length_map]; omega, out, ep', ?_, hat⟩
    rw [eo]
    exact vals_refs _
end
end TC

set_option maxRecDepth 100000
set_option maxHeartbeats 4000000
/-! Where nothing is lent: a thing of one's own comes to stand still. -/
namespace TC
open PySem PySem.Spec L2
abbrev W0 : AS := fun _ => False
section
variable {K : PySem.W.Frag} {C O : AS} {H0 H : Hp} {T : Option Trip} {σ : L2.St} {ρ : En} {Ψ : Fo} {Φ : Fz}
/-- a thing of one's own comes to stand still -/
theorem Rep.freezeO (R : Rep K C W0 H0 T O H σ ρ) {i : Nat} (hs : ρ.sl[i]? = some (.ow Ψ)) (conv : ∀ v S, Ψ.ok v S H (cut O H) → Φ.ok v (cut (fun b => O b ∧ ¬ S b) H)) :
    ∃ O', Rep K C W0 H0 T O' H σ ⟨ρ.tm, ρ.sl.set i (.fz Φ)⟩ ∧ Same (cut O H) (cut O' H) := by
  obtain ⟨rg, w⟩ := R.ow
  obtain ⟨v, e1, ok⟩ := w.ok i Ψ hs
  have inO : ∀ a, rg i a → O a := fun a h => (w.rin i Ψ a hs h).1
  have nC : ∀ a, rg i a → ¬ C a := fun a h => (w.rin i Ψ a hs h).2.1.elim id fun z => z.elim
  have nT : ∀ t, T = some t → ¬ rg i t.2.2 := fun t hT z => (w.rin i Ψ _ hs z).2.2 t hT rfl
  have cs : Same (cut O H) (cut (fun b => O b ∧ ¬ rg i b) H) := cut_sub fun b h => h.1
  refine ⟨fun b => O b ∧ ¬ rg i b, ⟨R.wc, fun b h => ⟨R.co b h, fun z => nC b z h⟩, R.keep, fun b h => R.alloc b h.1, fun b h => R.loc b h.1, ?_, fun t h => ⟨R.tl t h, nT t h⟩, ?_, fun j s hj => ?_, fun j k xs ys b ne h1 h2 e1 => ?_, rg, ?_⟩, cs⟩
  · show σ.length = (ρ.sl.set i _).length
    rw [List.length_set]; exact R.len
  · have q := R.tm
    show TmOk W0 C H0 T _ H ρ.tm
    revert q
    cases ρ.tm with
    | none => exact fun q => q
    | some z =>
      intro ⟨t, e1, m⟩
      exact ⟨t, e1, cs _ _ m.s, cs _ _ m.g, ⟨m.o, nT t e1⟩, m.l, m.w⟩
  · rcases set_get hj with ⟨rfl, rfl⟩ | ⟨ne, hj'⟩
    · exact ⟨v, e1, conv v _ ok⟩
    · have q := R.sl j s hj'
      cases s with
      | un => trivial
      | d y => obtain ⟨u, e1, q⟩ := q; exact ⟨u, e1, dp_mono cs _ _ q⟩
      | own zs =>
        obtain ⟨b, ws, f1, q1, q2, q3, q4, q5⟩ := q
        exact ⟨b, ws, f1, ⟨q1, fun z => w.sepL i j Ψ zs b hs hj' f1 z⟩, q2, q3, q4, dpa_mono cs _ _ q5⟩
      | stm => exact q
      | plc => exact q
      | scr ns => obtain ⟨b, e1, q⟩ := q; exact ⟨b, e1, cs.seq q⟩
      | fz Φ => obtain ⟨b, e1, q⟩ := q; exact ⟨b, e1, Φ.mono cs q⟩
      | ow Ψ => trivial
  · rcases set_get h1 with ⟨_, q⟩ | ⟨_, h1'⟩
    · cases q
    rcases set_get h2 with ⟨_, q⟩ | ⟨_, h2'⟩
    · cases q
    exact R.apart j k xs ys b ne h1' h2' e1
  · refine ⟨fun j Ψ' h => ?_, fun j Ψ' b h r => ?_, fun j k Ψ1 Ψ2 b ne h1 h2 r1 r2 => ?_, fun j k Ψ1 xs b h1 h2 f r => ?_⟩
    · rcases set_get h with ⟨_, q⟩ | ⟨n1, h'⟩
      · cases q
      · obtain ⟨u, f1, q⟩ := w.ok j Ψ' h'
        exact ⟨u, f1, Ψ'.mono cs q⟩
    · rcases set_get h with ⟨_, q⟩ | ⟨n1, h'⟩
      · cases q
      · obtain ⟨q1, q2, q3⟩ := w.rin j Ψ' b h' r
        exact ⟨⟨q1, fun z => w.sep j i Ψ' Ψ b n1 h' hs r z⟩, q2, q3⟩
    · rcases set_get h1 with ⟨_, q⟩ | ⟨_, h1'⟩
      · cases q
      rcases set_get h2 with ⟨_, q⟩ | ⟨_, h2'⟩
      · cases q
      exact w.sep j k Ψ1 Ψ2 b ne h1' h2' r1 r2
    · rcases set_get h1 with ⟨_, q⟩ | ⟨_, h1'⟩
      · cases q
      rcases set_get h2 with ⟨_, q⟩ | ⟨_, h2'⟩
      · cases q
      exact w.sepL j k Ψ1 xs b h1' h2' f r
end
/-- statements, nothing being lent -/
def BSs0 (F : Fam) (ρ : En) (st : List Stmt) (o : Out) : Prop := ∃ t, (∀ X, Fits F X → PSs X st t) ∧
  ∀ (C : AS) (H0 : Hp) (T0 T : Option Trip) (O : AS) (H : Hp) (σ : L2.St) (D : Ends), ExtT F.lc T0 T → Rep F.K C W0 H0 T O H σ ρ → EndOk F.W F.lc F.K C W0 H0 T0 O H D o → t D σ H
section
variable {F : Fam} {ρ ρ1 : En} {st : Stmt} {sts : List Stmt} {o : Out} {Ψ : Fo} {Φ : Fz}
theorem BSs.to0 (h : BSs F ρ sts o) : BSs0 F ρ sts o := by
  obtain ⟨t, p1, e1⟩ := h
  exact ⟨t, p1, fun C H0 T0 T O H σ D e R k => e1 C W0 H0 T0 T O H σ D e R k⟩
theorem bss0_cons (h : BS F ρ st (.nx ρ1)) (r : BSs0 F ρ1 sts o) : BSs0 F ρ (st :: sts) o := by
  obtain ⟨t, p1, e1⟩ := h
  obtain ⟨u, p2, e2⟩ := r
  exact ⟨_, fun X hX => pss_cons (p1 X hX) (p2 X hX), fun C H0 T0 T O H σ D e R k => e1 C W0 H0 T0 T O H σ _ e R fun σ' H' O' T' e' R' s => e2 C H0 T0 T' O' H' σ' D e' R' (k.mono s)⟩
theorem bss0_freezeO (i : Nat) (hs : ρ.sl[i]? = some (.ow Ψ)) (conv : ∀ v S O H, Ψ.ok v S H (cut O H) → Φ.ok v (cut (fun b => O b ∧ ¬ S b) H)) (h : BSs0 F ⟨ρ.tm, ρ.sl.set i (.fz Φ)⟩ sts o) : BSs0 F ρ sts o := by
  obtain ⟨t, p1, e1⟩ := h
  refine ⟨t, p1, fun C H0 T0 T O H σ D e R k => ?_⟩
  obtain ⟨O', R', s⟩ := R.freezeO hs (fun v S ok => conv v S O H ok)
  exact e1 C H0 T0 T O' H σ D e R' (k.mono s)
end
section
variable {P : Program} {w : World} {K : PySem.W.Frag} {mg : Str → Option Value} {base : Heap} {x qual : Str} {st : Stmt} {f : Addr} {fd : FuncData} {N ps : List Str} {k : Nat}
theorem def_okP0 {Rl : List Sl → Res → Prop} (Fn : Fun K x qual st f fd) (S : FnScope N ps (defScope st)) (hN : ps.length ≤ N.length) (len : ∀ ss r, Rl ss r → ss.length = ps.length)
    (body : ∀ ss r, Rl ss r → ∃ o, BSs0 (fam P w K mg base N (defScope st) k) ⟨none, ss ++ List.replicate (N.length - ss.length) .un⟩ (defBody st) o ∧ OutIs o r) : FnOk P w K mg base CX0 (k + 1) f fd ps (spP K Rl) := by
  refine Fn.ok S (fun vs H Q E h => ?_) (fun cdv A outer s H vs Q E hr h => ?_)
  · obtain ⟨C, ss, r, _, h2, h3, _⟩ := h
    rw [aok_len h2]; exact len ss r h3
  obtain ⟨C, ss, r, al, ok, hR, q⟩ := h
  obtain ⟨o, ⟨t, p1, e1⟩, ho⟩ := body ss r hR
  have hlen := aok_len ok
  have hps := len ss r hR
  refine ⟨t, p1 _ (fits_of S hr), e1 C H none none C H _ _ (ExtT.rfl' fun _ => rfl) ⟨fun _ h => h.elim, fun _ h => h, fun _ _ h _ => h, al, fun _ h => .inl h, ?_, fun t h => (nomatch h), trivial, fun i s hs => ?_, fun i j xs ys a ne h1 => ?_, own0 fun i Ψ h1 => ?_⟩ ?_⟩
  · show (L2.start N vs).length = _
    unfold L2.start
    rw [List.length_append, List.length_append, List.length_map, List.length_replicate, List.length_replicate, hlen]
  · rcases pad_get hs with h1 | h1
    · obtain ⟨v, e1, q1⟩ := aok_get ok h1
      have hi : i < vs.length := (List.getElem?_eq_some_iff.mp e1).1
      have e2 : (L2.start N vs)[i]? = some (some v) := by rw [start_get hi, ← List.getElem?_eq_getElem hi, e1]
      cases s with
      | un => trivial
      | d x => exact ⟨v, e2, q1⟩
      | own xs => exact q1.elim
      | stm => obtain ⟨t, h, _⟩ := q1; cases h
      | plc => exact q1.elim
      | scr ns => obtain ⟨a, rfl, q2⟩ := q1; exact ⟨a, e2, q2⟩
      | fz Φ => exact ⟨v, e2, q1⟩
      | ow Ψ => exact q1.elim
    · subst h1; trivial
  · rcases pad_get h1 with h2 | h2
    · obtain ⟨v, _, q1⟩ := aok_get ok h2
      exact q1.elim
    · cases h2
  · rcases pad_get h1 with h2 | h2
    · obtain ⟨v, _, q1⟩ := aok_get ok h2
      exact q1.elim
    · cases h2
  · cases o with
    | nx ρ' =>
      have e : r = .d .none := ho
      subst e
      exact fun σ' H' O' T' _ R _ => q _ H' (fun a o h => R.keep a o h id) .non
    | ret r' tm =>
      have e : r' = r := ho
      subst e
      exact fun v H' hk _ ok => q v H' (fun a o h => hk a o h id) ok
    | bk => exact ho.elim
    | ct => exact ho.elim
    | rz c fs ρ' => exact ho.elim
end
end TC

set_option maxRecDepth 100000
set_option maxHeartbeats 4000000
/-! Groups: a dict of one's own, its keys (int, (int, int)), its values lists of ints. -/
namespace TC
open PySem PySem.Spec L2
abbrev Grp := List (GK × List Int)
def addG : Grp → GK → Int → Grp
  | [], k, n => [(k, [n])]
  | (j, l) :: r, k, n => if j = k then (j, l ++ [n]) :: r else (j, l) :: addG r k n
def valG (gs : Grp) (k : GK) : Option (List Int) := (gs.find? fun p => decide (p.1 = k)).map (·.2)
/-- the entries, their keys seen in Z, their lists in H -/
inductive GsOk (K : PySem.W.Frag) (Z H : Hp) : List GE → Grp → Prop
  | nil : GsOk K Z H [] []
  | cons {a l : Addr} {k : GK} {ns : List Int} {xs : List GE} {gs : Grp} : KeyAt K Z a k → H l = some (.lst (ns.map V.int)) → GsOk K Z H xs gs → GsOk K Z H ((nk k, a, .ref l) :: xs) ((k, ns) :: gs)
def valsG (xs : List GE) : List Value := xs.map fun x => x.2.2
def lists (xs : List GE) : AS := fun b => Value.ref b ∈ valsG xs
theorem KeyAt.mono {K : PySem.W.Frag} {Z Z' : Hp} {a : Addr} {k : GK} (e : Same Z Z') (h : KeyAt K Z a k) : KeyAt K Z' a k := by
  obtain ⟨b, h1, h2⟩ := h
  exact ⟨b, seqT_mono e h1, seqT_mono e h2⟩
section
variable {K : PySem.W.Frag} {Z Z' H H' : Hp} {xs : List GE} {gs : Grp} {k : GK} {n : Int}
theorem GsOk.mono (e : Same Z Z') (h : GsOk K Z H xs gs) : GsOk K Z' H xs gs := by
  induction h with
  | nil => exact .nil
  | cons h1 h2 _ ih => exact .cons (h1.mono e) h2 ih
theorem GsOk.to (h : GsOk K Z H xs gs) (e : ∀ b, lists xs b → H' b = H b) : GsOk K Z H' xs gs := by
  induction h with
  | nil => exact .nil
  | @cons a l k ns xs gs h1 h2 _ ih => exact .cons h1 ((e l (by unfold lists valsG; simp)).trans h2) (ih fun b hb => e b (List.mem_cons_of_mem _ hb))
theorem GsOk.monoH (e : Same H H') (h : GsOk K Z H xs gs) : GsOk K Z H' xs gs := by
  induction h with
  | nil => exact .nil
  | cons h1 h2 _ ih => exact .cons h1 (e _ _ h2) ih
theorem GsOk.len (h : GsOk K Z H xs gs) : xs.length = gs.length := by
  induction h with
  | nil => rfl
  | cons _ _ _ ih => rw [List.length_cons, List.length_cons, ih]
theorem GsOk.keys (h : GsOk K Z H xs gs) (e : Same Z H) : Keys K H xs := by
  induction h with
  | nil => exact fun _ h => by cases h
  | @cons a l k ns xs gs h1 _ _ ih =>
    intro x hx
    rcases List.mem_cons.mp hx with rfl | hx
    · exact ⟨k, rfl, h1.mono e⟩
    · exact ih x hx
theorem GsOk.are (h : GsOk K Z H xs gs) (e : Same Z H') : Paired (fun (x : GE) (k : GK) => KeyAt K H' x.2.1 k ∧ KeyAt K Z x.2.1 k) xs (gs.map (·.1)) := by
  induction h with
  | nil => exact .nil
  | @cons a l k ns xs gs h1 _ _ ih => exact .cons ⟨h1.mono e, h1⟩ ih
theorem GsOk.look (h : GsOk K Z H xs gs) : (valG gs k = none ∧ atKey xs (nk k) = none) ∨ ∃ ns a l, valG gs k = some ns ∧ atKey xs (nk k) = some (a, .ref l) ∧ H l = some (.lst (ns.map V.int)) ∧ lists xs l := by
  induction h with
  | nil => exact .inl ⟨rfl, rfl⟩
  | @cons a l j ns xs gs h1 h2 _ ih =>
    by_cases e : j = k
    · subst e
      refine .inr ⟨ns, a, l, ?_, ?_, h2, by unfold lists valsG; simp⟩
      · unfold valG; rw [List.find?_cons_of_pos (by simp)]; rfl
      · unfold atKey; rw [List.find?_cons_of_pos (by simp)]; rfl
    · have e1 : valG ((j, ns) :: gs) k = valG gs k := by unfold valG; rw [List.find?_cons_of_neg (by simpa using e)]
      have e2 : atKey ((nk j, a, Value.ref l) :: xs) (nk k) = atKey xs (nk k) := by
        unfold atKey
        rw [List.find?_cons_of_neg (by simpa using fun z => e (nk_inj z))]
      rw [e1, e2]
      rcases ih with ih | ⟨ns', a', l', i1, i2, i3, i4⟩
      · exact .inl ih
      · exact .inr ⟨ns', a', l', i1, i2, i3, List.mem_cons_of_mem _ i4⟩
theorem addG_new (h : valG gs k = none) : addG gs k n = gs ++ [(k, [n])] := by
  induction gs with
  | nil => rfl
  | cons p gs ih =>
    obtain ⟨j, l⟩ := p
    by_cases e : j = k
    · unfold valG at h
      rw [List.find?_cons_of_pos (by simpa using e)] at h
      cases h
    · have : valG gs k = none := by
        unfold valG at h ⊢
        rwa [List.find?_cons_of_neg (by simpa using e)] at h
      rw [addG, if_neg e, ih this]; rfl
end
def grO (P : Program) (w : World) (K : PySem.W.Frag) (gs : Grp) : Fo where
  ok := fun v S H Z => ∃ (d : Addr) (xs : List GE), v = .ref d ∧ (∀ b, (b = d ∨ lists xs b) → S b) ∧ H d = some (gdO P w d xs) ∧ (valsG xs).Nodup ∧ GsOk K Z H xs gs
  loc := fun e ⟨d, xs, h1, h2, h3, h4, h5⟩ => ⟨d, xs, h1, h2, (e d (h2 d (.inl rfl))).trans h3, h4, h5.to fun b hb => e b (h2 b (.inr hb))⟩
  mono := fun e ⟨d, xs, h1, h2, h3, h4, h5⟩ => ⟨d, xs, h1, h2, h3, h4, h5.mono e⟩
def grZ (P : Program) (w : World) (K : PySem.W.Frag) (gs : Grp) : Fz where
  ok := fun v Z => ∃ (d : Addr) (xs : List GE), v = .ref d ∧ Z d = some (gdO P w d xs) ∧ GsOk K Z Z xs gs
  mono := fun e ⟨d, xs, h1, h2, h3⟩ => ⟨d, xs, h1, e _ _ h2, (h3.mono e).monoH e⟩
theorem GsOk.see {K : PySem.W.Frag} {Z H : Hp} {O S : AS} {xs : List GE} {gs : Grp} (hS : ∀ b, lists xs b → S b) (h : GsOk K Z H xs gs) : GsOk K Z (cut (fun b => O b ∧ ¬ S b) H) xs gs := by
  induction h with
  | nil => exact .nil
  | @cons a l k ns xs gs h1 h2 _ ih => exact .cons h1 (cut_some.mpr ⟨fun z => z.2 (hS l (by unfold lists valsG; simp)), h2⟩) (ih fun b hb => hS b (List.mem_cons_of_mem _ hb))
theorem grp_conv {P : Program} {w : World} {K : PySem.W.Frag} {gs : Grp} : ∀ v S (O : AS) (H : Hp), (grO P w K gs).ok v S H (cut O H) → (grZ P w K gs).ok v (cut (fun b => O b ∧ ¬ S b) H) := by
  intro v S O H ⟨d, xs, h1, h2, h3, _, h5⟩
  exact ⟨d, xs, h1, cut_some.mpr ⟨fun z => z.2 (h2 d (.inl rfl)), h3⟩, (h5.mono (cut_sub fun b z => z.1)).see (S := S) fun b hb => h2 b (.inr hb)⟩
section
variable {F : Fam} {ρ ρ1 : En} {sts : List Stmt} {o : Out} {gs : Grp} {n m : Str} {p p2 pos : Pos} {b : Expr} {k : GK} {ns : List Int}
theorem bss0_groups (i : Nat) (hs : ρ.sl[i]? = some (.ow (grO F.P F.w F.K gs))) (h : BSs0 F ⟨ρ.tm, ρ.sl.set i (.fz (grZ F.P F.w F.K gs))⟩ sts o) : BSs0 F ρ sts o := bss0_freezeO i hs grp_conv h
/-- groups = {} -/
theorem bs_gnew (i : Nat) (hN : F.N[i]? = some n := by rfl) (hx : Loc F.sc n := by first | exact Or.inl rfl | exact Or.inr rfl) (hf : F.df = true ∨ F.sc.names.lookup n = some .local := by first | exact Or.inl rfl | exact Or.inr rfl)
    (hs : ∀ X, Fits F X → swapsWith (.Dict [] [] p2) (some (.Name n p)) pos.line X.env = pure false := by intro _ _; rfl) : BS F ρ (.Assign [.Name n p] (.Dict [] [] p2) pos) (.nx ⟨ρ.tm, ρ.sl.set i (.ow (grO F.P F.w F.K []))⟩) := by
  have pn : ∀ X, Fits F X → PE X (.Dict [] [] p2) (tGNew F.P F.w) := fun X hX => by
    have h := pe_gnew (X := X) (pos := p2)
    rw [hX.prog, hX.w] at h
    exact h
  refine ⟨_, fun X hX => ps_set (i := i) (by rw [hX.N]; exact hX.nd) (by rw [hX.N]; exact hN) (by rw [hX.sc]; exact hx) (pn X hX) (hs X hX) (by rw [hX.sc]; exact hf.imp (fun z => hX.fn z n) id), fun C W H0 T0 T O H σ D e R kk => fun l hl => ?_⟩
  have s1 : Same H (upd H l (gdO F.P F.w l [])) := same_new hl
  have R1 := R.hide hl s1 (by rw [upd_same]; simp)
  refine kk _ _ (or1 O l) T e (R.putO R1 hl ⟨l, [], rfl, (fun b z => z.elim id fun z => (by cases z)), upd_same, List.nodup_nil, .nil⟩ fun t hT z => R.nof hl (z ▸ R.tl t hT)) (cut_or1 s1 hl)
theorem gz_view {C W O : AS} {H0 H : Hp} {T : Option Trip} {σ : L2.St} {i : Nat} (hs : ρ.sl[i]? = some (.fz (grZ F.P F.w F.K gs))) (R : Rep F.K C W H0 T O H σ ρ) : ∃ (d : Addr) (xs : List GE), σ[i]? = some (some (.ref d)) ∧ H d = some (gdO F.P F.w d xs) ∧ GsOk F.K (cut O H) (cut O H) xs gs := by
  obtain ⟨v, e1, d, xs, rfl, h2, h3⟩ := R.sl i _ hs
  exact ⟨d, xs, e1, (cut_some.mp h2).2, h3⟩
theorem dq_key {K : PySem.W.Frag} {Z : Hp} {v : V} (h : Dq K Z v (kdD k)) : ∃ a, v = .ref a ∧ KeyAt K Z a k := by
  unfold kdD at h
  cases h with
  | @tup a us _ h1 h2 =>
    obtain ⟨v1, v2, rfl, d1, d2⟩ := dqa2 h2
    cases d1
    cases d2 with
    | @tup b ws _ h3 h4 =>
      obtain ⟨v3, v4, rfl, d3, d4⟩ := dqa2 h4
      cases d3
      cases d4
      exact ⟨a, rfl, b, h1, h3⟩
theorem key_dq {K : PySem.W.Frag} {Z : Hp} {a : Addr} (h : KeyAt K Z a k) : Dq K Z (.ref a) (kdD k) := by
  obtain ⟨b, h1, h2⟩ := h
  exact .tup h1 (.cons (.int _) (.cons (.tup h2 (.cons (.int _) (.cons (.int _) .nil))) .nil))
theorem dqa_keys {K : PySem.W.Frag} {Z : Hp} : ∀ {as : List Addr} {ks : List GK}, Paired (fun a k => KeyAt K Z a k) as ks → DqA K Z (as.map V.ref) (ks.map kdD)
  | _, _, .nil => .nil
  | _, _, .cons r t => .cons (key_dq r) (dqa_keys t)
/-- groups[key] -/
theorem be_gget (i : Nat) {tm tm' : Option (List Int × Int)} {sl : List Sl} (hs : sl[i]? = some (.fz (grZ F.P F.w F.K gs))) (hb : BE F ⟨tm, sl⟩ b (kdD k) ⟨tm', sl⟩) (hk : valG gs k = some ns) (hN : F.N[i]? = some n := by rfl) (hv : Vis F.sc n := by first | exact Or.inl rfl | exact Or.inr (Or.inl rfl) | exact Or.inr (Or.inr rfl))
    (hno : NoSl b := by intro _ _; rfl) (hd : (n == ("__debug__" : Str)) = false := by decide) (hcd : (n == ("__classdict__" : Str)) = false := by decide) : BE F ⟨tm, sl⟩ (.Subscript (.Name n p) b pos) (.list (ns.map .int)) ⟨tm', sl⟩ := by
  obtain ⟨tb, pb, eb⟩ := hb
  refine ⟨tGGet F.P F.w F.K (tVar i) tb, fun X hX => ?_, fun C W H0 T O H σ R Q q => ?_⟩
  · have h := pe_gget (pos := pos) (by have := hX.un; omega) (pe_var (pos := p) (by rw [hX.N]; exact hN) (hX.vis hv) hd hcd) (pb X hX) hno
    rw [hX.prog, hX.w, hX.K] at h
    exact h
  obtain ⟨d0, xs0, e0, _, _⟩ := gz_view (ρ := ⟨tm, sl⟩) hs R
  refine ⟨_, e0, eb C W H0 T O H σ R _ fun w H1 R1 s1 d1 => ?_⟩
  obtain ⟨d, xs, e1, h1, h2⟩ := gz_view (ρ := ⟨tm', sl⟩) hs R1
  rw [e0] at e1
  cases e1
  obtain ⟨a, rfl, ka⟩ := dq_key d1
  rcases h2.look (k := k) with ⟨z, _⟩ | ⟨ns', a', l, g1, g2, g3, _⟩
  · rw [hk] at z; cases z
  · rw [hk] at g1
    cases g1
    refine ⟨d0, xs, a, k, l, a', rfl, rfl, h1, ?_, ka.mono cut_full, g2, q _ H1 R1 s1 (.lst g3 (dpa_ints ns))⟩
    exact (h2.monoH cut_full).keys cut_full
/-- sorted(groups) -/
theorem bl_gsorted (i : Nat) (hs : ρ.sl[i]? = some (.fz (grZ F.P F.w F.K gs))) (hm : F.mg "sorted" = none) (hcm : F.ex = none := by rfl) (hg : F.sc.names.lookup ("sorted" : Str) = some .globalImplicit := by rfl) (hN : F.N[i]? = some n := by rfl) (hv : Vis F.sc n := by first | exact Or.inl rfl | exact Or.inr (Or.inl rfl) | exact Or.inr (Or.inr rfl))
    (hd : (n == ("__debug__" : Str)) = false := by decide) (hcd : (n == ("__classdict__" : Str)) = false := by decide) : BL F ρ (.Call (.Name "sorted" p) [.Name n p2] [] pos) ((gkSort (gs.map (·.1))).map kdD) ρ := by
  refine ⟨tCB (rSortedG F.P F.w F.K) (tCons (tVar i) tNil), fun X hX => ?_, fun C W H0 T O H σ R Q q => ?_⟩
  · have hh := cr_sortedG (X := X) (hX.calm hcm) (by have := hX.un; omega)
    rw [hX.prog, hX.w, hX.K] at hh
    exact pe_callB hh (hX.gl hg) (by rw [hX.mg]; exact hm) (by decide +kernel) (pa_cons (pe_var (by rw [hX.N]; exact hN) (hX.vis hv) hd hcd) pa_nil rfl) (by decide) (by decide) rfl rfl
  · obtain ⟨d, xs, e1, h1, h2⟩ := gz_view hs R
    refine ⟨_, e1, d, xs, gs.map (·.1), fun a k => KeyAt F.K (cut O H) a k, rfl, h1, h2.are cut_full, fun as p pa hp => ?_⟩
    have s1 : Same H (upd H p (.lst (as.map V.ref))) := same_new hp
    refine q p (as.map V.ref) _ hp upd_same (R.hide hp s1 (by rw [upd_same]; simp)) (R.grow s1) (cut_or1 s1 hp) ?_
    exact dpa_mono (cut_or1 s1 hp) _ _ (dqa_keys pa)
end
end TC

set_option maxRecDepth 100000
set_option maxHeartbeats 4000000
/-! groups.setdefault(key, []).append(name) -/
namespace TC
open PySem PySem.Spec L2
section
variable {K : PySem.W.Frag} {Z Z' H H' : Hp} {xs : List GE} {gs : Grp} {k : GK} {n : Int} {a l : Addr} {ns : List Int}
theorem GsOk.snoc (h : GsOk K Z H xs gs) (ka : KeyAt K Z a k) (hl : H l = some (.lst (ns.map V.int))) : GsOk K Z H (xs ++ [(nk k, a, .ref l)]) (gs ++ [(k, ns)]) := by
  induction h with
  | nil => exact .cons ka hl .nil
  | cons h1 h2 _ ih => exact .cons h1 h2 ih
theorem GsOk.lst (h : GsOk K Z H xs gs) : ∀ b, lists xs b → ∃ vs, H b = some (.lst vs) := by
  induction h with
  | nil => exact fun b h => by cases h
  | @cons a l k ns xs gs h1 h2 _ ih =>
    intro b hb
    have hb : Value.ref b ∈ Value.ref l :: valsG xs := hb
    rcases List.mem_cons.mp hb with hb | hb
    · cases hb; exact ⟨_, h2⟩
    · exact ih b hb
theorem GsOk.app (h : GsOk K Z H xs gs) : ∀ (nd : (valsG xs).Nodup) (hk : atKey xs (nk k) = some (a, .ref l)) (hv : valG gs k = some ns) (hl : H' l = some (.lst ((ns ++ [n]).map V.int))) (ho : ∀ b, lists xs b → b ≠ l → H' b = H b), GsOk K Z H' xs (addG gs k n) := by
  induction h with
  | nil => intro _ hk; cases hk
  | @cons a0 l0 j ms xs gs h1 h2 h3 ih =>
    intro nd hk hv hl ho
    have nd' : (valsG xs).Nodup ∧ Value.ref l0 ∉ valsG xs := by
      unfold valsG at nd ⊢
      rw [List.map_cons, List.nodup_cons] at nd
      exact ⟨nd.2, nd.1⟩
    by_cases e : j = k
    · subst e
      have e1 : atKey ((nk j, a0, Value.ref l0) :: xs) (nk j) = some (a0, .ref l0) := by unfold atKey; rw [List.find?_cons_of_pos (by simp)]; rfl
      have e2 : valG ((j, ms) :: gs) j = some ms := by unfold valG; rw [List.find?_cons_of_pos (by simp)]; rfl
      rw [e1] at hk
      rw [e2] at hv
      cases hk
      cases hv
      rw [addG, if_pos rfl]
      refine .cons h1 hl (h3.to fun b hb => ho b (List.mem_cons_of_mem _ hb) fun z => nd'.2 (z ▸ hb))
    · have e1 : atKey ((nk j, a0, Value.ref l0) :: xs) (nk k) = atKey xs (nk k) := by
        unfold atKey
        rw [List.find?_cons_of_neg (by simpa using fun z => e (nk_inj z))]
      have e2 : valG ((j, ms) :: gs) k = valG gs k := by unfold valG; rw [List.find?_cons_of_neg (by simpa using e)]
      rw [e1] at hk
      rw [e2] at hv
      rw [addG, if_neg e]
      have hl0 : l0 ≠ l := fun z => by
        subst z
        rcases h3.look (k := k) with ⟨y, _⟩ | ⟨_, _, l', _, g2, _, g4⟩
        · rw [hv] at y; cases y
        · rw [hk] at g2
          cases g2
          exact nd'.2 g4
      exact .cons h1 ((ho l0 (by unfold lists valsG; simp) hl0).trans h2) (ih nd'.1 hk hv hl fun b hb nb => ho b (List.mem_cons_of_mem _ hb) nb)
end
section
variable {F : Fam} {b : Expr} {gs : Grp} {k : GK} {v : Int} {n m : Str} {p p2 p3 p4 p5 pos pos2 : Pos}
theorem bs_gadd (i j : Nat) {pos3 : Pos} {tm tm' : Option (List Int × Int)} {sl : List Sl} (hs : sl[i]? = some (.ow (grO F.P F.w F.K gs))) (hj : sl[j]? = some (.d (.int v))) (hb : BE F ⟨tm, sl⟩ b (kdD k) ⟨tm', sl⟩) (hz : gs.length < 1000) (hz2 : ∀ ns, valG gs k = some ns → ns.length < 1000)
    (hN : F.N[i]? = some n := by rfl) (hM : F.N[j]? = some m := by rfl) (hv : Vis F.sc n := by first | exact Or.inl rfl | exact Or.inr (Or.inl rfl) | exact Or.inr (Or.inr rfl)) (hvm : Vis F.sc m := by first | exact Or.inl rfl | exact Or.inr (Or.inl rfl) | exact Or.inr (Or.inr rfl))
    (hd : (n == ("__debug__" : Str)) = false := by decide) (hcd : (n == ("__classdict__" : Str)) = false := by decide) (hd2 : (m == ("__debug__" : Str)) = false := by decide) (hcd2 : (m == ("__classdict__" : Str)) = false := by decide)
    (hm2 : ∀ X, Fits F X → M2 X (.Name n p) "setdefault" p2 b (.List [] p3) pos := by intro _ _; exact ⟨rfl, rfl, rfl, rfl⟩)
    (h1 : ∀ env, attributeBase (.Call (.Attribute (.Name n p) "setdefault" p2) [b, .List [] p3] [] pos) "append" env (eval (.Call (.Attribute (.Name n p) "setdefault" p2) [b, .List [] p3] [] pos) env) = eval (.Call (.Attribute (.Name n p) "setdefault" p2) [b, .List [] p3] [] pos) env := by intro _; rfl)
    (h3 : (p4.endLine == pos2.line) = true := by rfl) (hsw : ∀ (line : Nat) (env : Env), swapsWith (.Call (.Attribute (.Call (.Attribute (.Name n p) "setdefault" p2) [b, .List [] p3] [] pos) "append" p4) [.Name m p5] [] pos2) none line env = pure false := by intro _ _; rfl) :
    BS F ⟨tm, sl⟩ (.Expr (.Call (.Attribute (.Call (.Attribute (.Name n p) "setdefault" p2) [b, .List [] p3] [] pos) "append" p4) [.Name m p5] [] pos2) pos3) (.nx ⟨tm', sl.set i (.ow (grO F.P F.w F.K (addG gs k v)))⟩) := by
  obtain ⟨tb, pb, eb⟩ := hb
  have pp : ∀ X, Fits F X → PE X (.Call (.Attribute (.Call (.Attribute (.Name n p) "setdefault" p2) [b, .List [] p3] [] pos) "append" p4) [.Name m p5] [] pos2) (tBM F.K "list" rAppend (tGSet F.P F.w F.K (tVar i) tb (tLst tNil)) (tCons (tVar j) tNil)) := fun X hX => by
    have hg := pe_gset (X := X) (apos := p2) (cpos := pos) (by have := hX.un; omega) (pe_var (pos := p) (by rw [hX.N]; exact hN) (hX.vis hv) hd hcd) (pb X hX) (pe_lst (pos := p3) pa_nil) (hm2 X hX)
    rw [hX.prog, hX.w, hX.K] at hg
    have h := pe_bm (X := X) (apos := p4) (cpos := pos2) PySem.F.plainAttrs_list PySem.F.slot_list_append PySem.F.type_list_append mt_append hg (pa_cons (pe_var (pos := p5) (by rw [hX.N]; exact hM) (hX.vis hvm) hd2 hcd2) pa_nil rfl) (h1 _) rfl h3 rfl rfl
    rw [hX.K] at h
    exact h
  refine ⟨_, fun X hX => ps_expr (pp X hX) (hsw _ _), fun C W H0 T0 T O H σ D e R kk => ?_⟩
  obtain ⟨rg, wo⟩ := R.ow
  obtain ⟨_, e0, d0, xs0, rfl, _, h0, _, g0⟩ := wo.ok i _ hs
  refine ⟨_, e0, d0, xs0, rfl, h0, g0.keys cut_full, eb C W H0 T O H σ R _ fun w H2 R2 s2 d2 => ⟨Nat.zero_le _, fun l hl => ?_⟩⟩
  obtain ⟨a, rfl, ka⟩ := dq_key d2
  have sH : Same H2 (upd H2 l (.lst [])) := same_new hl
  obtain ⟨_, ej, dj⟩ := R2.sl j _ hj
  cases dj
  have R3 := R2.grow sH
  -- the entries as they stand now
  obtain ⟨u, S, e1, ⟨d, xs, rfl, hSS, g1, g2, g3⟩, hin, mm⟩ := Rep.mutO (ρ := ⟨tm', sl⟩) R2 hs
  rw [e0] at e1
  cases e1
  have nd : d0 ≠ l := fun z => by subst z; rw [hl] at g1; cases g1
  have nS : ∀ b, S b → b ≠ l := fun b hb z => (hin b hb).2 (z ▸ hl)
  have nl : ∀ b, lists xs b → b ≠ l := fun b hb => nS b (hSS b (.inr hb))
  have ndl : ∀ b, lists xs b → b ≠ d0 := fun b hb y => by
    obtain ⟨vs, z⟩ := g3.lst b hb
    rw [y, g1] at z
    cases z
  have hO : ¬ O l := fun z => R2.alloc l z hl
  have kH : Keys F.K (upd H2 l (.lst [])) xs := fun x hx => by
    obtain ⟨k', q1, q2⟩ := g3.keys cut_full x hx
    exact ⟨k', q1, q2.mono sH⟩
  have lenx := g3.len
  refine ⟨a, k, xs, rfl, sH _ _ g1, kH, (ka.mono cut_full).mono sH, ?_⟩
  rcases g3.look (k := k) with ⟨v1, v2⟩ | ⟨ns, a', l', v1, v2, v3, v4⟩
  · refine .inr ⟨l, rfl, v2, by omega, ?_⟩
    have hll : (upd (upd H2 l (.lst [])) d0 (gdO F.P F.w d0 (xs ++ [(nk k, a, .ref l)]))) l = some (.lst []) := by rw [upd_ne (Ne.symm nd), upd_same]
    refine ⟨tyV_list hll, _, ej, l, [], .int v, rfl, rfl, hll, by decide, ?_⟩
    generalize hH : upd (upd (upd H2 l (.lst [])) d0 (gdO F.P F.w d0 (xs ++ [(nk k, a, .ref l)]))) l (.lst ([] ++ [.int v])) = H4
    have h' : ∀ b, b ≠ d0 → b ≠ l → H4 b = H2 b := fun b n1 n2 => by rw [← hH, upd_ne n2, upd_ne n1, upd_ne n2]
    have hd4 : H4 d0 = some (gdO F.P F.w d0 (xs ++ [(nk k, a, .ref l)])) := by rw [← hH, upd_ne nd, upd_same]
    have hl4 : H4 l = some (.lst ([v].map V.int)) := by rw [← hH, upd_same]; rfl
    have hv4 : valsG (xs ++ [(nk k, a, .ref l)]) = valsG xs ++ [.ref l] := by unfold valsG; rw [List.map_append]; rfl
    have hS : ∀ b, lists (xs ++ [(nk k, a, .ref l)]) b ↔ lists xs b ∨ b = l := fun b => by
      unfold lists
      rw [hv4, List.mem_append]
      exact ⟨fun z => z.imp id fun y => by cases List.mem_singleton.mp y; rfl, fun z => z.imp id fun y => by rw [y]; exact List.mem_singleton.mpr rfl⟩
    have t1 : ∀ b, S b → H4 b ≠ none := fun b hb => by
      by_cases y : b = d0
      · rw [y, hd4]; simp
      · rw [h' b y (nS b hb)]; exact (hin b hb).2
    have t2 : ∀ b, (S b ∨ b = l) → (S b ∨ H2 b = none) ∧ H4 b ≠ none := fun b hb => by
      rcases hb with hb | rfl
      · exact ⟨.inl hb, t1 b hb⟩
      · exact ⟨.inr hl, by rw [hl4]; simp⟩
    have t3 : (valsG (xs ++ [(nk k, a, .ref l)])).Nodup := by
      rw [hv4]
      exact List.nodup_append.mpr ⟨g2, by simp, fun x hx y hy => by
        cases List.mem_singleton.mp hy
        intro z
        subst z
        exact nl l hx rfl⟩
    have sS : Same (cut O H2) (cut (orS O fun b => S b ∨ b = l) H4) := fun b o hb => by
      obtain ⟨q1, q2⟩ := cut_some.mp hb
      have nb : b ≠ d0 := fun z => q1 (z ▸ (hin d0 (hSS d0 (.inl rfl))).1)
      have nbl : b ≠ l := fun z => by rw [z, hl] at q2; cases q2
      refine cut_some.mpr ⟨fun z => z.elim q1 fun z => z.elim (fun z => q1 (hin b z).1) nbl, ?_⟩
      rw [h' b nb nbl]; exact q2
    have t4 : GsOk F.K (cut (orS O fun b => S b ∨ b = l) H4) H4 (xs ++ [(nk k, a, .ref l)]) (addG gs k v) := by
      rw [addG_new v1]
      refine ((g3.mono sS).to fun b hb => ?_).snoc (ka.mono sS) hl4
      exact h' b (ndl b hb) (nl b hb)
    obtain ⟨R', s'⟩ := mm H4 (fun b => S b ∨ b = l) (grO F.P F.w F.K (addG gs k v)) (fun b n1 n2 => h' b (fun z => n1 (hSS b (.inl z))) fun z => n2 (.inr z)) t1 t2 ⟨d0, _, rfl, fun b hb => hb.elim (fun z => .inl (hSS b (.inl z))) fun z => ((hS b).mp z).elim (fun z => .inl (hSS b (.inr z))) .inr, hd4, t3, t4⟩
    exact kk σ _ _ T e R' (s2.trans s')
  · refine .inl ⟨l', a', v2, ?_⟩
    have hll := sH _ _ v3
    refine ⟨tyV_list hll, _, ej, l', ns.map .int, .int v, rfl, rfl, hll, ?_, ?_⟩
    · rw [List.length_map]; exact Nat.lt_of_lt_of_le (hz2 ns v1) (by decide)
    have nl' : l' ≠ l := nl l' v4
    have nd' : l' ≠ d0 := ndl l' v4
    generalize hH : upd (upd H2 l (.lst [])) l' (.lst (ns.map V.int ++ [V.int v])) = H4
    have h' : ∀ b, b ≠ l' → b ≠ l → H4 b = H2 b := fun b n1 n2 => by rw [← hH, upd_ne n1, upd_ne n2]
    have hl4 : H4 l' = some (.lst ((ns ++ [v]).map V.int)) := by rw [← hH, upd_same, List.map_append]; rfl
    have hll4 : H4 l = some (.lst []) := by rw [← hH, upd_ne (Ne.symm nl'), upd_same]
    have t1 : ∀ b, S b → H4 b ≠ none := fun b hb => by
      by_cases y : b = l'
      · rw [y, hl4]; simp
      · rw [h' b y (nS b hb)]; exact (hin b hb).2
    have t2 : ∀ b, (S b ∨ b = l) → (S b ∨ H2 b = none) ∧ H4 b ≠ none := fun b hb => by
      rcases hb with hb | rfl
      · exact ⟨.inl hb, t1 b hb⟩
      · exact ⟨.inr hl, by rw [hll4]; simp⟩
    have sS : Same (cut O H2) (cut (orS O fun b => S b ∨ b = l) H4) := fun b o hb => by
      obtain ⟨q1, q2⟩ := cut_some.mp hb
      have nb : b ≠ l' := fun z => q1 (z ▸ (hin l' (hSS l' (.inr v4))).1)
      have nbl : b ≠ l := fun z => by rw [z, hl] at q2; cases q2
      refine cut_some.mpr ⟨fun z => z.elim q1 fun z => z.elim (fun z => q1 (hin b z).1) nbl, ?_⟩
      rw [h' b nb nbl]; exact q2
    have t4 : GsOk F.K (cut (orS O fun b => S b ∨ b = l) H4) H4 xs (addG gs k v) :=
      (g3.mono sS).app g2 v2 v1 hl4 fun b hb nb => h' b nb (nl b hb)
    obtain ⟨R', s'⟩ := mm H4 (fun b => S b ∨ b = l) (grO F.P F.w F.K (addG gs k v)) (fun b n1 n2 => h' b (fun z => n1 (z ▸ hSS l' (.inr v4))) fun z => n2 (.inr z)) t1 t2 ⟨d0, _, rfl, fun b hb => .inl (hSS b hb), by rw [h' d0 (Ne.symm nd') nd]; exact g1, g2, t4⟩
    exact kk σ _ _ T e R' (s2.trans s')
end
end TC

set_option maxRecDepth 100000
set_option maxHeartbeats 4000000
/-! A star in a display; min(list of ints). -/
namespace TC
open PySem PySem.Spec L2 StX
section
variable {F : Fam} {ρ ρ1 ρ2 : En} {e : Expr} {es : List Expr} {x : PyData} {xs ys : List PyData} {pos p : Pos} {ns : List Int} {m : Int}
theorem bd_starL (h : BE F ρ e (.list xs) ρ1) (r : BD F ρ1 es ys ρ2) (hs : ∀ env, starEach (.Starred e p :: es) env = (true, eval e env) :: starEach es env := by intro _; rfl) : BD F ρ (.Starred e p :: es) (xs ++ ys) ρ2 := by
  obtain ⟨t, p1, e1⟩ := h
  obtain ⟨u, p2, e2⟩ := r
  refine ⟨tStar F.K t u, fun X hX => ?_, fun C W H0 T O H σ R Q q => ?_⟩
  · rw [← hX.K]
    exact pa_star (p1 X hX) (p2 X hX) (hs X.env)
  exact e1 C W H0 T O H σ R _ fun v H1 R1 s1 d1 => by
    cases d1 with
    | @lst a us _ g1 g2 =>
      exact ⟨a, us, rfl, .inr (SqL.of (cut_some.mp g1).2), e2 C W H0 T O H1 σ R1 _ fun vs H2 R2 s2 d2 => q _ H2 R2 (s1.trans s2) (dpa_app (dpa_mono s2 _ _ g2) d2)⟩
theorem be_minL (hm : F.mg "min" = none) (ha : BE F ρ e (.list (ns.map .int)) ρ1) (h1 : m ∈ ns) (h2 : ∀ y ∈ ns, m ≤ y) (hcm : F.ex = none := by rfl) (hg : F.sc.names.lookup ("min" : Str) = some .globalImplicit := by rfl) (hs : ∀ env, starEach [e] env = (false, eval e env) :: starEach [] env := by intro _; rfl) : BE F ρ (.Call (.Name "min" p) [e] [] pos) (.int m) ρ1 :=
  be_cr (r := rMin F.K) (.inl ⟨"min", fun X hX => by rw [← hX.K]; exact cr_min (hX.calm hcm), by decide +kernel⟩) hm (bd1 ha hs) (fun O H vs _ d Q q => by
    obtain ⟨v, rfl, d1⟩ := dqa1 d
    cases d1 with
    | @lst a us _ g1 g2 =>
      have eu := dpa_intsV g2
      subst eu
      refine ⟨a, ns, rfl, SqL.of (cut_some.mp g1).2, List.length_pos_of_mem h1, fun m' k1 k2 => ?_⟩
      have : m' = m := Int.le_antisymm (k2 m h1) (h2 m' k1)
      subst this
      exact q _ H Same.rfl' (.int _)) hg (by decide) (by decide) hs (fun _ => rfl)
end
end TC

set_option maxRecDepth 100000
set_option maxHeartbeats 4000000
/-! not in, of nested data; i & j. -/
namespace TC
open PySem PySem.Spec L2
section
variable {F : Fam} {ρ ρ1 ρ2 : En} {e a b : Expr} {x : PyData} {xs ys : List PyData} {pos p p2 : Pos} {n : Str} {tm tm' tm1 : Option (List Int × Int)} {sl : List Sl}
theorem bt_ninOD (i : Nat) (hs : sl[i]? = some (.own xs)) (ha : BE F ⟨tm, sl⟩ e x ⟨tm', sl⟩) (f : SeqAt.shaped x = true) (g : SeqAt.shaped (.list xs) = true) (hN : F.N[i]? = some n := by rfl) (hv : Vis F.sc n := by first | exact Or.inl rfl | exact Or.inr (Or.inl rfl) | exact Or.inr (Or.inr rfl))
    (hm : behindInMarks .NotIn (.Name n p) = false := by rfl) (hd : (n == ("__debug__" : Str)) = false := by decide) (hcd : (n == ("__classdict__" : Str)) = false := by decide) : BT F ⟨tm, sl⟩ (.Compare e [.NotIn] [.Name n p] pos) (!xs.any fun z => PyData.eqv z x) ⟨tm', sl⟩ := by
  obtain ⟨ta, pa, ea⟩ := ha
  have op : ∀ X, Fits F X → OpR X (compareOp .NotIn) (rNotInD F.K) := fun X hX => by
    rw [← hX.K]
    exact op_notInD (by have := hX.un; omega)
  refine ⟨_, fun X hX => pt_cmpR (op X hX) (pa X hX) (pe_var (i := i) (by rw [hX.N]; exact hN) (hX.vis hv) hd hcd) hm, fun C W H0 T O H σ R Q q => ea C W H0 T O H σ R _ fun v H1 R1 s1 d1 => ?_⟩
  obtain ⟨a, us, e1, o1, c1, t1, h1, d⟩ := R1.sl i _ hs
  have cx : PyData.canLay0 x = true := (Bool.and_eq_true _ _ ▸ f).1
  have cl : PyData.canLayAll0 xs = true := by simpa [PyData.canLay0] using (Bool.and_eq_true _ _ ▸ g).1
  refine ⟨_, e1, x, xs, dq_dp _ _ cx (dp_mono cut_full _ _ d1), .lst (SqL.of h1) (dqa_dpa _ _ cl (dpa_mono cut_full _ _ d)), f, g, ?_⟩
  exact ⟨_, rfl, q H1 R1 s1⟩
/-- the frame stays as it is -/
theorem bd_consP {es : List Expr} (h : BE F ρ e x ρ) (r : BD F ρ es xs ρ) (hs : ∀ env, starEach (e :: es) env = (false, eval e env) :: starEach es env := by intro _; rfl) : BD F ρ (e :: es) (x :: xs) ρ := bd_cons h r hs
theorem ba_consP {es : List Expr} {ss : List Sl} (h : BE F ρ e x ρ) (r : BA F ρ es ss ρ) (hs : ∀ env, starEach (e :: es) env = (false, eval e env) :: starEach es env := by intro _; rfl) : BA F ρ (e :: es) (.d x :: ss) ρ := ba_cons h r hs
theorem be_band {i j : Int} (ha : BE F ρ a (.int i) ρ1) (hb : BE F ρ1 b (.int j) ρ2) : BE F ρ (.BinOp a .BitAnd b pos) (.int (Builtin.bitAnd i j)) ρ2 := be_bin (fun _ _ => op_and) ha hb (rv_I0 fun _ => .int _)
end
theorem eqv_prI (a b : Int × Int) : PyData.eqv (.tuple [.int a.1, .int a.2]) (.tuple [.int b.1, .int b.2]) = decide (a = b) := by
  rw [eqv_pair]
  congr 1
  apply propext
  exact ⟨fun h => Prod.ext h.1 h.2, fun h => by rw [h]; exact ⟨rfl, rfl⟩⟩
theorem eqvAll_map {α : Type} [DecidableEq α] (f : α → PyData) (h : ∀ a b, PyData.eqv (f a) (f b) = decide (a = b)) : ∀ (l m : List α), PyData.eqvAll (l.map f) (m.map f) = decide (l = m)
  | [], [] => by simp [PyData.eqvAll]
  | [], _ :: _ => by simp [PyData.eqvAll]
  | _ :: _, [] => by simp [PyData.eqvAll]
  | a :: l, b :: m => by
    simp only [List.map_cons, PyData.eqvAll, h, eqvAll_map f h l m]
    by_cases e : a = b
    · by_cases e2 : l = m
      · simp [e, e2]
      · simp [e, e2]
    · simp [e]
/-- a turn of a comprehension draws once -/
theorem lcomp_draw {S : PyData → Option (List Int × Int) → Option PyData → Option (List Int × Int) → Prop} {lo : Int} {n : Nat} {ds : List Int} {q : Int} (f : Nat → PyData) (h : ∀ j : Nat, j < n → S (.int (lo + (j : Int))) (some (ds, q + (j : Int))) (some (f j)) (some (ds, q + (j : Int) + 1))) : LComp S (rgD lo n) (some (ds, q)) ((List.range n).map f) (some (ds, q + (n : Int))) := by
  have e0 : (some (ds, q) : Option (List Int × Int)) = (fun j : Nat => some (ds, q + (j : Int))) 0 := by simp
  rw [e0]
  refine lcomp_rg (lo := lo) (n := n) (fun j : Nat => some (ds, q + (j : Int))) f fun j hj => ?_
  have e1 : q + ((j + 1 : Nat) : Int) = q + (j : Int) + 1 := by omega
  have := h j hj
  rw [← e1] at this
  exact this
/-- the frame stays as it is -/
theorem bl_lcP {F : Fam} {tm : Option (List Int × Int)} {sl : List Sl} {tg iter elt : Expr} {ifs : List Expr} {xs ys : List PyData} {pos : Pos} {scope : Scope} (own : List (Str × Nat)) {js : List Nat} {part : PyData → Option (List PyData)} (hi : BI F ⟨tm, sl⟩ tg iter xs ⟨tm, sl⟩) (hg : BB (F.blk scope) tg js part) (ok : LcOk F scope own js sl)
    (hz : xs.length ≤ 100000) (hc : LComp (LTurn (F.blk scope) (own.map (·.2)) js part ifs elt sl) xs tm ys tm) (hcm : F.ex = none := by rfl) (hfs : ∀ env x, foldedSetIterable iter env x = pure x := by intro _ _; rfl) : BL F ⟨tm, sl⟩ (.ListComp elt [⟨tg, iter, ifs, 0⟩] scope pos) ys ⟨tm, sl⟩ := bl_lc own hi hg ok hz hc hcm hfs
end TC

set_option maxRecDepth 100000
set_option maxHeartbeats 4000000
/-! {elt for target in iter ..}, whole numbers: a set that stands still; sorted of it. -/
namespace TC
open PySem PySem.Spec L2 PyProof.Rows
section
variable {X : Cx}
/-- a new whole number joins the set at D -/
theorem setI_join {ps : List (Addr × Obj)} {sh : Shared} {τ : L2.St} {G : Hp} {E : Value → Shared → Prop} {D : Addr} {S : Int → Bool} {c : Nat} {k : Int} {tk : Tok} {Q : Value → Shared → Prop} (J : Inv X ps τ G sh) (e : G D = some (SetO X.w D S c)) (rm : c + 1 < scanBound)
    (h : ∀ sh', Inv X ps τ (upd G D (SetO X.w D (fun j => S j || decide (j = k)) (if S k = true then c else c + 1))) sh' → Q .none sh') : wpAny (model X.prog X.w) X.A (call (.builtin "set.add") [.ref D, .int k tk]) Q E sh :=
  setR_add (setO_get J e) rm fun h1 sb nw => h _ (J.write (e := D) (t' := sh.toks + 1) (by rw [e]; trivial) (.inl rfl) (fun b u hb hu => (sb.2 b hb).trans hu) (by
    have ⟨o, _, _, _, ho, _⟩ := nw
    exact ⟨o, ho⟩) (setO_new nw))
def tSi (w : World) (wi : TI) (g : TG) (tt : TT) (te : TE) (vs : List Nat) : TE := fun τ G Q => wi τ G fun J G1 => ∀ D, G1 D = none → ∃ W : Nat → Nat → Hp → Prop, (∃ m, W 0 m (upd G1 D (SetO w D (fun _ => false) 0))) ∧ ∀ i m G', W i m G' →
  (J.stop i G' ∧ Q (.ref D) G') ∨ (J.go i G' ∧ ∃ Nx : Hp → Prop, (∀ G2, Nx G2 → ∃ m', m' < m ∧ W (i + 1) m' G2) ∧ ∀ x G2, J.yld i G' x G2 → g x (wipe τ vs) G2 fun τ2 G3 => wipe τ2 vs = wipe τ vs ∧ tt τ2 G3 fun b G4 =>
    if b = true then te τ2 G4 fun y G5 => ∃ (k : Int) (S : Int → Bool) (c : Nat), y = .int k ∧ G5 D = some (SetO w D S c) ∧ c + 1 < scanBound ∧ Nx (upd G5 D (SetO w D (fun j => S j || decide (j = k)) (if S k = true then c else c + 1))) else Nx G4)
theorem pe_si {elt tg iter : Expr} {ifs : List Expr} {scope : Scope} {own : List (Str × Nat)} {pos : Pos} {wi : TI} {g : TG} {tt : TT} {te : TE} (hc : X.calm = true) (hN : X.N.Nodup) (hi : PI X tg iter wi) (ok : BlkOk X.N X.env.scope scope own)
    (hg : ∀ s H C cl fp, PG (X.blk s H scope (compEnvC scope cl C X.env) fp) tg g) (ht : ∀ s H C cl fp, PTs (X.blk s H scope (compEnvC scope cl C X.env) fp) ifs tt)
    (he : ∀ s H C cl fp, PE (X.blk s H scope (compEnvC scope cl C X.env) fp) elt te) (hs : ∀ x, foldedSetIterable iter X.env x = pure x) :
    PE X (.SetComp elt [⟨tg, iter, ifs, 0⟩] scope pos) (tSi X.w wi g tt te (own.map (·.2))) := by
  refine ⟨fun ps s τ G Q J h => ?_⟩
  rw [PpSet.eval_SetComp]
  have free : ∀ y ∈ scope.names, y.2 = .free → ∃ c, X.env.cells.lookup y.1 = some c := fun y hy e => (ok.free y hy e).elim (fun k => J.ok.has _ (.inl k)) fun k => J.ok.has _ (.inr k)
  refine wpAny_comprehension_free (use := none) rfl hs (closure_ok free) ok.kind (fun y hy e => by rw [ok.uniq y hy, e]) (thn (hi.run ps s τ G _ J h) fun xv s1 hx => thn hx fun itv s2 h2 => ?_)
  obtain ⟨it, fp, tn, Jt, G2, e, J2, T, st2, f2, q⟩ := h2
  cases e
  refine PpSet.newSet_ok (newEnv_comp ?_)
  obtain ⟨D, hD⟩ : ∃ D, s2.heap.objs.size = D := ⟨_, rfl⟩
  rw [hD]
  have dn : G2 D = none := J2.hok.fresh (Nat.le_of_eq hD)
  obtain ⟨W, ⟨m0, w0⟩, turn⟩ := q D dn
  obtain ⟨s3, hs3⟩ : ∃ s3 : Shared, s3 = { s2 with heap := s2.heap.push { cls := .type "set", dict := none, data := .set #[] 0 (.fresh 0 0 (!X.w.params.followText "set-order")) } } := ⟨_, rfl⟩
  rw [← hs3]
  obtain ⟨G3, hG3⟩ : ∃ G3, G3 = upd G2 D (SetO X.w D (fun _ => false) 0) := ⟨_, rfl⟩
  rw [← hG3] at w0
  have hp3 : ∀ b o, s2.heap.get? b = some o → s3.heap.get? b = some o := fun b o e => by rw [hs3]; exact Heap.get?_push_of_some _ e
  have size3 : s3.heap.objs.size = s2.heap.objs.size + 1 := by rw [hs3]; exact Heap.size_push _ _
  have J3 : Inv X ps τ G3 s3 := by
    rw [hG3, hs3]
    refine J2.laid (t' := s2.toks) (fun b o e => Heap.get?_push_of_some _ e) (Nat.le_of_eq hD) (setO_new ?_)
    have nw : (s2.heap.push { cls := .type "set", dict := none, data := .set #[] 0 (.fresh 0 0 (!X.w.params.followText "set-order")) }).get? D = some { cls := .type "set", dict := none, data := .set #[] 0 (.fresh 0 0 (!X.w.params.followText "set-order")) } := by rw [← hD]; exact Heap.get?_push_size _ rfl
    refine ⟨_, #[], 0, _, nw, ⟨rfl, rfl, rfl⟩, rfl, (fun e he => by simp at he), (by simp), (fun k => by simp), (by decide), (by rfl), rfl, List.Pairwise.nil, ?_⟩
    show _ ∨ (!X.w.params.followText "set-order") = true
    cases X.w.params.followText "set-order"
    · exact .inr rfl
    · exact .inl rfl
  have low : ∀ b ∈ fp, b < s2.heap.objs.size := fun b hb => by
    obtain ⟨o, e, _⟩ := T.obj _ _ st2 b hb
    exact Heap.lt_size e
  have f3 : ∀ b ∈ fp, FpOk X ps G3 b ∧ b < s3.heap.objs.size := fun b hb => by
    have lt := low b hb
    refine ⟨⟨?_, (f2 b hb).2⟩, by rw [size3]; exact Nat.lt_succ_of_lt lt⟩
    rw [hG3, upd_ne (by rw [← hD]; exact Nat.ne_of_lt lt)]
    exact (f2 b hb).1
  have st3 : tn 0 s3.heap := T.keep _ _ _ st2 fun b _ o e => hp3 b o e
  obtain ⟨cl, hcl⟩ : ∃ cl, cl = cellsFrom (s3.heap.objs.size + 1) scope.names (cloFrom X.env.cells scope.names []) := ⟨_, rfl⟩
  have J4 := block_start J3 ok hN f3
  rw [← hcl] at J4 ⊢
  have pg := hg s3 G3 s3.heap.objs.size cl fp
  have pt := ht s3 G3 s3.heap.objs.size cl fp
  have pe := he s3 G3 s3.heap.objs.size cl fp
  have gone : ∀ b ∈ fp, G3 b = none := fun b hb => (f3 b hb).1.1
  obtain ⟨ce, hce⟩ : ∃ ce, ce = compEnvC scope cl s3.heap.objs.size X.env := ⟨_, rfl⟩
  have loc : ce.locals = s3.heap.objs.size := by rw [hce]; rfl
  obtain ⟨s4, hs4⟩ : ∃ s4 : Shared, s4 = { s3 with heap := pushCells (s3.heap.push { cls := .type "dict", data := .dict #[] }) scope.names } := ⟨_, rfl⟩
  rw [← hce] at J4 pg pt pe
  rw [← hs4] at J4
  show codeAny _ _ (.compStart (.SetComp elt [⟨tg, iter, ifs, 0⟩] scope pos) 0 (.ref it) (.ref D) (compEnvC scope cl s3.heap.objs.size X.env)) (compPost (model X.prog X.w) X.A X.xe none _ (.ref D) s3.heap.objs.size) { s3 with heap := pushCells (s3.heap.push { cls := .type "dict", data := .dict #[] }) scope.names }
  rw [← hce, ← hs4]
  have st4 : tn 0 s4.heap := T.keep _ _ _ st3 fun b _ o e => by rw [hs4]; exact pushCells_keeps _ _ _ _ (Heap.get?_push_of_some _ e)
  have still : ∀ {τ' : L2.St} {G' : Hp} {s' : Shared}, Inv (X.blk s3 G3 scope ce fp) [] τ' G' s' → (∀ b ∈ fp, G' b = none) → ∀ b ∈ fp, FpOk (X.blk s3 G3 scope ce fp) [] G' b := fun {τ' G' s'} I' hn b hb => ⟨hn b hb, (I'.ok.exf b hb).1, I'.ok.exfs b hb, .inl hb, fun x c e => (I'.ok.exf b hb).2 x c e, fun p hp => absurd (show p ∈ ([] : List (Addr × Obj)) ++ [] from hp) (by simp)⟩
  refine PpSet.codeAny_compStart_set ?_ (T.self X.A 0 _ _ _ st4 ?_)
  all_goals
    refine PpSet.compLoopS_any (fun n s' => ∃ i G', Inv (X.blk s3 G3 scope ce fp) [] (wipe τ (own.map (·.2))) G' s' ∧ tn i s'.heap ∧ (∀ b ∈ fp, G' b = none) ∧ W i n G') ?_ m0 ⟨0, G3, J4, st4, gone, w0⟩
    rintro n s5 ⟨i, G5, J5, st5, n5, w5⟩
    rcases turn i n G5 w5 with ⟨stop, qq⟩ | ⟨go, Nx, hNx, step⟩
    · refine thnF (T.done (X.blk s3 G3 scope ce fp) rfl rfl rfl hc i [] s5 _ G5 (fun _ _ => False) J5 (still J5 n5) st5 stop) fun r s6 ⟨hr, J6⟩ => ?_
      cases hr
      have J7 : Inv X ps τ G5 s6 := J3.call' (ch := fp) J6.os J6.base J6.hok J6.bare fun b hb => ⟨(f3 b hb).1.2.2.2.1, (f3 b hb).1.2.1, (f3 b hb).1.2.2.2.2.1, (f3 b hb).1.2.2.2.2.2⟩
      have nC : G5 s3.heap.objs.size = none := loc ▸ (J6.free : G5 ce.locals = none)
      obtain ⟨m, hn, _⟩ := J6.loc
      have hn : s6.heap.Ns s3.heap.objs.size m := loc ▸ (hn : s6.heap.Ns ce.locals m)
      obtain ⟨f0, f1, f2, f3', f4, f5⟩ := J3.fpOk (Nat.le_refl _) nC
      exact ⟨m, hn, fun h'' sb => ⟨.ref D, G5, J7.turned (t' := s6.toks) (fun b o hb e => (sb.2 b hb).trans e) f0 f1 f3' f4 f5, rfl, qq⟩⟩
    · refine thnF (T.item (X.blk s3 G3 scope ce fp) rfl rfl rfl hc i [] s5 _ G5 (fun _ _ => False) J5 (still J5 n5) st5 go) fun r s6 ⟨u, hr, h6⟩ => ?_
      cases hr
      refine thnF h6 fun _ s7 ⟨x, G7, J7, r7, y7, st7, n7⟩ => ?_
      refine thnF (pg.run _ s7 _ G7 x u _ (J7.pinned (still J7 n7) (T.obj _ _ st7)) r7 (step x G7 y7)) fun _ s8 ⟨τ8, G8, J8, hw8, q8⟩ => thnF (pt.run _ s8 τ8 G8 _ J8 q8) fun b s9 ⟨G9, J9, q9⟩ => ?_
      have fin : ∀ {s' : Shared} {G' : Hp}, Inv (X.blk s3 G3 scope ce fp) ([] ++ pinsAt fp s7.heap) τ8 G' s' → Nx G' → ∃ m, m < n ∧ ∃ i G', Inv (X.blk s3 G3 scope ce fp) [] (wipe τ (own.map (·.2))) G' s' ∧ tn i s'.heap ∧ (∀ b ∈ fp, G' b = none) ∧ W i m G' := fun {s' G'} I' nx => by
        obtain ⟨m', hm, w'⟩ := hNx G' nx
        have pin' : ∀ b ∈ fp, ∀ o, s7.heap.get? b = some o → s'.heap.get? b = some o ∧ G' b = none := fun b hb o e => ⟨(I'.pin (b, o) (List.mem_append_right _ (List.mem_append_right _ (mem_pinsAt hb e)))).1, (I'.pin (b, o) (List.mem_append_right _ (List.mem_append_right _ (mem_pinsAt hb e)))).2.1⟩
        refine ⟨m', hm, i + 1, G', (I'.unpinned (pins := [])).weak (by rw [← hw8, wipe_length]) (fun j v e => (wipe_some (hw8 ▸ e)).1), T.keep _ _ _ st7 fun b hb o e => (pin' b hb o e).1, fun b hb => ?_, w'⟩
        obtain ⟨o, e, _⟩ := T.obj _ _ st7 b hb
        exact (pin' b hb o e).2
      cases b with
      | false => exact fin J9 q9
      | true =>
        refine thnF (pe.run _ s9 τ8 G9 _ J9 q9) fun z s10 ⟨yv, G10, J10, r10, k0, S0, c0, ey, hD0, hz0, nx⟩ => ?_
        cases ey
        obtain ⟨tk, hz⟩ : ∃ tk, z = Value.int k0 tk := r10
        cases hz
        exact setI_join (X := X.blk s3 G3 scope ce fp) J10 hD0 hz0 fun s11 J11 => fin J11 nx
end
end TC
namespace TC
open PySem PySem.Spec L2
/-- the set of these whole numbers, standing still -/
def setZ (w : World) (ns : List Int) : Fz := ⟨fun v Z => ∃ (a : Addr) (S : Int → Bool) (c : Nat), v = .ref a ∧ Z a = some (SetO w a S c) ∧ (∀ k, S k = true ↔ k ∈ ns) ∧ c ≤ ns.length, fun e ⟨a, S, c, h1, h2, h3, h4⟩ => ⟨a, S, c, h1, e _ _ h2, h3, h4⟩⟩
section
variable {F : Fam} {ρ ρ1 ρ2 ρ3 : En} {e tg iter elt : Expr} {ifs : List Expr} {x y z : PyData} {xs ys zs : List PyData} {pos p : Pos} {ns ms : List Int}
def siT (F : Fam) (scope : Scope) (wi : TI) (g : TG) (ifs : List Expr) (elt : Expr) (own : List (Str × Nat)) : TE := tSi F.w wi g (supI (F.blk scope) ifs) (supE (F.blk scope) elt) (own.map (·.2))
theorem ev_si {scope : Scope} {own : List (Str × Nat)} {js : List Nat} {part : PyData → Option (List PyData)} {wi : TI} {g : TG} {tm' : Option (List Int × Int)} (hi : EvI F.K wi ρ xs ρ1) (hg : ∀ x ps, part x = some ps → EvB F.K g js x ps)
    (ok : LcOk F scope own js ρ1.sl) (hz : xs.length ≤ 60) (hc : LComp (LTurn (F.blk scope) (own.map (·.2)) js part ifs elt ρ1.sl) xs ρ1.tm (ns.map .int) tm') : EvZ F.K (siT F scope wi g ifs elt own) ρ (setZ F.w ns) ⟨tm', ρ1.sl⟩ := by
  intro C W H0 T O H σ R Q q
  refine hi C W H0 T O H σ R _ fun J H1 R1 s1 wk D hD => ?_
  have sD : Same H1 (upd H1 D (SetO F.w D (fun _ => false) 0)) := same_new hD
  have RD := R1.hide hD sD (by rw [upd_same]; simp)
  have hW : ¬ W D := fun z => R1.nof hD (R1.co D (R1.wc D z))
  have h0 : H0 D = none := R1.none0 hD
  have hp : ∀ t, T = some t → t.2.2 ≠ D := fun t hT z => R1.nof hD (z ▸ R1.tl t hT)
  have s1D : Same (cut O H1) (cut (or1 O D) (upd H1 D (SetO F.w D (fun _ => false) 0))) := cut_or1 sD hD
  let Inn : Nat → Hp → Prop := fun i H' => ∃ tm S c made rest, Rep F.K (or1 C D) W H0 T (or1 O D) H' σ ⟨tm, ρ1.sl⟩ ∧ Same (cut O H1) (cut (or1 O D) H') ∧ H' D = some (SetO F.w D S c) ∧ (∀ k : Int, S k = true ↔ k ∈ made) ∧ c ≤ made.length ∧ made.length ≤ i ∧ LComp (LTurn (F.blk scope) (own.map (·.2)) js part ifs elt ρ1.sl) (xs.drop i) tm (rest.map PyData.int) tm' ∧ made ++ rest = ns
  refine ⟨fun i m H' => m = xs.length - i ∧ i ≤ xs.length ∧ Inn i H', ⟨xs.length, by simp, Nat.zero_le _, ρ1.tm, _, 0, [], ns, RD, s1D, upd_same, fun k => by simp, Nat.le_refl _, Nat.zero_le _, by rw [List.drop_zero]; exact hc, rfl⟩, fun i m H' hw => ?_⟩
  obtain ⟨rfl, hi', tm, S, c, made, rest, R', s', hD', dm, hcl, hml, L, he⟩ := hw
  obtain ⟨w1, w2⟩ := wk (or1 O D) H' R'.alloc s' i
  by_cases hlt : i < xs.length
  · obtain ⟨w3, w4⟩ := w2 _ (List.getElem?_eq_getElem hlt)
    rw [List.drop_eq_getElem_cons hlt] at L
    refine .inr ⟨w3, fun H2 => Inn (i + 1) H2, fun H2 h => ⟨xs.length - (i + 1), by omega, rfl, hlt, h⟩, fun v H2 y => ?_⟩
    obtain ⟨s2, dv⟩ := w4 v H2 y
    have R2 := R'.grow s2
    have Rw := R2.wiped (own.map (·.2))
    have s12 : Same (cut O H1) (cut (or1 O D) H2) := s'.trans (cut_same s2)
    have hD2 : H2 D = some (SetO F.w D S c) := s2 D _ hD'
    generalize hrm : rest.map PyData.int = rm at L
    have hpart : ∃ ps, part xs[i] = some ps := by
      cases L with
      | item h _ => cases h with
        | item h1 => exact ⟨_, h1⟩
      | skip h _ => cases h with
        | skip h1 => exact ⟨_, h1⟩
    obtain ⟨ps, hps⟩ := hpart
    refine hg _ ps hps (or1 O D) H2 _ v dv _ fun ws dw => ⟨wipe_sets ok.sub, ?_⟩
    have Rb := Rw.puts (js := js) dw
    have nplace : ∀ t, T = some t → D ≠ t.2.2 := fun t hT z => hp t hT z.symm
    have back : ∀ {H3 : Hp} {tmx : Option (List Int × Int)}, Rep F.K (or1 C D) W H0 T (or1 O D) H3 (sets (wipe σ (own.map (·.2))) js ws) ⟨tmx, setsR (wipeR ρ1.sl (own.map (·.2))) js ps⟩ → Rep F.K (or1 C D) W H0 T (or1 O D) H3 σ ⟨tmx, ρ1.sl⟩ := fun {H3 tmx} R3 =>
      R3.out R1.len ok.un (fun i hi => by rw [setsR_get (fun z => hi (ok.sub i z)), wipeR_get hi]) (fun i hi => by rw [sets_get (fun z => hi (ok.sub i z)), wipe_get hi])
    have iso : ∀ {a b : Option (List Int × Int)}, b.isSome = a.isSome → b ≠ none → a ≠ none := fun {a b} h z e => by
      rw [e] at h
      cases b with
      | none => exact z rfl
      | some _ => cases h
    cases L with
    | @skip _ _ _ _ tm1 _ hT hL =>
      cases hT with
      | @skip ps' _ _ h1 h2 h3 =>
        have ep : ps' = ps := Option.some.inj (h1.symm.trans hps)
        subst ep
        refine h2.frm rfl (iso h3) Rb _ fun H3 R3 s3 al => iteF ⟨tm1, S, c, made, rest, back R3, s12.trans s3, al D _ (.inr rfl) hW nplace hD2, dm, hcl, by omega, hrm ▸ hL, he⟩
    | @item _ _ y0 rest0 _ tm1 _ hT hL =>
      cases hT with
      | @item ps' _ _ tm0 _ h1 h2 h3 h4 h5 =>
        have ep : ps' = ps := Option.some.inj (h1.symm.trans hps)
        subst ep
        cases rest with
        | nil => cases hrm
        | cons k rest =>
          rw [List.map_cons, List.cons.injEq] at hrm
          obtain ⟨rfl, rfl⟩ := hrm
          refine h2.frm rfl (iso h3) Rb _ fun H3 R3 s3 al => iteT (h4.uni.frm rfl (iso h5) R3 _ fun w H4 R4 s4 dw4 al4 => ?_)
          have hD4 : H4 D = some (SetO F.w D S c) := al4 D _ (.inr rfl) hW nplace (al D _ (.inr rfl) hW nplace hD2)
          refine ⟨k, S, c, dp_intV dw4, hD4, Nat.lt_of_le_of_lt (by omega : c + 1 ≤ 61) (by decide), tm1, _, _, made ++ [k], rest, (back R4).poke hW h0 hp, ?_, upd_same, fun j => ?_, ?_, ?_, hL, ?_⟩
          · rw [cut_upd (.inr rfl)]
            exact (s12.trans s3).trans s4
          · rw [Bool.or_eq_true, decide_eq_true_eq, dm j, List.mem_append, List.mem_singleton]
          · rw [List.length_append, List.length_singleton]
            by_cases z : S k = true
            · rw [if_pos z]; omega
            · rw [if_neg z]; omega
          · rw [List.length_append, List.length_singleton]; omega
          · rw [List.append_assoc]; exact he
  · have hi2 : i = xs.length := by omega
    rw [List.drop_eq_nil_of_le (by omega)] at L
    generalize hrm : rest.map PyData.int = rm at L
    cases L
    have hr0 : rest = [] := List.map_eq_nil_iff.mp hrm
    subst hr0
    rw [List.append_nil] at he
    subst he
    refine .inl ⟨w1 hi2, q (.ref D) H' (R'.show1 hW h0 R1.co hp) ((s1.trans s').trans (cut_sub fun _ z => .inl z)) ⟨D, S, c, rfl, ?_, dm, hcl⟩⟩
    exact cut_some.mpr ⟨R1.nof hD, hD'⟩
/-- {elt for tg in iter if ..} -/
theorem bz_si {scope : Scope} (own : List (Str × Nat)) {js : List Nat} {part : PyData → Option (List PyData)} {tm' : Option (List Int × Int)} (hi : BI F ρ tg iter xs ρ1) (hg : BB (F.blk scope) tg js part) (ok : LcOk F scope own js ρ1.sl)
    (hz : xs.length ≤ 60) (hc : LComp (LTurn (F.blk scope) (own.map (·.2)) js part ifs elt ρ1.sl) xs ρ1.tm (ns.map .int) tm') (hcm : F.ex = none := by rfl) (hfs : ∀ env x, foldedSetIterable iter env x = pure x := by intro _ _; rfl) : BZ F ρ (.SetComp elt [⟨tg, iter, ifs, 0⟩] scope pos) (setZ F.w ns) ⟨tm', ρ1.sl⟩ := by
  obtain ⟨wi, p1, e1⟩ := hi
  obtain ⟨g, p2, e2⟩ := hg
  refine ⟨siT F scope wi g ifs elt own, fun X hX => ?_, ev_si e1 e2 ok hz hc⟩
  have := pe_si (X := X) (elt := elt) (pos := pos) (own := own) (hX.calm hcm) (by rw [hX.N]; exact hX.nd) (p1 X hX) (by rw [hX.N, hX.sc]; exact ok.blk) (fun s H C cl fp => p2 _ (fits_blk hcm hX s H scope C cl fp)) (fun s H C cl fp => supI_ok (es := ifs) (fits_blk hcm hX s H scope C cl fp)) (fun s H C cl fp => supE_ok (e := elt) (fits_blk hcm hX s H scope C cl fp)) (hfs _)
  rw [hX.w] at this
  exact this
theorem asc_uni : ∀ {a b : List Int}, a.Pairwise (· < ·) → b.Pairwise (· < ·) → (∀ k, k ∈ a ↔ k ∈ b) → a = b := fun {a b} ha hb h =>
  (List.perm_ext_iff_of_nodup (ha.imp fun h => Int.ne_of_lt h) (hb.imp fun h => Int.ne_of_lt h)).mpr h |>.eq_of_pairwise (le := fun x y : Int => x < y) (fun a b _ _ h1 h2 => by omega) ha hb
/-- sorted of a set of whole numbers -/
theorem bl_sortedZ (h : BZ F ρ e (setZ F.w ns) ρ1) (hl : ns.length < 64) (hp : ms.Pairwise (· < ·)) (hm2 : ∀ k, k ∈ ms ↔ k ∈ ns) (hm : F.mg "sorted" = none) (hcm : F.ex = none := by rfl) (hg : F.sc.names.lookup ("sorted" : Str) = some .globalImplicit := by rfl) (hs : ∀ env, starEach [e] env = (false, eval e env) :: starEach [] env := by intro _; rfl) : BL F ρ (.Call (.Name "sorted" p) [e] [] pos) (ms.map .int) ρ1 := by
  obtain ⟨t, p1, e1⟩ := h
  refine ⟨tCB (rSortedSet F.w) (tCons t tNil), fun X hX => ?_, fun C W H0 T O H σ R Q q => e1 C W H0 T O H σ R _ fun v H1 R1 s1 ⟨a, S, c, e2, ha, hS, hc⟩ => ?_⟩
  · have hh := cr_sortedSet (X := X) (hX.calm hcm)
    rw [hX.w] at hh
    exact pe_callB hh (hX.gl hg) (by rw [hX.mg]; exact hm) (by decide +kernel) (pa_cons (p1 X hX) pa_nil (hs _)) (by decide) (by decide) (hs _) rfl
  · refine ⟨a, S, c, by rw [e2], (cut_some.mp ha).2, by omega, fun os l ho hm3 _ hn => ?_⟩
    have eo : os = ms := asc_uni ho hp fun k => by rw [hm3, hS, hm2]
    subst eo
    have s2 : Same H1 (upd H1 l (.lst (os.map V.int))) := same_new hn
    have hn0 : H l = none := by
      cases z : H l with
      | none => rfl
      | some o =>
        by_cases y : O l
        · exact absurd hn (R1.alloc l y)
        · have := (cut_some.mp (s1 l o (cut_some.mpr ⟨y, z⟩))).2
          rw [hn] at this; cases this
    exact q l (os.map V.int) _ hn0 upd_same (R1.hide hn s2 (by rw [upd_same]; simp)) (R1.grow s2) (s1.trans (cut_or1 s2 hn)) (dpa_ints os)
end
end TC

set_option maxRecDepth 100000
set_option maxHeartbeats 4000000
/-! enumerate(list); a star of a tuple; the truth of a list; sorted and max of lists of data. -/
namespace TC
open PySem PySem.Spec L2 StX
section
variable {F : Fam} {ρ ρ1 ρ2 : En} {e : Expr} {es : List Expr} {x : PyData} {xs ys ds : List PyData} {pos p tpos : Pos} {ns : List Int} {m : Int}
theorem bi_enumL {elts : List Expr} {kk : Nat} (ha : BE F ρ e (.list xs) ρ1) (hm : F.mg "enumerate" = none) (hg : F.sc.names.lookup ("enumerate" : Str) = some .globalImplicit := by rfl) (hs : ∀ env, starEach [e] env = [(false, eval e env)] := by intro _; rfl) :
    BI F ρ (.Tuple elts kk tpos) (.Call (.Name "enumerate" p) [e] [] pos) (enD xs) ρ1 := by
  obtain ⟨t, p1, e1⟩ := ha
  refine ⟨iEnum F.K (tCons t tNil), fun X hX => ?_, fun C W H0 T O H σ R Rq q => e1 C W H0 T O H σ R _ fun v H1 R1 s1 d1 => ?_⟩
  · rw [← hX.K]
    exact pi_enum (hX.gl hg) (by rw [hX.mg]; exact hm) (pa_cons (p1 X hX) pa_nil (hs _)) (hs _)
  · cases d1 with
    | @lst a us _ g1 g2 =>
      refine ⟨a, us, rfl, SqL.of (cut_some.mp g1).2, q _ H1 R1 s1 fun O' H' al s i => ?_⟩
      have g3 : H' a = some (.lst us) := (cut_some.mp (s a _ g1)).2
      have g4 := dpa_mono s _ _ g2
      rw [enD_len]
      refine ⟨fun hi => ⟨us, SqL.of g3, by rw [dpa_len g4, hi]; exact Nat.le_refl _⟩, fun x hx => ?_⟩
      obtain ⟨x1, hx1, rfl⟩ := enD_get hx
      obtain ⟨v1, hv1, dv1⟩ := dpa_get g4 hx1
      refine ⟨⟨us, v1, SqL.of g3, hv1⟩, fun v H'' y => ?_⟩
      obtain ⟨T', x', rfl, hT, rfl, hx'⟩ := y
      have e1 := hx' us (SqL.of g3)
      rw [hv1] at e1
      cases e1
      exact ⟨same_new hT, .tup (.inl (.inl (cut_some.mpr ⟨fun z => al _ z hT, upd_same⟩))) (.cons (.int _) (.cons (dp_mono (cut_same (same_new hT)) _ _ dv1) .nil))⟩
theorem bd_starT (h : BE F ρ e (.tuple xs) ρ1) (r : BD F ρ1 es ys ρ2) (hs : ∀ env, starEach (.Starred e p :: es) env = (true, eval e env) :: starEach es env := by intro _; rfl) : BD F ρ (.Starred e p :: es) (xs ++ ys) ρ2 := by
  obtain ⟨t, p1, e1⟩ := h
  obtain ⟨u, p2, e2⟩ := r
  refine ⟨tStar F.K t u, fun X hX => ?_, fun C W H0 T O H σ R Q q => ?_⟩
  · rw [← hX.K]
    exact pa_star (p1 X hX) (p2 X hX) (hs X.env)
  exact e1 C W H0 T O H σ R _ fun v H1 R1 s1 d1 => by
    cases d1 with
    | @tup a us _ g1 g2 =>
      exact ⟨a, us, rfl, .inl (seqT_mono cut_full g1), e2 C W H0 T O H1 σ R1 _ fun vs H2 R2 s2 d2 => q _ H2 R2 (s1.trans s2) (dpa_app (dpa_mono s2 _ _ g2) d2)⟩
theorem bt_truL (h : BE F ρ e (.list xs) ρ1) (he : ∀ env whole, isTrue e env whole = (do let v ← whole; standAt e.pos; holding [v] (truthy v)) := by intro _ _; rfl) : BT F ρ e (!xs.isEmpty) ρ1 := by
  obtain ⟨t, p1, e1⟩ := h
  refine ⟨fun σ H Q => t σ H fun x H' => ∃ k, TruV F.K x H' k ∧ Q k H', fun X hX => ?_, fun C W H0 T O H σ R Q q => e1 C W H0 T O H σ R _ fun v H1 R1 s1 d1 => ?_⟩
  · have h := pt_truth (X := X) (p1 X hX) (he X.env)
    rw [hX.K] at h
    exact h
  · cases d1 with
    | @lst a us _ g1 g2 =>
      refine ⟨!us.isEmpty, .inl ⟨us, SqL.of (cut_some.mp g1).2, rfl⟩, ?_⟩
      have e : us.isEmpty = xs.isEmpty := by
        have := dpa_len g2
        cases us <;> cases xs <;> simp at this ⊢
      rw [e]
      exact q H1 R1 s1
end
/-! ### sorted(list of data) -/
def rSortedD (K : PySem.W.Frag) : List V → Hp → VK → Prop := fun vs H Q => ∃ (a : Addr) (xs : List V) (ds : List PyData) (Rr : V → PyData → Prop), vs = [V.ref a] ∧ SqL K H a xs ∧ DpAll K H xs ds ∧ Paired Rr xs ds ∧ PySem.W.AllAlike ds ∧ PySem.W.Sortable ds ∧ ds.length ≤ 10000 ∧ (∀ d ∈ ds, d.depth ≤ 60) ∧
  ∀ (ys : List V) (l : Addr), Paired Rr ys (ds.mergeSort (PySem.W.dataLe false id)) → H l = none → Q (.ref l) (upd H l (.lst ys))
theorem eachs {X : Cx} {H : Hp} {h : Heap} {Rr : V → PyData → Prop} : ∀ {xs : List V} {us : List Value} {ds : List PyData}, Vals xs us → Paired Rr xs ds → PySem.W.EachIs (fun (v : Value) (d : PyData) => ∃ x, RelV x v ∧ Rr x d) us ds
  | _, _, _, .nil, .nil => .nil
  | _, _, _, .cons r rs, .cons t ts => .cons ⟨_, r, t⟩ (eachs (X := X) (H := H) (h := h) rs ts)
theorem each_out {Rr : V → PyData → Prop} : ∀ {us : List Value} {ds : List PyData}, PySem.W.EachIs (fun (v : Value) (d : PyData) => ∃ x, RelV x v ∧ Rr x d) us ds → ∃ ys, Vals ys us ∧ Paired Rr ys ds
  | _, _, .nil => ⟨[], .nil, .nil⟩
  | _, _, .cons ⟨x, r, t⟩ rest => by
    obtain ⟨ys, h1, h2⟩ := each_out rest
    exact ⟨x :: ys, .cons r h1, .cons t h2⟩
theorem each_reads {h : Heap} : ∀ {us : List Value} {ds : List PyData} {as : List Addr}, ReadsAll h us ds as → PySem.W.EachIs (fun v d => ∃ as, Reads h v d as) us ds
  | _, _, _, .nil => .nil
  | _, _, _, .cons r rs => .cons ⟨_, r⟩ (each_reads rs)
theorem cr_sortedD {X : Cx} (hc : X.calm = true) (hu : X.A.units + 100 < cLine) : CallR X (.builtin "sorted") (rSortedD X.K) := by
  intro pins s σ H vs us Q I r h
  obtain ⟨a, xs, ds, Rr, rfl, hq, hd, hp, hal, hk, hl, hdp, q⟩ := h
  rw [Vals.ref1 r]
  obtain ⟨its, rv, pl, _⟩ := I.list hq
  obtain ⟨as, ra⟩ := Dp.readsAll I ds xs its hd rv
  have em : ds.map id = ds := List.map_id _
  have el : its.length = ds.length := (each_reads ra).length
  refine PySem.W.sorted_data (R := fun (v : Value) (d : PyData) => ∃ x, RelV x v ∧ Rr x d) (enc := id) (bs := ds) pl.isList (eachs (X := X) (H := H) (h := s.heap) rv hp) (each_reads ra) (by rw [em]; exact hal) (by rw [em]; exact hk) (Nat.le_trans hl (by decide)) (fun d hd => by have := hdp d hd; show X.A.units + 2 + d.depth < cLine; omega) fun out hlen hout => ?_
  obtain ⟨ys, y1, y2⟩ := each_out hout
  obtain ⟨c, hcA⟩ := PyProof.Rows.sortedAll_at s.heap its out.toArray
  refine ⟨.ref (s.heap.objs.size + 1), upd H (s.heap.objs.size + 1) (.lst ys), I.laid (t' := s.toks) (fun _ _ => PyProof.Rows.sortedAll_old) (Nat.le_succ _) ?_, rfl, q ys _ y2 (I.hok.fresh (Nat.le_succ _))⟩
  refine ⟨?_, out, c, y1, hcA⟩
  have : ys.length = out.length := y1.length
  rw [this, hlen]
  exact Nat.le_trans hl (by decide)
section
variable {F : Fam} {ρ ρ1 ρ2 : En} {e : Expr} {es : List Expr} {x : PyData} {xs ys ds : List PyData} {pos p tpos : Pos} {ns : List Int} {m : Int}
theorem paired_dq {K : PySem.W.Frag} {Z : Hp} : ∀ {vs : List V} {ds : List PyData}, DqA K Z vs ds → Paired (fun v d => Dq K Z v d) vs ds
  | _, _, .nil => .nil
  | _, _, .cons h t => .cons h (paired_dq t)
theorem dq_paired {K : PySem.W.Frag} {Z : Hp} : ∀ {vs : List V} {ds : List PyData}, Paired (fun v d => Dq K Z v d) vs ds → DqA K Z vs ds
  | _, _, .nil => .nil
  | _, _, .cons h t => .cons h (dq_paired t)
theorem bl_sortedD (h : BE F ρ e (.list ds) ρ1) (hc0 : PyData.canLayAll0 ds = true) (hal : PySem.W.AllAlike ds) (hk : PySem.W.Sortable ds) (hl : ds.length ≤ 10000) (hdp : ∀ d ∈ ds, d.depth ≤ 60) (hm : F.mg "sorted" = none) (hcm : F.ex = none := by rfl) (hg : F.sc.names.lookup ("sorted" : Str) = some .globalImplicit := by rfl) (hs : ∀ env, starEach [e] env = (false, eval e env) :: starEach [] env := by intro _; rfl) :
    BL F ρ (.Call (.Name "sorted" p) [e] [] pos) (ds.mergeSort (PySem.W.dataLe false id)) ρ1 := by
  obtain ⟨t, p1, e1⟩ := h
  refine ⟨tCB (rSortedD F.K) (tCons t tNil), fun X hX => ?_, fun C W H0 T O H σ R Q q => e1 C W H0 T O H σ R _ fun v H1 R1 s1 d1 => ?_⟩
  · have hh := cr_sortedD (X := X) (hX.calm hcm) (by have := hX.un; omega)
    rw [hX.K] at hh
    exact pe_callB hh (hX.gl hg) (by rw [hX.mg]; exact hm) (by decide +kernel) (pa_cons (p1 X hX) pa_nil (hs _)) (by decide) (by decide) (hs _) rfl
  · cases d1 with
    | @lst a us _ g1 g2 =>
      refine ⟨a, us, ds, fun v d => Dq F.K (cut O H1) v d, rfl, SqL.of (cut_some.mp g1).2, dqa_dpa _ _ hc0 (dpa_mono cut_full _ _ g2), paired_dq g2, hal, hk, hl, hdp, fun ys l hy hn => ?_⟩
      have s2 : Same H1 (upd H1 l (.lst ys)) := same_new hn
      have hn0 : H l = none := by
        cases z : H l with
        | none => rfl
        | some o =>
          by_cases y : O l
          · exact absurd hn (R1.alloc l y)
          · have := (cut_some.mp (s1 l o (cut_some.mpr ⟨y, z⟩))).2
            rw [hn] at this; cases this
      exact q l ys _ hn0 upd_same (R1.hide hn s2 (by rw [upd_same]; simp)) (R1.grow s2) (s1.trans (cut_or1 s2 hn)) (dpa_mono (cut_or1 s2 hn) _ _ (dq_paired hy))
end
/-! ### max(list of data) -/
def rMaxD (K : PySem.W.Frag) : List V → Hp → VK → Prop := fun vs H Q => ∃ (a : Addr) (xs : List V) (d : PyData) (ds : List PyData), vs = [V.ref a] ∧ SqL K H a xs ∧ DpAll K H xs (d :: ds) ∧ PySem.W.AlikeAll (d :: ds) ∧ PyData.depthAll (d :: ds) ≤ 60 ∧
  ∀ (i : Nat) (v : V), xs[i]? = some v → (d :: ds)[i]? = some (PySem.W.maxD d ds) → Q v H
theorem readsAll_get {h : Heap} : ∀ {us : List Value} {ds : List PyData} {as : List Addr} {i : Nat} {v : Value}, ReadsAll h us ds as → us[i]? = some v → ∃ d as, ds[i]? = some d ∧ Reads h v d as
  | _, _, _, _, _, .nil, h => by simp at h
  | _, _, _, 0, _, .cons r rs, h => by simp at h; subst h; exact ⟨_, _, rfl, r⟩
  | _, _, _, i + 1, _, .cons r rs, h => by
    obtain ⟨d, as, h1, h2⟩ := readsAll_get rs (by simpa using h)
    exact ⟨d, as, by simpa using h1, h2⟩
theorem vals_get {xs : List V} {us : List Value} (r : Vals xs us) : ∀ {i : Nat} {u : Value}, us[i]? = some u → ∃ v, xs[i]? = some v ∧ RelV v u := by
  induction r with
  | nil => intro i u h; simp at h
  | cons r rs ih =>
    intro i u h
    cases i with
    | zero => simp at h; subst h; exact ⟨_, rfl, r⟩
    | succ i =>
      obtain ⟨v, h1, h2⟩ := ih (i := i) (u := u) (by simpa using h)
      exact ⟨v, by simpa using h1, h2⟩
theorem max_mem (d : PyData) (ds : List PyData) : PySem.W.maxD d ds ∈ d :: ds := by
  unfold PySem.W.maxD
  induction ds generalizing d with
  | nil => simp
  | cons y ds ih =>
    rw [List.foldl_cons]
    rcases List.mem_cons.mp (ih (if PySem.W.dataLt d y then y else d)) with h | h
    · rw [h]
      by_cases z : PySem.W.dataLt d y = true
      · rw [if_pos z]; simp
      · rw [if_neg z]; simp
    · simp [h]
theorem cr_maxD {X : Cx} (hc : X.calm = true) (hu : X.A.units + 100 < cLine) : CallR X (.builtin "max") (rMaxD X.K) := by
  intro pins s σ H vs us Q I r h
  obtain ⟨a, xs, d, ds, rfl, hq, hd, hal, hdp, q⟩ := h
  rw [Vals.ref1 r]
  obtain ⟨its, rv, pl, _⟩ := I.list hq
  obtain ⟨as, ra⟩ := Dp.readsAll I (d :: ds) xs its hd rv
  refine PySem.W.max_list_data (x := d) (xs := ds) (as := as) (I.ok.hd hc) pl.isList (by simpa using ra) hal (by omega) fun i v h' tk bs hv hr hk => ?_
  have hv' : its[i]? = some v := by simpa using hv
  obtain ⟨x, hx, rx⟩ := vals_get rv hv'
  obtain ⟨d', as', hd', r'⟩ := readsAll_get ra hv'
  have r2 : Reads h' v d' as' := PyProof.Rows.Reads.keeps (fun b o => hk b o) r'
  have m1 : d' ∈ d :: ds := List.mem_of_getElem? hd'
  have e : d' = PySem.W.maxD d ds := PySem.W.alike_unique _ _ _ _ _ (hal.1 _ m1 _ (max_mem d ds)) r2 hr
  exact ⟨x, H, I.kept hk, rx, q i x hx (by rw [hd', e])⟩
section
variable {F : Fam} {ρ ρ1 ρ2 : En} {e : Expr} {es : List Expr} {d : PyData} {ds : List PyData} {pos p tpos : Pos}
theorem be_maxD (h : BE F ρ e (.list (d :: ds)) ρ1) (hc0 : PyData.canLayAll0 (d :: ds) = true) (hal : PySem.W.AlikeAll (d :: ds)) (hdp : PyData.depthAll (d :: ds) ≤ 60) (hm : F.mg "max" = none) (hcm : F.ex = none := by rfl) (hg : F.sc.names.lookup ("max" : Str) = some .globalImplicit := by rfl) (hs : ∀ env, starEach [e] env = (false, eval e env) :: starEach [] env := by intro _; rfl) :
    BE F ρ (.Call (.Name "max" p) [e] [] pos) (PySem.W.maxD d ds) ρ1 := by
  obtain ⟨t, p1, e1⟩ := h
  refine ⟨tCB (rMaxD F.K) (tCons t tNil), fun X hX => ?_, fun C W H0 T O H σ R Q q => e1 C W H0 T O H σ R _ fun v H1 R1 s1 d1 => ?_⟩
  · have hh := cr_maxD (X := X) (hX.calm hcm) (by have := hX.un; omega)
    rw [hX.K] at hh
    exact pe_callB hh (hX.gl hg) (by rw [hX.mg]; exact hm) (by decide +kernel) (pa_cons (p1 X hX) pa_nil (hs _)) (by decide) (by decide) (hs _) rfl
  · cases d1 with
    | @lst a us _ g1 g2 =>
      refine ⟨a, us, d, ds, rfl, SqL.of (cut_some.mp g1).2, dqa_dpa _ _ hc0 (dpa_mono cut_full _ _ g2), hal, hdp, fun i v hv hx => ?_⟩
      obtain ⟨x, hx', dx⟩ := dpa_getV g2 hv
      rw [hx] at hx'
      cases hx'
      exact q v H1 R1 s1 dx
end
end TC

set_option maxRecDepth 100000
set_option maxHeartbeats 4000000
/-! A dict of one's own comes to be data. -/
namespace TC
open PySem PySem.Spec L2
section
variable {K : PySem.W.Frag} {C O : AS} {H0 H : Hp} {T : Option Trip} {σ : L2.St} {ρ : En} {Ψ : Fo} {Φ : Fz}
theorem Rep.freezeD (R : Rep K C W0 H0 T O H σ ρ) {i : Nat} (hs : ρ.sl[i]? = some (.ow Ψ)) {x : PyData} (conv : ∀ v S, Ψ.ok v S H (cut O H) → Dq K (cut (fun b => O b ∧ ¬ S b) H) v x) :
    ∃ O', Rep K C W0 H0 T O' H σ ⟨ρ.tm, ρ.sl.set i (.d x)⟩ ∧ Same (cut O H) (cut O' H) := by
  obtain ⟨rg, w⟩ := R.ow
  obtain ⟨v, e1, ok⟩ := w.ok i Ψ hs
  have inO : ∀ a, rg i a → O a := fun a h => (w.rin i Ψ a hs h).1
  have nC : ∀ a, rg i a → ¬ C a := fun a h => (w.rin i Ψ a hs h).2.1.elim id fun z => z.elim
  have nT : ∀ t, T = some t → ¬ rg i t.2.2 := fun t hT z => (w.rin i Ψ _ hs z).2.2 t hT rfl
  have cs : Same (cut O H) (cut (fun b => O b ∧ ¬ rg i b) H) := cut_sub fun b h => h.1
  refine ⟨fun b => O b ∧ ¬ rg i b, ⟨R.wc, fun b h => ⟨R.co b h, fun z => nC b z h⟩, R.keep, fun b h => R.alloc b h.1, fun b h => R.loc b h.1, ?_, fun t h => ⟨R.tl t h, nT t h⟩, ?_, fun j s hj => ?_, fun j k xs ys b ne h1 h2 e1 => ?_, rg, ?_⟩, cs⟩
  · show σ.length = (ρ.sl.set i _).length
    rw [List.length_set]; exact R.len
  · have q := R.tm
    show TmOk W0 C H0 T _ H ρ.tm
    revert q
    cases ρ.tm with
    | none => exact fun q => q
    | some z =>
      intro ⟨t, e1, m⟩
      exact ⟨t, e1, cs _ _ m.s, cs _ _ m.g, ⟨m.o, nT t e1⟩, m.l, m.w⟩
  · rcases set_get hj with ⟨rfl, rfl⟩ | ⟨ne, hj'⟩
    · exact ⟨v, e1, conv v _ ok⟩
    · have q := R.sl j s hj'
      cases s with
      | un => trivial
      | d y => obtain ⟨u, e1, q⟩ := q; exact ⟨u, e1, dp_mono cs _ _ q⟩
      | own zs =>
        obtain ⟨b, ws, f1, q1, q2, q3, q4, q5⟩ := q
        exact ⟨b, ws, f1, ⟨q1, fun z => w.sepL i j Ψ zs b hs hj' f1 z⟩, q2, q3, q4, dpa_mono cs _ _ q5⟩
      | stm => exact q
      | plc => exact q
      | scr ns => obtain ⟨b, e1, q⟩ := q; exact ⟨b, e1, cs.seq q⟩
      | fz Φ => obtain ⟨b, e1, q⟩ := q; exact ⟨b, e1, Φ.mono cs q⟩
      | ow Ψ => trivial
  · rcases set_get h1 with ⟨_, q⟩ | ⟨_, h1'⟩
    · cases q
    rcases set_get h2 with ⟨_, q⟩ | ⟨_, h2'⟩
    · cases q
    exact R.apart j k xs ys b ne h1' h2' e1
  · refine ⟨fun j Ψ' h => ?_, fun j Ψ' b h r => ?_, fun j k Ψ1 Ψ2 b ne h1 h2 r1 r2 => ?_, fun j k Ψ1 xs b h1 h2 f r => ?_⟩
    · rcases set_get h with ⟨_, q⟩ | ⟨n1, h'⟩
      · cases q
      · obtain ⟨u, f1, q⟩ := w.ok j Ψ' h'
        exact ⟨u, f1, Ψ'.mono cs q⟩
    · rcases set_get h with ⟨_, q⟩ | ⟨n1, h'⟩
      · cases q
      · obtain ⟨q1, q2, q3⟩ := w.rin j Ψ' b h' r
        exact ⟨⟨q1, fun z => w.sep j i Ψ' Ψ b n1 h' hs r z⟩, q2, q3⟩
    · rcases set_get h1 with ⟨_, q⟩ | ⟨_, h1'⟩
      · cases q
      rcases set_get h2 with ⟨_, q⟩ | ⟨_, h2'⟩
      · cases q
      exact w.sep j k Ψ1 Ψ2 b ne h1' h2' r1 r2
    · rcases set_get h1 with ⟨_, q⟩ | ⟨_, h1'⟩
      · cases q
      rcases set_get h2 with ⟨_, q⟩ | ⟨_, h2'⟩
      · cases q
      exact w.sepL j k Ψ1 xs b h1' h2' f r
end

section
variable {F : Fam} {ρ ρ1 : En} {st : Stmt} {sts : List Stmt} {o : Out} {Ψ : Fo}
theorem bss0_freezeD (i : Nat) {x : PyData} (hs : ρ.sl[i]? = some (.ow Ψ)) (conv : ∀ v S O H, Ψ.ok v S H (cut O H) → Dq F.K (cut (fun b => O b ∧ ¬ S b) H) v x) (h : BSs0 F ⟨ρ.tm, ρ.sl.set i (.d x)⟩ sts o) : BSs0 F ρ sts o := by
  obtain ⟨t, p1, e1⟩ := h
  refine ⟨t, p1, fun C H0 T0 T O H σ D e R k => ?_⟩
  obtain ⟨O', R', s⟩ := R.freezeD hs (fun v S ok => conv v S O H ok)
  exact e1 C H0 T0 T O' H σ D e R' (k.mono s)
theorem dks_dqk {K : PySem.W.Frag} {Z : Hp} : ∀ {kvs : List (Key × V)} {ks : KD}, DKs K Z kvs ks → DqK K Z kvs (ks.map fun p => (kD p.1, p.2))
  | _, _, .nil => .nil
  | _, _, .cons h r => .cons h (dks_dqk r)
/-- a dict of one's own is data from now on -/
theorem bss0_dict (i : Nat) {ks : KD} (hs : ρ.sl[i]? = some (.ow (dcO F.K ks))) (h : BSs0 F ⟨ρ.tm, ρ.sl.set i (.d (dD ks))⟩ sts o) : BSs0 F ρ sts o := by
  refine bss0_freezeD i hs (fun v S O H ok => ?_) h
  obtain ⟨a, kvs, rfl, rfl, h3, h4⟩ := ok
  exact .dic (cut_some.mpr ⟨fun z => z.2 rfl, h3⟩) (dks_dqk (h4.mono (cut_sub fun b z => z.1)))
end
end TC

set_option maxRecDepth 100000
set_option maxHeartbeats 4000000
/-! Statements where nothing is lent, loops too: what is one's own may come to stand still within a loop. -/
namespace TC
open PySem PySem.Spec L2
def BS0 (F : Fam) (ρ : En) (st : Stmt) (o : Out) : Prop := ∃ t, (∀ X, Fits F X → PS X st t) ∧
  ∀ (C : AS) (H0 : Hp) (T0 T : Option Trip) (O : AS) (H : Hp) (σ : L2.St) (D : Ends), ExtT F.lc T0 T → Rep F.K C W0 H0 T O H σ ρ → EndOk F.W F.lc F.K C W0 H0 T0 O H D o → t D σ H
section
variable {F : Fam} {ρ ρ1 ρ2 : En} {st : Stmt} {sts sts2 : List Stmt} {o : Out} {Ψ : Fo} {Φ : Fz} {xs : List PyData} {c e : Expr} {pos : Pos}
theorem BS.to0 (h : BS F ρ st o) : BS0 F ρ st o := by
  obtain ⟨t, p1, e1⟩ := h
  exact ⟨t, p1, fun C H0 T0 T O H σ D e R k => e1 C W0 H0 T0 T O H σ D e R k⟩
theorem BSs0.uni {b : List Stmt} (h : BSs0 F ρ b o) : ∀ (C : AS) (H0 : Hp) (T0 T : Option Trip) (O : AS) (H : Hp) (σ : L2.St) (D : Ends), ExtT F.lc T0 T → Rep F.K C W0 H0 T O H σ ρ → EndOk F.W F.lc F.K C W0 H0 T0 O H D o → supS F b D σ H := by
  obtain ⟨t, p1, e1⟩ := h
  exact fun C H0 T0 T O H σ D e R k => ⟨t, p1, e1 C H0 T0 T O H σ D e R k⟩
theorem bss0_cons0 (h : BS0 F ρ st (.nx ρ1)) (r : BSs0 F ρ1 sts o) : BSs0 F ρ (st :: sts) o := by
  obtain ⟨t, p1, e1⟩ := h
  obtain ⟨u, p2, e2⟩ := r
  exact ⟨_, fun X hX => pss_cons (p1 X hX) (p2 X hX), fun C H0 T0 T O H σ D e R k => e1 C H0 T0 T O H σ _ e R fun σ' H' O' T' e' R' s => e2 C H0 T0 T' O' H' σ' D e' R' (k.mono s)⟩
theorem bss0_stop (h : BS0 F ρ st o) (ha : o.abr = true := by rfl) : BSs0 F ρ (st :: sts) o := by
  obtain ⟨t, p1, e1⟩ := h
  refine ⟨_, fun X hX => pss_cons (p1 X hX) pss_never, fun C H0 T0 T O H σ D e R k => e1 C H0 T0 T O H σ _ e R ?_⟩
  cases o with
  | nx => cases ha
  | bk => exact k
  | ct => exact k
  | ret => exact k
  | rz => exact k
theorem bss0_one (h : BS0 F ρ st o) : BSs0 F ρ [st] o := by
  obtain ⟨t, p1, e1⟩ := h
  exact ⟨_, fun X hX => pss_one (p1 X hX), e1⟩
theorem bss0_nil : BSs0 F ρ [] (.nx ρ) := bss_nil.to0
theorem bs0_ifT (h : BT F ρ c true ρ1) (h2 : BSs0 F ρ1 sts o) : BS0 F ρ (.If c sts sts2 pos) o := by
  obtain ⟨t, p1, e1⟩ := h
  obtain ⟨u, p2, e2⟩ := h2
  exact ⟨_, fun X hX => ps_if (p1 X hX) (p2 X hX) pss_never, fun C H0 T0 T O H σ D e R k => e1 C W0 H0 T O H σ R _ fun H1 R1 s1 => iteT (e2 C H0 T0 T O H1 σ D e R1 (k.mono s1))⟩
theorem bs0_ifF (h : BT F ρ c false ρ1) (h2 : BSs0 F ρ1 sts2 o) : BS0 F ρ (.If c sts sts2 pos) o := by
  obtain ⟨t, p1, e1⟩ := h
  obtain ⟨u, p2, e2⟩ := h2
  exact ⟨_, fun X hX => ps_if (p1 X hX) pss_never (p2 X hX), fun C H0 T0 T O H σ D e R k => e1 C W0 H0 T O H σ R _ fun H1 R1 s1 => iteF (e2 C H0 T0 T O H1 σ D e R1 (k.mono s1))⟩
theorem bss0_freeze (i : Nat) (hs : ρ.sl[i]? = some (.own xs)) (h : BSs0 F ⟨ρ.tm, ρ.sl.set i (.d (.list xs))⟩ sts o) : BSs0 F ρ sts o := by
  obtain ⟨t, p1, e1⟩ := h
  refine ⟨t, p1, fun C H0 T0 T O H σ D e R k => ?_⟩
  obtain ⟨O', R', s⟩ := R.freeze hs
  exact e1 C H0 T0 T O' H σ D e R' (k.mono s)
def LStep0 (F : Fam) (tg : Expr) (body : List Stmt) (x : PyData) (ρ : En) (o : Out) : Prop := ∃ ρb, BG F ρ tg x ρb ∧ BSs0 F ρb body o
theorem bs0_for {tg : Expr} (hi : BI F ρ tg e xs ρ1) (hl : Loop (LStep0 F tg sts) xs ρ1 o) (hcm : F.ex = none := by rfl) (hf : ∀ env x, foldedSetIterable e env x = pure x := by intro _ _; rfl) : BS0 F ρ (.For tg e sts [] pos) o := by
  obtain ⟨wi, p1, e1⟩ := hi
  refine ⟨tFor wi (supG F tg) (supS F sts), fun X hX => ps_for hX.po (hX.calm hcm) (p1 X hX) (supG_ok hX) (supS_ok hX) (hf _), fun C H0 T0 T O H σ D e R k => e1 C W0 H0 T O H σ R _ fun J H1 R1 s1 wk => ?_⟩
  have k1 := k.mono s1
  refine ⟨fun i m σ' H' => m = xs.length - i ∧ i ≤ xs.length ∧ ∃ ρi O' T', ExtT F.lc T0 T' ∧ Rep F.K C W0 H0 T' O' H' σ' ρi ∧ Same (cut O H1) (cut O' H') ∧ Loop (LStep0 F tg sts) (xs.drop i) ρi o,
    ⟨xs.length, by simp, Nat.zero_le _, ρ1, O, T, e, R1, Same.rfl', by rw [List.drop_zero]; exact hl⟩, fun i m σ' H' hw => ?_⟩
  obtain ⟨rfl, hi, ρi, O', T', e', R', s', L⟩ := hw
  obtain ⟨w1, w2⟩ := wk O' H' R'.alloc s' i
  by_cases hlt : i < xs.length
  · have hx : xs[i]? = some xs[i] := List.getElem?_eq_getElem hlt
    obtain ⟨w3, w4⟩ := w2 _ hx
    rw [List.drop_eq_getElem_cons hlt] at L
    refine .inr ⟨w3, fun σ2 H2 => ∃ ρi O2 T2, ExtT F.lc T0 T2 ∧ Rep F.K C W0 H0 T2 O2 H2 σ2 ρi ∧ Same (cut O H1) (cut O2 H2) ∧ Loop (LStep0 F tg sts) (xs.drop (i + 1)) ρi o, fun σ2 H2 h => ⟨xs.length - (i + 1), by omega, rfl, hlt, h⟩, fun v H2 y => ?_⟩
    obtain ⟨s2, dv⟩ := w4 v H2 y
    have R2 := R'.grow s2
    have s12 : Same (cut O H1) (cut O' H2) := s'.trans (cut_same s2)
    have go : ∀ {o1 : Out}, LStep0 F tg sts xs[i] ρi o1 → ∀ D', (∀ H3, Same (cut O' H2) (cut O' H3) → EndOk F.W F.lc F.K C W0 H0 T0 O' H3 D' o1) → supG F tg v σ' H2 fun σ3 H3 => supS F sts D' σ3 H3 := fun {o1} hs D' ke => by
      obtain ⟨ρb, g1, b1⟩ := hs
      exact g1.uni C W0 H0 T' O' H2 σ' R2 v dv _ fun σ3 H3 R3 s3 => b1.uni C H0 T0 T' O' H3 σ3 D' e' R3 (ke H3 s3)
    cases L with
    | nx h1 h2 => exact go h1 _ fun H3 s3 σ4 H4 O4 T4 e4 R4 s4 => ⟨_, O4, T4, e4, R4, (s12.trans s3).trans s4, h2⟩
    | ct h1 h2 => exact go h1 _ fun H3 s3 σ4 H4 O4 T4 e4 R4 s4 => ⟨_, O4, T4, e4, R4, (s12.trans s3).trans s4, h2⟩
    | bk h1 => exact go h1 _ fun H3 s3 σ4 H4 O4 T4 e4 R4 s4 => k1 σ4 H4 O4 T4 e4 R4 ((s12.trans s3).trans s4)
    | ret h1 => exact go h1 _ fun H3 s3 v H4 a1 a2 a3 => k1 v H4 a1 a2 a3
    | rz h1 => exact go h1 _ fun H3 s3 d σ4 H4 O4 T4 e4 R4 s4 => k1 d σ4 H4 O4 T4 e4 R4 ((s12.trans s3).trans s4)
  · have hi2 : i = xs.length := by omega
    rw [List.drop_eq_nil_of_le (by omega)] at L
    cases L
    exact .inl ⟨w1 hi2, k1 σ' H' O' T' e' R' s'⟩
end
end TC

set_option maxRecDepth 100000
set_option maxHeartbeats 4000000
/-! list(list). -/
namespace TC
open PySem PySem.Spec L2
section
variable {F : Fam} {ρ ρ1 : En} {e : Expr} {xs : List PyData} {pos p : Pos}
theorem bl_listL (hm : F.mg "list" = none) (ha : BE F ρ e (.list xs) ρ1) (hg : F.sc.names.lookup ("list" : Str) = some .globalImplicit := by rfl) (hs : ∀ env, starEach [e] env = (false, eval e env) :: starEach [] env := by intro _; rfl) : BL F ρ (.Call (.Name "list" p) [e] [] pos) xs ρ1 :=
  bl_cr (r := fun vs H Q => ∃ p ys, vs = [.ref p] ∧ (SqL F.K H p ys ∨ SqT F.K H p ys) ∧ ∀ l, H l = none → Q (.ref l) (upd H l (.lst ys))) (.inr ⟨"list", fun X hX => by rw [← hX.K]; exact call_list_of, by decide +kernel⟩) hm (bd1 ha hs) (fun O H vs al d Q q => by
    obtain ⟨v, rfl, d1⟩ := dqa1 d
    cases d1 with
    | @lst a us _ g1 g2 => exact ⟨a, us, rfl, .inl (SqL.of (cut_some.mp g1).2), fun l hl => q l us _ hl (same_new hl) upd_same (dpa_mono (cut_or1 (same_new hl) hl) _ _ g2)⟩) hg (by decide) (by decide) hs (fun _ => rfl)
end
end TC

set_option maxRecDepth 100000
set_option maxHeartbeats 4000000
/-! A tuple times 0; list.insert. -/
namespace TC
open PySem PySem.Spec PyProof.Rows L2
theorem tuple_mul0W (l : Addr) (items : Array Value) (n : Nat) (dd : Option Addr) (sl : Array (Option Value)) (u : Tok) (c1 : (items.isEmpty || (0 : Int) == 1) = false) :
    Meets (Builtin.«tuple.__mul__» ⟨[.ref l, .int 0 u], []⟩) (fun _ R s => s.heap.get? l = some { cls := .type "tuple", dict := dd, data := .seq items n, slots := sl } ∧
      R (.ok (.ret (Value.ref s.heap.objs.size))) { s with heap := s.heap.push { cls := Value.type "tuple", data := Data.seq #[] }, toks := s.toks }) :=
  .of_wp fun prog w A R s h => by
    obtain ⟨hp, g, d, tk, os⟩ := s
    obtain ⟨hl, h⟩ := h
    have f1 := AutoSeq1.idx_int
    wp_walk using wpAny_loadPart' hl
    repeat (first
      | (refine wpAny_ite_false (decide_eq_false (by rw [c1]; exact Bool.false_ne_true)) ?_; wp_walk using wpAny_loadPart' hl))
    exact ⟨_, rfl, h⟩
def rRepT0 (K : PySem.W.Frag) : R2 := fun x y H Q => ∃ l xs, x = .ref l ∧ y = .int 0 ∧ SqT K H l xs ∧ xs ≠ [] ∧ ∀ p, H p = none → Q (.ref p) (upd H p (.tup []))
section
variable {X : Cx}
theorem op_repT0 : OpR X (binaryOp .Mult) (rRepT0 X.K) := by
  intro pins s σ H x y v u Q I rx ry h
  obtain ⟨l, xs, rfl, rfl, hT, hne, q⟩ := h
  cases rx
  obtain ⟨t, rfl⟩ := ry
  obtain ⟨its, r, ⟨⟨cls, dd, data, sl⟩, ho, hc, n, hd⟩, hs⟩ := I.tuple hT
  simp only at hc hd
  subst hc hd
  have hle : its.length = xs.length := r.length.symm
  have hn : its ≠ [] := fun e => hne (by
    rw [e] at hle
    exact List.eq_nil_of_length_eq_zero hle.symm)
  have hi : its.toArray.isEmpty = false := by
    cases its with
    | nil => exact absurd rfl hn
    | cons a b => rfl
  have c1 : (its.toArray.isEmpty || (0 : Int) == 1) = false := by rw [hi]; rfl
  refine wpAny_binaryOp_repeat_ref (T := "tuple") (U := "int") (by decide) ⟨_, ho, rfl⟩ (fun s' => typeIs_int s' 0 t) noFill_tuple_mul F.fills_int_mul F.slot_int_rmul repeat_tuple F.slot_int_index.lookup
    (call_meets F.slot_int_rmul (typeIs_int s 0 t) F.entry_int_rmul (F.args_int_rmul_2 _ _) (int_rmul_tuple 0 t l its.toArray n dd sl)
      ⟨ho, rfl, ⟨_, ho, rfl⟩, call_meets F.slot_tuple_mul ⟨_, ho, rfl⟩ F.entry_tuple_mul (F.args_tuple_mul_2 _ _) (tuple_mul0W l its.toArray n dd sl t c1) ⟨ho, ?_⟩⟩)
  refine ⟨.ref s.heap.objs.size, _, I.laid (t' := s.toks) (o := .tup []) (fun b ob q => Heap.get?_push_of_some _ q) (Nat.le_refl _) ?_, rfl, q _ (I.hok.fresh (Nat.le_refl _))⟩
  exact ⟨Nat.zero_le _, [], .nil, IsTup.new _ _⟩
end
section
variable {F : Fam} {ρ ρ1 ρ2 : En} {a b e : Expr} {x : PyData} {xs ys : List PyData} {pos p apos cpos : Pos} {j : Int}
theorem be_repT0 (ha : BE F ρ a (.tuple xs) ρ1) (hb : BE F ρ1 b (.int 0) ρ2) (hne : xs ≠ []) : BE F ρ (.BinOp a .Mult b pos) (.tuple []) ρ2 :=
  be_bin (r := rRepT0 F.K) (fun X hX => by rw [← hX.K]; exact op_repT0) ha hb fun O H v w al d1 d2 Q q => by
    cases d2
    cases d1 with
    | @tup a1 us _ g1 g2 =>
      have hu := dpa_len g2
      refine ⟨a1, us, rfl, rfl, seqT_mono cut_full g1, fun z => hne (List.eq_nil_of_length_eq_zero (by rw [← hu, z]; rfl)), fun p hp => ?_⟩
      exact q _ _ (same_new hp) (.tup (.inl (.inl (cut_some.mpr ⟨fun z => al _ z hp, upd_same⟩))) .nil)
/-- name.insert(i, e) -/
theorem be_insert (i : Nat) {n : Str} (hs : ρ.sl[i]? = some (.own xs)) (h0 : BE F ρ a (.int j) ρ1) (h : BE F ρ1 e x ρ2) (hs1 : ρ2.sl[i]? = some (.own ys)) (hz : ys.length ≤ 100000) (hj : 0 ≤ j) (hj2 : j ≤ 100000) (hN : F.N[i]? = some n := by rfl) (hv : Vis F.sc n := by first | exact Or.inl rfl | exact Or.inr (Or.inl rfl) | exact Or.inr (Or.inr rfl))
    (hd : (n == ("__debug__" : Str)) = false := by decide) (hcd : (n == ("__classdict__" : Str)) = false := by decide)
    (h1 : ∀ env, attributeBase (.Name n p) "insert" env (eval (.Name n p) env) = eval (.Name n p) env := by intro _; rfl)
    (h2 : ∀ env, ((backTo cpos (starEach [a, e] env)).all (fun x => !x.1) && (backToKw cpos (keywordEach [] env)).all (fun x => x.1.isSome) && decide (([a, e] : List Expr).length + ([] : List Keyword).length + (if ([] : List Keyword).isEmpty then 0 else 1) < 30)) = true := by intro _; rfl)
    (h3 : (apos.endLine == cpos.line) = true := by rfl) (h4 : ∀ env, starEach [a, e] env = (false, eval a env) :: starEach [e] env := by intro _; rfl) (h5 : ∀ env, starEach [e] env = (false, eval e env) :: starEach [] env := by intro _; rfl)
    (h6 : ∀ env, (backTo cpos (starEach [e] env)).any (·.1) = false := by intro _; rfl) :
    BE F ρ (.Call (.Attribute (.Name n p) "insert" apos) [a, e] [] cpos) .none ⟨ρ2.tm, ρ2.sl.set i (.own (ys.take j.toNat ++ [x] ++ ys.drop j.toNat))⟩ := by
  obtain ⟨t0, p0, e0⟩ := h0
  obtain ⟨t, p1, e1⟩ := h
  refine ⟨tBM F.K "list" (fun x vs H Q => ∃ (l : Addr) (xs : List V) (i : Int) (y : V), x = .ref l ∧ vs = [.int i, y] ∧ H l = some (.lst xs) ∧ xs.length < sizeLine ∧ 0 ≤ i ∧ i < 2 ^ 63 ∧
    Q .non (upd H l (.lst (xs.take i.toNat ++ [y] ++ xs.drop i.toNat)))) (tVar i) (tCons t0 (tCons t tNil)), fun X hX => ?_, fun C W H0 T O H σ R Q q => ?_⟩
  · have h := pe_bm (X := X) (apos := apos) (cpos := cpos) PySem.F.plainAttrs_list PySem.F.slot_list_insert PySem.F.type_list_insert mt_insert (pe_var (pos := p) (by rw [hX.N]; exact hN) (hX.vis hv) hd hcd) (pa_cons (p0 X hX) (pa_cons (p1 X hX) pa_nil (h5 _)) (h4 _)) (h1 _) (h2 _) h3 (h4 _) (h6 _)
    rw [hX.K] at h
    exact h
  · obtain ⟨l, vs, q1, _, _, _, q4, _⟩ := R.sl i _ hs
    refine ⟨_, q1, tyV_list q4, e0 C W H0 T O H σ R _ fun u H1 R1 s1 d1 => e1 C W H0 T O H1 σ R1 _ fun v H2 R2 s2 d2 => ?_⟩
    cases d1
    obtain ⟨l', ws, r1, o1, c1, t1, r4, r5⟩ := R2.sl i _ hs1
    rw [q1] at r1
    cases r1
    refine ⟨l, ws, j, v, rfl, rfl, r4, Nat.lt_of_le_of_lt (by rw [dpa_len r5]; exact hz) (by decide), hj, by omega, ?_⟩
    refine q _ _ (R2.mut hs1 q1 (dpa_app (dpa_app (dpa_take _ r5) (.cons d2 .nil)) (dpa_drop _ r5))) ?_ .non
    rw [cut_upd o1]
    exact s1.trans s2
end
end TC

set_option maxRecDepth 100000
set_option maxHeartbeats 4000000
set_option maxRecDepth 100000
set_option maxHeartbeats 4000000
namespace K51
open PySem PySem.Spec L2 TC
def topS (i : Nat) : Stmt := PySem.Challenge.pw_trialcopies_k51_fewest_exchanges.main.body.getD i (.Pass ⟨0, 0, 0, 0⟩)
abbrev sIsWhole : Stmt := topS 1
abbrev nIsWhole : List Str := ["value", "least", "most"]
theorem scIsWhole : FnScope nIsWhole ["value", "least", "most"] (defScope sIsWhole) := ⟨rfl, rfl, rfl, by decide +kernel, rfl, by decide +kernel, by decide +kernel⟩
abbrev sIndependent : Stmt := topS 3
abbrev nIndependent : List Str := ["one", "other"]
theorem scIndependent : FnScope nIndependent ["one", "other"] (defScope sIndependent) := ⟨rfl, rfl, rfl, by decide +kernel, rfl, by decide +kernel, by decide +kernel⟩
abbrev sDepends : Stmt := topS 4
abbrev nDepends : List Str := ["one", "other"]
theorem scDepends : FnScope nDepends ["one", "other"] (defScope sDepends) := ⟨rfl, rfl, rfl, by decide +kernel, rfl, by decide +kernel, by decide +kernel⟩
abbrev sJudgeExchanges : Stmt := topS 5
abbrev nJudgeExchanges : List Str := ["deeds", "others", "places", "row", "place"]
theorem scJudgeExchanges : FnScope nJudgeExchanges ["deeds", "others", "places"] (defScope sJudgeExchanges) := ⟨rfl, rfl, rfl, by decide +kernel, rfl, by decide +kernel, by decide +kernel⟩
abbrev sExchanges : Stmt := topS 6
abbrev nExchanges : List Str := ["deeds", "others", "row", "places", "target", "deed", "start", "place"]
theorem scExchanges : FnScope nExchanges ["deeds", "others"] (defScope sExchanges) := ⟨rfl, rfl, rfl, by decide +kernel, rfl, by decide +kernel, by decide +kernel⟩
abbrev sCellL : Stmt := topS 8
abbrev nCellL : List Str := ["script", "k"]
theorem scCellL : FnScope nCellL ["script", "k"] (defScope sCellL) := ⟨rfl, rfl, rfl, by decide +kernel, rfl, by decide +kernel, by decide +kernel⟩
abbrev sDrawsL : Stmt := topS 9
abbrev nDrawsL : List Str := ["cell", "count", "result", "rest", "k", "mixed"]
theorem scDrawsL : FnScope nDrawsL ["cell", "count"] (defScope sDrawsL) := ⟨rfl, rfl, rfl, by decide +kernel, rfl, by decide +kernel, by decide +kernel⟩
abbrev sIsNumberL : Stmt := topS 10
abbrev nIsNumberL : List Str := ["value", "least", "most"]
theorem scIsNumberL : FnScope nIsNumberL ["value", "least", "most"] (defScope sIsNumberL) := ⟨rfl, rfl, rfl, by decide +kernel, rfl, by decide +kernel, by decide +kernel⟩
abbrev sDeedL : Stmt := topS 11
abbrev nDeedL : List Str := ["n", "at", "kind", "trial", "incarnation", "many"]
theorem scDeedL : FnScope nDeedL ["n", "at"] (defScope sDeedL) := ⟨rfl, rfl, rfl, by decide +kernel, rfl, by decide +kernel, by decide +kernel⟩
abbrev sDeedsL : Stmt := topS 12
abbrev nDeedsL : List Str := ["cell", "most", "n", "start", "k"]
theorem scDeedsL : FnScope nDeedsL ["cell", "most"] (defScope sDeedsL) := ⟨rfl, rfl, rfl, by decide +kernel, rfl, by decide +kernel, by decide +kernel⟩
abbrev sCopiesL : Stmt := topS 13
abbrev nCopiesL : List Str := ["deed", "other"]
theorem scCopiesL : FnScope nCopiesL ["deed", "other"] (defScope sCopiesL) := ⟨rfl, rfl, rfl, by decide +kernel, rfl, by decide +kernel, by decide +kernel⟩
abbrev sFreeL : Stmt := topS 14
abbrev nFreeL : List Str := ["one", "other"]
theorem scFreeL : FnScope nFreeL ["one", "other"] (defScope sFreeL) := ⟨rfl, rfl, rfl, by decide +kernel, rfl, by decide +kernel, by decide +kernel⟩
abbrev sMixedL : Stmt := topS 15
abbrev nMixedL : List Str := ["deeds", "cell", "many", "n", "found", "places", "k", "place"]
theorem scMixedL : FnScope nMixedL ["deeds", "cell", "many"] (defScope sMixedL) := ⟨rfl, rfl, rfl, by decide +kernel, rfl, by decide +kernel, by decide +kernel⟩
abbrev sLedL : Stmt := topS 16
abbrev nLedL : List Str := ["deeds", "places", "found", "place"]
theorem scLedL : FnScope nLedL ["deeds", "places"] (defScope sLedL) := ⟨rfl, rfl, rfl, by decide +kernel, rfl, by decide +kernel, by decide +kernel⟩
abbrev sFewestL : Stmt := topS 17
abbrev nFewestL : List Str := ["deeds", "others", "spots", "k", "before", "j", "count", "i", "deed"]
theorem scFewestL : FnScope nFewestL ["deeds", "others"] (defScope sFewestL) := ⟨rfl, rfl, rfl, by decide +kernel, rfl, by decide +kernel, by decide +kernel⟩
abbrev sFixedL : Stmt := topS 18
abbrev nFixedL : List Str := ["save", "train", "crash", "rows"]
theorem scFixedL : FnScope nFixedL [] (defScope sFixedL) := ⟨rfl, rfl, rfl, by decide +kernel, rfl, by decide +kernel, by decide +kernel⟩
abbrev sLaw : Stmt := topS 19
abbrev nLaw : List Str := ["script", "deeds", "rows", "others", "due", "found", "turn"]
theorem scLaw : FnScope nLaw ["script"] (defScope sLaw) := ⟨rfl, rfl, rfl, by decide +kernel, rfl, by decide +kernel, by decide +kernel⟩
end K51

set_option maxRecDepth 100000
set_option maxHeartbeats 400000
-- MAC
local macro_rules | `(tactic| k_few) => `(tactic| first
  | assumption | rfl | trivial | (intro _; rfl) | (intro _ _; rfl) | decide | omega
  | exact .inr (by decide) | exact .inl (by decide) | exact .inl ⟨by omega, by omega⟩ | exact .inr ⟨by omega, by omega⟩
  | exact ⟨by decide, by decide⟩ | exact ⟨by omega, by omega⟩ | exact ⟨by decide, by decide, by decide⟩ | fail)
local macro_rules | `(tactic| k_put) => `(tactic| first
  | exact TC.c_lt | exact TC.c_le | exact TC.c_gt | exact TC.c_ge | exact TC.c_eqI | exact TC.c_neI | exact TC.c_isN | exact TC.c_notN
  | exact TC.c_eqStr (by first | assumption | decide +kernel) (by first | assumption | decide +kernel)
  | exact TC.c_eqP | exact TC.c_neP
  | exact TC.c_eq (by first | assumption | decide +kernel) (by first | assumption | decide +kernel)
  | exact TC.c_ne (by first | assumption | decide +kernel) (by first | assumption | decide +kernel)
  | exact TC.c_inF (by rfl) (by rfl) (by first | exact Or.inl rfl | exact Or.inr rfl)
  | assumption | fail)
local macro_rules | `(tactic| k_one) => `(tactic| first
  | exact TC.be_nm rfl
  | exact TC.be_int | exact TC.be_str | exact TC.be_bl | exact TC.be_non
  | (refine' TC.be_gint ?h; (case h => assumption))
  | (refine' TC.q_same ?h0 ?h1 ?h2 ?h3 ?h4 ?h5 ?h6 ?h7 ?h8; (case h0 => (first | assumption | exact TC.Cal.blk (by assumption))); (case h1 => k_one); (case h2 => k_one); (case h3 => (first | rfl | assumption | (symm; assumption))); (case h4 => k_few); (case h5 => rfl); (case h6 => (intro _; rfl)); (case h7 => (intro _; rfl)); (case h8 => (intro _; rfl)))
  | (refine' TC.q_cell ?h0 rfl ?h2 ?h3 ?h4 ?h5 ?h6; (case h0 => (first | assumption | exact TC.Cal.blk (by assumption))); (case h2 => k_one); (case h3 => k_few); (case h4 => rfl); (case h5 => (intro _; rfl)); (case h6 => (intro _; rfl)))
  | (refine' TC.q_next ?h0 rfl ?h2 ?h3 ?h4; (case h0 => (first | assumption | exact TC.Cal.blk (by assumption))); (case h2 => k_one); (case h3 => k_few); (case h4 => (first | assumption | exact TC.Cal.blk (by assumption))))
  | (refine' TC.q_int ?h0 ?h1 ?h2 ?h3; (case h0 => (first | assumption | exact TC.Cal.blk (by assumption))); (case h1 => k_one); (case h2 => rfl); (case h3 => (intro _; rfl)))
  | (refine' TC.q_intB ?h0 ?h1 ?h2 ?h3; (case h0 => (first | assumption | exact TC.Cal.blk (by assumption))); (case h1 => k_one); (case h2 => rfl); (case h3 => (intro _; rfl)))
  | (refine' TC.q_len ?h0 ?h1 ?h2 ?h3 ?h4; (case h0 => (first | assumption | exact TC.Cal.blk (by assumption))); (case h1 => k_one); (case h2 => (first | exact Or.inl rfl | exact Or.inr rfl)); (case h3 => rfl); (case h4 => (intro _; rfl)))
  | (refine' TC.q_abs ?h0 ?h1 ?h2 ?h3; (case h0 => (first | assumption | exact TC.Cal.blk (by assumption))); (case h1 => k_one); (case h2 => rfl); (case h3 => (intro _; rfl)))
  | (refine' TC.q_min ?h0 ?h1 ?h2 ?h3 ?h4 ?h5 ?h6; (case h0 => (first | assumption | exact TC.Cal.blk (by assumption))); (case h1 => k_one); (case h2 => k_one); (case h3 => rfl); (case h4 => (intro _; rfl)); (case h5 => (intro _; rfl)); (case h6 => (intro _; rfl)))
  | (refine' TC.q_max ?h0 ?h1 ?h2 ?h3 ?h4 ?h5 ?h6; (case h0 => (first | assumption | exact TC.Cal.blk (by assumption))); (case h1 => k_one); (case h2 => k_one); (case h3 => rfl); (case h4 => (intro _; rfl)); (case h5 => (intro _; rfl)); (case h6 => (intro _; rfl)))
  | (refine' TC.q_sum ?h0 ?h1 ?h2 ?h3; (case h0 => (first | assumption | exact TC.Cal.blk (by assumption))); (case h1 => k_one); (case h2 => rfl); (case h3 => (intro _; rfl)))
  | (refine' TC.q_tupL ?h0 ?h1 ?h2 ?h3; (case h0 => (first | assumption | exact TC.Cal.blk (by assumption))); (case h1 => k_one); (case h2 => rfl); (case h3 => (intro _; rfl)))
  | (refine' TC.q_append rfl ?h1 ?h2; (case h1 => k_one); (case h2 => (first | assumption | exact Nat.le_of_ble_eq_true rfl | omega | (simp; done) | (simp; omega))))
  | (refine' TC.q_extend rfl ?h1 ?h2; (case h1 => k_one); (case h2 => (first | assumption | exact Nat.le_of_ble_eq_true rfl | omega | (simp; done) | (simp; omega))))
  | (refine' TC.be_add ?h0 ?h1; (case h0 => k_one); (case h1 => k_one))
  | (refine' TC.be_sub ?h0 ?h1; (case h0 => k_one); (case h1 => k_one))
  | (refine' TC.be_mul ?h0 ?h1 ?h2; (case h0 => k_one); (case h1 => k_one); (case h2 => k_few))
  | (refine' TC.be_mod ?h0 ?h1 ?h2; (case h0 => k_one); (case h1 => k_one); (case h2 => k_few))
  | (refine' TC.be_fdiv ?h0 ?h1 ?h2; (case h0 => k_one); (case h1 => k_one); (case h2 => k_few))
  | (refine' TC.be_pow ?h0 ?h1 ?h2; (case h0 => k_one); (case h1 => k_one); (case h2 => k_few))
  | (refine' TC.be_neg ?h0; (case h0 => k_one))
  | (refine' TC.be_c ?h0 ?h1 ?h2; (case h0 => k_one); (case h1 => k_one); (case h2 => k_put))
  | (refine' TC.be_not ?h0; (case h0 => k_one))
  | (refine' TC.be_one ?h0; (case h0 => k_one))
  | (refine' TC.be_and ?h0 ?h1; (case h0 => k_one); (case h1 => (intro _; k_one)))
  | (refine' TC.be_or ?h0 ?h1; (case h0 => k_one); (case h1 => (intro _; k_one)))
  | (refine' TC.q_chain ?h0 ?h1 ?h2 ?h3 ?h4 ?h5; (case h0 => k_one); (case h1 => k_one); (case h2 => k_one); (case h3 => k_put); (case h4 => k_put); (case h5 => rfl))
  | (refine' TC.q_ixO rfl ?h1 ?h2 ?h3; (case h1 => k_one); (case h2 => k_few); (case h3 => (intro _ _; rfl)))
  | (refine' TC.q_ix ?h0 ?h1 ?h2 ?h3 ?h4; (case h0 => k_one); (case h1 => k_one); (case h2 => (first | exact Or.inl rfl | exact Or.inr rfl)); (case h3 => k_few); (case h4 => (intro _ _; rfl)))
  | (refine' TC.q_tup ?h0 ?h1; (case h0 => k_get); (case h1 => (first | assumption | exact Nat.le_of_ble_eq_true rfl | omega | (simp; done) | (simp; omega))))
  | (refine' TC.q_slT ?h0 ?h1 ?h2; (case h0 => k_one); (case h1 => k_fold); (case h2 => k_fold))
  | (refine' TC.be_catT ?h0 ?h1 ?h2; (case h0 => k_one); (case h1 => k_one); (case h2 => (first | assumption | exact Nat.le_of_ble_eq_true rfl | omega | (simp; done) | (simp; omega))))
  | (refine' TC.be_ofL ?h0; (case h0 => k_data))
  | fail)
local macro_rules | `(tactic| k_get) => `(tactic| first
  | exact TC.bd_nil | exact TC.ba_nil
  | (refine' TC.q_cons ?h0 ?h1 ?h2; (case h0 => k_one); (case h1 => k_get); (case h2 => (intro _; rfl)))
  | (refine' TC.q_acons ?h0 ?h1 ?h2; (case h0 => k_one); (case h1 => k_get); (case h2 => (intro _; rfl)))
  | (refine' TC.q_ascr rfl ?h1; (case h1 => k_get))
  | (refine' TC.q_bas rfl ?h1 ?h2; (case h1 => k_get); (case h2 => rfl))
  | fail)
local macro_rules | `(tactic| k_fold) => `(tactic| first
  | exact TC.bo_none
  | (refine' TC.bo_some ?h0; (case h0 => k_one))
  | fail)
local macro_rules | `(tactic| k_data) => `(tactic| first
  | (refine' TC.q_lst ?h0 ?h1; (case h0 => k_get); (case h1 => (first | assumption | exact Nat.le_of_ble_eq_true rfl | omega | (simp; done) | (simp; omega))))
  | (refine' TC.q_slL ?h0 ?h1 ?h2; (case h0 => k_one); (case h1 => k_fold); (case h2 => k_fold))
  | (refine' TC.q_listT ?h0 ?h1 ?h2 ?h3; (case h0 => (first | assumption | exact TC.Cal.blk (by assumption))); (case h1 => k_one); (case h2 => rfl); (case h3 => (intro _; rfl)))
  | (refine' TC.bl_cat ?h0 ?h1 ?h2; (case h0 => k_one); (case h1 => k_one); (case h2 => (first | assumption | exact Nat.le_of_ble_eq_true rfl | omega | (simp; done) | (simp; omega))))
  | (refine' TC.bl_rep ?h0 ?h1 ?h2 ?h3 ?h4; (case h0 => k_one); (case h1 => k_one); (case h2 => k_few); (case h3 => k_few); (case h4 => (first | assumption | exact Nat.le_of_ble_eq_true rfl | omega | (simp; done) | (simp; omega))))
  | fail)
local macro_rules | `(tactic| k_here) => `(tactic| first
  | (refine' TC.bt_c ?h0 ?h1 ?h2; (case h0 => k_one); (case h1 => k_one); (case h2 => k_put))
  | (refine' TC.bt_not ?h0; (case h0 => k_here))
  | (refine' TC.BW.bt ?h0; (case h0 => k_not))
  | (refine' TC.BE.bt ?h0 ?h1; (case h0 => k_one); (case h1 => (intro _ _; rfl)))
  | fail)
local macro_rules | `(tactic| k_not) => `(tactic| first
  | (refine' TC.bw_and1 ?h0; (case h0 => k_here))
  | (refine' TC.bw_or1 ?h0; (case h0 => k_here))
  | (refine' TC.bw_andD ?h0 ?h1; (case h0 => k_here); (case h1 => (intro _; k_not)))
  | (refine' TC.bw_orD ?h0 ?h1; (case h0 => k_here); (case h1 => (intro _; k_not)))
  | fail)
-- END MAC
namespace K51
open PySem PySem.Spec L2 TC DM
section
variable {P : Program} {w : World} {K : PySem.W.Frag} {mg : Str → Option Value} {base : Heap}
theorem ok_cell {f : Addr} {fd : FuncData} (Fn : Fun K "_law_cell" "_law_cell" sCellL f fd) (G : Gs mg) : FnOk P w K mg base CX0 1 f fd ["script", "k"] (spP K RlCell) := by
  refine def_okP Fn scCellL (by decide) (fun ss r h => ?_) fun ss r h => ?_
  · obtain ⟨ns, k, rfl, _⟩ := h; rfl
  obtain ⟨ns, k, rfl, rfl⟩ := h
  refine ⟨.ret _ none, ?_, rfl⟩
  show BSs _ ⟨none, [.scr ns, .d (.int (k : Int))]⟩ _ _
  by_cases h : (k : Int) < (ns.length : Int)
  · have hk : k < ns.length := by omega
    refine bss_stop (bs_ifT ((bt_c (be_name 1 rfl) (be_lenS 0 rfl G.len) c_lt).is (decide_eq_true h)) (bss_one (q_retP (be_ixS 0 rfl (be_name 1 rfl) (atI_nn (by omega) ?_)))))
    rw [Int.toNat_natCast, List.getD_eq_getElem?_getD, List.getElem?_eq_getElem hk]
    rfl
  · refine bss_cons (bs_ifF ((bt_c (be_name 1 rfl) (be_lenS 0 rfl G.len) c_lt).is (decide_eq_false h)) bss_nil) (bss_one ?_)
    have e : ns.getD k 0 = 0 := by
      rw [List.getD_eq_getElem?_getD, List.getElem?_eq_none_iff.mpr (by omega)]; rfl
    rw [e]
    exact q_retP be_int
theorem ok_draws {f : Addr} {fd : FuncData} (Fn : Fun K "_law_draws" "_law_draws" sDrawsL f fd) (G : Gs mg) : FnOk P w K mg base CX0 1 f fd ["cell", "count"] (spP K RlDraws2) := by
  refine def_okP Fn scDrawsL (by decide) (fun ss r h => ?_) fun ss r h => ?_
  · obtain ⟨c, m, rfl, _⟩ := h; rfl
  obtain ⟨c, m, rfl, hm, rfl⟩ := h
  refine ⟨.ret _ none, ?_, rfl⟩
  have G' : Gs (fam P w K mg base nDrawsL (defScope sDrawsL) 0).mg := G
  show BSs _ ⟨none, [.d (.int c), .d (.int (m : Int)), .un, .un, .un, .un]⟩ _ _
  refine bss_cons (bs_setL 2 (bl_lst bd_nil)) ?_
  refine bss_cons (bs_setP 3 (by k_one)) ?_
  let env : Nat → En := fun j => ⟨none, [.d (.int c), .d (.int (m : Int)), .own ((dst2 c j).2.map .int), .d (.int (dst2 c j).1), .un, .un]⟩
  refine bss_cons (ρ1 := env m) (bs_for (bi_range1 (j := (m : Int)) (be_nm rfl) G.range (by omega)) (loop_rg (n := m) env fun j hj => ⟨_, bg_name 4, ?_⟩)) (bss_one (bs_retO 2 rfl))
  have hz : ((dst2 c j).2.map PyData.int).length ≤ 100000 := by
    rw [List.length_map, dst2_len]; omega
  have e0 : (0 : Int) + (j : Int) = j := by omega
  rw [e0]
  have hb : 0 ≤ (c * 48271 + (j : Int) * 69621 + 1) % 2147483647 ∧ (c * 48271 + (j : Int) * 69621 + 1) % 2147483647 < 2147483647 := ⟨Int.emod_nonneg _ (by decide), Int.emod_lt_of_pos _ (by decide)⟩
  have cm : ∀ m : Int, 0 ≤ m ∧ m < 2147483647 → CMul m m := fun m h => .inl ⟨by omega, by omega⟩
  have e : env (j + 1) = ⟨none, [.d (.int c), .d (.int (m : Int)), .own ((dst2 c (j + 1)).2.map .int), .d (.int (dst2 c (j + 1)).1), .un, .un]⟩ := rfl
  rw [e]
  show BSs _ ⟨none, [.d (.int c), .d (.int (m : Int)), .own ((dst2 c j).2.map .int), .d (.int (dst2 c j).1), .d (.int (j : Int)), .un]⟩ _ _
  have hm2 := cm _ hb
  refine bss_cons (bs_setP 5 (x := .int ((c * 48271 + (j : Int) * 69621 + 1) % 2147483647)) (be_mod (q_int G' (be_add (be_add (be_mul (be_nm rfl) be_int (.inr (by decide))) (be_mul (be_nm rfl) be_int (.inr (by decide)))) be_int) rfl (fun _ => rfl)) be_int (by decide))) ?_
  by_cases h : (10 : Int) ^ Int.toNat 18 ≤ c
  · rw [dst2_pos h, ← app_int]
    refine' bss_weakN ?h ?w
    case h => exact bss_one (bs_ifT (BT.is (bt_c (be_nm rfl) (be_pow be_int be_int ⟨by decide, by decide, by decide⟩) c_ge) (decide_eq_true h)) (bss_cons (bs_expr (by k_one)) (bss_one (bs_setP 3 (by k_one)))))
    case w => exact Les.le (.same (.same (.same (.same (.un (.un .nil))))))
  · rw [dst2_neg h, ← app_int]
    refine' bss_weakN ?h ?w
    case h => exact bss_one (bs_ifF (BT.is (bt_c (be_nm rfl) (be_pow be_int be_int ⟨by decide, by decide, by decide⟩) c_ge) (decide_eq_false h)) (bss_one (bs_expr (q_append (m := 2) (tm' := none) rfl (be_fdiv (be_mod (q_int G' (be_add (be_mul (be_nm rfl) (be_nm rfl) hm2) (be_mul (be_nm rfl) be_int (.inr (by decide)))) rfl (fun _ => rfl)) be_int (by decide)) be_int ⟨by decide, by decide⟩) hz))))
    case w => exact Les.le (.same (.same (.same (.same (.un (.un .nil))))))
def RlTwo (f : De → De → Bool) : List Sl → Res → Prop := fun ss r => ∃ d e, ss = [.d (deD d), .d (deD e)] ∧ Ok d ∧ Ok e ∧ r = .d (.bool (f d e))
theorem q_two {F : Fam} {ρ ρ1 ρ2 : En} {a b : Expr} {p pos : Pos} {f : De → De → Bool} {nme : Str} {d e : De} (c : Cal F nme (spP F.K (RlTwo f))) (h1 : BE F ρ a (deD d) ρ1) (h2 : BE F ρ1 b (deD e) ρ2) (o1 : Ok d) (o2 : Ok e) (hg : F.sc.names.lookup nme = some .globalImplicit := by rfl) (hdb : (nme == ("__debug__" : Str)) = false := by decide)
    (he : ∀ env, starEach [a, b] env = (false, eval a env) :: starEach [b] env := by intro _; rfl) (he2 : ∀ env, starEach [b] env = (false, eval b env) :: starEach [] env := by intro _; rfl) (hp : ∀ env, (backTo pos (starEach [b] env)).any (·.1) = false := by intro _; rfl) :
    BE F ρ (.Call (.Name nme p) [a, b] [] pos) (.bool (f d e)) ρ2 := be_call c (ba_cons h1 (ba_cons h2 ba_nil he2) he) ⟨d, e, rfl, o1, o2, rfl⟩ rfl hg hdb he hp
theorem ok_depends {f : Addr} {fd : FuncData} (Fn : Fun K "depends" "depends" sDepends f fd) : FnOk P w K mg base CX0 1 f fd ["one", "other"] (spP K (RlTwo dep)) := by
  refine def_okP Fn scDepends (by decide) (fun ss r h => ?_) fun ss r h => ?_
  · obtain ⟨d, e, rfl, _⟩ := h; rfl
  obtain ⟨⟨n, l⟩, ⟨m, k⟩, rfl, h1, h2, rfl⟩ := h
  refine ⟨.ret _ none, ?_, rfl⟩
  show BSs _ ⟨none, [.d (deD (n, l)), .d (deD (m, k))]⟩ _ (.ret (.d (.bool (dep (n, l) (m, k)))) none)
  have a1 := at0 (n := n) (l := l)
  have a2 := at0 (n := m) (l := k)
  have a0 := names_ok n h1.1
  have b0 := names_ok m h2.1
  have b1 := at1 (n := m) (l := k) 0 1 rfl (by have := h2.2.1; exact this)
  refine' bss_one (q_retP ?e)
  case e =>
  refine' be_and (k := decide (n = "copy")) ?h fun hc => ?g
  case h => k_one
  case g =>
  have a3 := at1 (n := n) (l := l) 2 3 rfl (by have := h1.2.2.1 (of_decide_eq_true hc); exact this)
  k_one
theorem ok_independent {f : Addr} {fd : FuncData} (Fn : Fun K "independent" "independent" sIndependent f fd) (cD : Cal (fam P w K mg base nIndependent (defScope sIndependent) 1) "depends" (spP K (RlTwo dep))) :
    FnOk P w K mg base CX0 2 f fd ["one", "other"] (spP K (RlTwo ind)) := by
  refine def_okP Fn scIndependent (by decide) (fun ss r h => ?_) fun ss r h => ?_
  · obtain ⟨d, e, rfl, _⟩ := h; rfl
  obtain ⟨⟨n, l⟩, ⟨m, k⟩, rfl, h1, h2, rfl⟩ := h
  refine ⟨.ret _ none, ?_, rfl⟩
  have a1 := at0 (n := n) (l := l)
  have a2 := at0 (n := m) (l := k)
  have a3 := at1 (n := n) (l := l) 0 1 rfl (by have := h1.2.1; exact this)
  have a4 := at1 (n := m) (l := k) 0 1 rfl (by have := h2.2.1; exact this)
  have a0 := names_ok n h1.1
  have b0 := names_ok m h2.1
  show BSs _ ⟨none, [.d (deD (n, l)), .d (deD (m, k))]⟩ _ (.ret (.d (.bool (if (decide (n = "drop") || (decide (m = "drop") || decide (l.getD 0 0 = k.getD 0 0))) = true then false else !dep (n, l) (m, k) && !dep (m, k) (n, l)))) none)
  cases hB : (decide (n = "drop") || (decide (m = "drop") || decide (l.getD 0 0 = k.getD 0 0))) with
  | true =>
    rw [if_pos rfl]
    refine' bss_stop (bs_ifT (BT.is ?t hB) (bss_one (q_retP be_bl)))
    case t => k_here
  | false =>
    rw [if_neg (by decide)]
    refine' bss_cons (bs_ifF (BT.is ?t hB) bss_nil) (bss_one (q_retP ?u))
    case t => k_here
    case u => exact be_and (k := !dep (n, l) (m, k)) (be_not (q_two cD (be_nm rfl) (be_nm rfl) h1 h2)) fun _ => be_one (be_not (q_two cD (be_nm rfl) (be_nm rfl) h2 h1))
def RlW : List Sl → Res → Prop := fun ss r => ∃ x lo hi, ss = [.d x, .d (.int lo), .d (.int hi)] ∧ (∀ l, x ≠ .dict l) ∧ r = .d (.bool (isW x lo hi))
def isI : PyData → Bool
  | .int _ => true
  | _ => false
theorem tyD_int (x : PyData) : decide (tyD x = "int") = isI x := by cases x <;> rfl
theorem ok_whole {f : Addr} {fd : FuncData} (Fn : Fun K "is_whole" "is_whole" sIsWhole f fd) (G : Gs mg) : FnOk P w K mg base CX0 1 f fd ["value", "least", "most"] (spP K RlW) := by
  refine def_okP Fn scIsWhole (by decide) (fun ss r h => ?_) fun ss r h => ?_
  · obtain ⟨x, lo, hi, rfl, _⟩ := h; rfl
  obtain ⟨x, lo, hi, rfl, hd, rfl⟩ := h
  refine ⟨.ret _ none, ?_, rfl⟩
  have G' : Gs (fam P w K mg base nIsWhole (defScope sIsWhole) 0).mg := G
  show BSs _ ⟨none, [.d x, .d (.int lo), .d (.int hi)]⟩ _ _
  have hin : insB x = false := by cases x with | dict l => exact absurd rfl (hd l) | _ => rfl
  have ty : BE (fam P w K mg base nIsWhole (defScope sIsWhole) 0) ⟨none, [.d x, .d (.int lo), .d (.int hi)]⟩ (boolFst (retVal (nth (defBody sIsWhole) 0))) (.bool (isI x)) ⟨none, [.d x, .d (.int lo), .d (.int hi)]⟩ :=
    q_tyIs G' G.int boot_ty_int (be_nm rfl) (tyD_int x) rfl rfl (by decide) (by decide) (fun _ => rfl)
  refine bss_one (q_retP ?_)
  cases x with
  | int i => exact be_andT ty (be_one (q_chain (be_nm rfl) (be_nm rfl) (be_nm rfl) c_le c_le rfl))
  | none => exact be_andF ty
  | bool b => exact be_andF ty
  | str s => exact be_andF ty
  | list l => exact be_andF ty
  | tuple l => exact be_andF ty
  | dict l => exact absurd rfl (hd l)
def RlJudge : List Sl → Res → Prop := fun ss r => ∃ ds es x, ss = [.d (.tuple (dsD ds)), .d (.tuple (dsD es)), .d x] ∧ OkS ds ∧ OkS es ∧ insB x = false ∧ (∀ ps, x = .tuple ps → ∀ y ∈ ps, ∀ l, y ≠ .dict l) ∧ r = .d (.bool (judge ds es x))
theorem q_whole {F : Fam} {ρ ρ1 ρ2 ρ3 : En} {a b c : Expr} {p pos : Pos} {nme : Str} {x : PyData} {lo hi : Int} (cl : Cal F nme (spP F.K RlW)) (h1 : BE F ρ a x ρ1) (h2 : BE F ρ1 b (.int lo) ρ2) (h3 : BE F ρ2 c (.int hi) ρ3) (hx : ∀ l, x ≠ .dict l) (hg : F.sc.names.lookup nme = some .globalImplicit := by rfl) (hdb : (nme == ("__debug__" : Str)) = false := by decide)
    (he : ∀ env, starEach [a, b, c] env = (false, eval a env) :: starEach [b, c] env := by intro _; rfl) (he2 : ∀ env, starEach [b, c] env = (false, eval b env) :: starEach [c] env := by intro _; rfl) (he3 : ∀ env, starEach [c] env = (false, eval c env) :: starEach [] env := by intro _; rfl) (hp : ∀ env, (backTo pos (starEach [b, c] env)).any (·.1) = false := by intro _; rfl) :
    BE F ρ (.Call (.Name nme p) [a, b, c] [] pos) (.bool (isW x lo hi)) ρ3 := be_call cl (ba_cons h1 (ba_cons h2 (ba_cons h3 ba_nil he3) he2) he) ⟨x, lo, hi, rfl, hx, rfl⟩ rfl hg hdb he hp
theorem ok_judge {f : Addr} {fd : FuncData} (Fn : Fun K "judge_exchanges" "judge_exchanges" sJudgeExchanges f fd) (G : Gs mg) (cW : Cal (fam P w K mg base nJudgeExchanges (defScope sJudgeExchanges) 2) "is_whole" (spP K RlW)) (cI : Cal (fam P w K mg base nJudgeExchanges (defScope sJudgeExchanges) 2) "independent" (spP K (RlTwo ind))) :
    FnOk P w K mg base CX0 3 f fd ["deeds", "others", "places"] (spP K RlJudge) := by
  refine def_okP Fn scJudgeExchanges (by decide) (fun ss r h => ?_) fun ss r h => ?_
  · obtain ⟨ds, es, x, rfl, _⟩ := h; rfl
  obtain ⟨ds, es, x, rfl, hD, hE, hi, hnx, rfl⟩ := h
  refine ⟨.ret _ none, ?_, rfl⟩
  have G' : Gs (fam P w K mg base nJudgeExchanges (defScope sJudgeExchanges) 2).mg := G
  show BSs _ ⟨none, [.d (.tuple (dsD ds)), .d (.tuple (dsD es)), .d x, .un, .un]⟩ _ _
  have ty : BT (fam P w K mg base nJudgeExchanges (defScope sJudgeExchanges) 2) ⟨none, [.d (.tuple (dsD ds)), .d (.tuple (dsD es)), .d x, .un, .un]⟩ (ifTest (nth (defBody sJudgeExchanges) 0)) (!decide (tyD x = "tuple")) ⟨none, [.d (.tuple (dsD ds)), .d (.tuple (dsD es)), .d x, .un, .un]⟩ :=
    bt_tyIsNot G' G.tuple boot_ty_tuple (be_nm rfl) rfl rfl rfl (by decide) (by decide) (fun _ => rfl)
  cases x with
  | tuple ps =>
    have hnp := hnx ps rfl
    refine bss_cons (bs_ifF (BT.is ty rfl) bss_nil) ?_
    refine bss_cons (bs_setL 3 (q_listT G' (be_nm rfl) rfl (fun _ => rfl))) ?_
    let env : List De → En := fun row => ⟨none, [.d (.tuple (dsD ds)), .d (.tuple (dsD es)), .d (.tuple ps), .own (dsD row), .un]⟩
    have loop : ∀ (xs : List PyData), (∀ y ∈ xs, ∀ l, y ≠ .dict l) → ∀ (row : List De), OkS row → (∀ r, runJ row xs = some r → OkS r) ∧ Loop (LStep (fam P w K mg base nJudgeExchanges (defScope sJudgeExchanges) 2) (forTg (nth (defBody sJudgeExchanges) 2)) (forBody (nth (defBody sJudgeExchanges) 2))) xs (env row) (match runJ row xs with | some r => .nx (env r) | none => .ret (.d (.bool false)) none) := by
      intro xs
      induction xs with
      | nil => exact fun _ row h => ⟨fun r e => by cases e; exact h, .nil⟩
      | cons y xs ih =>
        intro hnd row hr
        have hrl : ((dsD row).length : Int) = (row.length : Int) := by rw [dsD_len]
        -- the test of one place
        have hstep : ∀ ρb : En, ρb = ⟨none, [.d (.tuple (dsD ds)), .d (.tuple (dsD es)), .d (.tuple ps), .own (dsD row), .d y]⟩ → (∀ l, y ≠ .dict l) → BSs (fam P w K mg base nJudgeExchanges (defScope sJudgeExchanges) 2) ρb (forBody (nth (defBody sJudgeExchanges) 2)) (match stepJ row y with | some r => .nx (env r) | none => .ret (.d (.bool false)) none) := fun ρb eρ hy => by
          subst eρ
          have t1 : BT (fam P w K mg base nJudgeExchanges (defScope sJudgeExchanges) 2) ⟨none, [.d (.tuple (dsD ds)), .d (.tuple (dsD es)), .d (.tuple ps), .own (dsD row), .d y]⟩ (boolFst (ifTest (nth (forBody (nth (defBody sJudgeExchanges) 2)) 0))) (!isW y 0 ((row.length : Int) - 2)) ⟨none, [.d (.tuple (dsD ds)), .d (.tuple (dsD es)), .d (.tuple ps), .own (dsD row), .d y]⟩ :=
            bt_not (BE.bt (q_whole cW (be_nm rfl) be_int (be_sub (BE.is (q_lenO G' rfl rfl) (congrArg PyData.int hrl)) be_int) hy) (fun _ _ => rfl))
          cases hw : isW y 0 ((row.length : Int) - 2) with
          | false =>
            have e : stepJ row y = none := by
              cases y with
              | int i => show stepX row i = none; unfold stepX; rw [if_neg (by rw [hw]; decide)]
              | none => rfl
              | bool b => rfl
              | str s => rfl
              | list l => rfl
              | tuple l => rfl
              | dict l => rfl
            rw [e]
            exact bss_stop (bs_ifT (BW.bt (bw_orT (BT.is t1 (by rw [hw]; rfl)))) (bss_one (q_retP be_bl)))
          | true =>
            cases y with
            | int i =>
              have hi : 0 ≤ i ∧ i ≤ (row.length : Int) - 2 := isW_int.mp hw
              have g1 := getD_get (l := row) (i := i.toNat) (by omega)
              have g2 := getD_get (l := row) (i := i.toNat + 1) (by omega)
              have o1 := getD_ok (i := i.toNat) hr (by omega)
              have o2 := getD_ok (i := i.toNat + 1) hr (by omega)
              have x1 := dsD_at (j := i) g1 (by omega)
              have x2 := dsD_at (j := i + 1) g2 (by omega)
              have est : stepJ row (.int i) = if ind (row.getD i.toNat ("", [])) (row.getD (i.toNat + 1) ("", [])) = true then some (swp row i.toNat) else none := by
                show stepX row i = _
                unfold stepX
                rw [if_pos hw]
              rw [est]
              have t2 : BT (fam P w K mg base nJudgeExchanges (defScope sJudgeExchanges) 2) ⟨none, [.d (.tuple (dsD ds)), .d (.tuple (dsD es)), .d (.tuple ps), .own (dsD row), .d (.int i)]⟩ (ifTest (nth (forBody (nth (defBody sJudgeExchanges) 2)) 0)) (!ind (row.getD i.toNat ("", [])) (row.getD (i.toNat + 1) ("", []))) ⟨none, [.d (.tuple (dsD ds)), .d (.tuple (dsD es)), .d (.tuple ps), .own (dsD row), .d (.int i)]⟩ :=
                BW.bt (bw_orF (BT.is t1 (by rw [hw]; rfl)) (bw_or1 (bt_not (BE.bt (q_two cI (q_ixO rfl (be_nm rfl) x1 (fun _ _ => rfl)) (q_ixO rfl (be_add (be_nm rfl) be_int) x2 (fun _ _ => rfl)) o1 o2) (fun _ _ => rfl)))))
              cases hI : ind (row.getD i.toNat ("", [])) (row.getD (i.toNat + 1) ("", [])) with
              | false =>
                rw [if_neg (by decide)]
                exact bss_stop (bs_ifT (BT.is t2 (by rw [hI]; rfl)) (bss_one (q_retP be_bl)))
              | true =>
                rw [if_pos rfl]
                refine bss_cons (bs_ifF (BT.is t2 (by rw [hI]; rfl)) bss_nil) ?_
                have k1 : ixN (dsD row).length i = some i.toNat := ixN_nn hi.1 (by rw [dsD_len]; omega)
                have k2 : ixN ((dsD row).set i.toNat (deD (row.getD (i.toNat + 1) ("", [])))).length (i + 1) = some (i.toNat + 1) := by
                  rw [List.length_set, dsD_len, ixN_nn (by omega) (by omega)]
                  congr 1; omega
                show BSs _ _ _ (.nx ⟨none, [_, _, _, .own (dsD (swp row i.toNat)), .un]⟩)
                rw [swp_dsD]
                refine bss_weakN (ρ1 := ⟨none, [.d (.tuple (dsD ds)), .d (.tuple (dsD es)), .d (.tuple ps), .own (((dsD row).set i.toNat (deD (row.getD (i.toNat + 1) ("", [])))).set (i.toNat + 1) (deD (row.getD i.toNat ("", [])))), .d (.int i)]⟩) ?_ (Les.le (.same (.same (.same (.same (.un .nil))))))
                exact bss_one (bs_asg (be_tup (bd_cons (q_ixO rfl (be_add (be_nm rfl) be_int) x2 (fun _ _ => rfl)) (bd_cons (q_ixO rfl (be_nm rfl) x1 (fun _ _ => rfl)) bd_nil)))
                  (bg_tup (bgs_cons (bg_ix 3 rfl (be_nm rfl) k1) (bgs_cons (bg_ix 3 rfl (be_add (be_nm rfl) be_int) k2) bgs_nil))) (h2 := fun _ _ => ss_sub2 (by intros; simp) (by intros; simp)))
            | none => cases hw
            | bool b => cases hw
            | str s => cases hw
            | list l => cases hw
            | tuple l => cases hw
            | dict l => cases hw
        have hok : ∀ r, stepJ row y = some r → OkS r := fun r e => by
          cases y with
          | int i =>
            have e : stepX row i = some r := e
            unfold stepX at e
            by_cases h1 : isW (.int i) 0 ((row.length : Int) - 2) = true
            · rw [if_pos h1] at e
              have h1 := isW_int.mp h1
              by_cases h2 : ind (row.getD i.toNat ("", [])) (row.getD (i.toNat + 1) ("", [])) = true
              · rw [if_pos h2] at e
                cases e
                exact swp_ok hr (by omega)
              · rw [if_neg h2] at e; cases e
            · rw [if_neg h1] at e; cases e
          | none => cases e
          | bool b => cases e
          | str s => cases e
          | list l => cases e
          | tuple l => cases e
          | dict l => cases e
        refine ⟨fun r e => ?_, ?_⟩
        · unfold runJ at e
          cases hs : stepJ row y with
          | none => rw [hs] at e; cases e
          | some r1 => rw [hs] at e; exact (ih (fun z hz => hnd z (by simp [hz])) r1 (hok r1 hs)).1 r e
        · have hy : ∀ l, y ≠ .dict l := fun l e => hnd y (by simp) l e
          have hs := hstep _ rfl hy
          show Loop _ (y :: xs) (env row) (match (match stepJ row y with | some r => runJ r xs | none => none) with | some r => .nx (env r) | none => .ret (.d (.bool false)) none)
          cases e : stepJ row y with
          | none =>
            rw [e] at hs
            exact .ret ⟨_, bg_name 4, hs⟩
          | some r1 =>
            rw [e] at hs
            exact .nx ⟨_, bg_name 4, hs⟩ (ih (fun z hz => hnd z (by simp [hz])) r1 (hok r1 e)).2
    have lp := loop ps hnp ds hD
    show BSs _ (env ds) _ (.ret (.d (.bool (match runJ ds ps with | some row => PyData.eqvAll (dsD row) (dsD es) | none => false))) none)
    cases e : runJ ds ps with
    | none =>
      rw [e] at lp
      exact bss_stop (bs_for (bi_tup (be_nm rfl)) lp.2)
    | some row =>
      rw [e] at lp
      have ok := lp.1 row rfl
      refine bss_cons (bs_for (bi_tup (be_nm rfl)) lp.2) ?_
      refine bss_freeze 3 rfl (bss_one (q_retP ?_))
      exact be_cI (be_nm rfl) (be_ofL (q_listT G' (be_nm rfl) rfl (fun _ => rfl))) (c_eq (shp_shaped (dsD_shpL ok)) (shp_shaped (dsD_shpL hE))) rfl
  | none => exact bss_stop (bs_ifT (BT.is ty rfl) (bss_one (q_retP be_bl)))
  | bool b => exact bss_stop (bs_ifT (BT.is ty rfl) (bss_one (q_retP be_bl)))
  | int i => exact bss_stop (bs_ifT (BT.is ty rfl) (bss_one (q_retP be_bl)))
  | str s => exact bss_stop (bs_ifT (BT.is ty rfl) (bss_one (q_retP be_bl)))
  | list l => exact bss_stop (bs_ifT (BT.is ty rfl) (bss_one (q_retP be_bl)))
  | dict l => exact bss_stop (bs_ifT (BT.is ty rfl) (bss_one (q_retP be_bl)))
end
end K51

set_option maxRecDepth 100000
set_option maxHeartbeats 400000
namespace K51
open PySem PySem.Spec L2 TC DM
section
variable {P : Program} {w : World} {K : PySem.W.Frag} {mg : Str → Option Value} {base : Heap}
theorem ok_number {f : Addr} {fd : FuncData} (Fn : Fun K "_law_is_number" "_law_is_number" sIsNumberL f fd) (G : Gs mg) : FnOk P w K mg base CX0 1 f fd ["value", "least", "most"] (spP K RlW) := by
  refine def_okP Fn scIsNumberL (by decide) (fun ss r h => ?_) fun ss r h => ?_
  · obtain ⟨x, lo, hi, rfl, _⟩ := h; rfl
  obtain ⟨x, lo, hi, rfl, hd, rfl⟩ := h
  refine ⟨.ret _ none, ?_, rfl⟩
  show BSs _ ⟨none, [.d x, .d (.int lo), .d (.int hi)]⟩ _ _
  have hin : insB x = false := by cases x with | dict l => exact absurd rfl (hd l) | _ => rfl
  have i1 : ∀ k, isK (tyD x) "int" = k → BE (fam P w K mg base nIsNumberL (defScope sIsNumberL) 0) ⟨none, [.d x, .d (.int lo), .d (.int hi)]⟩ (boolFst (retVal (nth (defBody sIsNumberL) 0))) (.bool k) ⟨none, [.d x, .d (.int lo), .d (.int hi)]⟩ := fun k hk =>
    be_isV k G.isinstance G.int boot_ty_int (be_nm rfl) hk
  refine bss_one (q_retP ?_)
  cases x with
  | int i => exact be_andT (i1 true rfl) (be_andT (be_notF (be_isV false G.isinstance G.bool boot_ty_bool (be_nm rfl) (show isK "int" "bool" = false by decide))) (be_one (q_chain (be_nm rfl) (be_nm rfl) (be_nm rfl) c_le c_le rfl)))
  | none => exact be_andF (i1 false rfl)
  | bool b => exact be_andT (i1 true rfl) (be_andF (be_notT (be_isV true G.isinstance G.bool boot_ty_bool (be_nm rfl) (show isK "bool" "bool" = true by decide))))
  | str s => exact be_andF (i1 false rfl)
  | list l => exact be_andF (i1 false rfl)
  | tuple l => exact be_andF (i1 false rfl)
  | dict l => exact absurd rfl (hd l)
/-! deeds of digits -/
def gd (n : List Int) (i : Int) : Int := n.getD (i % (n.length : Int)).toNat 0
def deedN (n : List Int) (a : Int) : De :=
  if gd n a % 16 < 2 then ("found", [gd n (a + 1) % 3, gd n (a + 3) % 2, 1 + gd n (a + 3) % 3, gd n (a + 3) % 4 * 3]) else
  if gd n a % 16 < 6 then ("train", [gd n (a + 1) % 3, 1 + gd n (a + 2) % 9 / 7, 1 + gd n (a + 3) % 4]) else
  if gd n a % 16 < 9 then ("save", [gd n (a + 1) % 3, 1 + gd n (a + 2) % 9 / 7]) else
  if gd n a % 16 = 9 then ("crash", [gd n (a + 1) % 3]) else
  if gd n a % 16 < 12 then ("evaluate", [gd n (a + 1) % 3, 1 + gd n (a + 2) % 9 / 7]) else
  if gd n a % 16 < 14 then ("copy", [gd n (a + 1) % 3, 1 + gd n (a + 2) % 9 / 7, gd n (a + 3) % 3, gd n (a + 4) % 3, 1 + gd n (a + 3) % 4, gd n (a + 3) % 3]) else
  if gd n a % 16 = 14 then ("drop", [gd n (a + 1) % 3, gd n (a + 3) % 3]) else
  if gd n (a + 3) % 3 = 0 then ("stop", [gd n (a + 1) % 3, 1 + gd n (a + 2) % 9 / 7]) else ("crash", [gd n (a + 1) % 3])
theorem deedN_ok (n : List Int) (a : Int) : Ok (deedN n a) := by
  unfold deedN
  repeat' split
  all_goals first | exact ok_of 1 rfl (by decide +kernel) | exact ok_of 2 rfl (by decide +kernel) | exact ok_of 3 rfl (by decide +kernel) | exact ok_of 4 rfl (by decide +kernel) | exact ok_of 6 rfl (by decide +kernel)
theorem gd_at {n : List Int} (h : n ≠ []) (i : Int) : atI (n.map PyData.int) (i % (n.length : Int)) = some (.int (gd n i)) := by
  have hl : 0 < n.length := List.length_pos_iff.mpr h
  exact TC.atI_int (Int.emod_nonneg _ (by omega)) (Int.emod_lt_of_pos _ (by omega))
def RlDeedN : List Sl → Res → Prop := fun ss r => ∃ (n : List Int) (a : Int), ss = [.d (.list (n.map .int)), .d (.int a)] ∧ n ≠ [] ∧ r = .d (deD (deedN n a))
theorem ok_deed {f : Addr} {fd : FuncData} (Fn : Fun K "_law_deed" "_law_deed" sDeedL f fd) (G : Gs mg) : FnOk P w K mg base CX0 1 f fd ["n", "at"] (spP K RlDeedN) := by
  refine def_okP Fn scDeedL (by decide) (fun ss r h => ?_) fun ss r h => ?_
  · obtain ⟨n, a, rfl, _⟩ := h; rfl
  obtain ⟨n, a, rfl, hn, rfl⟩ := h
  refine ⟨.ret _ none, ?_, rfl⟩
  have G' : Gs (fam P w K mg base nDeedL (defScope sDeedL) 0).mg := G
  show BSs _ ⟨none, [.d (.list (n.map .int)), .d (.int a), .un, .un, .un, .un]⟩ _ (.ret (.d (deD (deedN n a))) none)
  have ln : ((n.map PyData.int).length : Int) = (n.length : Int) := by rw [List.length_map]
  have hl : 0 < n.length := List.length_pos_iff.mpr hn
  have hp : (0 : Int) < ((n.map PyData.int).length : Int) := by omega
  have x0 := gd_at hn a
  have x1 := gd_at hn (a + 1)
  have x2 := gd_at hn (a + 2)
  have x3 := gd_at hn (a + 3)
  have x4 := gd_at hn (a + 4)
  rw [← ln] at x0 x1 x2 x3 x4
  unfold deedN
  generalize gd n a = g0 at x0 ⊢
  generalize gd n (a + 1) = g1 at x1 ⊢
  generalize gd n (a + 2) = g2 at x2 ⊢
  generalize gd n (a + 3) = g3 at x3 ⊢
  generalize gd n (a + 4) = g4 at x4 ⊢
  refine bss_cons (bs_setP 2 (by k_one)) ?_
  refine bss_cons (bs_setP 3 (by k_one)) ?_
  refine bss_cons (bs_setP 4 (by k_one)) ?_
  refine bss_cons (bs_setP 5 (by k_one)) ?_
  show BSs _ ⟨none, [.d (.list (n.map .int)), .d (.int a), .d (.int (g0 % 16)), .d (.int (g1 % 3)), .d (.int (1 + g2 % 9 / 7)), .d (.int g3)]⟩ _ _
  by_cases h1 : g0 % 16 < 2
  · rw [if_pos h1]
    exact bss_stop (bs_ifT (BT.is (k := decide (g0 % 16 < 2)) (by k_here) (decide_eq_true h1)) (bss_one (q_retP (by k_one))))
  rw [if_neg h1]
  refine bss_cons (bs_ifF (BT.is (k := decide (g0 % 16 < 2)) (by k_here) (decide_eq_false h1)) bss_nil) ?_
  by_cases h2 : g0 % 16 < 6
  · rw [if_pos h2]
    exact bss_stop (bs_ifT (BT.is (k := decide (g0 % 16 < 6)) (by k_here) (decide_eq_true h2)) (bss_one (q_retP (by k_one))))
  rw [if_neg h2]
  refine bss_cons (bs_ifF (BT.is (k := decide (g0 % 16 < 6)) (by k_here) (decide_eq_false h2)) bss_nil) ?_
  by_cases h3 : g0 % 16 < 9
  · rw [if_pos h3]
    exact bss_stop (bs_ifT (BT.is (k := decide (g0 % 16 < 9)) (by k_here) (decide_eq_true h3)) (bss_one (q_retP (by k_one))))
  rw [if_neg h3]
  refine bss_cons (bs_ifF (BT.is (k := decide (g0 % 16 < 9)) (by k_here) (decide_eq_false h3)) bss_nil) ?_
  by_cases h4 : g0 % 16 = 9
  · rw [if_pos h4]
    exact bss_stop (bs_ifT (BT.is (k := decide (g0 % 16 = 9)) (by k_here) (decide_eq_true h4)) (bss_one (q_retP (by k_one))))
  rw [if_neg h4]
  refine bss_cons (bs_ifF (BT.is (k := decide (g0 % 16 = 9)) (by k_here) (decide_eq_false h4)) bss_nil) ?_
  by_cases h5 : g0 % 16 < 12
  · rw [if_pos h5]
    exact bss_stop (bs_ifT (BT.is (k := decide (g0 % 16 < 12)) (by k_here) (decide_eq_true h5)) (bss_one (q_retP (by k_one))))
  rw [if_neg h5]
  refine bss_cons (bs_ifF (BT.is (k := decide (g0 % 16 < 12)) (by k_here) (decide_eq_false h5)) bss_nil) ?_
  by_cases h6 : g0 % 16 < 14
  · rw [if_pos h6]
    exact bss_stop (bs_ifT (BT.is (k := decide (g0 % 16 < 14)) (by k_here) (decide_eq_true h6)) (bss_one (q_retP (by k_one))))
  rw [if_neg h6]
  refine bss_cons (bs_ifF (BT.is (k := decide (g0 % 16 < 14)) (by k_here) (decide_eq_false h6)) bss_nil) ?_
  by_cases h7 : g0 % 16 = 14
  · rw [if_pos h7]
    exact bss_stop (bs_ifT (BT.is (k := decide (g0 % 16 = 14)) (by k_here) (decide_eq_true h7)) (bss_one (q_retP (by k_one))))
  rw [if_neg h7]
  refine bss_cons (bs_ifF (BT.is (k := decide (g0 % 16 = 14)) (by k_here) (decide_eq_false h7)) bss_nil) ?_
  by_cases h8 : g3 % 3 = 0
  · rw [if_pos h8]
    exact bss_one (q_retP (be_ifT (BT.is (k := decide (g3 % 3 = 0)) (by k_here) (decide_eq_true h8)) (by k_one)))
  rw [if_neg h8]
  exact bss_one (q_retP (be_ifF (BT.is (k := decide (g3 % 3 = 0)) (by k_here) (decide_eq_false h8)) (by k_one)))
def startL : List De := [("found", [0, 0, 1, 0]), ("found", [1, 1, 2, 3]), ("train", [0, 1, 2]), ("save", [0, 1])]
theorem startL_ok : ∀ d ∈ startL, Ok d := by
  intro d hd
  simp only [startL, List.mem_cons, List.not_mem_nil, or_false] at hd
  rcases hd with rfl | rfl | rfl | rfl <;> first | exact ok_of 2 rfl (by decide +kernel) | exact ok_of 3 rfl (by decide +kernel) | exact ok_of 4 rfl (by decide +kernel)
def deedsN (c m : Int) : List De := startL.take ((draws2 c 59).getD 58 0 % 5).toNat ++ (List.range ((draws2 c 59).getD 57 0 % (m + 1)).toNat).map fun (k : Nat) => deedN (draws2 c 59) (5 * (k : Int) + (k : Int) / 9)
theorem deedsN_ok (c : Int) {m : Int} (h0 : 0 ≤ m) (h1 : m ≤ 100) : OkS (deedsN c m) := by
  have b2 : 0 ≤ (draws2 c 59).getD 57 0 % (m + 1) ∧ (draws2 c 59).getD 57 0 % (m + 1) < m + 1 := ⟨Int.emod_nonneg _ (by omega), Int.emod_lt_of_pos _ (by omega)⟩
  refine ⟨fun d hd => ?_, ?_⟩
  · rcases List.mem_append.mp hd with h | h
    · exact startL_ok d (List.mem_of_mem_take h)
    · obtain ⟨k, _, rfl⟩ := List.mem_map.mp h
      exact deedN_ok _ _
  · unfold deedsN
    rw [List.length_append, List.length_take, List.length_map, List.length_range]
    have : startL.length = 4 := rfl
    omega
def RlDeeds : List Sl → Res → Prop := fun ss r => ∃ c m : Int, ss = [.d (.int c), .d (.int m)] ∧ 0 ≤ m ∧ m ≤ 100 ∧ r = .d (.tuple (dsD (deedsN c m)))
theorem ok_deeds {f : Addr} {fd : FuncData} (Fn : Fun K "_law_deeds" "_law_deeds" sDeedsL f fd) (G : Gs mg) (cR : Cal (fam P w K mg base nDeedsL (defScope sDeedsL) 1) "_law_draws" (spP K RlDraws2)) (cD : Cal (fam P w K mg base nDeedsL (defScope sDeedsL) 1) "_law_deed" (spP K RlDeedN)) : FnOk P w K mg base CX0 2 f fd ["cell", "most"] (spP K RlDeeds) := by
  refine def_okP Fn scDeedsL (by decide) (fun ss r h => ?_) fun ss r h => ?_
  · obtain ⟨c, m, rfl, _⟩ := h; rfl
  obtain ⟨c, m, rfl, h0, h1, rfl⟩ := h
  refine ⟨.ret _ none, ?_, rfl⟩
  have G' : Gs (fam P w K mg base nDeedsL (defScope sDeedsL) 1).mg := G
  show BSs _ ⟨none, [.d (.int c), .d (.int m), .un, .un, .un]⟩ _ _
  have ln := draws2_len c 59
  have b1 : 0 ≤ (draws2 c 59).getD 58 0 % 5 ∧ (draws2 c 59).getD 58 0 % 5 < 5 := ⟨Int.emod_nonneg _ (by decide), Int.emod_lt_of_pos _ (by decide)⟩
  have b2 : 0 ≤ (draws2 c 59).getD 57 0 % (m + 1) ∧ (draws2 c 59).getD 57 0 % (m + 1) < m + 1 := ⟨Int.emod_nonneg _ (by omega), Int.emod_lt_of_pos _ (by omega)⟩
  have x58 : atI ((draws2 c 59).map PyData.int) 58 = some (.int ((draws2 c 59).getD 58 0)) := TC.atI_int (l := draws2 c 59) (j := 58) (by decide) (by rw [ln]; decide)
  have x57 : atI ((draws2 c 59).map PyData.int) 57 = some (.int ((draws2 c 59).getD 57 0)) := TC.atI_int (l := draws2 c 59) (j := 57) (by decide) (by rw [ln]; decide)
  have hne : draws2 c 59 ≠ [] := fun z => by rw [z] at ln; cases ln
  refine bss_cons (bs_setP 2 (x := .list ((draws2 c 59).map .int)) (be_ofL (bl_call cR (ba_cons (q_int G' (be_nm rfl) rfl (fun _ => rfl)) (ba_cons be_int ba_nil)) ⟨c, 59, rfl, by decide, rfl⟩))) ?_
  refine bss_cons (bs_setP 3 (x := .tuple (dsD startL)) ?st) ?_
  case st =>
    show BE _ _ _ (.tuple [deD ("found", [0, 0, 1, 0]), deD ("found", [1, 1, 2, 3]), deD ("train", [0, 1, 2]), deD ("save", [0, 1])]) _
    k_one
  refine bss_one (q_retP ?_)
  unfold deedsN
  have e : dsD (startL.take ((draws2 c 59).getD 58 0 % 5).toNat ++ (List.range ((draws2 c 59).getD 57 0 % (m + 1)).toNat).map fun (k : Nat) => deedN (draws2 c 59) (5 * (k : Int) + (k : Int) / 9)) = cutD (startL.map deD) none (some ((draws2 c 59).getD 58 0 % 5)) ++ (List.range ((draws2 c 59).getD 57 0 % (m + 1)).toNat).map fun (k : Nat) => deD (deedN (draws2 c 59) (5 * (k : Int) + (k : Int) / 9)) := by
    rw [cutD_take deD startL b1.1]
    unfold dsD
    rw [List.map_append, List.map_map]; rfl
  rw [e]
  generalize (draws2 c 59).getD 58 0 = v58 at *
  generalize (draws2 c 59).getD 57 0 = v57 at *
  refine be_catT (q_slT (xs := startL.map deD) (be_nm rfl) bo_none (bo_some (be_mod (q_ix (x := .list ((draws2 c 59).map .int)) (be_nm rfl) be_int (.inr rfl) x58 (fun _ _ => rfl)) be_int (by decide)))) (q_tupL G' (be_ofL (bl_lc [("k", 4)] (bi_range1 (be_mod (q_ix (x := .list ((draws2 c 59).map .int)) (be_nm rfl) be_int (.inr rfl) x57 (fun _ _ => rfl)) (be_add (be_nm rfl) be_int) (by omega)) G.range (by omega)) (bb_name 4) (lc_ok (blk_of (N := nDeedsL) (sc := defScope sDeedsL) rfl (by decide +kernel)) rfl rfl) (by rw [rgD_len]; omega)
    (lcomp_rg (fun _ => none) _ fun j hj => .item rfl bif_nil rfl ?_ rfl))) rfl (fun _ => rfl)) ?_
  · have e0 : (0 : Int) + (j : Int) = j := by omega
    rw [e0]
    exact be_call cD.blk (ba_cons (be_nm rfl) (ba_cons (be_add (be_mul be_int (be_nm rfl) (.inl (by decide))) (be_fdiv (be_nm rfl) be_int ⟨by decide, by decide⟩)) ba_nil)) ⟨draws2 c 59, _, rfl, hne, rfl⟩
  · obtain ⟨l', h1, _, h3⟩ := cutD_map deD startL none (some (v58 % 5))
    rw [h1, List.length_map, List.length_map, List.length_range]
    have : startL.length = 4 := rfl
    omega
end
end K51

set_option maxRecDepth 100000
set_option maxHeartbeats 400000
namespace K51
open PySem PySem.Spec L2 TC DM
section
variable {P : Program} {w : World} {K : PySem.W.Frag} {mg : Str → Option Value} {base : Heap}
theorem ok_copies {f : Addr} {fd : FuncData} (Fn : Fun K "_law_copies" "_law_copies" sCopiesL f fd) : FnOk P w K mg base CX0 1 f fd ["deed", "other"] (spP K (RlTwo dep)) := by
  refine def_okP Fn scCopiesL (by decide) (fun ss r h => ?_) fun ss r h => ?_
  · obtain ⟨d, e, rfl, _⟩ := h; rfl
  obtain ⟨⟨n, l⟩, ⟨m, k⟩, rfl, h1, h2, rfl⟩ := h
  refine ⟨.ret _ none, ?_, rfl⟩
  show BSs _ ⟨none, [.d (deD (n, l)), .d (deD (m, k))]⟩ _ (.ret (.d (.bool (dep (n, l) (m, k)))) none)
  have a1 := at0 (n := n) (l := l)
  have a2 := at0 (n := m) (l := k)
  have a0 := names_ok n h1.1
  have b0 := names_ok m h2.1
  have b1 := at1 (n := m) (l := k) 0 1 rfl (by have := h2.2.1; exact this)
  refine' bss_one (q_retP ?e)
  case e =>
  refine' be_and (k := decide (n = "copy")) ?h fun hc => ?g
  case h => k_one
  case g =>
  have a3 := at1 (n := n) (l := l) 2 3 rfl (by have := h1.2.2.1 (of_decide_eq_true hc); exact this)
  k_one
theorem ok_free {f : Addr} {fd : FuncData} (Fn : Fun K "_law_free" "_law_free" sFreeL f fd) (cD : Cal (fam P w K mg base nFreeL (defScope sFreeL) 1) "_law_copies" (spP K (RlTwo dep))) :
    FnOk P w K mg base CX0 2 f fd ["one", "other"] (spP K (RlTwo ind)) := by
  refine def_okP Fn scFreeL (by decide) (fun ss r h => ?_) fun ss r h => ?_
  · obtain ⟨d, e, rfl, _⟩ := h; rfl
  obtain ⟨⟨n, l⟩, ⟨m, k⟩, rfl, h1, h2, rfl⟩ := h
  refine ⟨.ret _ none, ?_, rfl⟩
  have a1 := at0 (n := n) (l := l)
  have a2 := at0 (n := m) (l := k)
  have a3 := at1 (n := n) (l := l) 0 1 rfl (by have := h1.2.1; exact this)
  have a4 := at1 (n := m) (l := k) 0 1 rfl (by have := h2.2.1; exact this)
  have a0 := names_ok n h1.1
  have b0 := names_ok m h2.1
  show BSs _ ⟨none, [.d (deD (n, l)), .d (deD (m, k))]⟩ _ (.ret (.d (.bool (if (decide (n = "drop") || (decide (m = "drop") || decide (l.getD 0 0 = k.getD 0 0))) = true then false else !dep (n, l) (m, k) && !dep (m, k) (n, l)))) none)
  cases hB : (decide (n = "drop") || (decide (m = "drop") || decide (l.getD 0 0 = k.getD 0 0))) with
  | true =>
    rw [if_pos rfl]
    refine' bss_stop (bs_ifT (BT.is ?t hB) (bss_one (q_retP be_bl)))
    case t => k_here
  | false =>
    rw [if_neg (by decide)]
    refine' bss_cons (bs_ifF (BT.is ?t hB) bss_nil) (bss_one (q_retP ?u))
    case t => k_here
    case u => exact be_and (k := !dep (n, l) (m, k)) (be_not (q_two cD (be_nm rfl) (be_nm rfl) h1 h2)) fun _ => be_one (be_not (q_two cD (be_nm rfl) (be_nm rfl) h2 h1))
def RlMixed : List Sl → Res → Prop := fun ss r => ∃ (ds : List De) (c : Int) (m : Nat), ss = [.d (.tuple (dsD ds)), .d (.int c), .d (.int (m : Int))] ∧ OkS ds ∧ m ≤ 50 ∧ r = .d (.tuple [.tuple (dsD (mix (draws2 c 50) ds m).1), .tuple ((mix (draws2 c 50) ds m).2.map .int)])
theorem ok_mixed {f : Addr} {fd : FuncData} (Fn : Fun K "_law_mixed" "_law_mixed" sMixedL f fd) (G : Gs mg) (cR : Cal (fam P w K mg base nMixedL (defScope sMixedL) 2) "_law_draws" (spP K RlDraws2)) (cF : Cal (fam P w K mg base nMixedL (defScope sMixedL) 2) "_law_free" (spP K (RlTwo ind))) : FnOk P w K mg base CX0 3 f fd ["deeds", "cell", "many"] (spP K RlMixed) := by
  refine def_okP Fn scMixedL (by decide) (fun ss r h => ?_) fun ss r h => ?_
  · obtain ⟨ds, c, m, rfl, _⟩ := h; rfl
  obtain ⟨ds, c, m, rfl, hD, hm, rfl⟩ := h
  refine ⟨.ret _ none, ?_, rfl⟩
  have G' : Gs (fam P w K mg base nMixedL (defScope sMixedL) 2).mg := G
  show BSs _ ⟨none, [.d (.tuple (dsD ds)), .d (.int c), .d (.int (m : Int)), .un, .un, .un, .un, .un]⟩ _ _
  have ln := draws2_len c 50
  refine bss_cons (bs_setP 3 (x := .list ((draws2 c 50).map .int)) (be_ofL (bl_call cR (ba_cons (q_int G' (be_nm rfl) rfl (fun _ => rfl)) (ba_cons be_int ba_nil)) ⟨c, 50, rfl, by decide, rfl⟩))) ?_
  generalize draws2 c 50 = n at ln ⊢
  refine bss_cons (bs_setP 4 (be_nm rfl)) ?_
  refine bss_cons (bs_setP 5 (be_tup bd_nil)) ?_
  let env : Nat → En := fun j => ⟨none, [.d (.tuple (dsD ds)), .d (.int c), .d (.int (m : Int)), .d (.list (n.map .int)), .d (.tuple (dsD (mix n ds j).1)), .d (.tuple ((mix n ds j).2.map .int)), .un, .un]⟩
  refine bss_cons (ρ1 := env m) (bs_for (bi_range1 (j := (m : Int)) (be_nm rfl) G.range (by omega)) (loop_rg (n := m) env fun j hj => ⟨_, bg_name 6, ?_⟩)) (bss_one (q_retP ?_))
  · obtain ⟨o1, o2, o3⟩ := mix_ok (n := n) hD j
    have hle := hD.2
    show BSs _ ⟨none, [.d (.tuple (dsD ds)), .d (.int c), .d (.int (m : Int)), .d (.list (n.map .int)), .d (.tuple (dsD (mix n ds j).1)), .d (.tuple ((mix n ds j).2.map .int)), .d (.int (0 + (j : Int))), .un]⟩ _ (.nx ⟨none, [.d (.tuple (dsD ds)), .d (.int c), .d (.int (m : Int)), .d (.list (n.map .int)), .d (.tuple (dsD (mixS n j (mix n ds j)).1)), .d (.tuple ((mixS n j (mix n ds j)).2.map .int)), .un, .un]⟩)
    generalize mix n ds j = s at o1 o2 o3 ⊢
    obtain ⟨row, pl⟩ := s
    have hl : ((dsD row).length : Int) = (row.length : Int) := by rw [dsD_len]
    have e0 : (0 : Int) + (j : Int) = j := by omega
    rw [e0]
    have xn : atI (n.map PyData.int) (j : Int) = some (.int (n.getD j 0)) := by
      have := TC.atI_int (l := n) (j := (j : Int)) (by omega) (by omega)
      rw [Int.toNat_natCast] at this; exact this
    have hp : 0 ≤ n.getD j 0 % max 1 (row.length : Int) ∧ n.getD j 0 % max 1 (row.length : Int) < max 1 (row.length : Int) := ⟨Int.emod_nonneg _ (by omega), Int.emod_lt_of_pos _ (by omega)⟩
    refine bss_cons (bs_setP 7 (x := .int (n.getD j 0 % max 1 (row.length : Int))) (be_mod (q_ix (x := .list (n.map .int)) (be_nm rfl) (be_nm rfl) (.inr rfl) xn (fun _ _ => rfl)) (BE.is (q_max G' be_int (q_len G' (x := .tuple (dsD row)) (be_nm rfl) (.inl rfl) rfl (fun _ => rfl)) rfl (fun _ => rfl) (fun _ => rfl) (fun _ => rfl)) (congrArg PyData.int (by rw [hl]))) (by omega))) ?_
    have em : mixS n j (row, pl) = if n.getD j 0 % max 1 (row.length : Int) + 1 < (row.length : Int) ∧ ind (row.getD (n.getD j 0 % max 1 (row.length : Int)).toNat ("", [])) (row.getD ((n.getD j 0 % max 1 (row.length : Int)).toNat + 1) ("", [])) = true then (swp row (n.getD j 0 % max 1 (row.length : Int)).toNat, pl ++ [n.getD j 0 % max 1 (row.length : Int)]) else (row, pl) := rfl
    rw [em]
    generalize n.getD j 0 % max 1 (row.length : Int) = q at hp ⊢
    have t1 : BT (fam P w K mg base nMixedL (defScope sMixedL) 2) ⟨none, [.d (.tuple (dsD ds)), .d (.int c), .d (.int (m : Int)), .d (.list (n.map .int)), .d (.tuple (dsD row)), .d (.tuple (pl.map .int)), .d (.int (j : Int)), .d (.int q)]⟩ (boolFst (ifTest (nth (forBody (nth (defBody sMixedL) 3)) 1))) (decide (q + 1 < (row.length : Int))) ⟨none, [.d (.tuple (dsD ds)), .d (.int c), .d (.int (m : Int)), .d (.list (n.map .int)), .d (.tuple (dsD row)), .d (.tuple (pl.map .int)), .d (.int (j : Int)), .d (.int q)]⟩ :=
      bt_c (be_add (be_nm rfl) be_int) (BE.is (q_len G' (x := .tuple (dsD row)) (be_nm rfl) (.inl rfl) rfl (fun _ => rfl)) (congrArg PyData.int hl)) c_lt
    by_cases h1 : q + 1 < (row.length : Int)
    · have g1 := getD_get (l := row) (i := q.toNat) (by omega)
      have g2 := getD_get (l := row) (i := q.toNat + 1) (by omega)
      have k1 := getD_ok (i := q.toNat) o1 (by show q.toNat < row.length; omega)
      have k2 := getD_ok (i := q.toNat + 1) o1 (by show q.toNat + 1 < row.length; omega)
      have x1 := dsD_at (j := q) g1 (by omega)
      have x2 := dsD_at (j := q + 1) g2 (by omega)
      have t2 : BT (fam P w K mg base nMixedL (defScope sMixedL) 2) ⟨none, [.d (.tuple (dsD ds)), .d (.int c), .d (.int (m : Int)), .d (.list (n.map .int)), .d (.tuple (dsD row)), .d (.tuple (pl.map .int)), .d (.int (j : Int)), .d (.int q)]⟩ (ifTest (nth (forBody (nth (defBody sMixedL) 3)) 1)) (ind (row.getD q.toNat ("", [])) (row.getD (q.toNat + 1) ("", []))) ⟨none, [.d (.tuple (dsD ds)), .d (.int c), .d (.int (m : Int)), .d (.list (n.map .int)), .d (.tuple (dsD row)), .d (.tuple (pl.map .int)), .d (.int (j : Int)), .d (.int q)]⟩ :=
        BW.bt (bw_andT (BT.is t1 (decide_eq_true h1)) (bw_and1 (BE.bt (q_two cF (q_ix (x := .tuple (dsD row)) (be_nm rfl) (be_nm rfl) (.inl rfl) x1 (fun _ _ => rfl)) (q_ix (x := .tuple (dsD row)) (be_nm rfl) (be_add (be_nm rfl) be_int) (.inl rfl) x2 (fun _ _ => rfl)) k1 k2) (fun _ _ => rfl))))
      cases hI : ind (row.getD q.toNat ("", [])) (row.getD (q.toNat + 1) ("", [])) with
      | true =>
        rw [if_pos ⟨h1, rfl⟩]
        have ec := cut_swp (l := row) hp.1 (by omega)
        show BSs _ _ _ (.nx ⟨none, [_, _, _, _, .d (.tuple (dsD (swp row q.toNat))), .d (.tuple ((pl ++ [q]).map .int)), _, _]⟩)
        rw [← ec, ← app_int]
        obtain ⟨c1, d1, _, d3⟩ := cutD_map deD row none (some q)
        obtain ⟨c2, e1, _, e3⟩ := cutD_map deD row (some (q + 2)) none
        have z1 : (cutD (dsD row) none (some q)).length ≤ 1000 := by show (cutD (row.map deD) none (some q)).length ≤ _; rw [d1, List.length_map]; have := o1.2; simp only [] at this; omega
        have z2 : (cutD (dsD row) (some (q + 2)) none).length ≤ 1000 := by show (cutD (row.map deD) (some (q + 2)) none).length ≤ _; rw [e1, List.length_map]; have := o1.2; simp only [] at this; omega
        have z3 : (pl.map PyData.int).length ≤ 1000 := by rw [List.length_map]; simp only [] at o3; omega
        refine bss_weakN (bss_one (bs_ifT (BT.is t2 hI) (bss_cons (bs_setP 4 (be_catT (be_catT (q_slT (be_nm rfl) bo_none (bo_some (be_nm rfl))) (be_tup (bd_cons (q_ix (x := .tuple (dsD row)) (be_nm rfl) (be_add (be_nm rfl) be_int) (.inl rfl) x2 (fun _ _ => rfl)) (bd_cons (q_ix (x := .tuple (dsD row)) (be_nm rfl) (be_nm rfl) (.inl rfl) x1 (fun _ _ => rfl)) bd_nil))) (by simp only [List.length_cons, List.length_nil]; omega)) (q_slT (be_nm rfl) (bo_some (be_add (be_nm rfl) be_int)) bo_none) (by simp only [List.length_append, List.length_cons, List.length_nil]; omega)))
          (bss_one (bs_setP 5 (be_catT (be_nm rfl) (be_tup (bd1 (be_nm rfl))) (by simp only [List.length_cons, List.length_nil]; omega))))))) (Les.le (.same (.same (.same (.same (.same (.same (.un (.un .nil)))))))))
      | false =>
        rw [if_neg (fun z => by have := z.2; cases this)]
        exact bss_weakN (bss_one (bs_ifF (BT.is t2 hI) bss_nil)) (Les.le (.same (.same (.same (.same (.same (.same (.un (.un .nil)))))))))
    · rw [if_neg (fun z => h1 z.1)]
      exact bss_weakN (bss_one (bs_ifF (BW.bt (bw_andF (BT.is t1 (decide_eq_false h1)))) bss_nil)) (Les.le (.same (.same (.same (.same (.same (.same (.un (.un .nil)))))))))
  · show BE _ ⟨none, [.d (.tuple (dsD ds)), .d (.int c), .d (.int (m : Int)), .d (.list (n.map .int)), .d (.tuple (dsD (mix n ds m).1)), .d (.tuple ((mix n ds m).2.map .int)), .un, .un]⟩ _ _ _
    k_one
end
end K51

set_option maxRecDepth 100000
set_option maxHeartbeats 400000
namespace K51
open PySem PySem.Spec L2 TC DM
section
variable {P : Program} {w : World} {K : PySem.W.Frag} {mg : Str → Option Value} {base : Heap}
def RlLed : List Sl → Res → Prop := fun ss r => ∃ (ds : List De) (x : PyData), ss = [.d (.tuple (dsD ds)), .d x] ∧ OkS ds ∧ (∀ l, x ≠ .dict l) ∧ (∀ ps, x = .tuple ps → ∀ y ∈ ps, ∀ l, y ≠ .dict l) ∧ r = .d (led ds x)
theorem runJ_ok : ∀ (xs : List PyData) (row : List De), OkS row → ∀ r, runJ row xs = some r → OkS r
  | [], row, h, r, e => by cases e; exact h
  | y :: xs, row, h, r, e => by
    unfold runJ at e
    cases hs : stepJ row y with
    | none => rw [hs] at e; cases e
    | some r1 =>
      rw [hs] at e
      refine runJ_ok xs r1 ?_ r e
      cases y with
      | int i =>
        have hs : stepX row i = some r1 := hs
        unfold stepX at hs
        by_cases h1 : isW (.int i) 0 ((row.length : Int) - 2) = true
        · rw [if_pos h1] at hs
          have h1 := isW_int.mp h1
          by_cases h2 : ind (row.getD i.toNat ("", [])) (row.getD (i.toNat + 1) ("", [])) = true
          · rw [if_pos h2] at hs
            cases hs
            exact swp_ok h (by omega)
          · rw [if_neg h2] at hs; cases hs
        · rw [if_neg h1] at hs; cases hs
      | none => cases hs
      | bool b => cases hs
      | str s => cases hs
      | list l => cases hs
      | tuple l => cases hs
      | dict l => cases hs
theorem ok_led {f : Addr} {fd : FuncData} (Fn : Fun K "_law_led" "_law_led" sLedL f fd) (G : Gs mg) (cW : Cal (fam P w K mg base nLedL (defScope sLedL) 2) "_law_is_number" (spP K RlW)) (cI : Cal (fam P w K mg base nLedL (defScope sLedL) 2) "_law_free" (spP K (RlTwo ind))) :
    FnOk P w K mg base CX0 3 f fd ["deeds", "places"] (spP K RlLed) := by
  refine def_okP Fn scLedL (by decide) (fun ss r h => ?_) fun ss r h => ?_
  · obtain ⟨ds, x, rfl, _⟩ := h; rfl
  obtain ⟨ds, x, rfl, hD, hdx, hnx, rfl⟩ := h
  refine ⟨.ret _ none, ?_, rfl⟩
  have G' : Gs (fam P w K mg base nLedL (defScope sLedL) 2).mg := G
  show BSs _ ⟨none, [.d (.tuple (dsD ds)), .d x, .un, .un]⟩ _ _
  refine bss_cons (bs_setP 2 (be_nm rfl)) ?_
  have hin : insB x = false := by cases x with | dict l => exact absurd rfl (hdx l) | _ => rfl
  have ty : ∀ k, isK (tyD x) "tuple" = k → BT (fam P w K mg base nLedL (defScope sLedL) 2) ⟨none, [.d (.tuple (dsD ds)), .d x, .d (.tuple (dsD ds)), .un]⟩ (ifTest (nth (defBody sLedL) 1)) (!k) ⟨none, [.d (.tuple (dsD ds)), .d x, .d (.tuple (dsD ds)), .un]⟩ := fun k hk =>
    bt_not (BE.bt (be_isV k G.isinstance G.tuple boot_ty_tuple (be_nm rfl) hk) (fun _ _ => rfl))
  cases x with
  | tuple ps =>
    have hnp := hnx ps rfl
    refine bss_cons (bs_ifF (ty true rfl) bss_nil) ?_
    let env : List De → En := fun row => ⟨none, [.d (.tuple (dsD ds)), .d (.tuple ps), .d (.tuple (dsD row)), .un]⟩
    have loop : ∀ (xs : List PyData), (∀ y ∈ xs, ∀ l, y ≠ .dict l) → ∀ (row : List De), OkS row → Loop (LStep (fam P w K mg base nLedL (defScope sLedL) 2) (forTg (nth (defBody sLedL) 2)) (forBody (nth (defBody sLedL) 2))) xs (env row) (match runJ row xs with | some r => .nx (env r) | none => .ret (.d .none) none) := by
      intro xs
      induction xs with
      | nil => exact fun _ row h => .nil
      | cons y xs ih =>
        intro hnd row hr
        have hrl : ((dsD row).length : Int) = (row.length : Int) := by rw [dsD_len]
        have hstep : (∀ l, y ≠ .dict l) → BSs (fam P w K mg base nLedL (defScope sLedL) 2) ⟨none, [.d (.tuple (dsD ds)), .d (.tuple ps), .d (.tuple (dsD row)), .d y]⟩ (forBody (nth (defBody sLedL) 2)) (match stepJ row y with | some r => .nx (env r) | none => .ret (.d .none) none) := fun hy => by
          have t1 : BT (fam P w K mg base nLedL (defScope sLedL) 2) ⟨none, [.d (.tuple (dsD ds)), .d (.tuple ps), .d (.tuple (dsD row)), .d y]⟩ (boolFst (ifTest (nth (forBody (nth (defBody sLedL) 2)) 0))) (!isW y 0 ((row.length : Int) - 2)) ⟨none, [.d (.tuple (dsD ds)), .d (.tuple ps), .d (.tuple (dsD row)), .d y]⟩ :=
            bt_not (BE.bt (q_whole cW (be_nm rfl) be_int (be_sub (BE.is (q_len G' (x := .tuple (dsD row)) (be_nm rfl) (.inl rfl) rfl (fun _ => rfl)) (congrArg PyData.int hrl)) be_int) hy) (fun _ _ => rfl))
          cases hw : isW y 0 ((row.length : Int) - 2) with
          | false =>
            have e : stepJ row y = none := by
              cases y with
              | int i => show stepX row i = none; unfold stepX; rw [if_neg (by rw [hw]; decide)]
              | none => rfl
              | bool b => rfl
              | str s => rfl
              | list l => rfl
              | tuple l => rfl
              | dict l => rfl
            rw [e]
            exact bss_stop (bs_ifT (BW.bt (bw_orT (BT.is t1 (by rw [hw]; rfl)))) (bss_one (q_retP be_non)))
          | true =>
            cases y with
            | int i =>
              have hi : 0 ≤ i ∧ i ≤ (row.length : Int) - 2 := isW_int.mp hw
              have g1 := getD_get (l := row) (i := i.toNat) (by omega)
              have g2 := getD_get (l := row) (i := i.toNat + 1) (by omega)
              have o1 := getD_ok (i := i.toNat) hr (by omega)
              have o2 := getD_ok (i := i.toNat + 1) hr (by omega)
              have x1 := dsD_at (j := i) g1 (by omega)
              have x2 := dsD_at (j := i + 1) g2 (by omega)
              have est : stepJ row (.int i) = if ind (row.getD i.toNat ("", [])) (row.getD (i.toNat + 1) ("", [])) = true then some (swp row i.toNat) else none := by
                show stepX row i = _
                unfold stepX
                rw [if_pos hw]
              rw [est]
              have t2 : BT (fam P w K mg base nLedL (defScope sLedL) 2) ⟨none, [.d (.tuple (dsD ds)), .d (.tuple ps), .d (.tuple (dsD row)), .d (.int i)]⟩ (ifTest (nth (forBody (nth (defBody sLedL) 2)) 0)) (!ind (row.getD i.toNat ("", [])) (row.getD (i.toNat + 1) ("", []))) ⟨none, [.d (.tuple (dsD ds)), .d (.tuple ps), .d (.tuple (dsD row)), .d (.int i)]⟩ :=
                BW.bt (bw_orF (BT.is t1 (by rw [hw]; rfl)) (bw_or1 (bt_not (BE.bt (q_two cI (q_ix (x := .tuple (dsD row)) (be_nm rfl) (be_nm rfl) (.inl rfl) x1 (fun _ _ => rfl)) (q_ix (x := .tuple (dsD row)) (be_nm rfl) (be_add (be_nm rfl) be_int) (.inl rfl) x2 (fun _ _ => rfl)) o1 o2) (fun _ _ => rfl)))))
              cases hI : ind (row.getD i.toNat ("", [])) (row.getD (i.toNat + 1) ("", [])) with
              | false =>
                rw [if_neg (by decide)]
                exact bss_stop (bs_ifT (BT.is t2 (by rw [hI]; rfl)) (bss_one (q_retP be_non)))
              | true =>
                rw [if_pos rfl]
                refine bss_cons (bs_ifF (BT.is t2 (by rw [hI]; rfl)) bss_nil) ?_
                have ec := cut_swp (l := row) hi.1 (by omega)
                show BSs _ _ _ (.nx ⟨none, [_, _, .d (.tuple (dsD (swp row i.toNat))), .un]⟩)
                rw [← ec]
                obtain ⟨c1, d1, _, d3⟩ := cutD_map deD row none (some i)
                obtain ⟨c2, e1, _, e3⟩ := cutD_map deD row (some (i + 2)) none
                have hr2 := hr.2
                have z1 : (cutD (dsD row) none (some i)).length ≤ 1000 := by show (cutD (row.map deD) none (some i)).length ≤ _; rw [d1, List.length_map]; omega
                have z2 : (cutD (dsD row) (some (i + 2)) none).length ≤ 1000 := by show (cutD (row.map deD) (some (i + 2)) none).length ≤ _; rw [e1, List.length_map]; omega
                exact bss_weakN (bss_one (bs_setP 2 (be_catT (be_catT (q_slT (be_nm rfl) bo_none (bo_some (be_nm rfl))) (be_tup (bd_cons (q_ix (x := .tuple (dsD row)) (be_nm rfl) (be_add (be_nm rfl) be_int) (.inl rfl) x2 (fun _ _ => rfl)) (bd_cons (q_ix (x := .tuple (dsD row)) (be_nm rfl) (be_nm rfl) (.inl rfl) x1 (fun _ _ => rfl)) bd_nil))) (by simp only [List.length_cons, List.length_nil]; omega)) (q_slT (be_nm rfl) (bo_some (be_add (be_nm rfl) be_int)) bo_none) (by simp only [List.length_append, List.length_cons, List.length_nil]; omega)))) (Les.le (.same (.same (.same (.un .nil)))))
            | none => cases hw
            | bool b => cases hw
            | str s => cases hw
            | list l => cases hw
            | tuple l => cases hw
            | dict l => cases hw
        have hy : ∀ l, y ≠ .dict l := fun l e => hnd y (by simp) l e
        have hs := hstep hy
        show Loop _ (y :: xs) (env row) (match (match stepJ row y with | some r => runJ r xs | none => none) with | some r => .nx (env r) | none => .ret (.d .none) none)
        cases e : stepJ row y with
        | none =>
          rw [e] at hs
          exact .ret ⟨_, bg_name 3, hs⟩
        | some r1 =>
          rw [e] at hs
          have hr1 : OkS r1 := runJ_ok [y] row hr r1 (by show (match stepJ row y with | some r => runJ r [] | none => none) = _; rw [e]; rfl)
          exact .nx ⟨_, bg_name 3, hs⟩ (ih (fun z hz => hnd z (by simp [hz])) r1 hr1)
    have lp := loop ps hnp ds hD
    show BSs _ (env ds) _ (.ret (.d (match runJ ds ps with | some row => .tuple (dsD row) | none => .none)) none)
    cases e : runJ ds ps with
    | none =>
      rw [e] at lp
      exact bss_stop (bs_for (bi_tup (be_nm rfl)) lp)
    | some row =>
      rw [e] at lp
      exact bss_cons (bs_for (bi_tup (be_nm rfl)) lp) (bss_one (q_retP (be_nm rfl)))
  | none => exact bss_stop (bs_ifT (ty false rfl) (bss_one (q_retP be_non)))
  | bool b => exact bss_stop (bs_ifT (ty false rfl) (bss_one (q_retP be_non)))
  | int i => exact bss_stop (bs_ifT (ty false rfl) (bss_one (q_retP be_non)))
  | str s => exact bss_stop (bs_ifT (ty false rfl) (bss_one (q_retP be_non)))
  | list l => exact bss_stop (bs_ifT (ty false rfl) (bss_one (q_retP be_non)))
  | dict l => exact absurd rfl (hdx l)
end
end K51

set_option maxRecDepth 100000
set_option maxHeartbeats 4000000
/-! Defs that want to know that no repr is under way around them: their promise, how they are called, the law's own end. -/
namespace TC
open PySem PySem.Spec PyProof.Rows L2
/-- the promise of a def, asked for only where no repr is under way -/
structure FnG (P : Program) (w : World) (K : PySem.W.Frag) (mg : Str → Option Value) (base : Heap) (k : Nat) (f : Addr) (fd : FuncData) (ps : List Str) (sp : Sp) : Prop where
  len : ∀ vs H Q E, sp vs H Q E → vs.length = ps.length
  run : ∀ (A : Around) (outer : List Env) (s : Shared) (H : Hp) (args : Args) (us : List Value) (vs : List V) (Q : VK) (E : XK), A.guards = some [] → Room k A → Env0 P w K mg base A outer s H → BindsTo s fd args (ps.zip us) → Vals vs us → sp vs H Q E →
    codeAny (model P w) A (.call (.ref f) args) (CR CX0 outer P w H s Q E) s
section
variable {P : Program} {w : World} {K : PySem.W.Frag} {mg : Str → Option Value} {base : Heap}
theorem fnG_of {x qual : Str} {st : Stmt} {f : Addr} {fd : FuncData} {N ps : List Str} {k : Nat} {sp : Sp} (F : Fun K x qual st f fd) (S : FnScope N ps (defScope st)) (len : ∀ vs H Q E, sp vs H Q E → vs.length = ps.length)
    (hbody : ∀ (cdv : Value) (A : Around) (outer : List Env) (s : Shared) (H : Hp) (vs : List V) (Q : VK) (E : XK), A.guards = some [] → Room k (A.deeper (envOfC qual (defScope st) s.heap.objs.size f cdv)) → sp vs H Q E →
      ∃ t, PSs (cxOf CX0 P w K mg base N qual (defScope st) f cdv A outer s H E).nox (defBody st) t ∧ t { nx := fun _ H' => Q .non H', rt := Q } (start N vs) H) : FnG P w K mg base (k + 1) f fd ps sp := by
  obtain ⟨oc, od, kV, doc, pm, an, cdv, ct, osl, rfl, lk, hcd⟩ := F.ex
  constructor
  · exact len
  intro A outer s H args us vs Q E hg hr e0 hb r hsp
  have old : ∀ b o, base.get? b = some o → s.heap.get? b = some o := fun b o e => (e0.bs b o e).1
  have KX : K.In s.heap := e0.mod.kin.keeps old
  refine codeAny_call_function hr.depth (KX _ _ lk) rfl S.co S.gen rfl (PySem.W.codeRec_of KX hcd) (hb _ _ _ _ (wpAny_newFunctionEnv_cells S.kind (fun y hy => ?_) fun env he s1 x => ?_))
  · have hm : y.1 ∈ ps := (List.of_mem_zip (a := y.1) (b := y.2) hy).1
    exact (S.par y.1 hm).imp_right fun q => ⟨q, PySem.W.cellsFrom_some _ _ _ (.inl q)⟩
  · subst he
    refine ⟨(e0.mod.nolimit.keeps old).keeps x.toInCall.keep, codeAny_func ?_⟩
    obtain ⟨t, ht, hq⟩ := hbody cdv A outer s H vs Q E hg (hr.deeper _) hsp
    refine wpAny_mono (ht.nox.run [] s1 (start N vs) H _ (inv_start S hr.hd e0 (len _ _ _ _ hsp) r x) hq) (fun fl s' hs => ?_) fun e s' hs => hs
    cases fl with
    | next =>
      obtain ⟨σ', H', J, q⟩ := hs
      exact ⟨.non, H', J.os, J.bare, J.base, J.hok, rfl, q⟩
    | ret u =>
      obtain ⟨v, σ', H', J, rv, q⟩ := hs
      exact ⟨v, H', J.os, J.bare, J.base, J.hok, rv, q⟩
    | brk => exact hs.elim fun _ ⟨_, _, q⟩ => q.elim
    | cont => exact hs.elim fun _ ⟨_, _, q⟩ => q.elim
end
/-! ### calls of such a def -/
structure CalG (F : Fam) (n : Str) (sp : Sp) : Prop where
  ex : ∃ (k : Nat) (f : Addr) (fd : FuncData) (ps : List Str), FnG F.P F.w F.K F.mg F.base k f fd ps sp ∧ k ≤ F.k ∧ F.mg n = some (.ref f) ∧ PySem.W.keepIn F.K (.ref f) = true ∧ Binds F.K fd ps []
  cm : F.ex = none
  gd : F.gd = true
section
variable {F : Fam} {ρ ρ1 : En} {n : Str} {e : Expr} {es : List Expr} {p pos : Pos} {ss : List Sl} {Rl : List Sl → Res → Prop} {x : PyData}
theorem pe_calG {sp : Sp} {X : Cx} {t : TA} (c : CalG F n sp) (hX : Fits F X) (ha : PA X (e :: es) t) (hg : F.sc.names.lookup n = some .globalImplicit) (hdb : (n == ("__debug__" : Str)) = false)
    (he : ∀ env, starEach (e :: es) env = (false, eval e env) :: starEach es env) (hpl : ∀ env, (backTo pos (starEach es env)).any (·.1) = false) : PE X (.Call (.Name n p) (e :: es) [] pos) (tCall sp [] E0 t) := by
  obtain ⟨k, f, fd, ps, G, hk, hm, kp, bd⟩ := c.ex
  constructor
  intro pins s σ H Q I h
  refine wpAny_Call_Name_kw (ld_glob I (hX.gl hg) (by rw [hX.mg]; exact hm) (PySem.W.callWith_K (h₀ := X.base) I.ok.mod.kin (by rw [hX.K]; exact kp) (thn (ha.run pos pins s σ H _ I h) fun us s1 ⟨vs, H1, I1, r, q⟩ => ⟨I1.kIn, ?_⟩) (he _) (hpl _)) hdb)
  have r2 : Vals (vs ++ []) us := by rw [List.append_nil]; exact r
  have G' : FnG X.prog X.w X.K X.mg X.base k f fd ps sp := by rw [hX.prog, hX.w, hX.K, hX.mg, hX.base]; exact G
  have hl : (us ++ []).length = ps.length := by
    rw [List.append_nil, ← r2.length]; exact G'.len _ _ _ _ q
  have hb : BindsTo s1 fd ⟨us, []⟩ (ps.zip us) := by
    have := bd s1 us (by rw [← hX.K]; exact I1.kIn) hl
    rw [List.append_nil] at this
    exact this
  refine wpAny_call (codeAny_mono (G'.run X.A X.stack s1 H1 ⟨us, []⟩ us (vs ++ []) Q E0 (hX.gu c.gd) ((hX.room c.cm).mono hk) I1.env0 hb r2 q) fun r' s' hq => ?_)
  cases r' with
  | error e => exact pass0 pins σ H1 s1 e s' I1 hq
  | ok fl =>
    cases fl with
    | ret u => exact I1.after hq
    | next => exact False.elim hq
    | brk => exact False.elim hq
    | cont => exact False.elim hq
theorem be_callG (c : CalG F n (spP F.K Rl)) (ha : BA F ρ (e :: es) ss ρ1) (hr : Rl ss (.d x)) (hpl : ss.all plainSl = true := by rfl) (hg : F.sc.names.lookup n = some .globalImplicit := by rfl) (hdb : (n == ("__debug__" : Str)) = false := by decide)
    (he : ∀ env, starEach (e :: es) env = (false, eval e env) :: starEach es env := by intro _; rfl) (hpl2 : ∀ env, (backTo pos (starEach es env)).any (·.1) = false := by intro _; rfl) : BE F ρ (.Call (.Name n p) (e :: es) [] pos) x ρ1 := by
  obtain ⟨t, p1, e1⟩ := ha
  refine ⟨_, fun X hX => pe_calG c hX (p1 X hX) hg hdb he hpl2, fun C W H0 T O H σ R Q q => ev_callP e1 hr hpl C W H0 T O H σ R Q fun v H1 H2 R1 s1 s2 ok => q v H2 (R1.grow s2) (s1.trans (cut_same s2)) ok⟩
end
/-! ### a def's body keeps its promise -/
section
variable {P : Program} {w : World} {K : PySem.W.Frag} {mg : Str → Option Value} {base : Heap} {x qual : Str} {st : Stmt} {f : Addr} {fd : FuncData} {N ps : List Str} {k : Nat}
theorem fits_ofG {cdv : Value} {A : Around} {outer : List Env} {s : Shared} {H : Hp} {E : XK} (S : FnScope N ps (defScope st)) (hg : A.guards = some []) (hr : Room k (A.deeper (PyProof.Rows.envOfC qual (defScope st) s.heap.objs.size f cdv))) :
    Fits (famG P w K mg base N (defScope st) k) (cxOf CX0 P w K mg base N qual (defScope st) f cdv A outer s H E).nox :=
  ⟨rfl, rfl, rfl, rfl, rfl, rfl, S.nd, rfl, fun _ => rfl, fun _ => hr, (Nat.lt_of_le_of_lt (Nat.add_le_add_right (Nat.le_add_right _ _) _) hr.un), fun _ _ => rfl, PassesOwn.never, (fun h => nomatch h), (fun _ => ⟨rfl, rfl⟩), (fun _ h => nomatch h), (fun _ h => nomatch h), fun _ => hg⟩
theorem def_okG {Rl : List Sl → Res → Prop} (Fn : Fun K x qual st f fd) (S : FnScope N ps (defScope st)) (hN : ps.length ≤ N.length) (len : ∀ ss r, Rl ss r → ss.length = ps.length)
    (body : ∀ ss r, Rl ss r → ∃ o, BSs (famG P w K mg base N (defScope st) k) ⟨none, ss ++ List.replicate (N.length - ss.length) .un⟩ (defBody st) o ∧ OutIs o r) : FnG P w K mg base (k + 1) f fd ps (spP K Rl) := by
  refine fnG_of Fn S (fun vs H Q E h => ?_) (fun cdv A outer s H vs Q E hg hr h => ?_)
  · obtain ⟨C, ss, r, _, h2, h3, _⟩ := h
    rw [aok_len h2]; exact len ss r h3
  obtain ⟨C, ss, r, al, ok, hR, q⟩ := h
  obtain ⟨o, ⟨t, p1, e1⟩, ho⟩ := body ss r hR
  refine ⟨t, p1 _ (fits_ofG S hg hr), e1 C (fun _ => False) H none none C H _ _ (ExtT.rfl' fun _ => rfl) (rep_start al ok) ?_⟩
  cases o with
  | nx ρ' =>
    have e : r = .d .none := ho
    subst e
    exact fun σ' H' O' T' _ R _ => q _ H' (fun a o h => R.keep a o h id) .non
  | ret r' tm =>
    have e : r' = r := ho
    subst e
    exact fun v H' hk _ ok => q v H' (fun a o h => hk a o h id) ok
  | bk => exact ho.elim
  | ct => exact ho.elim
  | rz c fs ρ' => exact ho.elim
end
end TC

set_option maxRecDepth 100000
set_option maxHeartbeats 4000000
/-! repr(a tuple); sorted(a tuple of data); list.index(e, start), list.pop(i) of a list of one's own. -/
namespace TC
open PySem PySem.Spec PyProof.Rows L2 StX
/-! ### repr -/
def rRepr (K : PySem.W.Frag) : List V → Hp → VK → Prop := fun vs H Q => ∃ (a : Addr) (d : PyData), vs = [V.ref a] ∧ Dp K H (.ref a) d ∧ d.showable = true ∧ d.hasDict = false ∧ d.depth ≤ 60 ∧ d.shown.length ≤ sizeLine ∧ Q (.str d.shown) H
theorem cr_repr {X : Cx} (hg : X.A.guards = some []) (hu : X.A.units + 100 < cLine) : CallR X (.builtin "repr") (rRepr X.K) := by
  intro pins s σ H vs us Q I r h
  obtain ⟨a, d, rfl, hd, hs, hn, hdp, hz, q⟩ := h
  rw [Vals.ref1 r]
  obtain ⟨as, ra⟩ := Dp.reads I d (.ref a) (.ref a) hd rfl
  exact repr_of_reads' ra hs (fun e => by rw [hn] at e; cases e) hg (by omega) (fun _ _ e => e) (fun h' u tk hk => ⟨.str _, H, I.kept (t' := tk) hk, ⟨u, rfl⟩, q⟩) hz
section
variable {F : Fam} {ρ ρ1 ρ2 : En} {a e : Expr} {x d : PyData} {xs ys ds : List PyData} {pos p apos cpos : Pos} {j : Int}
theorem be_repr (h : BE F ρ e (.tuple xs) ρ1) (hgd : F.gd = true) (hc0 : PyData.canLayAll0 xs = true) (hs : PyData.showable (.tuple xs) = true) (hn : PyData.hasDict (.tuple xs) = false) (hdp : PyData.depth (.tuple xs) ≤ 60) (hz : (PyData.shown (.tuple xs)).length ≤ sizeLine) (hm : F.mg "repr" = none)
    (hg : F.sc.names.lookup ("repr" : Str) = some .globalImplicit := by rfl) (hst : ∀ env, starEach [e] env = (false, eval e env) :: starEach [] env := by intro _; rfl) :
    BE F ρ (.Call (.Name "repr" p) [e] [] pos) (.str (PyData.shown (.tuple xs))) ρ1 := by
  obtain ⟨t, p1, e1⟩ := h
  refine ⟨tCB (rRepr F.K) (tCons t tNil), fun X hX => ?_, fun C W H0 T O H σ R Q q => e1 C W H0 T O H σ R _ fun v H1 R1 s1 d1 => ?_⟩
  · have hh := cr_repr (X := X) (hX.gu hgd) (by have := hX.un; omega)
    rw [hX.K] at hh
    exact pe_callB hh (hX.gl hg) (by rw [hX.mg]; exact hm) (by decide +kernel) (pa_cons (p1 X hX) pa_nil (hst _)) (by decide) (by decide) (hst _) rfl
  · cases d1 with
    | tup g1 g2 => exact ⟨_, _, rfl, dq_dp _ _ (by simpa [PyData.canLay0] using hc0) (dp_mono cut_full _ _ (.tup g1 g2)), hs, hn, hdp, hz, q _ H1 R1 s1 (.str _)⟩
end
/-! ### sorted(a tuple) -/
mutual
theorem reads_in {h : Heap} : ∀ (d : PyData) (v : Value) (as : List Addr), Reads h v d as → ∀ b ∈ as, ∃ o, h.get? b = some o
  | .none, _, _, r, b, hb => by cases r; exact absurd hb (by simp)
  | .bool _, _, _, r, b, hb => by cases r; exact absurd hb (by simp)
  | .int _, _, _, r, b, hb => by cases r; exact absurd hb (by simp)
  | .str _, _, _, r, b, hb => by cases r; exact absurd hb (by simp)
  | .list xs, _, _, r, b, hb => by
    cases r with
    | list h1 h2 h3 h4 =>
      rcases List.mem_cons.mp hb with rfl | hb
      · exact ⟨_, h1⟩
      · exact readsA_in xs _ _ h4 b hb
  | .tuple xs, _, _, r, b, hb => by
    cases r with
    | tuple h1 h2 h3 h4 => exact readsA_in xs _ _ h4 b hb
  | .dict kvs, _, _, r, b, hb => by
    cases r with
    | dict h1 h2 h3 h4 h5 =>
      rcases List.mem_append.mp hb with hb | hb
      · rcases List.mem_cons.mp hb with rfl | hb
        · exact ⟨_, h1⟩
        · exact readsK_in kvs _ _ h4 b hb
      · exact readsV_in kvs _ _ h5 b hb
theorem readsA_in {h : Heap} : ∀ (ds : List PyData) (vs : List Value) (as : List Addr), ReadsAll h vs ds as → ∀ b ∈ as, ∃ o, h.get? b = some o
  | [], _, _, r, b, hb => by cases r; exact absurd hb (by simp)
  | d :: ds, _, _, r, b, hb => by
    cases r with
    | cons h1 h2 =>
      rcases List.mem_append.mp hb with hb | hb
      · exact reads_in d _ _ h1 b hb
      · exact readsA_in ds _ _ h2 b hb
theorem readsK_in {h : Heap} : ∀ (ds : List (PyData × PyData)) (vs : List Value) (as : List Addr), ReadsAll h vs (ds.map (·.1)) as → ∀ b ∈ as, ∃ o, h.get? b = some o
  | [], _, _, r, b, hb => by cases r; exact absurd hb (by simp)
  | (k, v) :: ds, _, _, r, b, hb => by
    cases r with
    | cons h1 h2 =>
      rcases List.mem_append.mp hb with hb | hb
      · exact reads_in k _ _ h1 b hb
      · exact readsK_in ds _ _ h2 b hb
theorem readsV_in {h : Heap} : ∀ (ds : List (PyData × PyData)) (vs : List Value) (as : List Addr), ReadsAll h vs (ds.map (·.2)) as → ∀ b ∈ as, ∃ o, h.get? b = some o
  | [], _, _, r, b, hb => by cases r; exact absurd hb (by simp)
  | (k, v) :: ds, _, _, r, b, hb => by
    cases r with
    | cons h1 h2 =>
      rcases List.mem_append.mp hb with hb | hb
      · exact reads_in v _ _ h1 b hb
      · exact readsV_in ds _ _ h2 b hb
end
theorem each_reads2 {h h' : Heap} {n : Nat} (k : ∀ b o, h.get? b = some o → h'.get? b = some o) (lt : ∀ b o, h.get? b = some o → b ≠ n) : ∀ {us : List Value} {ds : List PyData} {as : List Addr}, ReadsAll h us ds as → PySem.W.EachIs (fun v d => ∃ as, Reads h' v d as ∧ n ∉ as) us ds
  | _, _, _, .nil => .nil
  | _, _, _, .cons r rs => .cons ⟨_, PyProof.Rows.Reads.keeps k r, fun hn => by
      obtain ⟨o, e⟩ := reads_in _ _ _ r _ hn
      exact lt _ _ e rfl⟩ (each_reads2 k lt rs)
def rSortedE (K : PySem.W.Frag) : List V → Hp → VK → Prop := fun vs H Q => ∃ (a : Addr) (xs : List V) (ds : List PyData) (Rr : V → PyData → Prop), vs = [V.ref a] ∧ SqT K H a xs ∧ DpAll K H xs ds ∧ Paired Rr xs ds ∧ PySem.W.AllAlike ds ∧ PySem.W.Sortable ds ∧ ds.length ≤ 10000 ∧ (∀ d ∈ ds, d.depth ≤ 60) ∧
  ∀ (ys : List V) (l : Addr), Paired Rr ys (ds.mergeSort (PySem.W.dataLe false id)) → H l = none → Q (.ref l) (upd H l (.lst ys))
theorem cr_sortedE {X : Cx} (hc : X.calm = true) (hu : X.A.units + 100 < cLine) : CallR X (.builtin "sorted") (rSortedE X.K) := by
  intro pins s σ H vs us Q I r h
  obtain ⟨a, xs, ds, Rr, rfl, hq, hd, hp, hal, hk, hl, hdp, q⟩ := h
  rw [Vals.ref1 r]
  obtain ⟨its, rv, ⟨o, ho, hoc, n, hod⟩, hsz⟩ := I.tuple hq
  obtain ⟨as, ra⟩ := Dp.readsAll I ds xs its hd rv
  have em : ds.map id = ds := List.map_id _
  have el : its.length = ds.length := (each_reads ra).length
  have hil : its.length ≤ sizeLine := by rw [el]; exact Nat.le_trans hl (by decide)
  refine Calls.call_function_entry PyProof.Rows.kind_sorted PyProof.Rows.plain_sorted PyProof.Rows.entry_sorted (PyProof.Rows.args_sorted1 _) ?_
  unfold Builtin.«sorted»
  refine wpAny_bind (m := checkCount "sorted" 1 1 _) (wpAny_pure ?_)
  refine wpAny_bind (wpAny_collect_seq (A := X.A.in1) a (.inr rfl) ho hoc hod (fun h' hk2 => ?_) (by simpa using hil))
  refine wpAny_bind (wpAny_newList ?_ (by simpa using hil))
  have I1 : Inv X pins σ H { s with heap := h' } := I.kept (t' := s.toks) hk2
  have hk3 : ∀ b u, h'.get? b = some u → (h'.push { cls := .type "list", data := .seq its.toArray.toList.toArray }).get? b = some u := fun b u z => Heap.get?_push_of_some _ z
  have hoL : (h'.push { cls := .type "list", data := .seq its.toArray.toList.toArray }).get? h'.objs.size = some (PyProof.Rows.seqObj "list" its.toArray.toList.toArray 0) := Heap.get?_push_size _ rfl
  refine wpAny_bind (wpAny_holding (PySem.W.list_sort_data (R := fun (v : Value) (d : PyData) => ∃ x, RelV x v ∧ Rr x d) (enc := id) (bs := ds) (vs := its.toArray.toList) hoL ?e1 ?e2 ?e3 ?e4 (Nat.le_trans hl (by decide)) ?e5 fun out hlen hout => ?_))
  case e1 => exact eachs (X := X) (H := H) (h := s.heap) rv hp
  case e2 => exact each_reads2 (fun b u z => hk3 b u (hk2 b u z)) (fun b u z => Nat.ne_of_lt (Heap.lt_size (hk2 b u z))) ra
  case e3 => rw [em]; exact hal
  case e4 => rw [em]; exact hk
  case e5 => exact fun d hd => by have := hdp d hd; show X.A.units + 1 + 1 + d.depth < cLine; omega
  obtain ⟨ys, y1, y2⟩ := each_out hout
  obtain ⟨ep', hat⟩ := PyProof.Rows.sortedHeap_at (out := out.toArray) hoL
  refine wpAny_pure ⟨_, rfl, .ref h'.objs.size, upd H h'.objs.size (.lst ys), I1.laid (t' := _) (fun b u z => ?_) (Nat.le_refl _) ?_, rfl, q ys _ y2 (I1.hok.fresh (Nat.le_refl _))⟩
  · have hb : b < h'.objs.size := Heap.lt_size z
    rw [PyProof.Rows.sortedHeap_old (Nat.ne_of_lt hb) (Heap.lt_size (hk3 b u z))]
    exact hk3 b u z
  · refine ⟨?_, out, ep', y1, hat⟩
    have : ys.length = out.length := y1.length
    rw [this, hlen]
    exact Nat.le_trans hl (by decide)
section
variable {F : Fam} {ρ ρ1 ρ2 ρ3 : En} {a e : Expr} {x d : PyData} {xs ys ds : List PyData} {pos p apos cpos : Pos} {j : Int}
theorem bl_sortedE (h : BE F ρ e (.tuple ds) ρ1) (hc0 : PyData.canLayAll0 ds = true) (hal : PySem.W.AllAlike ds) (hk : PySem.W.Sortable ds) (hl : ds.length ≤ 10000) (hdp : ∀ d ∈ ds, d.depth ≤ 60) (hm : F.mg "sorted" = none) (hcm : F.ex = none := by rfl) (hg : F.sc.names.lookup ("sorted" : Str) = some .globalImplicit := by rfl) (hs : ∀ env, starEach [e] env = (false, eval e env) :: starEach [] env := by intro _; rfl) :
    BL F ρ (.Call (.Name "sorted" p) [e] [] pos) (ds.mergeSort (PySem.W.dataLe false id)) ρ1 := by
  obtain ⟨t, p1, e1⟩ := h
  refine ⟨tCB (rSortedE F.K) (tCons t tNil), fun X hX => ?_, fun C W H0 T O H σ R Q q => e1 C W H0 T O H σ R _ fun v H1 R1 s1 d1 => ?_⟩
  · have hh := cr_sortedE (X := X) (hX.calm hcm) (by have := hX.un; omega)
    rw [hX.K] at hh
    exact pe_callB hh (hX.gl hg) (by rw [hX.mg]; exact hm) (by decide +kernel) (pa_cons (p1 X hX) pa_nil (hs _)) (by decide) (by decide) (hs _) rfl
  · cases d1 with
    | @tup a us _ g1 g2 =>
      refine ⟨a, us, ds, fun v d => Dq F.K (cut O H1) v d, rfl, seqT_mono cut_full g1, dqa_dpa _ _ hc0 (dpa_mono cut_full _ _ g2), paired_dq g2, hal, hk, hl, hdp, fun ys l hy hn => ?_⟩
      have s2 : Same H1 (upd H1 l (.lst ys)) := same_new hn
      have hn0 : H l = none := by
        cases z : H l with
        | none => rfl
        | some o =>
          by_cases y : O l
          · exact absurd hn (R1.alloc l y)
          · have := (cut_some.mp (s1 l o (cut_some.mpr ⟨y, z⟩))).2
            rw [hn] at this; cases this
      exact q l ys _ hn0 upd_same (R1.hide hn s2 (by rw [upd_same]; simp)) (R1.grow s2) (s1.trans (cut_or1 s2 hn)) (dpa_mono (cut_or1 s2 hn) _ _ (dq_paired hy))
end
/-! ### list.index(e, start) -/
def rIndex3 (K : PySem.W.Frag) : V → List V → Hp → VK → Prop := fun x vs H Q => ∃ (a : Addr) (ws : List V) (y : V) (i : Int) (d : PyData) (ds : List PyData) (j : Nat) (z : PyData), x = V.ref a ∧ vs = [y, .int i] ∧ H a = some (.lst ws) ∧ DpAll K H ws ds ∧ Dp K H y d ∧
  PyData.canLayAll0 ds = true ∧ PyData.depthAll ds ≤ 60 ∧ d.canLay0 = true ∧ 0 ≤ i ∧ i.toNat ≤ j ∧ ds[j]? = some z ∧ PyData.eqv z d = true ∧ (∀ (m : Nat) (z' : PyData), i.toNat ≤ m → m < j → ds[m]? = some z' → PyData.eqv z' d = false) ∧ Q (.int (j : Nat)) H
theorem mt_index3 {X : Cx} (hu : X.A.units + 100 < cLine) : MtM X "list.index" (rIndex3 X.K) := by
  intro pins s σ H x xs v us Q I rx rxs h
  obtain ⟨a, ws, y, i, d, ds, j, z, rfl, rfl, hl, ha, hy, cl, cdp, cd, hi0, hij, hz, hzj, hno, q⟩ := h
  cases rx
  obtain ⟨uy, ui, rfl, ry, ti, rfl⟩ := Vals.two rxs
  obtain ⟨bs, r1⟩ := Dp.reads I d y uy hy ry
  obtain ⟨z0, its, n, rv, hlen, ho⟩ := I.lstM hl
  obtain ⟨as, h4⟩ := Dp.readsAll I ds ws its ha rv
  have hn : its.length = ds.length := SeqAt.ReadsAll.length ds its as h4
  have hmap : its.map (SeqAt.readOf s.heap) = ds := SeqAt.readsAll_map ds its as cl h4
  obtain ⟨hjd, _⟩ := List.getElem?_eq_some_iff.mp hz
  have hsl := sizeLine_eq
  have hj : j < its.toArray.size := by
    have : j < its.length := by omega
    simpa using this
  have at_ : ∀ (m : Nat) (hm : m < its.toArray.size) (z' : PyData), ds[m]? = some z' → SeqAt.readOf s.heap its.toArray[m] = z' := by
    intro m hm z' hz'
    have hml : m < its.length := by simpa using hm
    rw [← hmap, List.getElem?_map, List.getElem?_eq_getElem hml] at hz'
    have e1 : SeqAt.readOf s.heap its[m] = z' := Option.some.inj hz'
    simpa using e1
  have hsf : PySem.SeqAt.searchFrom i its.toArray.size = i.toNat := PySem.SeqAt.searchFrom_nonneg hi0 _
  have eqs := SeqAt.items_eqAt (s := s) (A := X.A) (vs := its.toArray) (show ReadsAll s.heap its.toArray.toList ds as from h4) r1 cl cd (by have := Nat.min_le_left (PyData.depthAll ds) d.depth; omega)
  refine call_meets PySem.F.slot_list_index ⟨_, ho, rfl⟩ PySem.F.entry_list_index (PySem.F.args_list_index_3 _ _ _)
    (PySem.SeqAt.list_index3_found a its.toArray n none #[] uy (fun m => if hm : m < its.toArray.size then PyData.eqv (SeqAt.readOf s.heap its.toArray[m]) d else false) i ti j hj (by rw [hsf]; exact hij) (by omega) ?_ ?_) ⟨ho, ?_, ?_⟩
  · show (if hm : j < its.toArray.size then _ else _) = true
    rw [dif_pos hj, at_ j hj z hz]
    exact hzj
  · intro m hm h1 h2
    show (if hm : m < its.toArray.size then _ else _) = false
    have hml : m < ds.length := by omega
    rw [dif_pos hm, at_ m hm _ (List.getElem?_eq_getElem hml)]
    exact hno m _ (by rw [hsf] at h1; exact h1) h2 (List.getElem?_eq_getElem hml)
  · intro m hm
    show SeqAt.EqAt _ _ _ _ (if hm : m < its.toArray.size then _ else _)
    rw [dif_pos hm]
    exact eqs _ (Array.getElem_mem hm)
  · exact ⟨.int (j : Nat), H, I.tok _, ⟨_, rfl⟩, q⟩
theorem dpa_erase {K : PySem.W.Frag} {Z : Hp} : ∀ {vs : List V} {ds : List PyData} (i : Nat), DqA K Z vs ds → DqA K Z (vs.eraseIdx i) (ds.eraseIdx i)
  | _, _, _, .nil => .nil
  | _, _, 0, .cons _ t => t
  | _, _, i + 1, .cons h t => .cons h (dpa_erase i t)
section
variable {F : Fam} {ρ ρ1 ρ2 ρ3 : En} {a e : Expr} {x d z : PyData} {xs ys ds : List PyData} {pos p apos cpos : Pos} {j : Int}
/-- name.index(e, a) -/
theorem be_index3 (i : Nat) {n : Str} {k : Nat} (hs : ρ.sl[i]? = some (.own xs)) (h0 : BE F ρ e d ρ1) (h : BE F ρ1 a (.int j) ρ2) (hs1 : ρ2.sl[i]? = some (.own ys)) (cl : PyData.canLayAll0 ys = true) (cdp : PyData.depthAll ys ≤ 60) (cd : d.canLay0 = true) (hj : 0 ≤ j) (hjk : j.toNat ≤ k)
    (hz : ys[k]? = some z) (hzd : PyData.eqv z d = true) (hno : ∀ (m : Nat) (z' : PyData), j.toNat ≤ m → m < k → ys[m]? = some z' → PyData.eqv z' d = false) (hN : F.N[i]? = some n := by rfl) (hv : Vis F.sc n := by first | exact Or.inl rfl | exact Or.inr (Or.inl rfl) | exact Or.inr (Or.inr rfl))
    (hd : (n == ("__debug__" : Str)) = false := by decide) (hcd : (n == ("__classdict__" : Str)) = false := by decide)
    (h1 : ∀ env, attributeBase (.Name n p) "index" env (eval (.Name n p) env) = eval (.Name n p) env := by intro _; rfl)
    (h2 : ∀ env, ((backTo cpos (starEach [e, a] env)).all (fun x => !x.1) && (backToKw cpos (keywordEach [] env)).all (fun x => x.1.isSome) && decide (([e, a] : List Expr).length + ([] : List Keyword).length + (if ([] : List Keyword).isEmpty then 0 else 1) < 30)) = true := by intro _; rfl)
    (h3 : (apos.endLine == cpos.line) = true := by rfl) (h4 : ∀ env, starEach [e, a] env = (false, eval e env) :: starEach [a] env := by intro _; rfl) (h5 : ∀ env, starEach [a] env = (false, eval a env) :: starEach [] env := by intro _; rfl)
    (h6 : ∀ env, (backTo cpos (starEach [a] env)).any (·.1) = false := by intro _; rfl) :
    BE F ρ (.Call (.Attribute (.Name n p) "index" apos) [e, a] [] cpos) (.int (k : Nat)) ρ2 := by
  obtain ⟨t0, p0, e0⟩ := h0
  obtain ⟨t, p1, e1⟩ := h
  refine ⟨tBM F.K "list" (rIndex3 F.K) (tVar i) (tCons t0 (tCons t tNil)), fun X hX => ?_, fun C W H0 T O H σ R Q q => ?_⟩
  · have h := pe_bm (X := X) (apos := apos) (cpos := cpos) PySem.F.plainAttrs_list PySem.F.slot_list_index PySem.F.type_list_index (mt_index3 (X := X) (by have := hX.un; omega)) (pe_var (pos := p) (by rw [hX.N]; exact hN) (hX.vis hv) hd hcd) (pa_cons (p0 X hX) (pa_cons (p1 X hX) pa_nil (h5 _)) (h4 _)) (h1 _) (h2 _) h3 (h4 _) (h6 _)
    rw [hX.K] at h
    exact h
  · obtain ⟨l, vs, q1, _, _, _, q4, _⟩ := R.sl i _ hs
    refine ⟨_, q1, tyV_list q4, e0 C W H0 T O H σ R _ fun u H1 R1 s1 d1 => e1 C W H0 T O H1 σ R1 _ fun v H2 R2 s2 d2 => ?_⟩
    cases d2
    obtain ⟨l', ws, r1, o1, c1, t1, r4, r5⟩ := R2.sl i _ hs1
    rw [q1] at r1
    cases r1
    exact ⟨l, ws, u, j, d, ys, k, z, rfl, rfl, r4, dqa_dpa _ _ cl (dpa_mono cut_full _ _ r5), dq_dp _ _ cd (dp_mono cut_full _ _ (dp_mono s2 _ _ d1)), cl, cdp, cd, hj, hjk, hz, hzd, hno, q _ H2 R2 (s1.trans s2) (.int _)⟩
/-- name.pop(a) -/
theorem be_popAt (i : Nat) {n : Str} {k : Nat} (hs : ρ.sl[i]? = some (.own xs)) (h : BE F ρ a (.int j) ρ1) (hs1 : ρ1.sl[i]? = some (.own ys)) (hl : ys.length ≤ 100000) (hj : j = (k : Nat)) (hz : ys[k]? = some z) (hN : F.N[i]? = some n := by rfl) (hv : Vis F.sc n := by first | exact Or.inl rfl | exact Or.inr (Or.inl rfl) | exact Or.inr (Or.inr rfl))
    (hd : (n == ("__debug__" : Str)) = false := by decide) (hcd : (n == ("__classdict__" : Str)) = false := by decide)
    (h1 : ∀ env, attributeBase (.Name n p) "pop" env (eval (.Name n p) env) = eval (.Name n p) env := by intro _; rfl)
    (h2 : ∀ env, ((backTo cpos (starEach [a] env)).all (fun x => !x.1) && (backToKw cpos (keywordEach [] env)).all (fun x => x.1.isSome) && decide (([a] : List Expr).length + ([] : List Keyword).length + (if ([] : List Keyword).isEmpty then 0 else 1) < 30)) = true := by intro _; rfl)
    (h3 : (apos.endLine == cpos.line) = true := by rfl) (h5 : ∀ env, starEach [a] env = (false, eval a env) :: starEach [] env := by intro _; rfl)
    (h6 : ∀ env, (backTo cpos (starEach [] env)).any (·.1) = false := by intro _; rfl) :
    BE F ρ (.Call (.Attribute (.Name n p) "pop" apos) [a] [] cpos) z ⟨ρ1.tm, ρ1.sl.set i (.own (ys.eraseIdx k))⟩ := by
  obtain ⟨t, p1, e1⟩ := h
  refine ⟨tBM F.K "list" rPopAt (tVar i) (tCons t tNil), fun X hX => ?_, fun C W H0 T O H σ R Q q => ?_⟩
  · have h := pe_bm (X := X) (apos := apos) (cpos := cpos) PySem.F.plainAttrs_list PySem.F.slot_list_pop PySem.F.type_list_pop mt_popAt (pe_var (pos := p) (by rw [hX.N]; exact hN) (hX.vis hv) hd hcd) (pa_cons (p1 X hX) pa_nil (h5 _)) (h1 _) (h2 _) h3 (h5 _) (h6 _)
    rw [hX.K] at h
    exact h
  · obtain ⟨l, vs, q1, _, _, _, q4, _⟩ := R.sl i _ hs
    refine ⟨_, q1, tyV_list q4, e1 C W H0 T O H σ R _ fun u H1 R1 s1 d1 => ?_⟩
    cases d1
    obtain ⟨l', ws, r1, o1, c1, t1, r4, r5⟩ := R1.sl i _ hs1
    rw [q1] at r1
    cases r1
    obtain ⟨v, hv', dv⟩ := dpa_get r5 hz
    have hlt : k < ys.length := (List.getElem?_eq_some_iff.mp hz).1
    have hw : ws.length = ys.length := dpa_len r5
    refine ⟨l, ws, j, k, v, rfl, rfl, r4, by omega, by omega, ?_, hv', ?_⟩
    · subst hj
      unfold PySem.seqIndex?
      have hk0 : ¬ ((k : Nat) : Int) < 0 := by omega
      have hkl : ((k : Nat) : Int) < (ws.length : Nat) := by omega
      simp only [if_neg hk0]
      rw [decide_eq_true (show (0 : Int) ≤ (k : Nat) by omega), decide_eq_true hkl]
      simp
    · refine q _ _ (R1.mut hs1 q1 (dpa_erase k r5)) ?_ ?_
      · rw [cut_upd o1]
        exact s1
      · rw [cut_upd o1]
        exact dv
end
end TC

set_option maxRecDepth 100000
set_option maxHeartbeats 4000000
/-! Rows of deeds: sorted rows, rows as texts, as few exchanges as lead from one row to another. -/
namespace DM
open PySem PySem.Spec L2 TC
/-! ### deeds and their data -/
def unI : PyData → Int
  | .int i => i
  | _ => 0
def unD : PyData → De
  | .tuple (.str n :: l) => (n, l.map unI)
  | _ => ("", [])
theorem unD_deD (d : De) : unD (deD d) = d := by
  obtain ⟨n, l⟩ := d
  show (n, (l.map PyData.int).map unI) = _
  rw [List.map_map]
  congr 1
  exact List.map_id _
theorem deD_inj {d e : De} (h : deD d = deD e) : d = e := by rw [← unD_deD d, h, unD_deD]
theorem dsD_inj {l m : List De} (h : dsD l = dsD m) : l = m := by
  have := congrArg (List.map unD) h
  unfold dsD at this
  rw [List.map_map, List.map_map] at this
  have e : (unD ∘ deD) = id := funext unD_deD
  rw [e, List.map_id, List.map_id] at this
  exact this
theorem dsD_perm {l m : List De} (h : (dsD l).Perm (dsD m)) : l.Perm m := by
  have := h.map unD
  unfold dsD at this
  rw [List.map_map, List.map_map] at this
  have e : (unD ∘ deD) = id := funext unD_deD
  rwa [e, List.map_id, List.map_id] at this
theorem eqv_deD (d e : De) : PyData.eqv (deD d) (deD e) = decide (d = e) := by
  show PyData.eqvAll (.str d.1 :: d.2.map .int) (.str e.1 :: e.2.map .int) = _
  rw [PyData.eqvAll, eqv_str, eqvAll_map PyData.int (fun a b => eqv_int)]
  obtain ⟨n, l⟩ := d
  obtain ⟨m, k⟩ := e
  by_cases h1 : n = m <;> by_cases h2 : l = k <;> simp [h1, h2]
theorem eqv_dsD (l m : List De) : PyData.eqvAll (dsD l) (dsD m) = decide (l = m) := eqvAll_map deD eqv_deD l m
/-! ### sorted rows -/
theorem lt_deD (d e : De) : PySem.W.dataLt (deD d) (deD e) = if d.1 = e.1 then decide (d.2 < e.2) else PySem.W.dataLt (.str d.1) (.str e.1) := by
  show PySem.W.dataLt (.tuple _) (.tuple _) = _
  rw [PySem.W.dataLt_tuple, PySem.W.dataLt_cons (by simp [PySem.W.alike]), eqv_str]
  by_cases h : d.1 = e.1
  · rw [if_pos (by simpa using h), if_pos h]
    exact PySem.W.dataLt_ints _ _
  · rw [if_neg (by simpa using h), if_neg h]
theorem str_anti {s t : Str} (h1 : PySem.W.dataLt (.str s) (.str t) = false) (h2 : PySem.W.dataLt (.str t) (.str s) = false) : s = t := by
  rw [PySem.W.dataLt_str] at h1 h2
  have a1 : ¬ s.cps.toList < t.cps.toList := of_decide_eq_false h1
  have a2 : ¬ t.cps.toList < s.cps.toList := of_decide_eq_false h2
  have : s.cps.toList = t.cps.toList := List.le_antisymm (List.not_lt.mp a2) (List.not_lt.mp a1)
  obtain ⟨s⟩ := s
  obtain ⟨t⟩ := t
  congr 1
  exact Array.toList_inj.mp this
theorem de_anti {d e : De} (h1 : PySem.W.dataLt (deD d) (deD e) = false) (h2 : PySem.W.dataLt (deD e) (deD d) = false) : d = e := by
  rw [lt_deD] at h1 h2
  by_cases h : d.1 = e.1
  · rw [if_pos h] at h1
    rw [if_pos h.symm] at h2
    have a1 : ¬ d.2 < e.2 := of_decide_eq_false h1
    have a2 : ¬ e.2 < d.2 := of_decide_eq_false h2
    exact Prod.ext h (List.le_antisymm (List.not_lt.mp a2) (List.not_lt.mp a1))
  · rw [if_neg h] at h1
    rw [if_neg (fun z => h z.symm)] at h2
    exact absurd (str_anti h1 h2) h
theorem sort_perm {xs ys : List PyData} (h : xs.Perm ys) (ha : ∀ x ∈ ys, ∀ y ∈ ys, PySem.W.dataLt x y = false → PySem.W.dataLt y x = false → x = y) : xs.mergeSort (PySem.W.dataLe false id) = ys.mergeSort (PySem.W.dataLe false id) := by
  have tot : PySem.W.TotalLe (PySem.W.dataLe false (id : PyData → PyData)) := PySem.W.sortLe_total _ _ _
  have w1 := List.pairwise_mergeSort (le := PySem.W.dataLe false (id : PyData → PyData)) (fun a b c h1 h2 => tot.trans a b c h1 h2) (fun a b => by rcases tot.total a b with h | h <;> simp [h]) xs
  have w2 := List.pairwise_mergeSort (le := PySem.W.dataLe false (id : PyData → PyData)) (fun a b c h1 h2 => tot.trans a b c h1 h2) (fun a b => by rcases tot.total a b with h | h <;> simp [h]) ys
  have p1 := List.mergeSort_perm xs (PySem.W.dataLe false id)
  have p2 := List.mergeSort_perm ys (PySem.W.dataLe false id)
  refine ((p1.trans h).trans p2.symm).eq_of_pairwise (fun a b hx hy h1 h2 => ?_) w1 w2
  have m1 : a ∈ ys := ((p1.trans h).mem_iff).mp hx
  have m2 : b ∈ ys := p2.mem_iff.mp hy
  have g1 : (!PySem.W.dataLt b a) = true := h1
  have g2 : (!PySem.W.dataLt a b) = true := h2
  exact ha a m1 b m2 (by simpa using g2) (by simpa using g1)
theorem sort_same {xs ys : List PyData} (h : xs.mergeSort (PySem.W.dataLe false id) = ys.mergeSort (PySem.W.dataLe false id)) : xs.Perm ys :=
  (List.mergeSort_perm xs _).symm.trans (h ▸ List.mergeSort_perm ys _)
theorem sort_de (l m : List De) : (dsD l).mergeSort (PySem.W.dataLe false id) = (dsD m).mergeSort (PySem.W.dataLe false id) ↔ l.Perm m := by
  refine ⟨fun h => dsD_perm (sort_same h), fun h => sort_perm (h.map deD) fun x hx y hy h1 h2 => ?_⟩
  obtain ⟨d, _, rfl⟩ := List.mem_map.mp hx
  obtain ⟨e, _, rfl⟩ := List.mem_map.mp hy
  exact congrArg deD (de_anti h1 h2)
theorem sort_txt (l m : List Str) : (l.map PyData.str).mergeSort (PySem.W.dataLe false id) = (m.map PyData.str).mergeSort (PySem.W.dataLe false id) ↔ l.Perm m := by
  refine ⟨fun h => ?_, fun h => sort_perm (h.map PyData.str) fun x hx y hy h1 h2 => ?_⟩
  · have := (sort_same h).map fun | PyData.str s => s | _ => ("" : Str)
    rw [List.map_map, List.map_map] at this
    exact (List.map_id l) ▸ (List.map_id m) ▸ this
  · obtain ⟨d, _, rfl⟩ := List.mem_map.mp hx
    obtain ⟨e, _, rfl⟩ := List.mem_map.mp hy
    exact congrArg PyData.str (str_anti h1 h2)
/-! ### deeds as texts -/
def Dg (d : De) : Prop := ∀ i ∈ d.2, i ∈ ([0, 1, 2, 3, 4, 5, 6, 7, 8, 9] : List Int)
theorem dg_text : ∀ i ∈ ([0, 1, 2, 3, 4, 5, 6, 7, 8, 9] : List Int), (PyData.shown (.int i)).cps.toList = [48 + i.toNat] := by decide +kernel
theorem dg_show : ∀ i ∈ ([0, 1, 2, 3, 4, 5, 6, 7, 8, 9] : List Int), PyData.showable (.int i) = true := by decide +kernel
theorem dg_num : ∀ i ∈ ([0, 1, 2, 3, 4, 5, 6, 7, 8, 9] : List Int), 0 ≤ i ∧ i ≤ 9 := by decide
theorem names_apart : ∀ n ∈ names, ∀ m ∈ names, (reprText n).cps.toList.take 3 = (reprText m).cps.toList.take 3 → n = m := by decide +kernel
theorem names_long : ∀ n ∈ names, 3 ≤ (reprText n).cps.toList.length ∧ (reprText n).cps.toList.length ≤ 20 := by decide +kernel
theorem cps_app (a b : Str) : (a ++ b).cps.toList = a.cps.toList ++ b.cps.toList := by
  show (a.cps ++ b.cps).toList = _
  exact Array.toList_append
theorem join_cps (sep : Str) : ∀ (ys : List Str) (x : Str), (Str.join sep (x :: ys)).cps.toList = x.cps.toList ++ ys.flatMap fun y => sep.cps.toList ++ y.cps.toList
  | [], x => by simp [Str.join]
  | y :: ys, x => by
    show (x ++ sep ++ Str.join sep (y :: ys)).cps.toList = _
    rw [cps_app, cps_app, join_cps sep ys y, List.flatMap_cons]
    simp only [List.append_assoc]
theorem shownAll_map (l : List PyData) : PyData.shownAll l = l.map PyData.shown := by
  induction l with
  | nil => rfl
  | cons x l ih => show PyData.shown x :: PyData.shownAll l = _; rw [ih]; rfl
def txD (d : De) : Str := PyData.shown (deD d)
theorem tx_cps {d : De} (h : Ok d) (hg : Dg d) : (txD d).cps.toList = [40] ++ (reprText d.1).cps.toList ++ d.2.flatMap (fun i => [44, 32, 48 + i.toNat]) ++ [41] := by
  obtain ⟨n, l⟩ := d
  have hl : 1 ≤ l.length := h.2.1
  show (tupleText (PyData.shownAll (.str n :: l.map .int))).cps.toList = _
  unfold tupleText
  rw [shownAll_map, List.map_cons]
  have e1 : ¬ ((PyData.shown (.str n) :: (l.map PyData.int).map PyData.shown).length == 1) = true := by
    simp only [List.length_cons, List.length_map, beq_iff_eq]
    omega
  rw [if_neg e1, cps_app, cps_app, join_cps]
  have e2 : ∀ l : List Int, (∀ i ∈ l, i ∈ ([0, 1, 2, 3, 4, 5, 6, 7, 8, 9] : List Int)) → (((l.map PyData.int).map PyData.shown).flatMap fun y => (Str.ofString ", ").cps.toList ++ y.cps.toList) = l.flatMap (fun i => [44, 32, 48 + i.toNat]) := by
    intro l
    induction l with
    | nil => intro _; rfl
    | cons i l ih =>
      intro hi
      rw [List.map_cons, List.map_cons, List.flatMap_cons, List.flatMap_cons, ih (fun j hj => hi j (by simp [hj])), dg_text i (hi i (by simp))]
      rfl
  rw [e2 l hg]
  rfl
theorem flat_inj : ∀ (l k : List Int), (∀ i ∈ l, i ∈ ([0, 1, 2, 3, 4, 5, 6, 7, 8, 9] : List Int)) → (∀ i ∈ k, i ∈ ([0, 1, 2, 3, 4, 5, 6, 7, 8, 9] : List Int)) → l.flatMap (fun i => [44, 32, 48 + i.toNat]) ++ [41] = k.flatMap (fun i => [44, 32, 48 + i.toNat]) ++ [41] → l = k
  | [], [], _, _, _ => rfl
  | [], j :: k, _, _, h => by simp at h
  | i :: l, [], _, _, h => by simp at h
  | i :: l, j :: k, h1, h2, h => by
    rw [List.flatMap_cons, List.flatMap_cons, List.append_assoc, List.append_assoc] at h
    simp only [List.cons_append, List.nil_append, List.cons.injEq, true_and] at h
    obtain ⟨e, h⟩ := h
    have n1 := dg_num i (h1 i (by simp))
    have n2 := dg_num j (h2 j (by simp))
    have : i = j := by omega
    rw [this, flat_inj l k (fun x hx => h1 x (by simp [hx])) (fun x hx => h2 x (by simp [hx])) h]
theorem tx_inj {d e : De} (h1 : Ok d) (g1 : Dg d) (h2 : Ok e) (g2 : Dg e) (h : txD d = txD e) : d = e := by
  have h : (txD d).cps.toList = (txD e).cps.toList := by rw [h]
  rw [tx_cps h1 g1, tx_cps h2 g2] at h
  simp only [List.append_assoc, List.cons_append, List.nil_append, List.cons.injEq, true_and] at h
  have l1 := names_long d.1 h1.1
  have l2 := names_long e.1 h2.1
  have t := congrArg (List.take 3) h
  rw [List.take_append_of_le_length l1.1, List.take_append_of_le_length l2.1] at t
  have en := names_apart _ h1.1 _ h2.1 t
  rw [en] at h
  exact Prod.ext en (flat_inj _ _ g1 g2 (List.append_cancel_left h))
theorem tx_len {d : De} (h : Ok d) (hg : Dg d) : (txD d).length ≤ 100 := by
  have e := congrArg List.length (tx_cps h hg)
  have l1 := names_long d.1 h.1
  have hl := h.2.2.2
  have f : ∀ l : List Int, (l.flatMap (fun i => [44, 32, 48 + i.toNat])).length = 3 * l.length := by
    intro l
    induction l with
    | nil => rfl
    | cons i l ih => rw [List.flatMap_cons, List.length_append, ih]; simp only [List.length_cons, List.length_nil]; omega
  rw [List.length_append, List.length_append, List.length_append, f] at e
  simp only [List.length_cons, List.length_nil] at e
  show (txD d).cps.size ≤ _
  rw [← Array.length_toList]
  omega
theorem deD_showable {d : De} (hg : Dg d) : PyData.showable (deD d) = true := by
  show PyData.showableAll (.str d.1 :: d.2.map .int) = true
  have f : ∀ l : List Int, (∀ i ∈ l, i ∈ ([0, 1, 2, 3, 4, 5, 6, 7, 8, 9] : List Int)) → PyData.showableAll (l.map .int) = true := by
    intro l
    induction l with
    | nil => intro _; rfl
    | cons i l ih =>
      intro h
      show (PyData.showable (.int i) && PyData.showableAll (l.map .int)) = true
      rw [dg_show i (h i (by simp)), ih (fun j hj => h j (by simp [hj]))]
      rfl
  show (PyData.showable (.str d.1) && PyData.showableAll (d.2.map .int)) = true
  rw [f _ hg]
  rfl
theorem tx_perm {l m : List De} (h1 : ∀ d ∈ l, Ok d ∧ Dg d) (h2 : ∀ d ∈ m, Ok d ∧ Dg d) : (l.map txD).Perm (m.map txD) ↔ l.Perm m := by
  refine ⟨fun h => ?_, fun h => h.map _⟩
  -- a left inverse on the deeds in play
  let g : Str → De := fun s => ((l ++ m).find? fun d => decide (txD d = s)).getD ("", [])
  have hg : ∀ d ∈ l ++ m, g (txD d) = d := by
    intro d hd
    have ok : ∀ e ∈ l ++ m, Ok e ∧ Dg e := fun e he => (List.mem_append.mp he).elim (h1 e) (h2 e)
    show ((l ++ m).find? fun e => decide (txD e = txD d)).getD ("", []) = d
    cases q : (l ++ m).find? fun e => decide (txD e = txD d) with
    | none =>
      have := (List.find?_eq_none.mp q) d hd
      simp at this
    | some e =>
      have e1 : txD e = txD d := by simpa using List.find?_some q
      have e2 := List.mem_of_find?_eq_some q
      exact tx_inj (ok e e2).1 (ok e e2).2 (ok d hd).1 (ok d hd).2 e1
  have h := h.map g
  rw [List.map_map, List.map_map] at h
  have e1 : l.map (g ∘ txD) = l := (List.map_congr_left fun d hd => hg d (by simp [hd])).trans (List.map_id l)
  have e2 : m.map (g ∘ txD) = m := (List.map_congr_left fun d hd => hg d (by simp [hd])).trans (List.map_id m)
  rwa [e1, e2] at h
end DM

set_option maxRecDepth 100000
set_option maxHeartbeats 4000000
/-! As few exchanges as lead from one row to another: one deed after another is brought to its place; each exchange puts one pair right. -/
namespace DM
open PySem PySem.Spec L2 TC
theorem ind_self (d : De) : ind d d = false := by
  unfold ind
  rw [if_pos (by simp)]
/-- the places that bring the deed at off + s down to off -/
def downs (off : Nat) : Nat → List Int
  | 0 => []
  | s + 1 => ((off + s : Nat) : Int) :: downs off s
theorem downs_len (off : Nat) : ∀ s, (downs off s).length = s
  | 0 => rfl
  | s + 1 => by show (downs off s).length + 1 = _; rw [downs_len off s]
def exR : Nat → List De → List De → Option (List Int)
  | _, _, [] => some []
  | off, row, t :: ts => if (row.take (row.idxOf t)).all (fun a => ind a t) = true then (exR (off + 1) (row.eraseIdx (row.idxOf t)) ts).map (downs off (row.idxOf t) ++ ·) else none
theorem exR_cons (off : Nat) (row ts : List De) (t : De) : exR off row (t :: ts) = if (row.take (row.idxOf t)).all (fun a => ind a t) = true then (exR (off + 1) (row.eraseIdx (row.idxOf t)) ts).map (downs off (row.idxOf t) ++ ·) else none := rfl
/-- a row with t in it, about t's first place -/
theorem split_at {row : List De} {t : De} (h : t ∈ row) : ∃ A B, row = A ++ t :: B ∧ t ∉ A ∧ row.idxOf t = A.length ∧ row.take (row.idxOf t) = A ∧ row.eraseIdx (row.idxOf t) = A ++ B := by
  induction row with
  | nil => simp at h
  | cons d row ih =>
    by_cases e : d = t
    · subst e
      exact ⟨[], row, rfl, by simp, by simp, by simp, by simp⟩
    · have h' : t ∈ row := by
        rcases List.mem_cons.mp h with z | z
        · exact absurd z.symm e
        · exact z
      obtain ⟨A, B, h1, h2, h3, h4, h5⟩ := ih h'
      have e3 : (d :: row).idxOf t = row.idxOf t + 1 := by
        rw [List.idxOf_cons, beq_false_of_ne e]; rfl
      refine ⟨d :: A, B, by rw [h1]; rfl, ?_, ?_, ?_, ?_⟩
      · intro z
        rcases List.mem_cons.mp z with z | z
        · exact e z.symm
        · exact h2 z
      · rw [e3, h3]; rfl
      · rw [e3, List.take_succ_cons, h4]
      · rw [e3, List.eraseIdx_cons_succ, h5]; rfl
theorem perm_cut {row ts A B : List De} {t : De} (h : row.Perm (t :: ts)) (e : row = A ++ t :: B) : (A ++ B).Perm ts := by
  subst e
  exact (List.perm_middle.symm.trans h).cons_inv
theorem getD_mid (L B : List De) (a : De) : (L ++ a :: B).getD L.length ("", []) = a := by
  rw [List.getD_eq_getElem?_getD, List.getElem?_append_right (Nat.le_refl _), Nat.sub_self]; rfl
theorem swp_mid (L B : List De) (a t : De) : swp (L ++ a :: t :: B) L.length = L ++ t :: a :: B := by
  rw [← swp_cut (by simp)]
  have e1 : (L ++ a :: t :: B).getD L.length ("", []) = a := getD_mid _ _ _
  have e2 : (L ++ a :: t :: B).getD (L.length + 1) ("", []) = t := by
    have : L ++ a :: t :: B = (L ++ [a]) ++ t :: B := by simp
    rw [this, show L.length + 1 = (L ++ [a]).length by simp]
    exact getD_mid _ _ _
  rw [e1, e2, List.take_left' rfl]
  have e3 : (L ++ a :: t :: B).drop (L.length + 2) = B := by
    have : L ++ a :: t :: B = (L ++ [a, t]) ++ B := by simp
    rw [this, List.drop_left' (by simp)]
  rw [e3]
  simp
theorem down_run (pre : List De) (t : De) (ps : List PyData) : ∀ (n : Nat) (A B : List De), A.length = n → (∀ a ∈ A, ind a t = true) → runJ (pre ++ A ++ t :: B) ((downs pre.length n).map PyData.int ++ ps) = runJ (pre ++ t :: (A ++ B)) ps
  | 0, A, B, hl, _ => by
    have : A = [] := List.eq_nil_of_length_eq_zero hl
    subst this
    simp [downs]
  | n + 1, A, B, hl, hA => by
    have hne : A ≠ [] := fun e => by subst e; simp at hl
    obtain ⟨A', a, rfl⟩ : ∃ A' a, A = A' ++ [a] := ⟨A.dropLast, A.getLast hne, (List.dropLast_concat_getLast hne).symm⟩
    have hl' : A'.length = n := by simpa using hl
    have e0 : pre ++ (A' ++ [a]) ++ t :: B = (pre ++ A') ++ a :: t :: B := by simp
    have el : (pre ++ A').length = pre.length + n := by simp [hl']
    show (match stepJ (pre ++ (A' ++ [a]) ++ t :: B) (.int ((pre.length + n : Nat) : Int)) with | some r => runJ r ((downs pre.length n).map PyData.int ++ ps) | none => none) = _
    have es : stepJ (pre ++ (A' ++ [a]) ++ t :: B) (.int ((pre.length + n : Nat) : Int)) = some (pre ++ A' ++ t :: (a :: B)) := by
      show stepX _ _ = _
      unfold stepX
      have c1 : isW (.int ((pre.length + n : Nat) : Int)) 0 (((pre ++ (A' ++ [a]) ++ t :: B).length : Int) - 2) = true := by
        rw [isW_int]
        simp only [List.length_append, List.length_cons, List.length_nil, hl']
        omega
      rw [if_pos c1, Int.toNat_natCast, e0, ← el, getD_mid]
      have e2 : ((pre ++ A') ++ a :: t :: B).getD ((pre ++ A').length + 1) ("", []) = t := by
        have : (pre ++ A') ++ a :: t :: B = ((pre ++ A') ++ [a]) ++ t :: B := by simp
        rw [this, show (pre ++ A').length + 1 = ((pre ++ A') ++ [a]).length by simp only [List.length_append, List.length_cons, List.length_nil]]
        exact getD_mid _ _ _
      rw [e2, if_pos (hA a (by simp)), swp_mid]
    rw [es]
    show runJ (pre ++ A' ++ t :: (a :: B)) ((downs pre.length n).map PyData.int ++ ps) = _
    rw [down_run pre t ps n A' (a :: B) hl' fun x hx => hA x (by simp [hx])]
    simp
theorem ex_run : ∀ (es : List De) (pre row : List De) (ps : List Int), row.Perm es → exR pre.length row es = some ps → runJ (pre ++ row) (ps.map PyData.int) = some (pre ++ es)
  | [], pre, row, ps, hp, h => by
    have : row = [] := hp.eq_nil
    subst this
    cases h
    rfl
  | t :: ts, pre, row, ps, hp, h => by
    obtain ⟨A, B, e1, e2, e3, e4, e5⟩ := split_at (hp.mem_iff.mpr (by simp : t ∈ t :: ts))
    rw [exR_cons, e4, e5, e3] at h
    split at h
    · rename_i hA
      cases q : exR (pre.length + 1) (A ++ B) ts with
      | none => rw [q] at h; cases h
      | some qs =>
        rw [q] at h
        cases h
        subst e1
        rw [List.map_append, ← List.append_assoc, down_run pre t (qs.map PyData.int) A.length A B rfl (by simpa using hA)]
        have := ex_run ts (pre ++ [t]) (A ++ B) qs (perm_cut hp rfl) (by rw [List.length_append]; exact q)
        rw [List.append_assoc, List.append_assoc] at this
        exact this
    · cases h
theorem exR_ints : ∀ (es : List De) (off : Nat) (row : List De) (ps : List Int), row.Perm es → exR off row es = some ps → ps.length ≤ es.length * es.length
  | [], off, row, ps, hp, h => by cases h; simp
  | t :: ts, off, row, ps, hp, h => by
    obtain ⟨A, B, e1, e2, e3, e4, e5⟩ := split_at (hp.mem_iff.mpr (by simp : t ∈ t :: ts))
    rw [exR_cons, e4, e5, e3] at h
    split at h
    · cases q : exR (off + 1) (A ++ B) ts with
      | none => rw [q] at h; cases h
      | some qs =>
        rw [q] at h
        cases h
        have ih := exR_ints ts (off + 1) (A ++ B) qs (perm_cut hp e1) q
        have hl := (perm_cut hp e1).length_eq
        rw [List.length_append] at hl
        rw [List.length_append, downs_len, List.length_cons]
        have : (ts.length + 1) * (ts.length + 1) = ts.length * ts.length + 2 * ts.length + 1 := by
          rw [Nat.add_mul, Nat.mul_add]; omega
        omega
    · cases h
/-! ### places, and pairs that stand the other way round -/
def idxs (es : List De) (d : De) : List Nat := (List.range es.length).filter fun j => decide (es.getD j ("", []) = d)
theorem idxs_cons (t d : De) (ts : List De) : idxs (t :: ts) d = (if t = d then [0] else []) ++ (idxs ts d).map (· + 1) := by
  unfold idxs
  rw [List.length_cons, List.range_succ_eq_map, List.filter_cons, List.filter_map]
  have e : ((fun j => decide ((t :: ts).getD j ("", []) = d)) ∘ Nat.succ) = fun j => decide (ts.getD j ("", []) = d) := by
    funext j
    simp
  rw [e]
  by_cases h : t = d
  · rw [if_pos (by simpa using h), if_pos h]; rfl
  · rw [if_neg (by simpa using h), if_neg h]; rfl
theorem idxs_len (d : De) : ∀ es, (idxs es d).length = es.count d
  | [] => rfl
  | t :: ts => by
    rw [idxs_cons, List.length_append, List.length_map, idxs_len d ts, List.count_cons]
    by_cases h : t = d
    · rw [if_pos h, if_pos (by simpa using h)]; simp; omega
    · rw [if_neg h, if_neg (by simpa using h)]; simp
def spt (es : List De) (d : De) (b : Nat) : Nat := (idxs es d).getD b 0
def spG (es : List De) : List De → List De → List Nat
  | _, [] => []
  | seen, d :: ds => spt es d (seen.count d) :: spG es (seen ++ [d]) ds
theorem spG_app (es : List De) : ∀ (X S Y : List De), spG es S (X ++ Y) = spG es S X ++ spG es (S ++ X) Y
  | [], S, Y => by simp [spG]
  | d :: X, S, Y => by
    show _ :: spG es (S ++ [d]) (X ++ Y) = _ :: (spG es (S ++ [d]) X ++ _)
    rw [spG_app es X, List.append_assoc]; rfl
theorem spG_len (es : List De) : ∀ (X S : List De), (spG es S X).length = X.length
  | [], S => rfl
  | d :: X, S => by show (spG es (S ++ [d]) X).length + 1 = _; rw [spG_len es X]; rfl
theorem spt_other {t d : De} {ts : List De} {b : Nat} (h : t ≠ d) (hb : b < ts.count d) : spt (t :: ts) d b = spt ts d b + 1 := by
  unfold spt
  rw [idxs_cons, if_neg h, List.nil_append, List.getD_eq_getElem?_getD, List.getD_eq_getElem?_getD, List.getElem?_map]
  have : b < (idxs ts d).length := by rw [idxs_len]; exact hb
  rw [List.getElem?_eq_getElem this]
  rfl
theorem spt_same {t : De} {ts : List De} {b : Nat} (hb : b < ts.count t) : spt (t :: ts) t (b + 1) = spt ts t b + 1 := by
  unfold spt
  rw [idxs_cons, if_pos rfl, List.getD_eq_getElem?_getD, List.getD_eq_getElem?_getD]
  show ((0 :: (idxs ts t).map (· + 1))[b + 1]?).getD 0 = _
  rw [List.getElem?_cons_succ, List.getElem?_map]
  have : b < (idxs ts t).length := by rw [idxs_len]; exact hb
  rw [List.getElem?_eq_getElem this]
  rfl
theorem spG_shift (t : De) (ts : List De) : ∀ (X S1 S2 : List De), (∀ d, d ≠ t → S1.count d = S2.count d) → (t ∈ X → S1.count t = S2.count t + 1) → (∀ d, (S2 ++ X).count d ≤ ts.count d) → spG (t :: ts) S1 X = (spG ts S2 X).map (· + 1)
  | [], _, _, _, _, _ => rfl
  | d :: X, S1, S2, h1, h2, h3 => by
    have hd := h3 d
    rw [List.count_append, List.count_cons_self] at hd
    have ih := spG_shift t ts X (S1 ++ [d]) (S2 ++ [d]) (fun e he => by rw [List.count_append, List.count_append, h1 e he]) (fun hm => by
      have := h2 (List.mem_cons_of_mem _ hm)
      rw [List.count_append, List.count_append]; omega) (fun e => by
      have := h3 e
      rw [List.append_assoc]; exact this)
    show spt (t :: ts) d (S1.count d) :: spG (t :: ts) (S1 ++ [d]) X = (spt ts d (S2.count d) + 1) :: (spG ts (S2 ++ [d]) X).map (· + 1)
    rw [ih]
    congr 1
    by_cases e : d = t
    · subst e
      rw [h2 (by simp)]
      exact spt_same (by omega)
    · rw [h1 d e]
      exact spt_other (fun z => e z.symm) (by omega)
theorem spG_cut {t : De} {ts A B : List De} (hA : t ∉ A) (hp : (A ++ B).Perm ts) : spG (t :: ts) [] (A ++ t :: B) = (spG ts [] A).map (· + 1) ++ 0 :: (spG ts A B).map (· + 1) := by
  have hc := fun d => (hp.count_eq d)
  rw [spG_app]
  show _ ++ spt (t :: ts) t (([] ++ A).count t) :: spG (t :: ts) ([] ++ A ++ [t]) B = _
  rw [List.nil_append, spG_shift t ts A [] [] (fun _ _ => rfl) (fun z => absurd z hA) (fun d => by
    have := hc d
    rw [List.count_append] at this
    show A.count d ≤ _
    omega), spG_shift t ts B (A ++ [t]) A (fun d hd => by
      rw [List.count_append, List.count_singleton, if_neg (by simpa using fun z : t = d => hd z.symm)]
      rfl) (fun _ => by rw [List.count_append, List.count_singleton_self]) (fun d => Nat.le_of_eq (hc d))]
  have e0 : spt (t :: ts) t (A.count t) = 0 := by
    rw [List.count_eq_zero_of_not_mem hA]
    unfold spt
    rw [idxs_cons, if_pos rfl]; rfl
  rw [e0]
def cntI : List (De × Nat) → Nat
  | [] => 0
  | (_, p) :: l => (l.filter fun x => decide (x.2 < p)).length + cntI l
def badI : List (De × Nat) → Bool
  | [] => false
  | (d, p) :: l => (l.any fun x => decide (x.2 < p) && !ind d x.1) || badI l
def up : List (De × Nat) → List (De × Nat) := List.map fun x => (x.1, x.2 + 1)
theorem cnt_up : ∀ l, cntI (up l) = cntI l
  | [] => rfl
  | (d, p) :: l => by
    show ((up l).filter fun x => decide (x.2 < p + 1)).length + cntI (up l) = _
    rw [cnt_up l]
    congr 1
    unfold up
    rw [List.filter_map, List.length_map]
    congr 2
    funext x
    simp
theorem bad_up : ∀ l, badI (up l) = badI l
  | [] => rfl
  | (d, p) :: l => by
    show (((up l).any fun x => decide (x.2 < p + 1) && !ind d x.1) || badI (up l)) = _
    rw [bad_up l]
    unfold up
    rw [List.any_map]
    congr 2
    funext x
    simp
theorem cnt_put (t : De) : ∀ (A B : List (De × Nat)), cntI (up A ++ (t, 0) :: up B) = A.length + cntI (A ++ B)
  | [], B => by
    show ((up B).filter fun x => decide (x.2 < 0)).length + cntI (up B) = _
    rw [cnt_up]
    have : (up B).filter (fun x => decide (x.2 < 0)) = [] := List.filter_eq_nil_iff.mpr fun x _ => by simp
    rw [this]; rfl
  | (d, p) :: A, B => by
    show ((up A ++ (t, 0) :: up B).filter fun x => decide (x.2 < p + 1)).length + cntI (up A ++ (t, 0) :: up B) = (A.length + 1) + (((A ++ B).filter fun x => decide (x.2 < p)).length + cntI (A ++ B))
    rw [cnt_put t A B]
    have e : ∀ l : List (De × Nat), ((up l).filter fun x => decide (x.2 < p + 1)).length = (l.filter fun x => decide (x.2 < p)).length := fun l => by
      unfold up
      rw [List.filter_map, List.length_map]
      congr 2
      funext x
      simp
    rw [List.filter_append, List.filter_cons, if_pos (by simp), List.length_append, List.length_cons, e, e, List.filter_append, List.length_append]
    omega
theorem bad_put (t : De) : ∀ (A B : List (De × Nat)), badI (up A ++ (t, 0) :: up B) = ((A.any fun x => !ind x.1 t) || badI (A ++ B))
  | [], B => by
    show (((up B).any fun x => decide (x.2 < 0) && !ind t x.1) || badI (up B)) = _
    rw [bad_up]
    have : (up B).any (fun x => decide (x.2 < 0) && !ind t x.1) = false := List.any_eq_false.mpr fun x _ => by simp
    rw [this]; rfl
  | (d, p) :: A, B => by
    show (((up A ++ (t, 0) :: up B).any fun x => decide (x.2 < p + 1) && !ind d x.1) || badI (up A ++ (t, 0) :: up B)) = ((!ind d t || A.any fun x => !ind x.1 t) || (((A ++ B).any fun x => decide (x.2 < p) && !ind d x.1) || badI (A ++ B)))
    rw [bad_put t A B]
    have e : ∀ l : List (De × Nat), ((up l).any fun x => decide (x.2 < p + 1) && !ind d x.1) = (l.any fun x => decide (x.2 < p) && !ind d x.1) := fun l => by
      unfold up
      rw [List.any_map]
      congr 1
      funext x
      simp
    rw [List.any_append, List.any_cons, e, e, List.any_append]
    have : decide (((t, 0) : De × Nat).2 < p + 1) = true := by simp
    rw [this]
    cases (A.any fun x => decide (x.2 < p) && !ind d x.1) <;> cases ind d t <;> cases (B.any fun x => decide (x.2 < p) && !ind d x.1) <;> cases (A.any fun x => !ind x.1 t) <;> cases badI (A ++ B) <;> rfl
def zipS (ds es : List De) : List (De × Nat) := ds.zip (spG es [] ds)
theorem zip_up (A : List De) (s : List Nat) : A.zip (s.map (· + 1)) = up (A.zip s) := by
  unfold up
  rw [List.zip_map_right]
  rfl
theorem zip_cut {t : De} {ts A B : List De} (hA : t ∉ A) (hp : (A ++ B).Perm ts) : ∃ a b, a.length = A.length ∧ a.map (·.1) = A ∧ zipS (A ++ t :: B) (t :: ts) = up a ++ (t, 0) :: up b ∧ zipS (A ++ B) ts = a ++ b := by
  refine ⟨A.zip (spG ts [] A), B.zip (spG ts A B), ?_, ?_, ?_, ?_⟩
  · rw [List.length_zip, spG_len, Nat.min_self]
  · exact List.map_fst_zip (Nat.le_of_eq (spG_len ts A []).symm)
  · unfold zipS
    rw [spG_cut hA hp, List.zip_append (by rw [List.length_map, spG_len])]
    show _ ++ (t, 0) :: B.zip _ = _
    rw [zip_up, zip_up]
  · unfold zipS
    rw [spG_app, List.zip_append (spG_len ts A []).symm]
    rfl
/-- what the law asks is what is done -/
theorem few_is : ∀ (es : List De) (off : Nat) (row : List De), row.Perm es → match exR off row es with
    | some ps => badI (zipS row es) = false ∧ ps.length = cntI (zipS row es)
    | none => badI (zipS row es) = true
  | [], off, row, hp => by
    have : row = [] := hp.eq_nil
    subst this
    exact ⟨rfl, rfl⟩
  | t :: ts, off, row, hp => by
    obtain ⟨A, B, e1, e2, e3, e4, e5⟩ := split_at (hp.mem_iff.mpr (by simp : t ∈ t :: ts))
    have hp' := perm_cut hp e1
    have ih := few_is ts (off + 1) (A ++ B) hp'
    obtain ⟨a, b, q1, q2, q3, q4⟩ := zip_cut e2 hp'
    rw [exR_cons, e4, e5, e3]
    subst e1
    rw [q3, bad_put, cnt_put, ← q4, q1]
    have ea : (a.any fun x => !ind x.1 t) = !A.all fun x => ind x t := by
      rw [← q2, List.all_map, List.not_all_eq_any_not]
      rfl
    rw [ea]
    cases hA : A.all fun x => ind x t with
    | false => simp
    | true =>
      rw [if_pos rfl]
      cases q : exR (off + 1) (A ++ B) ts with
      | none => rw [q] at ih; simp [ih]
      | some ps =>
        rw [q] at ih
        refine ⟨by simp [ih.1], ?_⟩
        show (downs off A.length ++ ps).length = _
        rw [List.length_append, downs_len, ih.2]
end DM

set_option maxRecDepth 100000
set_option maxHeartbeats 400000
namespace K51
open PySem PySem.Spec L2 TC DM
section
variable {P : Program} {w : World} {K : PySem.W.Frag} {mg : Str → Option Value} {base : Heap}
theorem de_alike (l : List De) : PySem.W.AllAlike (dsD l) := by
  have f : ∀ x y : List Int, PySem.W.alikeAll (x.map .int) (y.map .int) = true := PySem.W.alike_ints
  intro a ha b hb
  obtain ⟨d, _, rfl⟩ := List.mem_map.mp ha
  obtain ⟨e, _, rfl⟩ := List.mem_map.mp hb
  show PySem.W.alike (.tuple (.str d.1 :: d.2.map .int)) (.tuple (.str e.1 :: e.2.map .int)) = true
  simp only [PySem.W.alike, PySem.W.alikeAll, f, Bool.and_self]
theorem de_sortable (l : List De) : PySem.W.Sortable (dsD l) := .inl fun a ha => by
  obtain ⟨d, _, rfl⟩ := List.mem_map.mp ha
  exact ⟨_, _, rfl⟩
theorem deD_dp (d : De) : (deD d).depth ≤ 1 := by
  show PyData.depthAll (.str d.1 :: d.2.map .int) + 1 ≤ 1
  have := PySem.W.depth_ints d.2
  simp only [PyData.depthAll, PyData.depth, this]
  omega
theorem dsD_dp (l : List De) : PyData.depthAll (dsD l) ≤ 1 := by
  induction l with
  | nil => simp [dsD, PyData.depthAll]
  | cons d l ih =>
    have := deD_dp d
    show PyData.depthAll (deD d :: dsD l) ≤ 1
    rw [PyData.depthAll]
    omega
theorem dsD_lay {l : List De} (h : OkS l) : PyData.canLayAll0 (dsD l) = true := by
  have := shp_can _ _ (dsD_shp h)
  simpa [PyData.canLay0] using this
theorem sort_of (l : List De) (h : OkS l) : OkS (dsD l |>.mergeSort (PySem.W.dataLe false id) |>.map unD) := by
  have p := (List.mergeSort_perm (dsD l) (PySem.W.dataLe false id)).map unD
  have e : (dsD l).map unD = l := by
    unfold dsD
    rw [List.map_map, show (unD ∘ deD) = id from funext unD_deD, List.map_id]
  rw [e] at p
  exact ⟨fun d hd => h.1 d (p.mem_iff.mp hd), by rw [p.length_eq]; exact h.2⟩
theorem sort_dsD (l : List De) : (dsD l).mergeSort (PySem.W.dataLe false id) = dsD ((dsD l).mergeSort (PySem.W.dataLe false id) |>.map unD) := by
  have hm : ∀ x ∈ (dsD l).mergeSort (PySem.W.dataLe false id), x ∈ dsD l := fun x hx => (List.mergeSort_perm _ _).mem_iff.mp hx
  generalize (dsD l).mergeSort (PySem.W.dataLe false id) = s at hm
  unfold dsD at hm ⊢
  rw [List.map_map]
  refine (List.map_id s).symm.trans (List.map_congr_left fun x hx => ?_)
  obtain ⟨d, _, rfl⟩ := List.mem_map.mp (hm x hx)
  show deD d = deD (unD (deD d))
  rw [unD_deD]
/-- the program's answer -/
def exM (ds es : List De) : PyData := if ds.Perm es then (match exR 0 ds es with | some ps => .tuple (ps.map .int) | none => .none) else .none
def RlEx : List Sl → Res → Prop := fun ss r => ∃ ds es : List De, ss = [.d (.tuple (dsD ds)), .d (.tuple (dsD es))] ∧ OkS ds ∧ OkS es ∧ ds.length ≤ 100 ∧ r = .d (exM ds es)
theorem map_erase {α β : Type} (f : α → β) : ∀ (l : List α) (k : Nat), (l.map f).eraseIdx k = (l.eraseIdx k).map f
  | [], _ => rfl
  | _ :: _, 0 => rfl
  | a :: l, k + 1 => by
    show f a :: (l.map f).eraseIdx k = _
    rw [map_erase f l k]; rfl
def enF : Nat → List PyData → List PyData
  | _, [] => []
  | k, x :: xs => .tuple [.int (k : Nat), x] :: enF (k + 1) xs
theorem enF_len : ∀ (xs : List PyData) (k : Nat), (enF k xs).length = xs.length
  | [], _ => rfl
  | x :: xs, k => by show (enF (k + 1) xs).length + 1 = _; rw [enF_len xs]; rfl
theorem enF_get : ∀ (xs : List PyData) (k i : Nat), (enF k xs)[i]? = xs[i]?.map fun x => .tuple [.int ((k + i : Nat) : Int), x]
  | [], k, i => by simp [enF]
  | x :: xs, k, 0 => by simp [enF]
  | x :: xs, k, i + 1 => by
    show (enF (k + 1) xs)[i]? = _
    rw [enF_get xs (k + 1) i, List.getElem?_cons_succ, show k + 1 + i = k + (i + 1) by omega]
theorem enD_enF (xs : List PyData) : enD xs = enF 0 xs := by
  apply List.ext_getElem?
  intro i
  rw [enF_get, Nat.zero_add]
  unfold enD
  rw [List.getElem?_zipWith]
  cases hx : xs[i]? with
  | none => simp
  | some x =>
    have hi := (List.getElem?_eq_some_iff.mp hx).1
    rw [List.getElem?_range hi]
    rfl
theorem rgDn_downs (off : Nat) : ∀ s : Nat, rgDn ((off : Int) + (s : Int) - 1) s = (downs off s).map PyData.int
  | 0 => rfl
  | s + 1 => by
    unfold rgDn
    rw [List.range_succ_eq_map, List.map_cons, List.map_map]
    show _ = PyData.int ((off + s : Nat) : Int) :: (downs off s).map PyData.int
    rw [← rgDn_downs off s]
    congr 1
    · show PyData.int _ = _
      congr 1
      omega
    · unfold rgDn
      refine List.map_congr_left fun i _ => ?_
      show PyData.int _ = PyData.int _
      congr 1
      show (off : Int) + ((s + 1 : Nat) : Int) - 1 - ((i + 1 : Nat) : Int) = _
      omega
theorem ok_exchanges {f : Addr} {fd : FuncData} (Fn : Fun K "exchanges" "exchanges" sExchanges f fd) (G : Gs mg) (nS : mg "sorted" = none) (nE : mg "enumerate" = none) (cI : Cal (fam P w K mg base nExchanges (defScope sExchanges) 2) "independent" (spP K (RlTwo ind))) :
    FnOk P w K mg base CX0 3 f fd ["deeds", "others"] (spP K RlEx) := by
  refine def_okP Fn scExchanges (by decide) (fun ss r h => ?_) fun ss r h => ?_
  · obtain ⟨ds, es, rfl, _⟩ := h; rfl
  obtain ⟨ds, es, rfl, hD, hE, hl, rfl⟩ := h
  refine ⟨.ret _ none, ?_, rfl⟩
  have G' : Gs (fam P w K mg base nExchanges (defScope sExchanges) 2).mg := G
  show BSs _ ⟨none, [.d (.tuple (dsD ds)), .d (.tuple (dsD es)), .un, .un, .un, .un, .un, .un]⟩ _ _
  have hs : ∀ (l : List De), OkS l → ∀ {ρ : En} {e : Expr} {pos p : Pos}, BE (fam P w K mg base nExchanges (defScope sExchanges) 2) ρ e (.tuple (dsD l)) ρ → (∀ env, starEach [e] env = (false, eval e env) :: starEach [] env) → BE (fam P w K mg base nExchanges (defScope sExchanges) 2) ρ (.Call (.Name "sorted" p) [e] [] pos) (.list (dsD ((dsD l).mergeSort (PySem.W.dataLe false id) |>.map unD))) ρ := fun l ok ρ e pos p h hst => by
    rw [← sort_dsD]
    exact be_ofL (bl_sortedE h (dsD_lay ok) (de_alike l) (de_sortable l) (by rw [dsD_len]; have := ok.2; omega) (fun x hx => by
      obtain ⟨d, _, rfl⟩ := List.mem_map.mp hx
      have := deD_dp d
      omega) nS (hs := hst))
  have t0 : BT (fam P w K mg base nExchanges (defScope sExchanges) 2) ⟨none, [.d (.tuple (dsD ds)), .d (.tuple (dsD es)), .un, .un, .un, .un, .un, .un]⟩ (ifTest (nth (defBody sExchanges) 0)) (!decide (ds.Perm es)) ⟨none, [.d (.tuple (dsD ds)), .d (.tuple (dsD es)), .un, .un, .un, .un, .un, .un]⟩ := by
    refine bt_cI (hs ds hD (be_nm rfl) (fun _ => rfl)) (hs es hE (be_nm rfl) (fun _ => rfl)) (c_ne (shp_shaped (dsD_shpL (sort_of ds hD))) (shp_shaped (dsD_shpL (sort_of es hE)))) ?_
    have e1 : PyData.eqv (.list (dsD ((dsD ds).mergeSort (PySem.W.dataLe false id) |>.map unD))) (.list (dsD ((dsD es).mergeSort (PySem.W.dataLe false id) |>.map unD))) = decide (ds.Perm es) := by
      show PyData.eqvAll _ _ = _
      rw [eqv_dsD]
      refine decide_eq_decide.mpr ((Iff.trans ⟨fun h => ?_, fun h => ?_⟩ (sort_de ds es)))
      · rw [sort_dsD ds, sort_dsD es, h]
      · rw [h]
    rw [e1]
  by_cases hp : ¬ ds.Perm es
  · have e : exM ds es = .none := if_neg hp
    rw [e]
    exact bss_stop (bs_ifT (BT.is t0 (by simp [hp])) (bss_one (q_retP be_non)))
  have hp : ds.Perm es := Decidable.not_not.mp hp
  have e : exM ds es = (match exR 0 ds es with | some ps => .tuple (ps.map .int) | none => .none) := if_pos hp
  rw [e]
  refine bss_cons (bs_ifF (BT.is t0 (by simp [hp])) bss_nil) ?_
  refine bss_cons (bs_setL 2 (q_listT G' (be_nm rfl) rfl (fun _ => rfl))) ?_
  refine bss_cons (bs_setL 3 (bl_lst bd_nil)) ?_
  let env : List De → List Int → En := fun row ps => ⟨none, [.d (.tuple (dsD ds)), .d (.tuple (dsD es)), .own (dsD row), .own (ps.map .int), .un, .un, .un, .un]⟩
  have loop : ∀ (ts pre row : List De) (ps : List Int), OkS (pre ++ row) → OkS ts → row.Perm ts → pre.length + row.length ≤ 100 → ps.length + 100 * ts.length ≤ 10000 →
      Loop (LStep (fam P w K mg base nExchanges (defScope sExchanges) 2) (forTg (nth (defBody sExchanges) 3)) (forBody (nth (defBody sExchanges) 3))) (enF pre.length (dsD ts)) (env (pre ++ row) ps) (match exR pre.length row ts with | some qs => .nx (env (pre ++ ts) (ps ++ qs)) | none => .ret (.d .none) none) := by
    intro ts
    induction ts with
    | nil =>
      intro pre row ps _ _ hp _ _
      have : row = [] := hp.eq_nil
      subst this
      show Loop _ [] _ (.nx (env (pre ++ []) (ps ++ [])))
      rw [List.append_nil ps]
      exact .nil
    | cons t ts ih =>
      intro pre row ps ok okt hp hz hps
      obtain ⟨A, B, e1, e2, e3, e4, e5⟩ := split_at (hp.mem_iff.mpr (by simp : t ∈ t :: ts))
      have hp' := perm_cut hp e1
      rw [exR_cons, e4, e5, e3]
      subst e1
      have hlen : (pre ++ (A ++ t :: B)).length = pre.length + (A.length + (B.length + 1)) := by simp only [List.length_append, List.length_cons]
      have hz' : pre.length + (A.length + (B.length + 1)) ≤ 100 := by simpa [List.length_append] using hz
      have okT : Ok t := okt.1 t (by simp)
      let envI : List Int → Sl → En := fun qs s => ⟨none, [.d (.tuple (dsD ds)), .d (.tuple (dsD es)), .own (dsD (pre ++ (A ++ t :: B))), .own (qs.map .int), .d (.int (pre.length : Nat)), .d (deD t), .d (.int ((pre.length + A.length : Nat) : Int)), s]⟩
      -- the places downwards
      have inner : ∀ (n : Nat) (qs : List Int), n ≤ A.length → qs.length + n ≤ 10000 → Loop (LStep (fam P w K mg base nExchanges (defScope sExchanges) 2) (forTg (nth (forBody (nth (defBody sExchanges) 3)) 1)) (forBody (nth (forBody (nth (defBody sExchanges) 3)) 1))) ((downs pre.length n).map PyData.int) (envI qs .un) (if ((A.take n).all fun a => ind a t) = true then .nx (envI (qs ++ downs pre.length n) .un) else .ret (.d .none) none) := by
        intro n
        induction n with
        | zero =>
          intro qs _ _
          rw [if_pos (by simp)]
          show Loop _ [] _ (.nx (envI (qs ++ []) .un))
          rw [List.append_nil]
          exact .nil
        | succ n ihn =>
          intro qs hn hq
          have hnA : n < A.length := by omega
          have ga : A[n]? = some A[n] := List.getElem?_eq_getElem hnA
          have gr : (pre ++ (A ++ t :: B))[pre.length + n]? = some A[n] := by
            rw [List.getElem?_append_right (by omega), Nat.add_sub_cancel_left, List.getElem?_append_left hnA, ga]
          have okA : Ok A[n] := ok.1 _ (List.mem_of_getElem? gr)
          have et : A.take (n + 1) = A.take n ++ [A[n]] := by
            rw [List.take_succ, ga]; rfl
          show Loop _ (PyData.int ((pre.length + n : Nat) : Int) :: (downs pre.length n).map PyData.int) _ _
          rw [et, List.all_append]
          have x1 := dsD_at (j := ((pre.length + n : Nat) : Int)) gr rfl
          have tI : BT (fam P w K mg base nExchanges (defScope sExchanges) 2) (envI qs (.d (.int ((pre.length + n : Nat) : Int)))) (ifTest (nth (forBody (nth (forBody (nth (defBody sExchanges) 3)) 1)) 0)) (!ind A[n] t) (envI qs (.d (.int ((pre.length + n : Nat) : Int)))) :=
            bt_not (BE.bt (q_two cI (q_ixO rfl (be_nm rfl) x1 (fun _ _ => rfl)) (be_nm rfl) okA okT) (fun _ _ => rfl))
          cases hI : ind A[n] t with
          | false =>
            rw [if_neg (by simp [hI])]
            exact .ret ⟨_, bg_name 7, bss_stop (bs_ifT (BT.is tI (by rw [hI]; rfl)) (bss_one (q_retP be_non)))⟩
          | true =>
            have st : LStep (fam P w K mg base nExchanges (defScope sExchanges) 2) (forTg (nth (forBody (nth (defBody sExchanges) 3)) 1)) (forBody (nth (forBody (nth (defBody sExchanges) 3)) 1)) (.int ((pre.length + n : Nat) : Int)) (envI qs .un) (.nx (envI (qs ++ [((pre.length + n : Nat) : Int)]) .un)) := by
              refine ⟨_, bg_name 7, bss_cons (bs_ifF (BT.is tI (by rw [hI]; rfl)) bss_nil) ?_⟩
              have ea : (qs ++ [((pre.length + n : Nat) : Int)]).map PyData.int = qs.map PyData.int ++ [.int ((pre.length + n : Nat) : Int)] := by rw [List.map_append]; rfl
              show BSs _ _ _ (.nx ⟨none, [_, _, _, .own ((qs ++ [((pre.length + n : Nat) : Int)]).map PyData.int), _, _, _, .un]⟩)
              rw [ea]
              exact bss_weakN (bss_one (bs_expr (q_append (tm' := none) (m := 3) (xs := qs.map PyData.int) rfl (be_nm rfl) (by rw [List.length_map]; omega)))) (Les.le (.same (.same (.same (.same (.same (.same (.same (.un .nil)))))))))
            have := ihn (qs ++ [((pre.length + n : Nat) : Int)]) (by omega) (by rw [List.length_append, List.length_singleton]; omega)
            have ed : qs ++ downs pre.length (n + 1) = qs ++ [((pre.length + n : Nat) : Int)] ++ downs pre.length n := by
              rw [List.append_assoc]; rfl
            have ec : (((A.take n).all fun a => ind a t) && [A[n]].all fun a => ind a t) = (A.take n).all fun a => ind a t := by
              simp [hI]
            rw [ec, ed]
            exact .nx st this
      have hins : (dsD (pre ++ (A ++ t :: B))).length ≤ 100000 := by rw [dsD_len, hlen]; omega
      have bodyA := inner A.length ps (Nat.le_refl _) (by have := hp.length_eq; simp only [List.length_append, List.length_cons] at this hps; omega)
      rw [List.take_length] at bodyA
      have gx : (dsD (pre ++ (A ++ t :: B)))[pre.length + A.length]? = some (deD t) := dsD_get (by
        rw [List.getElem?_append_right (by omega), Nat.add_sub_cancel_left, List.getElem?_append_right (Nat.le_refl _), Nat.sub_self]; rfl)
      have gi : BSs (fam P w K mg base nExchanges (defScope sExchanges) 2) ⟨none, [.d (.tuple (dsD ds)), .d (.tuple (dsD es)), .own (dsD (pre ++ (A ++ t :: B))), .own (ps.map .int), .d (.int (pre.length : Nat)), .d (deD t), .un, .un]⟩ (forBody (nth (defBody sExchanges) 3)) (if (A.all fun a => ind a t) = true then .nx (env (pre ++ [t] ++ (A ++ B)) (ps ++ downs pre.length A.length)) else .ret (.d .none) none) := by
        refine bss_cons (bs_set 6 (be_index3 2 (k := pre.length + A.length) (xs := dsD (pre ++ (A ++ t :: B))) (ys := dsD (pre ++ (A ++ t :: B))) rfl (be_nm rfl) (be_nm rfl) rfl (dsD_lay ok) (Nat.le_trans (dsD_dp _) (by decide)) (shp_can _ _ (deD_shp okT)) (Int.natCast_nonneg _) (by rw [Int.toNat_natCast]; omega) gx (by rw [eqv_deD]; simp) (fun m z h1 h2 hz' => ?_))) ?_
        · rw [Int.toNat_natCast] at h1
          have hm : m < (pre ++ (A ++ t :: B)).length := by rw [hlen]; omega
          have hA : m - pre.length < A.length := by omega
          have gr : (pre ++ (A ++ t :: B))[m]? = some A[m - pre.length] := by
            rw [List.getElem?_append_right h1, List.getElem?_append_left hA, List.getElem?_eq_getElem hA]
          rw [dsD_get gr] at hz'
          cases hz'
          rw [eqv_deD]
          refine decide_eq_false fun z => e2 ?_
          rw [← z]
          exact List.getElem_mem _
        have eR : rgDn (((pre.length + A.length : Nat) : Int) - 1) ((((pre.length + A.length : Nat) : Int) - 1) - (((pre.length : Nat) : Int) - 1)).toNat = (downs pre.length A.length).map PyData.int := by
          rw [show ((((pre.length + A.length : Nat) : Int) - 1) - (((pre.length : Nat) : Int) - 1)).toNat = A.length by omega, ← rgDn_downs]
          congr 1
        have bodyA' := bodyA
        rw [← eR] at bodyA'
        cases hA : A.all fun a => ind a t with
        | false =>
          rw [hA, if_neg (by decide)] at bodyA'
          rw [if_neg (by decide)]
          exact bss_stop (bs_for (bi_range3 (be_sub (be_nm rfl) be_int) (be_sub (be_nm rfl) be_int) (be_neg be_int) G'.range (by omega)) bodyA')
        | true =>
          rw [hA, if_pos rfl] at bodyA'
          rw [if_pos rfl]
          refine bss_cons (bs_for (bi_range3 (be_sub (be_nm rfl) be_int) (be_sub (be_nm rfl) be_int) (be_neg be_int) G'.range (by omega)) bodyA') ?_
          have ee : (dsD (pre ++ (A ++ t :: B))).eraseIdx (pre.length + A.length) = dsD (pre ++ (A ++ B)) := by
            unfold dsD
            rw [map_erase]
            congr 1
            rw [List.eraseIdx_append_of_length_le (by omega), Nat.add_sub_cancel_left, List.eraseIdx_append_of_length_le (Nat.le_refl _), Nat.sub_self]
            rfl
          have ei : (dsD (pre ++ (A ++ B))).take ((pre.length : Nat) : Int).toNat ++ [deD t] ++ (dsD (pre ++ (A ++ B))).drop ((pre.length : Nat) : Int).toNat = dsD (pre ++ [t] ++ (A ++ B)) := by
            rw [Int.toNat_natCast]
            unfold dsD
            rw [← List.map_take, ← List.map_drop, List.take_left' rfl, List.drop_left' rfl]
            simp
          show BSs _ _ _ (.nx ⟨none, [_, _, .own (dsD (pre ++ [t] ++ (A ++ B))), .own ((ps ++ downs pre.length A.length).map PyData.int), .un, .un, .un, .un]⟩)
          rw [← ei, ← ee]
          refine bss_weakN (bss_one (bs_expr (be_insert 2 (xs := dsD (pre ++ (A ++ t :: B))) (ys := (dsD (pre ++ (A ++ t :: B))).eraseIdx (pre.length + A.length)) rfl (be_nm rfl) (be_popAt (k := pre.length + A.length) (xs := dsD (pre ++ (A ++ t :: B))) (ys := dsD (pre ++ (A ++ t :: B))) 2 rfl (be_nm rfl) rfl hins rfl gx) rfl (by rw [ee, dsD_len]; simp only [List.length_append]; omega) (Int.natCast_nonneg _) (by omega)))) (Les.le (.same (.same (.same (.same (.un (.un (.un (.same .nil)))))))))
      show Loop _ (.tuple [.int (pre.length : Nat), deD t] :: enF (pre.length + 1) (dsD ts)) _ _
      have gT : BG (fam P w K mg base nExchanges (defScope sExchanges) 2) (env (pre ++ (A ++ t :: B)) ps) (forTg (nth (defBody sExchanges) 3)) (.tuple [.int (pre.length : Nat), deD t]) ⟨none, [.d (.tuple (dsD ds)), .d (.tuple (dsD es)), .own (dsD (pre ++ (A ++ t :: B))), .own (ps.map .int), .d (.int (pre.length : Nat)), .d (deD t), .un, .un]⟩ := bg_two 4 5
      cases hA : A.all fun a => ind a t with
      | false =>
        rw [hA, if_neg (by decide)] at gi
        rw [if_neg (by decide)]
        exact .ret ⟨_, gT, gi⟩
      | true =>
        rw [hA, if_pos rfl] at gi
        rw [if_pos rfl]
        have ok' : OkS (pre ++ [t] ++ (A ++ B)) := by
          refine ⟨fun d hd => ?_, by have := ok.2; simp only [List.length_append, List.length_cons, List.length_nil] at this ⊢; omega⟩
          refine ok.1 d ?_
          simp only [List.mem_append, List.mem_cons, List.not_mem_nil, or_false] at hd ⊢
          rcases hd with (hd | hd) | hd | hd <;> simp [hd]
        have hl2 := hp.length_eq
        simp only [List.length_append, List.length_cons] at hl2
        have := ih (pre ++ [t]) (A ++ B) (ps ++ downs pre.length A.length) ok' ⟨fun d hd => okt.1 d (by simp [hd]), by have := okt.2; simp only [List.length_cons] at this; omega⟩ hp' (by simp only [List.length_append, List.length_cons, List.length_nil]; omega) (by
          rw [List.length_append, downs_len]
          simp only [List.length_cons] at hps
          omega)
        rw [List.length_append, List.length_singleton] at this
        cases q : exR (pre.length + 1) (A ++ B) ts with
        | none =>
          rw [q] at this
          exact .nx ⟨_, gT, gi⟩ this
        | some qs =>
          rw [q] at this
          have e8 : pre ++ [t] ++ ts = pre ++ t :: ts := by simp
          have e9 : ps ++ downs pre.length A.length ++ qs = ps ++ (downs pre.length A.length ++ qs) := List.append_assoc _ _ _
          have this' : Loop (LStep (fam P w K mg base nExchanges (defScope sExchanges) 2) (forTg (nth (defBody sExchanges) 3)) (forBody (nth (defBody sExchanges) 3))) (enF (pre.length + 1) (dsD ts)) (env (pre ++ [t] ++ (A ++ B)) (ps ++ downs pre.length A.length)) (.nx (env (pre ++ [t] ++ ts) (ps ++ downs pre.length A.length ++ qs))) := this
          rw [e8, e9] at this'
          exact .nx ⟨_, gT, gi⟩ this'
  have lp := loop es [] ds [] hD hE hp (by simpa using hl) (by have := hp.length_eq; simp only [List.length_nil]; omega)
  have lq : Loop (LStep (fam P w K mg base nExchanges (defScope sExchanges) 2) (forTg (nth (defBody sExchanges) 3)) (forBody (nth (defBody sExchanges) 3))) (enD (dsD es)) (env ds []) (match exR 0 ds es with | some qs => .nx (env es qs) | none => .ret (.d .none) none) := by
    rw [enD_enF]
    exact lp
  cases q : exR 0 ds es with
  | none =>
    rw [q] at lq
    exact bss_stop (bs_for (bi_enumT (be_nm rfl) nE) lq)
  | some qs =>
    rw [q] at lq
    refine bss_cons (bs_for (bi_enumT (be_nm rfl) nE) lq) ?_
    refine bss_freeze 3 rfl (bss_one (q_retP ?_))
    exact be_tupL G'.tuple (be_nm rfl)
end
end K51

set_option maxRecDepth 100000
set_option maxHeartbeats 4000000
/-! The law's own end, where its def wants to know that no repr is under way. -/
namespace TC
open PySem PySem.Spec PySem.W PyProof.Rows L2 Att
abbrev scO (vs : List Value) : Obj := { cls := .type "list", data := .seq vs.toArray }
/-- the heap in which the script is tracked, unless it is one of the module's own objects -/
noncomputable def scH (K : PySem.W.Frag) (a : Addr) (vs : List Value) (ns : List Int) : Hp := fun b => if b = a ∧ K.lookup a = none then some (.frz (scO vs) (.lst (ns.map V.int))) else none
theorem scH_some {K : PySem.W.Frag} {a b : Addr} {vs : List Value} {ns : List Int} {u : HO} (h : scH K a vs ns b = some u) : b = a ∧ K.lookup a = none ∧ u = .frz (scO vs) (.lst (ns.map V.int)) := by
  unfold scH at h
  split at h
  · rename_i c
    exact ⟨c.1, c.2, (Option.some.inj h).symm⟩
  · cases h
section
variable {P : Program} {w : World} {K : PySem.W.Frag} {mg mb : Str → Option Value} {a : Addr} {s : Shared} {vs : List Value} {ns : List Int}
theorem env_script (KX : K.In s.heap) (hns : s.heap.Ns mainGlobals mg) (hb : s.heap.Ns builtinsNs mb) (hbb : ∀ x : Str, x ≠ "__name__" → mb x = bootBuiltins x) (hlim : s.heap.NoLimit) (hg : s.gens = #[])
    (ha : s.heap.get? a = some (scO vs)) (hi : IntsAre vs ns) (hl : ns.length ≤ sizeLine) :
    ∃ base : Heap, K.In base ∧ base.Ns mainGlobals mg ∧ Env0 P w K mg base callerA [] s (scH K a vs ns) ∧ SqL K (scH K a vs ns) a (ns.map V.int) := by
  have off : ∀ b, (∀ o, K.lookup b = some o → False) ∨ scH K a vs ns b = none := fun b => by
    cases q : scH K a vs ns b with
    | none => exact .inr rfl
    | some u =>
      obtain ⟨rfl, e2, _⟩ := scH_some q
      exact .inl fun o z => by rw [e2] at z; cases z
  have hKb : K.In (hidT s.heap (scH K a vs ns)) := fun b o e => hidT_get (KX b o e) ((off b).elim (fun z => (z o e).elim) id)
  have nsK : ∀ {b : Addr} {m : Str → Option Value}, s.heap.Ns b m → (hidT s.heap (scH K a vs ns)).Ns b m := by
    intro b m ⟨o, es, ep, e, d, r⟩
    refine ⟨o, es, ep, hidT_get e ?_, d, r⟩
    cases q : scH K a vs ns b with
    | none => rfl
    | some u =>
      obtain ⟨rfl, _, _⟩ := scH_some q
      rw [ha] at e
      cases e
      cases d
  refine ⟨_, hKb, nsK hns, ⟨rfl, ⟨hKb, nsK hns, ⟨mb, nsK hb, hbb⟩, ?_⟩, fun b o e => of_hidT e, Nat.le_of_eq (hidT_size _ _), trivial, fun b z => absurd (show b ∈ ([] : List Addr) from z) (by simp), fun b u q => ?_, .of_eq hg⟩, ?_⟩
  · obtain ⟨mc, h1, h2⟩ := hlim
    exact ⟨mc, nsK h1, h2⟩
  · obtain ⟨rfl, _, rfl⟩ := scH_some q
    exact ⟨ha, by rw [List.length_map]; exact hl, vs, _, vals_ints hi, ha⟩
  · cases hk : K.lookup a with
    | none => exact .inl (.inr ⟨scO vs, if_pos ⟨rfl, hk⟩⟩)
    | some o =>
      have e := KX a o hk
      rw [ha] at e
      cases e
      exact .inr ⟨_, vs.toArray, _, hk, rfl, rfl, rfl, by rw [List.size_toArray, hi.length]; exact hl, by simpa using vals_ints hi⟩
theorem walk_G {l : OpenLaw} {n k : Nat} {q : Program} {loose : List Str} {XP : (Str → Option Value) → Heap → Prop} {YP : World → Heap → Prop} {d : DefRec} {K : Params → PySem.W.Frag} {sp : World → Sp} {x : Str}
    (hn : l.most = some n) (hn2 : n ≤ sizeLine) (hdf : d.params.defaults = []) (hr : Room k callerA) (hY : ∀ (w : World) (h : Heap), YP w h → (K w.params).In h)
    (F : ∀ (w : World) (mg : Str → Option Value) (fa : Addr) (h : Heap), (K w.params).In h → h.Ns mainGlobals mg → mg d.name = some (.ref fa) →
      ∃ fd : FuncData, (∀ (s : Shared) (u : Value), BindsTo s fd ⟨[u], []⟩ [(x, u)]) ∧ ∀ base : Heap, (K w.params).In base → base.Ns mainGlobals mg → FnG l.prog w (K w.params) mg base k fa fd [x] (sp w))
    (hsp : ∀ (w : World) (H : Hp) (a : Addr) (ns : List Int), ns.length ≤ n → SqL (K w.params) H a (ns.map V.int) → sp w [.ref a] H (fun v _ => v = .bl true) fun _ _ _ => False) :
    WalkO q loose XP YP l.row.toRowW d [] (fun f vs => PySem.call f vs) := by
  refine attach_call hn hdf fun w s₀ s₁ mg mb fa o pm cd doc a vs ns G Y ho hd hcd hmg hobj hints hlen hg => ?_
  have KX := hY w _ Y
  obtain ⟨fd, hb, hF⟩ := F w mg fa _ KX G.T.g hmg
  obtain ⟨base, k1, k2, e0, hS⟩ := env_script (P := l.prog) (w := w) KX G.T.g G.T.b G.T.builtins G.T.nolimit hg hobj hints (Nat.le_trans hlen hn2)
  refine codeAny_mono ((hF base k1 k2).run callerA [] s₁ _ ⟨[.ref a], []⟩ [.ref a] [.ref a] _ _ rfl hr e0 (hb s₁ (.ref a)) (.cons rfl .nil) (hsp w _ a ns hlen hS)) fun r s' h => ?_
  cases r with
  | error e => exact False.elim h
  | ok fl =>
    cases fl with
    | next => exact False.elim h
    | brk => exact False.elim h
    | cont => exact False.elim h
    | ret u =>
      obtain ⟨v, H', os, bare, un, hok', rv, q⟩ := h
      have e : v = .bl true := q
      subst e
      obtain rfl : u = Value.bool true := rv
      refine ⟨rfl, OldK.of_keep fun b o e => ?_, os, bare⟩
      cases z : scH (K w.params) a vs ns b with
      | none => exact un.keep b o e z (by intro z; exact absurd (show b ∈ ([] : List Addr) from z) (by simp)) (by simp)
      | some u =>
        obtain ⟨rfl, _, rfl⟩ := scH_some z
        obtain ⟨e1, _⟩ := e0.hok b _ z
        obtain ⟨e2, _⟩ := hok' b _ (un.frzs b _ _ z)
        rw [e] at e1; cases e1
        exact e2
end
end TC

set_option maxRecDepth 100000
set_option maxHeartbeats 400000
namespace K51
open PySem PySem.Spec L2 TC DM
def forIter : Stmt → Expr
  | .For _ e _ _ _ => e
  | _ => .Name "" ⟨0, 0, 0, 0⟩
theorem tx_ok {d : De} (h : Ok d) (hg : Dg d) : PyData.canLay0 (.str (txD d)) = true := by
  show (txD d).cps.all (· < 0x110000) = true
  have e := tx_cps h hg
  have n : ∀ n ∈ names, (reprText n).cps.toList.all (· < 0x110000) = true := by decide +kernel
  rw [← Array.all_toList, e]
  rw [List.all_append, List.all_append, List.all_append, n _ h.1]
  have f : (d.2.flatMap fun i => [44, 32, 48 + i.toNat]).all (· < 0x110000) = true := by
    rw [List.all_eq_true]
    intro x hx
    obtain ⟨i, hi, hx⟩ := List.mem_flatMap.mp hx
    have := dg_num i (hg i hi)
    simp only [List.mem_cons, List.not_mem_nil, or_false] at hx
    simp only [decide_eq_true_eq]
    omega
  rw [f]
  rfl
/-- the deeds of a row are of the kinds in play -/
def InP (l : List De) : Prop := OkS l ∧ (∀ d ∈ l, Dg d) ∧ l.length ≤ 100
theorem InP.both {l : List De} (h : InP l) : ∀ d ∈ l, Ok d ∧ Dg d := fun d hd => ⟨h.1.1 d hd, h.2.1 d hd⟩
def txS (l : List De) : List PyData := ((l.map txD).map PyData.str).mergeSort (PySem.W.dataLe false id)
def unS : PyData → Str
  | .str s => s
  | _ => ""
theorem txS_str (l : List De) : txS l = ((txS l).map unS).map PyData.str := by
  have hm : ∀ x ∈ txS l, x ∈ (l.map txD).map PyData.str := fun x hx => (List.mergeSort_perm _ _).mem_iff.mp hx
  generalize txS l = s at hm
  rw [List.map_map]
  refine (List.map_id s).symm.trans (List.map_congr_left fun x hx => ?_)
  obtain ⟨d, _, rfl⟩ := List.mem_map.mp (hm x hx)
  rfl
theorem txS_eqv {l m : List De} (h1 : InP l) (h2 : InP m) : PyData.eqv (.list (txS l)) (.list (txS m)) = decide (l.Perm m) := by
  show PyData.eqvAll (txS l) (txS m) = _
  rw [txS_str l, txS_str m, eqvAll_map PyData.str fun a b => eqv_str]
  refine decide_eq_decide.mpr (Iff.trans ?_ (Iff.trans (sort_txt (l.map txD) (m.map txD)) (tx_perm h1.both h2.both)))
  refine ⟨fun h => ?_, fun h => congrArg (List.map unS) h⟩
  show txS l = txS m
  rw [txS_str l, txS_str m, h]
theorem lay_strs : ∀ {l : List De}, (∀ d ∈ l, Ok d ∧ Dg d) → PyData.canLayAll0 ((l.map txD).map PyData.str) = true ∧ PyData.depthAll ((l.map txD).map PyData.str) = 0
  | [], _ => ⟨rfl, by simp [PyData.depthAll]⟩
  | d :: l, h => by
    obtain ⟨h1, h2⟩ := lay_strs (l := l) fun e he => h e (by simp [he])
    have hd := h d (by simp)
    constructor
    · show (PyData.canLay0 (.str (txD d)) && PyData.canLayAll0 ((l.map txD).map PyData.str)) = true
      rw [tx_ok hd.1 hd.2, h1]; rfl
    · show PyData.depthAll (.str (txD d) :: (l.map txD).map PyData.str) = 0
      rw [PyData.depthAll, h2]
      simp [PyData.depth]
theorem lay_all : ∀ {l : List PyData}, (∀ x ∈ l, PyData.canLay0 x = true ∧ x.depth = 0) → PyData.canLayAll0 l = true ∧ PyData.depthAll l = 0
  | [], _ => ⟨rfl, by simp [PyData.depthAll]⟩
  | x :: l, h => by
    obtain ⟨h1, h2⟩ := lay_all (l := l) fun e he => h e (by simp [he])
    have hd := h x (by simp)
    constructor
    · show (PyData.canLay0 x && PyData.canLayAll0 l) = true
      rw [hd.1, h1]; rfl
    · rw [PyData.depthAll, h2, hd.2]; rfl
theorem txS_shaped {l : List De} (h : InP l) : SeqAt.shaped (.list (txS l)) = true := by
  have hm : ∀ x ∈ txS l, PyData.canLay0 x = true ∧ x.depth = 0 := fun x hx => by
    have := (List.mergeSort_perm _ _).mem_iff.mp hx
    obtain ⟨s, hs, rfl⟩ := List.mem_map.mp this
    obtain ⟨d, hd, rfl⟩ := List.mem_map.mp hs
    exact ⟨tx_ok (h.both d hd).1 (h.both d hd).2, by simp [PyData.depth]⟩
  obtain ⟨h1, h2⟩ := lay_all hm
  show (PyData.canLay0 (.list (txS l)) && decide (PyData.depth (.list (txS l)) ≤ 64)) = true
  rw [Bool.and_eq_true]
  refine ⟨by simpa [PyData.canLay0] using h1, decide_eq_true ?_⟩
  simp only [PyData.depth]
  omega
theorem spG_get (es : List De) : ∀ (X S : List De) (j : Nat), (spG es S X)[j]? = X[j]?.map fun d => spt es d ((S ++ X.take j).count d)
  | [], S, j => by simp [spG]
  | d :: X, S, 0 => by simp [spG]
  | d :: X, S, j + 1 => by
    show (spG es (S ++ [d]) X)[j]? = _
    rw [spG_get es X (S ++ [d]) j, List.getElem?_cons_succ, List.take_succ_cons, List.append_assoc]
    rfl
theorem rgD_cons (lo : Int) (n : Nat) : rgD lo (n + 1) = .int lo :: rgD (lo + 1) n := by
  unfold rgD
  rw [List.range_succ_eq_map, List.map_cons, List.map_map]
  congr 1
  · show PyData.int _ = _
    congr 1
    omega
  · refine List.map_congr_left fun i _ => ?_
    show PyData.int _ = PyData.int _
    congr 1
    show lo + ((i + 1 : Nat) : Int) = _
    omega
theorem deD_nodict (d : De) : PyData.hasDict (deD d) = false := by
  have f : ∀ l : List Int, PyData.hasDictAll (l.map .int) = false := by
    intro l
    induction l with
    | nil => rfl
    | cons i l ih => show (PyData.hasDict (.int i) || PyData.hasDictAll (l.map .int)) = false; rw [ih]; rfl
  show (PyData.hasDict (.str d.1) || PyData.hasDictAll (d.2.map .int)) = false
  rw [f]; rfl
theorem txt_alike (l : List Str) : PySem.W.AllAlike (l.map PyData.str) := PySem.W.AllAlike.of fun a b => by simp [PySem.W.alike]
theorem txt_sortable (l : List Str) : PySem.W.Sortable (l.map PyData.str) := PySem.W.Sortable.others fun b => ⟨nofun, fun _ => nofun⟩
theorem txt_dp (l : List Str) : ∀ d ∈ l.map PyData.str, d.depth ≤ 60 := fun d hd => by
  obtain ⟨s, _, rfl⟩ := List.mem_map.mp hd
  simp [PyData.depth]
/-- what the law asks -/
def fewM (ds es : List De) : PyData := if ds.Perm es then (if badI (zipS ds es) = true then .none else .int (cntI (zipS ds es) : Nat)) else .none
def RlFew : List Sl → Res → Prop := fun ss r => ∃ ds es : List De, ss = [.d (.tuple (dsD ds)), .d (.tuple (dsD es))] ∧ InP ds ∧ InP es ∧ r = .d (fewM ds es)
theorem spt_count {ds es : List De} (hp : ds.Perm es) {k : Nat} {d : De} (h : ds[k]? = some d) : (ds.take k).count d < (idxs es d).length := by
  rw [idxs_len, ← hp.count_eq]
  have hk := (List.getElem?_eq_some_iff.mp h).1
  have e : ds = ds.take k ++ d :: ds.drop (k + 1) := by
    rw [← (List.getElem?_eq_some_iff.mp h).2, List.getElem_cons_drop, List.take_append_drop]
  have : ds.count d = (ds.take k).count d + ((ds.drop (k + 1)).count d + 1) := by
    conv => lhs; rw [e]
    rw [List.count_append, List.count_cons_self]
  omega
section
variable {P : Program} {w : World} {K : PySem.W.Frag} {mg : Str → Option Value} {base : Heap}
abbrev Ff (P : Program) (w : World) (K : PySem.W.Frag) (mg : Str → Option Value) (base : Heap) : Fam := famG P w K mg base nFewestL (defScope sFewestL) 2
theorem ok_fewest {f : Addr} {fd : FuncData} (Fn : Fun K "_law_fewest" "_law_fewest" sFewestL f fd) (G : Gs mg) (nS : mg "sorted" = none) (nR : mg "repr" = none) (cF : Cal (Ff P w K mg base) "_law_free" (spP K (RlTwo ind))) :
    FnG P w K mg base 3 f fd ["deeds", "others"] (spP K RlFew) := by
  refine def_okG Fn scFewestL (by decide) (fun ss r h => ?_) fun ss r h => ?_
  · obtain ⟨ds, es, rfl, _⟩ := h; rfl
  obtain ⟨ds, es, rfl, hD, hE, rfl⟩ := h
  refine ⟨.ret _ none, ?_, rfl⟩
  have G' : Gs (Ff P w K mg base).mg := G
  have hdl := hD.2.2
  have hel := hE.2.2
  show BSs (Ff P w K mg base) ⟨none, [.d (.tuple (dsD ds)), .d (.tuple (dsD es)), .un, .un, .un, .un, .un, .un, .un]⟩ _ _
  have rp : ∀ (l : List De), InP l → ∀ d ∈ l, ∀ {ρ : En} {e : Expr} {pos p : Pos} (sc : Scope), (rlS sc (defScope sFewestL)).names.lookup ("repr" : Str) = some .globalImplicit → BE ((Ff P w K mg base).blk sc) ρ e (deD d) ρ → (∀ env, starEach [e] env = (false, eval e env) :: starEach [] env) → BE ((Ff P w K mg base).blk sc) ρ (.Call (.Name "repr" p) [e] [] pos) (.str (txD d)) ρ := fun l hl d hd ρ e pos p sc hg h hst => by
    have hb := hl.both d hd
    refine be_repr h rfl ?_ (deD_showable hb.2) (deD_nodict d) (Nat.le_trans (deD_dp d) (by decide)) (Nat.le_trans (tx_len hb.1 hb.2) (by decide)) nR hg hst
    have := shp_can _ _ (deD_shp hb.1)
    simpa [deD, PyData.canLay0] using this
  have t0 : BT (Ff P w K mg base) ⟨none, [.d (.tuple (dsD ds)), .d (.tuple (dsD es)), .un, .un, .un, .un, .un, .un, .un]⟩ (ifTest (nth (defBody sFewestL) 0)) (!decide (ds.Perm es)) ⟨none, [.d (.tuple (dsD ds)), .d (.tuple (dsD es)), .un, .un, .un, .un, .un, .un, .un]⟩ := by
    refine' bt_cI (x := .list (txS ds)) (y := .list (txS es)) (be_ofL (bl_sortedD (ds := (ds.map txD).map .str) (be_ofL (bl_lc (tm' := none) [("deed", 8)] (bi_tup (be_nm rfl)) (bb_name 8) (lc_ok (blk_of (N := nFewestL) (sc := defScope sFewestL) rfl (by decide +kernel)) rfl rfl) ?z1 ?c1)) ?l1 ?a1 ?k1 ?n1 ?d1 nS)) (be_ofL (bl_sortedD (ds := (es.map txD).map .str) (be_ofL (bl_lc (tm' := none) [("deed", 8)] (bi_tup (be_nm rfl)) (bb_name 8) (lc_ok (blk_of (N := nFewestL) (sc := defScope sFewestL) rfl (by decide +kernel)) rfl rfl) ?z2 ?c2)) ?l2 ?a2 ?k2 ?n2 ?d2 nS)) (c_ne (txS_shaped hD) (txS_shaped hE)) ?r
    case z1 => rw [dsD_len]; omega
    case z2 => rw [dsD_len]; omega
    case c1 =>
      rw [List.map_map]
      exact lcomp_map deD (fun d => .str (txD d)) fun d hd => .item (ps := [deD d]) rfl bif_nil rfl (rp ds hD d hd _ rfl (be_nm rfl) (fun _ => rfl)) rfl
    case c2 =>
      rw [List.map_map]
      exact lcomp_map deD (fun d => .str (txD d)) fun d hd => .item (ps := [deD d]) rfl bif_nil rfl (rp es hE d hd _ rfl (be_nm rfl) (fun _ => rfl)) rfl
    case l1 => exact (lay_strs hD.both).1
    case l2 => exact (lay_strs hE.both).1
    case a1 => exact txt_alike _
    case a2 => exact txt_alike _
    case k1 => exact txt_sortable _
    case k2 => exact txt_sortable _
    case n1 => rw [List.length_map, List.length_map]; omega
    case n2 => rw [List.length_map, List.length_map]; omega
    case d1 => exact txt_dp _
    case d2 => exact txt_dp _
    case r => rw [txS_eqv hD hE]
  by_cases hp : ¬ ds.Perm es
  · have e : fewM ds es = .none := if_neg hp
    rw [e]
    exact bss_stop (bs_ifT (BT.is t0 (by simp [hp])) (bss_one (q_retP be_non)))
  have hp : ds.Perm es := Decidable.not_not.mp hp
  have e : fewM ds es = (if badI (zipS ds es) = true then .none else .int (cntI (zipS ds es) : Nat)) := if_pos hp
  rw [e]
  have hln : ds.length = es.length := hp.length_eq
  refine bss_cons (bs_ifF (BT.is t0 (by simp [hp])) bss_nil) ?_
  refine bss_cons (bs_setL 2 (bl_lst bd_nil)) ?_
  let spI : List PyData := (spG es [] ds).map fun (n : Nat) => .int (n : Int)
  have spl : (spG es [] ds).length = ds.length := spG_len es ds []
  let envA : Nat → En := fun k => ⟨none, [.d (.tuple (dsD ds)), .d (.tuple (dsD es)), .own (spI.take k), .un, .un, .un, .un, .un, .un]⟩
  have bl : (((dsD ds).length : Nat) : Int).toNat = ds.length := by rw [dsD_len]; rfl
  refine bss_cons (ρ1 := envA ds.length) (bs_for (bi_range1 (q_len G' (be_nm rfl) (.inl rfl) rfl (fun _ => rfl)) G'.range (by rw [dsD_len]; omega)) ?_) ?_
  · rw [bl]
    refine loop_rg (lo := 0) envA fun k hk => ⟨_, bg_name 3, ?_⟩
    have gk : ds[k]? = some ds[k] := List.getElem?_eq_getElem hk
    have xk : atI (dsD ds) (0 + (k : Int)) = some (deD ds[k]) := dsD_at gk (by omega)
    have ek : spI[k]? = some (.int ((spt es ds[k] ((ds.take k).count ds[k]) : Nat) : Int)) := by
      show ((spG es [] ds).map fun (n : Nat) => PyData.int (n : Int))[k]? = _
      rw [List.getElem?_map, spG_get, gk]; rfl
    have et : spI.take (k + 1) = spI.take k ++ [.int ((spt es ds[k] ((ds.take k).count ds[k]) : Nat) : Int)] := by
      rw [List.take_succ, ek]; rfl
    have hb : (ds.take k).count ds[k] < (idxs es ds[k]).length := spt_count hp gk
    have okk : Ok ds[k] := hD.1.1 _ (List.getElem_mem _)
    have shk : SeqAt.shaped (deD ds[k]) = true := shp_shaped (deD_shp okk)
    have ct : (ds.take k).count ds[k] = ((ds.take k).filter fun d => decide (d = ds[k])).length := by
      rw [List.count_eq_length_filter]
      congr 2
      funext d
      by_cases h : d = ds[k] <;> simp [h]
    let envB : Sl → En := fun b => ⟨none, [.d (.tuple (dsD ds)), .d (.tuple (dsD es)), .own (spI.take k), .d (.int (0 + (k : Int))), b, .un, .un, .un, .un]⟩
    have eB : BE (Ff P w K mg base) (envB .un) (asgVal (nth (forBody (nth (defBody sFewestL) 2)) 0)) (.int ((ds.take k).count ds[k] : Nat)) (envB .un) := by
      refine' BE.is (q_len G' (x := .list (((ds.take k).filter fun d => decide (d = ds[k])).map deD)) (be_ofL (bl_lc (tm' := none) [("deed", 8)] (bi_tup (xs := dsD (ds.take k)) (BE.is (q_slT (be_nm rfl) bo_none (bo_some (be_nm rfl))) ?cut)) (bb_name 8) (lc_ok (blk_of (N := nFewestL) (sc := defScope sFewestL) rfl (by decide +kernel)) rfl rfl) ?z ?c)) (.inr rfl) rfl (fun _ => rfl)) (congrArg PyData.int (by rw [List.length_map, ct]))
      case cut =>
        show PyData.tuple (cutD (ds.map deD) none (some (0 + (k : Int)))) = _
        rw [cutD_take deD ds (by omega), show (0 + (k : Int)).toNat = k by omega]
        rfl
      case z => rw [dsD_len, List.length_take]; omega
      case c =>
        have sh : ∀ d ∈ ds.take k, SeqAt.shaped (deD d) = true := fun d hd => shp_shaped (deD_shp (hD.1.1 d (List.mem_of_mem_take hd)))
        refine lcomp_filter deD deD (fun d => decide (d = ds[k])) (fun d hd hpr => ?_) (fun d hd hpr => ?_)
        · exact .item (ps := [deD d]) rfl (bif_one (BT.is (bt_c (be_nm rfl) (q_ix (x := .tuple (dsD ds)) (be_nm rfl) (be_nm rfl) (.inl rfl) xk (fun _ _ => rfl)) (c_eq (sh d hd) shk)) (by rw [eqv_deD]; exact hpr))) rfl (be_nm rfl) rfl
        · exact .skip (ps := [deD d]) rfl (bif_one (BT.is (bt_c (be_nm rfl) (q_ix (x := .tuple (dsD ds)) (be_nm rfl) (be_nm rfl) (.inl rfl) xk (fun _ _ => rfl)) (c_eq (sh d hd) shk)) (by rw [eqv_deD]; exact hpr))) rfl
    have ix : ((idxs es ds[k]).map fun (i : Nat) => PyData.int (0 + (i : Int)))[(ds.take k).count ds[k]]? = some (.int ((spt es ds[k] ((ds.take k).count ds[k]) : Nat) : Int)) := by
      rw [List.getElem?_map, List.getElem?_eq_getElem hb]
      show some (PyData.int _) = _
      congr 2
      unfold spt
      rw [List.getD_eq_getElem?_getD, List.getElem?_eq_getElem hb]
      show (0 : Int) + _ = _
      rw [Int.zero_add]; rfl
    show BSs _ (envB .un) _ (.nx ⟨none, [.d (.tuple (dsD ds)), .d (.tuple (dsD es)), .own (spI.take (k + 1)), .un, .un, .un, .un, .un, .un]⟩)
    rw [et]
    refine bss_weakN (bss_cons (bs_setP 4 eB) (bss_one (bs_expr (q_append (tm' := none) (m := 2) (xs := spI.take k) rfl ?_ (by rw [List.length_take]; show min k ((spG es [] ds).map _).length ≤ _; rw [List.length_map]; omega))))) (Les.le (.same (.same (.same (.un (.un (.un (.un (.un (.un .nil))))))))))
    refine' q_ix (x := .list ((idxs es ds[k]).map fun (i : Nat) => PyData.int (0 + (i : Int)))) (be_ofL (bl_lc (tm' := none) [("j", 5)] (bi_range1 (q_len G' (be_nm rfl) (.inl rfl) rfl (fun _ => rfl)) G'.range ?rr) (bb_name 5) (lc_ok (blk_of (N := nFewestL) (sc := defScope sFewestL) rfl (by decide +kernel)) rfl rfl) ?z ?c)) (be_nm rfl) (.inr rfl) (atI_nn (Int.natCast_nonneg _) (by rw [Int.toNat_natCast]; exact ix)) (fun _ _ => rfl)
    case rr => rw [dsD_len]; omega
    case z => rw [rgD_len, dsD_len, Int.toNat_natCast]; omega
    case c =>
      have el : ((dsD es).length : Int).toNat = es.length := by rw [dsD_len, Int.toNat_natCast]
      rw [el]
      have gj : ∀ j ∈ List.range es.length, ∃ d, es[j]? = some d ∧ es.getD j ("", []) = d ∧ SeqAt.shaped (deD d) = true ∧ atI (dsD es) (0 + (j : Int)) = some (deD d) := fun j hj => by
        have hj := List.mem_range.mp hj
        have g := List.getElem?_eq_getElem hj
        exact ⟨es[j], g, by rw [List.getD_eq_getElem?_getD, g]; rfl, shp_shaped (deD_shp (hE.1.1 _ (List.getElem_mem _))), dsD_at g (by omega)⟩
      unfold idxs
      refine lcomp_filter (fun (i : Nat) => PyData.int (0 + (i : Int))) (fun (i : Nat) => PyData.int (0 + (i : Int))) (fun j => decide (es.getD j ("", []) = ds[k])) (fun j hj hpr => ?_) (fun j hj hpr => ?_)
      · obtain ⟨d, g1, g2, g3, g4⟩ := gj j hj
        exact .item (ps := [.int (0 + (j : Int))]) rfl (bif_one (BT.is (bt_c (q_ix (x := .tuple (dsD es)) (be_nm rfl) (be_nm rfl) (.inl rfl) g4 (fun _ _ => rfl)) (q_ix (x := .tuple (dsD ds)) (be_nm rfl) (be_nm rfl) (.inl rfl) xk (fun _ _ => rfl)) (c_eq g3 shk)) (by rw [eqv_deD, ← g2]; exact hpr))) rfl (be_nm rfl) rfl
      · obtain ⟨d, g1, g2, g3, g4⟩ := gj j hj
        exact .skip (ps := [.int (0 + (j : Int))]) rfl (bif_one (BT.is (bt_c (q_ix (x := .tuple (dsD es)) (be_nm rfl) (be_nm rfl) (.inl rfl) g4 (fun _ _ => rfl)) (q_ix (x := .tuple (dsD ds)) (be_nm rfl) (be_nm rfl) (.inl rfl) xk (fun _ _ => rfl)) (c_eq g3 shk)) (by rw [eqv_deD, ← g2]; exact hpr))) rfl
  have etk : spI.take ds.length = spI := List.take_of_length_le (by show ((spG es [] ds).map _).length ≤ _; rw [List.length_map, spl]; exact Nat.le_refl _)
  have spIl : spI.length = ds.length := by show ((spG es [] ds).map _).length = _; rw [List.length_map, spl]
  refine bss_cons (bs_setP 6 be_int) ?_
  let envC : Sl → Sl → Int → En := fun i j c => ⟨none, [.d (.tuple (dsD ds)), .d (.tuple (dsD es)), .own spI, .un, .un, j, .d (.int c), i, .un]⟩
  have zl : (zipS ds es).length = ds.length := by unfold zipS; rw [List.length_zip, spl, Nat.min_self]
  have zg : ∀ (j : Nat) (hj : j < ds.length), (zipS ds es).drop j = (ds[j], (spG es [] ds)[j]'(by rw [spl]; exact hj)) :: (zipS ds es).drop (j + 1) := fun j hj => by
    rw [List.drop_eq_getElem_cons (by rw [zl]; exact hj)]
    congr 1
    exact List.getElem_zip ..
  have xs : ∀ (j : Nat) (hj : j < ds.length) (i : Int), i = (j : Int) → atI spI i = some (.int (((spG es [] ds)[j]'(by rw [spl]; exact hj) : Nat) : Int)) := fun j hj i e => atI_nn (by omega) (by
    have : i.toNat = j := by omega
    rw [this]
    show ((spG es [] ds).map fun (n : Nat) => PyData.int (n : Int))[j]? = _
    rw [List.getElem?_map, List.getElem?_eq_getElem (by rw [spl]; exact hj)]; rfl)
  have xd : ∀ (j : Nat) (hj : j < ds.length) (i : Int), i = (j : Int) → atI (dsD ds) i = some (deD ds[j]) := fun j hj i e => dsD_at (List.getElem?_eq_getElem hj) e
  have od : ∀ (j : Nat) (hj : j < ds.length), Ok ds[j] := fun j hj => hD.1.1 _ (List.getElem_mem _)
  have inner : ∀ (i : Nat) (hi : i < ds.length) (m j : Nat) (c : Int), j + m = ds.length → Loop (LStep (Ff P w K mg base) (forTg (nth (forBody (nth (defBody sFewestL) 4)) 0)) (forBody (nth (forBody (nth (defBody sFewestL) 4)) 0))) (rgD (j : Nat) m) (envC (.d (.int (i : Nat))) .un c)
      (if ((zipS ds es).drop j).any (fun x => decide (x.2 < (spG es [] ds)[i]'(by rw [spl]; exact hi)) && !ind ds[i] x.1) = true then .ret (.d .none) none else .nx (envC (.d (.int (i : Nat))) .un (c + ((((zipS ds es).drop j).filter fun x => decide (x.2 < (spG es [] ds)[i]'(by rw [spl]; exact hi))).length : Nat)))) := by
    intro i hi m
    induction m with
    | zero =>
      intro j c hj
      have : (zipS ds es).drop j = [] := List.drop_eq_nil_of_le (by rw [zl]; omega)
      rw [this]
      show Loop _ [] _ (.nx (envC _ .un (c + 0)))
      rw [Int.add_zero]
      exact .nil
    | succ m ih =>
      intro j c hj
      have hjl : j < ds.length := by omega
      rw [rgD_cons, zg j hjl, List.any_cons, List.filter_cons]
      have tg : BT (Ff P w K mg base) (envC (.d (.int (i : Nat))) (.d (.int (j : Nat))) c) (ifTest (nth (forBody (nth (forBody (nth (defBody sFewestL) 4)) 0)) 0)) (decide ((((spG es [] ds)[j]'(by rw [spl]; exact hjl) : Nat) : Int) < (((spG es [] ds)[i]'(by rw [spl]; exact hi) : Nat) : Int))) (envC (.d (.int (i : Nat))) (.d (.int (j : Nat))) c) :=
        bt_c (q_ixO rfl (be_nm rfl) (xs i hi _ rfl) (fun _ _ => rfl)) (q_ixO rfl (be_nm rfl) (xs j hjl _ rfl) (fun _ _ => rfl)) c_gt
      have ej : ((j : Nat) : Int) + 1 = ((j + 1 : Nat) : Int) := by omega
      rw [ej]
      by_cases hlt : (spG es [] ds)[j]'(by rw [spl]; exact hjl) < (spG es [] ds)[i]'(by rw [spl]; exact hi)
      · have tf : BT (Ff P w K mg base) (envC (.d (.int (i : Nat))) (.d (.int (j : Nat))) (c + 1)) (ifTest (nth (ifThen (nth (forBody (nth (forBody (nth (defBody sFewestL) 4)) 0)) 0)) 1)) (!ind ds[i] ds[j]) (envC (.d (.int (i : Nat))) (.d (.int (j : Nat))) (c + 1)) :=
          bt_not (BE.bt (q_two cF (q_ix (x := .tuple (dsD ds)) (be_nm rfl) (be_nm rfl) (.inl rfl) (xd i hi _ rfl) (fun _ _ => rfl)) (q_ix (x := .tuple (dsD ds)) (be_nm rfl) (be_nm rfl) (.inl rfl) (xd j hjl _ rfl) (fun _ _ => rfl)) (od i hi) (od j hjl)) (fun _ _ => rfl))
        cases hI : ind ds[i] ds[j] with
        | false =>
          rw [if_pos (by simp [hlt, hI])]
          exact .ret ⟨_, bg_name 5, bss_stop (bs_ifT (BT.is tg (decide_eq_true (by omega))) (bss_cons (bs_setP 6 (be_add (be_nm rfl) be_int)) (bss_stop (bs_ifT (BT.is tf (by rw [hI]; rfl)) (bss_one (q_retP be_non))))))⟩
        | true =>
          have st : LStep (Ff P w K mg base) (forTg (nth (forBody (nth (defBody sFewestL) 4)) 0)) (forBody (nth (forBody (nth (defBody sFewestL) 4)) 0)) (.int (j : Nat)) (envC (.d (.int (i : Nat))) .un c) (.nx (envC (.d (.int (i : Nat))) .un (c + 1))) :=
            ⟨_, bg_name 5, bss_weakN (bss_one (bs_ifT (BT.is tg (decide_eq_true (by omega))) (bss_cons (bs_setP 6 (be_add (be_nm rfl) be_int)) (bss_one (bs_ifF (BT.is tf (by rw [hI]; rfl)) bss_nil))))) (Les.le (.same (.same (.same (.un (.un (.un (.same (.same (.un .nil))))))))))⟩
          have := ih (j + 1) (c + 1) (by omega)
          rw [show (decide ((spG es [] ds)[j]'(by rw [spl]; exact hjl) < (spG es [] ds)[i]'(by rw [spl]; exact hi)) && !true) = false by simp, Bool.false_or, if_pos (decide_eq_true hlt), List.length_cons]
          have ec : c + 1 + ((((zipS ds es).drop (j + 1)).filter fun x => decide (x.2 < (spG es [] ds)[i]'(by rw [spl]; exact hi))).length : Nat) = c + (((((zipS ds es).drop (j + 1)).filter fun x => decide (x.2 < (spG es [] ds)[i]'(by rw [spl]; exact hi))).length + 1 : Nat) : Int) := by omega
          rw [ec] at this
          exact .nx st this
      · have st : LStep (Ff P w K mg base) (forTg (nth (forBody (nth (defBody sFewestL) 4)) 0)) (forBody (nth (forBody (nth (defBody sFewestL) 4)) 0)) (.int (j : Nat)) (envC (.d (.int (i : Nat))) .un c) (.nx (envC (.d (.int (i : Nat))) .un c)) :=
          ⟨_, bg_name 5, bss_weakN (bss_one (bs_ifF (BT.is tg (decide_eq_false (by omega))) bss_nil)) (Les.le (.same (.same (.same (.un (.un (.un (.same (.same (.un .nil))))))))))⟩
        have := ih (j + 1) c (by omega)
        rw [show decide ((spG es [] ds)[j]'(by rw [spl]; exact hjl) < (spG es [] ds)[i]'(by rw [spl]; exact hi)) = false from decide_eq_false hlt, Bool.false_and, Bool.false_or, if_neg (by decide : ¬ (false = true))]
        exact .nx st this
  have outer : ∀ (m i : Nat) (c : Int), i + m = ds.length → Loop (LStep (Ff P w K mg base) (forTg (nth (defBody sFewestL) 4)) (forBody (nth (defBody sFewestL) 4))) (rgD (i : Nat) m) (envC .un .un c) (if badI ((zipS ds es).drop i) = true then .ret (.d .none) none else .nx (envC .un .un (c + (cntI ((zipS ds es).drop i) : Nat)))) := by
    intro m
    induction m with
    | zero =>
      intro i c hi
      have : (zipS ds es).drop i = [] := List.drop_eq_nil_of_le (by rw [zl]; omega)
      rw [this]
      show Loop _ [] _ (.nx (envC .un .un (c + 0)))
      rw [Int.add_zero]
      exact .nil
    | succ m ih =>
      intro i c hi
      have hil : i < ds.length := by omega
      rw [rgD_cons, zg i hil]
      have ei : ((i : Nat) : Int) + 1 = ((i + 1 : Nat) : Int) := by omega
      rw [ei]
      have inn := inner i hil m (i + 1) c (by omega)
      have er : (((dsD ds).length : Int) - (((i : Nat) : Int) + 1)).toNat = m := by rw [dsD_len]; omega
      have bi : BI (Ff P w K mg base) (envC (.d (.int (i : Nat))) .un c) (forTg (nth (forBody (nth (defBody sFewestL) 4)) 0)) (forIter (nth (forBody (nth (defBody sFewestL) 4)) 0)) (rgD ((i + 1 : Nat) : Int) m) (envC (.d (.int (i : Nat))) .un c) := by
        have er : ((spI.length : Int) - (((i : Nat) : Int) + 1)).toNat = m := by rw [spIl]; omega
        rw [← ei, ← er]
        exact bi_range2 (be_add (be_nm rfl) be_int) (q_lenO G' rfl rfl) G'.range (by rw [spIl]; omega)
      show Loop _ _ _ (if (((zipS ds es).drop (i + 1)).any (fun x => decide (x.2 < (spG es [] ds)[i]'(by rw [spl]; exact hil)) && !ind ds[i] x.1) || badI ((zipS ds es).drop (i + 1))) = true then .ret (.d .none) none else .nx (envC .un .un (c + ((((zipS ds es).drop (i + 1)).filter fun x => decide (x.2 < (spG es [] ds)[i]'(by rw [spl]; exact hil))).length + cntI ((zipS ds es).drop (i + 1)) : Nat))))
      cases hb : ((zipS ds es).drop (i + 1)).any (fun x => decide (x.2 < (spG es [] ds)[i]'(by rw [spl]; exact hil)) && !ind ds[i] x.1) with
      | true =>
        rw [hb, if_pos rfl] at inn
        rw [Bool.true_or, if_pos rfl]
        exact .ret ⟨_, bg_name 7, bss_stop (bs_for bi inn)⟩
      | false =>
        rw [hb, if_neg (by decide)] at inn
        rw [Bool.false_or]
        have st : LStep (Ff P w K mg base) (forTg (nth (defBody sFewestL) 4)) (forBody (nth (defBody sFewestL) 4)) (.int (i : Nat)) (envC .un .un c) (.nx (envC .un .un (c + ((((zipS ds es).drop (i + 1)).filter fun x => decide (x.2 < (spG es [] ds)[i]'(by rw [spl]; exact hil))).length : Nat)))) :=
          ⟨_, bg_name 7, bss_weakN (bss_one (bs_for bi inn)) (Les.le (.same (.same (.same (.un (.un (.un (.same (.un (.un .nil))))))))))⟩
        have := ih (i + 1) (c + ((((zipS ds es).drop (i + 1)).filter fun x => decide (x.2 < (spG es [] ds)[i]'(by rw [spl]; exact hil))).length : Nat)) (by omega)
        rw [Int.add_assoc, ← Int.natCast_add] at this
        exact .nx st this
  have out := outer ds.length 0 0 (by omega)
  rw [List.drop_zero, Int.zero_add] at out
  have bi : BI (Ff P w K mg base) (envC .un .un 0) (forTg (nth (defBody sFewestL) 4)) (forIter (nth (defBody sFewestL) 4)) (rgD ((0 : Nat) : Int) ds.length) (envC .un .un 0) := by
    have er : (spI.length : Int).toNat = ds.length := by rw [spIl]; rfl
    rw [← er]
    exact bi_range1 (q_lenO G' rfl rfl) G'.range (by rw [spIl]; omega)
  show BSs _ ⟨none, [.d (.tuple (dsD ds)), .d (.tuple (dsD es)), .own (spI.take ds.length), .un, .un, .un, .d (.int 0), .un, .un]⟩ _ _
  rw [etk]
  cases hb : badI (zipS ds es) with
  | true =>
    rw [hb, if_pos rfl] at out
    rw [if_pos rfl]
    exact bss_stop (bs_for bi out)
  | false =>
    rw [hb, if_neg (by decide)] at out
    rw [if_neg (by decide)]
    exact bss_cons (bs_for bi out) (bss_one (q_retP (be_nm rfl)))
end
end K51

set_option maxRecDepth 100000
set_option maxHeartbeats 400000
namespace K51
open PySem PySem.Spec L2 TC DM
theorem q_ex {F : Fam} {ρ ρ1 ρ2 : En} {a b : Expr} {p pos : Pos} {ds es : List De} (c : Cal F "exchanges" (spP F.K RlEx)) (h1 : BE F ρ a (.tuple (dsD ds)) ρ1) (h2 : BE F ρ1 b (.tuple (dsD es)) ρ2) (o1 : OkS ds) (o2 : OkS es) (hl : ds.length ≤ 100)
    (hg : F.sc.names.lookup ("exchanges" : Str) = some .globalImplicit := by rfl) (he : ∀ env, starEach [a, b] env = (false, eval a env) :: starEach [b] env := by intro _; rfl) (he2 : ∀ env, starEach [b] env = (false, eval b env) :: starEach [] env := by intro _; rfl) (hpl2 : ∀ env, (backTo pos (starEach [b] env)).any (·.1) = false := by intro _; rfl) :
    BE F ρ (.Call (.Name "exchanges" p) [a, b] [] pos) (exM ds es) ρ2 :=
  be_call c (ba_cons h1 (ba_cons h2 ba_nil he2) he) ⟨ds, es, rfl, o1, o2, hl, rfl⟩ rfl hg (by decide) he hpl2
def fS : De := ("save", [0, 1])
def fT : De := ("train", [1, 1, 4])
def fC : De := ("crash", [2])
def fC0 : De := ("crash", [0])
def rws : List (List De) := [[fS, fT, fC], [fC, fT, fS], [fT, fS, fT], [fT, fT, fS], [fS, fS, fT]]
theorem oks3 {l : List De} (h : (l.all fun d => okN d.1 d.2.length) = true) (hl : l.length ≤ 3) : OkS l := ⟨fun d hd => ok_of d.2.length rfl (List.all_eq_true.mp h d hd), by omega⟩
theorem exM_some {ds es : List De} {ps : List Int} (h : ds.isPerm es = true) (e : exR 0 ds es = some ps) : exM ds es = .tuple (ps.map .int) := by
  unfold exM
  rw [if_pos (List.isPerm_iff.mp h), e]
theorem exM_none {ds es : List De} (h : ds.isPerm es = false ∨ exR 0 ds es = none) : exM ds es = .none := by
  unfold exM
  rcases h with h | h
  · rw [if_neg fun z => by rw [List.isPerm_iff.mpr z] at h; cases h]
  · rw [h]; split <;> rfl
def RlTrue : List Sl → Res → Prop := fun ss r => ss = [] ∧ r = .d (.bool true)
section
variable {P : Program} {w : World} {K : PySem.W.Frag} {mg : Str → Option Value} {base : Heap}
theorem ok_fixed {f : Addr} {fd : FuncData} (Fn : Fun K "_law_fixed" "_law_fixed" sFixedL f fd) (G : Gs mg) (cI : Cal (fam P w K mg base nFixedL (defScope sFixedL) 3) "independent" (spP K (RlTwo ind))) (cE : Cal (fam P w K mg base nFixedL (defScope sFixedL) 3) "exchanges" (spP K RlEx)) : FnOk P w K mg base CX0 4 f fd [] (spP K RlTrue) := by
  refine def_okP Fn scFixedL (by decide) (fun ss r h => ?_) fun ss r h => ?_
  · obtain ⟨rfl, _⟩ := h; rfl
  obtain ⟨rfl, rfl⟩ := h
  refine ⟨.ret _ none, ?_, rfl⟩
  have G' : Gs (fam P w K mg base nFixedL (defScope sFixedL) 3).mg := G
  show BSs _ ⟨none, [.un, .un, .un, .un]⟩ _ _
  refine bss_cons (bs_setP 0 (x := deD fS) (by k_one)) ?_
  refine bss_cons (bs_setP 1 (x := deD fT) (by k_one)) ?_
  refine bss_cons (bs_setP 2 (x := deD fC) (by k_one)) ?_
  refine bss_cons (bs_setP 3 (x := .tuple (rws.map fun l => .tuple (dsD l))) ?rw) ?_
  case rw =>
    show BE _ _ _ (.tuple [.tuple [deD fS, deD fT, deD fC], .tuple [deD fC, deD fT, deD fS], .tuple [deD fT, deD fS, deD fT], .tuple [deD fT, deD fT, deD fS], .tuple [deD fS, deD fS, deD fT]]) _
    k_one
  let ρ0 : En := ⟨none, [.d (deD fS), .d (deD fT), .d (deD fC), .d (.tuple (rws.map fun l => .tuple (dsD l)))]⟩
  have row : ∀ (i : Nat) (l : List De) {p q r : Pos}, rws[i]? = some l → ∀ {kk : Nat}, BE (fam P w K mg base nFixedL (defScope sFixedL) 3) ρ0 (.Subscript (.Name "rows" p) (.Constant (.int (i : Int)) kk q) r) (.tuple (dsD l)) ρ0 := fun i l p q r h kk =>
    q_ix (x := .tuple (rws.map fun l => .tuple (dsD l))) (be_nm rfl) be_int (.inl rfl) (atI_nn (Int.natCast_nonneg _) (by rw [Int.toNat_natCast, List.getElem?_map, h]; rfl)) (fun _ _ => rfl)
  have o : ∀ l ∈ rws, OkS l ∧ l.length ≤ 100 := fun l hl => by
    have h : (rws.all fun l => (l.all fun d => okN d.1 d.2.length) && decide (l.length ≤ 3)) = true := by decide +kernel
    have := List.all_eq_true.mp h l hl
    simp only [Bool.and_eq_true, decide_eq_true_eq] at this
    exact ⟨oks3 this.1 this.2, by omega⟩
  have m0 : [fS, fT, fC] ∈ rws := by simp [rws]
  have m1 : [fC, fT, fS] ∈ rws := by simp [rws]
  have m2 : [fT, fS, fT] ∈ rws := by simp [rws]
  have m3 : [fT, fT, fS] ∈ rws := by simp [rws]
  have m4 : [fS, fS, fT] ∈ rws := by simp [rws]
  have v1 : exM [fS, fT, fC] [fC, fT, fS] = .tuple ([1, 0, 1].map .int) := exM_some (by decide +kernel) (by decide +kernel)
  have v2 : exM [fT, fS, fT] [fT, fT, fS] = .tuple ([1].map .int) := exM_some (by decide +kernel) (by decide +kernel)
  have v3 : exM [fS, fT, fC] [fS, fT, fC] = .tuple ([].map .int) := exM_some (by decide +kernel) (by decide +kernel)
  have v4 : exM [fT, fS, fT] [fS, fS, fT] = .none := exM_none (by decide +kernel)
  have v5 : exM [fS, fT, fC] [fS, fT] = .none := exM_none (by decide +kernel)
  have v6 : exM [] [] = .tuple ([].map .int) := exM_some (by decide +kernel) (by decide +kernel)
  have v7 : exM [fS, fC0] [fC0, fS] = .none := exM_none (by decide +kernel)
  have x1 : ∀ {p1 p2 p3 p4 p5 p6 p7 p8 : Pos} {k1 k2 : Nat}, BE (fam P w K mg base nFixedL (defScope sFixedL) 3) ρ0 (.Call (.Name "exchanges" p1) [.Subscript (.Name "rows" p2) (.Constant (.int 0) k1 p3) p4, .Subscript (.Name "rows" p5) (.Constant (.int 1) k2 p6) p7] [] p8) (.tuple ([1, 0, 1].map .int)) ρ0 := fun {p1 p2 p3 p4 p5 p6 p7 p8 k1 k2} => BE.is (q_ex cE (row 0 _ rfl) (row 1 _ rfl) (o _ m0).1 (o _ m1).1 (o _ m0).2) v1
  have x2 : ∀ {p1 p2 p3 p4 p5 p6 p7 p8 : Pos} {k1 k2 : Nat}, BE (fam P w K mg base nFixedL (defScope sFixedL) 3) ρ0 (.Call (.Name "exchanges" p1) [.Subscript (.Name "rows" p2) (.Constant (.int 2) k1 p3) p4, .Subscript (.Name "rows" p5) (.Constant (.int 3) k2 p6) p7] [] p8) (.tuple ([1].map .int)) ρ0 := fun {p1 p2 p3 p4 p5 p6 p7 p8 k1 k2} => BE.is (q_ex cE (row 2 _ rfl) (row 3 _ rfl) (o _ m2).1 (o _ m3).1 (o _ m2).2) v2
  have x3 : ∀ {p1 p2 p3 p4 p5 p6 p7 p8 : Pos} {k1 k2 : Nat}, BE (fam P w K mg base nFixedL (defScope sFixedL) 3) ρ0 (.Call (.Name "exchanges" p1) [.Subscript (.Name "rows" p2) (.Constant (.int 0) k1 p3) p4, .Subscript (.Name "rows" p5) (.Constant (.int 0) k2 p6) p7] [] p8) (.tuple []) ρ0 := fun {p1 p2 p3 p4 p5 p6 p7 p8 k1 k2} => BE.is (q_ex cE (row 0 _ rfl) (row 0 _ rfl) (o _ m0).1 (o _ m0).1 (o _ m0).2) v3
  have x4 : ∀ {p1 p2 p3 p4 p5 p6 p7 p8 : Pos} {k1 k2 : Nat}, BE (fam P w K mg base nFixedL (defScope sFixedL) 3) ρ0 (.Call (.Name "exchanges" p1) [.Subscript (.Name "rows" p2) (.Constant (.int 2) k1 p3) p4, .Subscript (.Name "rows" p5) (.Constant (.int 4) k2 p6) p7] [] p8) .none ρ0 := fun {p1 p2 p3 p4 p5 p6 p7 p8 k1 k2} => BE.is (q_ex cE (row 2 _ rfl) (row 4 _ rfl) (o _ m2).1 (o _ m4).1 (o _ m2).2) v4
  have os : OkS [fS, fT] := oks3 (by decide +kernel) (by decide)
  have o0 : OkS [] := oks3 (by decide +kernel) (by decide)
  have oc : OkS [fS, fC0] := oks3 (by decide +kernel) (by decide)
  have od : OkS [fC0, fS] := oks3 (by decide +kernel) (by decide)
  refine bss_cons (bs_ifF (ρ1 := ρ0) (BT.is (k := !decide ((3 : Int) = 3) || (!decide ((1 : Int) = 1) || !PyData.eqv (.tuple []) (.tuple []))) (BW.bt (bw_or (bt_c (q_len G' x1 (.inl rfl) rfl (fun _ => rfl)) be_int c_neI) (bw_or (bt_c (q_len G' x2 (.inl rfl) rfl (fun _ => rfl)) be_int c_neI) (bw_or1 (bt_c x3 (be_tup bd_nil) (c_ne rfl rfl)))))) (by decide +kernel)) bss_nil) ?_
  refine bss_cons (bs_ifF (ρ1 := ρ0) (BT.is (k := !isNone (.none) || (!isNone (.none) || !PyData.eqv (.tuple []) (.tuple []))) (BW.bt (bw_or (bt_c x4 be_non c_notN) (bw_or (bt_c (BE.is (q_ex (es := [fS, fT]) cE (row 0 _ rfl) (BE.is (q_slT (row 0 _ rfl) bo_none (bo_some be_int)) rfl) (o _ m0).1 os (o _ m0).2) v5) be_non c_notN) (bw_or1 (bt_c (BE.is (q_ex (ds := []) (es := []) cE (be_tup bd_nil) (be_tup bd_nil) o0 o0 (by decide)) v6) (be_tup bd_nil) (c_ne rfl rfl)))))) (by decide +kernel)) bss_nil) ?_
  refine' bss_one (q_retP (be_and (ρ1 := ρ0) (k := true) (k' := true) (be_cI (BE.is (q_ex (ds := [fS, fC0]) (es := [fC0, fS]) cE ?e1 ?e2 oc od (by decide)) v7) be_non c_isN rfl) fun _ => be_one (be_notF (BE.is (q_two (d := fS) (e := fC0) cI (be_nm rfl) ?e3 (oc.1 _ (by simp)) (oc.1 _ (by simp))) (congrArg PyData.bool (show ind fS fC0 = false by decide +kernel))))))
  case e1 =>
    show BE _ _ _ (.tuple [deD fS, .tuple [.str "crash", .int 0]]) _
    k_one
  case e2 =>
    show BE _ _ _ (.tuple [.tuple [.str "crash", .int 0], deD fS]) _
    k_one
  case e3 =>
    show BE _ _ _ (.tuple [.str "crash", .int 0]) _
    k_one
end
end K51

set_option maxRecDepth 100000
set_option maxHeartbeats 400000
namespace K51
open PySem PySem.Spec L2 TC DM
theorem dgI (i : Int) (h : 0 ≤ i ∧ i ≤ 9) : i ∈ ([0, 1, 2, 3, 4, 5, 6, 7, 8, 9] : List Int) := by
  simp only [List.mem_cons, List.not_mem_nil, or_false]
  omega
theorem dg_of {n : Str} {l : List Int} (h : ∀ i ∈ l, 0 ≤ i ∧ i ≤ 9) : Dg (n, l) := fun i hi => dgI i (h i hi)
theorem deedN_dg (n : List Int) (a : Int) : Dg (deedN n a) := by
  unfold deedN
  repeat' split
  all_goals
    refine dg_of fun i hi => ?_
    simp only [List.mem_cons, List.not_mem_nil, or_false] at hi
    omega
theorem sub_inP {ds es : List De} (h : InP ds) (hs : ∀ d ∈ es, d ∈ ds) (hl : es.length ≤ ds.length) : InP es :=
  ⟨⟨fun d hd => h.1.1 d (hs d hd), Nat.le_trans hl h.1.2⟩, fun d hd => h.2.1 d (hs d hd), Nat.le_trans hl h.2.2⟩
theorem deedsN_len (c : Int) {m : Int} (h0 : 0 ≤ m) : (deedsN c m).length ≤ 4 + m.toNat := by
  unfold deedsN
  rw [List.length_append, List.length_map, List.length_range, List.length_take]
  have e : startL.length = 4 := rfl
  have : ((draws2 c 59).getD 57 0 % (m + 1)) < m + 1 := Int.emod_lt_of_pos _ (by omega)
  omega
theorem deedsN_inP (c : Int) {m : Int} (h0 : 0 ≤ m) (h1 : m ≤ 50) : InP (deedsN c m) := by
  refine ⟨deedsN_ok c h0 (by omega), fun d hd => ?_, ?_⟩
  · unfold deedsN at hd
    rcases List.mem_append.mp hd with hd | hd
    · have := List.mem_of_mem_take hd
      have h : ∀ d ∈ startL, ∀ i ∈ d.2, 0 ≤ i ∧ i ≤ 9 := by decide +kernel
      exact fun i hi => dgI i (h d this i hi)
    · obtain ⟨k, _, rfl⟩ := List.mem_map.mp hd
      exact deedN_dg _ _
  · have := deedsN_len c h0
    omega
theorem swp_mem {l : List De} {i : Nat} (hi : i + 1 < l.length) : ∀ d ∈ swp l i, d ∈ l := fun d hd => by
  rw [← swp_cut hi] at hd
  simp only [List.mem_append, List.mem_cons, List.not_mem_nil, or_false] at hd
  have g : ∀ j, j < l.length → l.getD j ("", []) ∈ l := fun j hj => by rw [List.getD_eq_getElem?_getD, List.getElem?_eq_getElem hj]; exact List.getElem_mem _
  rcases hd with (hd | rfl | rfl) | hd
  · exact List.mem_of_mem_take hd
  · exact g _ hi
  · exact g _ (by omega)
  · exact List.mem_of_mem_drop hd
theorem mix_mem {n : List Int} {ds : List De} : ∀ k, ∀ d ∈ (mix n ds k).1, d ∈ ds
  | 0 => fun d hd => hd
  | k + 1 => fun d hd => by
    have hd : d ∈ (mixS n k (mix n ds k)).1 := hd
    unfold mixS at hd
    simp only [] at hd
    split at hd
    · rename_i hc
      have hp : 0 ≤ n.getD k 0 % max 1 ((mix n ds k).1.length : Int) := Int.emod_nonneg _ (by omega)
      exact mix_mem k d (swp_mem (by omega) d hd)
    · exact mix_mem k d hd
theorem mix_inP {n : List Int} {ds : List De} (h : InP ds) (k : Nat) : InP (mix n ds k).1 := sub_inP h (mix_mem k) (Nat.le_of_eq (mix_ok (n := n) h.1 k).2.1)
section
variable {P : Program} {w : World} {K : PySem.W.Frag} {mg : Str → Option Value} {base : Heap}
abbrev lawF (P : Program) (w : World) (K : PySem.W.Frag) (mg : Str → Option Value) (base : Heap) : Fam := famG P w K mg base nLaw (defScope sLaw) 5
structure Cs (P : Program) (w : World) (K : PySem.W.Frag) (mg : Str → Option Value) (base : Heap) : Prop where
  G : Gs mg
  C : Cal (lawF P w K mg base) "_law_cell" (spP K RlCell)
  X : Cal (lawF P w K mg base) "_law_fixed" (spP K RlTrue)
  D : Cal (lawF P w K mg base) "_law_deeds" (spP K RlDeeds)
  M : Cal (lawF P w K mg base) "_law_mixed" (spP K RlMixed)
  W : CalG (lawF P w K mg base) "_law_fewest" (spP K RlFew)
  E : Cal (lawF P w K mg base) "exchanges" (spP K RlEx)
  L : Cal (lawF P w K mg base) "_law_led" (spP K RlLed)
  J : Cal (lawF P w K mg base) "judge_exchanges" (spP K RlJudge)
theorem ints_nd (l : List Int) : ∀ ps, PyData.tuple (l.map PyData.int) = .tuple ps → ∀ y ∈ ps, ∀ m, y ≠ .dict m := fun ps e y hy m => by
  cases e
  obtain ⟨i, _, rfl⟩ := List.mem_map.mp hy
  exact nofun
/-- one row of others -/
theorem turn (c : Cs P w K mg base) {ns : List Int} {ds es : List De} {rw' : Sl} (hD : InP ds) (hE : InP es) :
    BSs (lawF P w K mg base) ⟨none, [.scr ns, .d (.tuple (dsD ds)), rw', .d (.tuple (dsD es)), .un, .un, .un]⟩ (forBody (nth (defBody sLaw) 4)) (.nx ⟨none, [.scr ns, .d (.tuple (dsD ds)), rw', .un, .un, .un, .un]⟩) := by
  have G' : Gs (lawF P w K mg base).mg := c.G
  refine bss_cons (bs_setP 4 (x := fewM ds es) (be_callG c.W (ba_cons (be_nm rfl) (ba_cons (be_nm rfl) ba_nil)) ⟨ds, es, rfl, hD, hE, rfl⟩)) ?_
  refine bss_cons (bs_setP 5 (x := exM ds es) (q_ex c.E (be_nm rfl) (be_nm rfl) hD.1 hE.1 hD.2.2)) ?_
  have few := fun hp : ds.Perm es => few_is es 0 ds hp
  have e1 : (∃ ps : List Int, exM ds es = .tuple (ps.map .int) ∧ fewM ds es = .int (ps.length : Nat) ∧ runJ ds (ps.map .int) = some es) ∨ (exM ds es = .none ∧ fewM ds es = .none) := by
    by_cases hp : ds.Perm es
    · have f := few hp
      unfold exM fewM
      rw [if_pos hp, if_pos hp]
      cases q : exR 0 ds es with
      | none =>
        rw [q] at f
        rw [if_pos f]
        exact .inr ⟨rfl, rfl⟩
      | some ps =>
        rw [q] at f
        rw [if_neg (by rw [f.1]; decide), ← f.2]
        exact .inl ⟨ps, rfl, rfl, ex_run es [] ds ps hp q⟩
    · exact .inr ⟨if_neg hp, if_neg hp⟩
  generalize exM ds es = found at e1 ⊢
  generalize fewM ds es = due at e1 ⊢
  let ρ0 : PyData → PyData → En := fun due found => ⟨none, [.scr ns, .d (.tuple (dsD ds)), rw', .d (.tuple (dsD es)), .d due, .d found, .un]⟩
  rcases e1 with ⟨ps, rfl, rfl, run⟩ | ⟨rfl, rfl⟩
  · refine bss_weakN (ρ1 := ρ0 (.int (ps.length : Nat)) (.tuple (ps.map .int))) (bss_cons (ρ1 := ρ0 (.int (ps.length : Nat)) (.tuple (ps.map .int))) (bs_ifF (BT.is (bt_c (be_cI (be_nm rfl) be_non c_isN rfl) (be_cI (be_nm rfl) be_non c_isN rfl) (c_ne rfl rfl)) rfl) bss_nil) ?_) (Les.le (.same (.same (.same (.un (.un (.un (.same .nil))))))))
    refine bss_one (bs_ifT (BT.is (bt_c (be_nm rfl) be_non c_notN) rfl) ?_)
    have lel : led ds (.tuple (ps.map .int)) = .tuple (dsD es) := by
      show (match runJ ds (ps.map .int) with | some row => PyData.tuple (dsD row) | none => .none) = _
      rw [run]
    have jel : judge ds es (.tuple (ps.map .int)) = true := by
      show (match runJ ds (ps.map .int) with | some row => PyData.eqvAll (dsD row) (dsD es) | none => false) = true
      rw [run]
      show PyData.eqvAll (dsD es) (dsD es) = true
      rw [eqv_dsD]; simp
    refine bss_cons (ρ1 := ρ0 (.int (ps.length : Nat)) (.tuple (ps.map .int))) (bs_ifF (BT.is (k := !true || (!decide (((ps.map PyData.int).length : Int) = ((ps.length : Nat) : Int)) || !PyData.eqv (.tuple (dsD es)) (.tuple (dsD es)))) (BW.bt (bw_or (bt_not (BE.bt (be_isV (Tn := "tuple") true c.G.isinstance c.G.tuple boot_ty_tuple (be_nm rfl) (show isK "tuple" "tuple" = true by decide)) (fun _ _ => rfl))) (bw_or (bt_c (q_len G' (be_nm rfl) (.inl rfl) rfl (fun _ => rfl)) (be_nm rfl) c_neI) (bw_or1 (bt_c (BE.is (be_call c.L (ba_cons (be_nm rfl) (ba_cons (be_nm rfl) ba_nil)) ⟨ds, .tuple (ps.map .int), rfl, hD.1, nofun, ints_nd ps, rfl⟩) lel) (be_nm rfl) (c_ne (shp_shaped (dsD_shp hE.1)) (shp_shaped (dsD_shp hE.1)))))))) ?_) bss_nil) ?_
    · rw [List.length_map]
      have : PyData.eqv (.tuple (dsD es)) (.tuple (dsD es)) = true := by
        show PyData.eqvAll (dsD es) (dsD es) = true
        rw [eqv_dsD]; simp
      rw [this]
      simp
    · exact bss_one (bs_ifF (ρ1 := ρ0 (.int (ps.length : Nat)) (.tuple (ps.map .int))) (BT.is (bt_not (BE.bt (be_call c.J (ba_cons (be_nm rfl) (ba_cons (be_nm rfl) (ba_cons (be_nm rfl) ba_nil))) ⟨ds, es, .tuple (ps.map .int), rfl, hD.1, hE.1, rfl, ints_nd ps, rfl⟩) (fun _ _ => rfl))) (by rw [jel]; rfl)) bss_nil)
  · refine bss_weakN (ρ1 := ρ0 .none .none) (bss_cons (ρ1 := ρ0 .none .none) (bs_ifF (BT.is (bt_c (be_cI (be_nm rfl) be_non c_isN rfl) (be_cI (be_nm rfl) be_non c_isN rfl) (c_ne rfl rfl)) rfl) bss_nil) ?_) (Les.le (.same (.same (.same (.un (.un (.un (.same .nil))))))))
    exact bss_one (bs_ifF (BT.is (bt_c (be_nm rfl) be_non c_notN) rfl) bss_nil)
end
end K51

set_option maxRecDepth 100000
set_option maxHeartbeats 400000
namespace K51
open PySem PySem.Spec L2 TC DM
section
variable {P : Program} {w : World} {K : PySem.W.Frag} {mg : Str → Option Value} {base : Heap}
theorem ok_law {f : Addr} {fd : FuncData} (Fn : Fun K "law" "law" sLaw f fd) (c : Cs P w K mg base) : FnG P w K mg base 6 f fd ["script"] (spP K RlLaw) := by
  refine def_okG Fn scLaw (by decide) (fun ss r h => ?_) fun ss r h => ?_
  · obtain ⟨ns, rfl, _⟩ := h; rfl
  obtain ⟨ns, rfl, h63, rfl⟩ := h
  refine ⟨.ret _ none, ?_, rfl⟩
  have G' : Gs (lawF P w K mg base).mg := c.G
  show BSs (lawF P w K mg base) ⟨none, [.scr ns, .un, .un, .un, .un, .un, .un]⟩ _ _
  refine bss_cons (bs_ifF (BT.is (k := !true) (bt_not (BE.bt (be_call0 c.X ⟨rfl, rfl⟩) (fun _ _ => rfl))) rfl) bss_nil) ?_
  refine bss_cons (bs_setP 1 (be_call c.D (ba_cons (q_cell (k := 0) c.C rfl be_int rfl rfl (fun _ => rfl) (fun _ => rfl)) (ba_cons be_int ba_nil)) ⟨_, 11, rfl, by decide, by decide, rfl⟩)) ?_
  have hD := deedsN_inP (ns.getD 0 0) (m := 11) (by decide) (by decide)
  have hl := deedsN_len (ns.getD 0 0) (m := 11) (by decide)
  have h4 := deedsN_inP (ns.getD 4 0) (m := 11) (by decide) (by decide)
  have h0 := deedsN_inP (ns.getD 0 0) (m := 10) (by decide) (by decide)
  have hl : (deedsN (ns.getD 0 0) 11).length ≤ 15 := hl
  generalize deedsN (ns.getD 0 0) 11 = ds at hD hl ⊢
  let rowsA : List PyData := (List.range 3).map fun (t : Nat) => .tuple (dsD (mix (draws2 (ns.getD (1 + t) 0) 50) ds (5 + 15 * t)).1)
  refine bss_cons (bs_setLcO (tm' := none) (ys := rowsA) 2 [("turn", 6)] (bi_range1 (j := 3) be_int c.G.range (by decide)) (bb_name 6) (lc_ok (blk_of (N := nLaw) (sc := defScope sLaw) rfl (by decide +kernel)) rfl rfl) (by decide) ?lc) ?_
  case lc =>
    refine lcomp_rg (n := 3) (fun _ => none) _ fun t ht => .item rfl bif_nil rfl ?_ rfl
    refine q_ix (x := .tuple [.tuple (dsD (mix (draws2 (ns.getD (1 + t) 0) 50) ds (5 + 15 * t)).1), .tuple ((mix (draws2 (ns.getD (1 + t) 0) 50) ds (5 + 15 * t)).2.map .int)]) ?_ be_int (.inl rfl) rfl (fun _ _ => rfl)
    refine be_call c.M.blk (ba_cons (be_nm rfl) (ba_cons (q_cell (k := 1 + t) c.C.blk rfl (be_add be_int (be_nm rfl)) (by omega) rfl (fun _ => rfl) (fun _ => rfl)) (ba_cons (BE.is (be_add be_int (be_mul be_int (be_nm rfl) (.inl (by omega)))) (congrArg PyData.int ?_)) ba_nil))) ⟨ds, _, 5 + 15 * t, rfl, hD.1, by omega, rfl⟩
    omega
  let rowsB : List PyData := [.tuple (dsD ds).reverse, .tuple (cutD (ds.map deD) (some 1) none ++ cutD (ds.map deD) none (some 1)), .tuple (cutD (ds.map deD) none (some (-1))), .tuple (dsD (deedsN (ns.getD 4 0) 11)), .tuple (dsD (deedsN (ns.getD 0 0) 10))]
  obtain ⟨c1, d1, f1, g1⟩ := cutD_map deD ds (some 1) none
  obtain ⟨c2, d2, f2, g2⟩ := cutD_map deD ds none (some 1)
  obtain ⟨c3, d3, f3, g3⟩ := cutD_map deD ds none (some (-1))
  have hz : (cutD (ds.map deD) (some 1) none).length + (cutD (ds.map deD) none (some 1)).length ≤ 100000 := by rw [d1, d2, List.length_map, List.length_map]; have := hD.2.2; omega
  refine bss_cons (bs_expr (q_extend (m := 2) (tm' := none) (xs := rowsA) (ys := rowsB) rfl (be_ofL (bl_lst (xs := rowsB) (hz := by show 5 ≤ _; omega) (bd_cons (be_revT (be_nm rfl)) (bd_cons (be_catT (q_slT (xs := ds.map deD) (be_nm rfl) (bo_some be_int) bo_none) (q_slT (xs := ds.map deD) (be_nm rfl) bo_none (bo_some be_int)) hz) (bd_cons (q_slT (xs := ds.map deD) (be_nm rfl) bo_none (bo_some (be_neg be_int)))
    (bd_cons (be_call c.D (ba_cons (q_cell (k := 4) c.C rfl be_int rfl rfl (fun _ => rfl) (fun _ => rfl)) (ba_cons be_int ba_nil)) ⟨_, 11, rfl, by decide, by decide, rfl⟩) (bd_cons (be_call c.D (ba_cons (q_cell (k := 0) c.C rfl be_int rfl rfl (fun _ => rfl) (fun _ => rfl)) (ba_cons be_int ba_nil)) ⟨_, 10, rfl, by decide, by decide, rfl⟩) bd_nil))))))) (by show 3 + 5 ≤ _; omega))) ?_
  have all : ∀ x ∈ rowsA ++ rowsB, ∃ es : List De, x = .tuple (dsD es) ∧ InP es := fun x hx => by
    rcases List.mem_append.mp hx with hx | hx
    · obtain ⟨t, _, rfl⟩ := List.mem_map.mp hx
      exact ⟨_, rfl, mix_inP hD _⟩
    · have hx : x ∈ ([.tuple (dsD ds).reverse, .tuple (cutD (ds.map deD) (some 1) none ++ cutD (ds.map deD) none (some 1)), .tuple (cutD (ds.map deD) none (some (-1))), .tuple (dsD (deedsN (ns.getD 4 0) 11)), .tuple (dsD (deedsN (ns.getD 0 0) 10))] : List PyData) := hx
      simp only [List.mem_cons, List.not_mem_nil, or_false] at hx
      rcases hx with rfl | rfl | rfl | rfl | rfl
      · exact ⟨ds.reverse, by unfold dsD; rw [List.map_reverse], sub_inP hD (fun d hd => List.mem_reverse.mp hd) (Nat.le_of_eq List.length_reverse)⟩
      · refine ⟨c1 ++ c2, by unfold dsD; rw [d1, d2, List.map_append], ⟨fun d hd => ?_, ?_⟩, fun d hd => ?_, ?_⟩
        · exact hD.1.1 d ((List.mem_append.mp hd).elim (f1 d) (f2 d))
        · rw [List.length_append]; have := hD.2.2; omega
        · exact hD.2.1 d ((List.mem_append.mp hd).elim (f1 d) (f2 d))
        · rw [List.length_append]; omega
      · exact ⟨c3, congrArg PyData.tuple d3, sub_inP hD f3 g3⟩
      · exact ⟨_, rfl, h4⟩
      · exact ⟨_, rfl, h0⟩
  refine bss_freeze 2 rfl ?_
  let ρ0 : En := ⟨none, [.scr ns, .d (.tuple (dsD ds)), .d (.list (rowsA ++ rowsB)), .un, .un, .un, .un]⟩
  refine bss_cons (ρ1 := ρ0) (bs_for (bi_list (be_nm rfl)) (loop_const fun x hx => ?lp)) (bss_one (q_retP be_bl))
  case lp =>
    obtain ⟨es, rfl, hE⟩ := all x hx
    exact ⟨_, bg_name 3, turn c hD hE⟩
end
end K51

set_option maxRecDepth 100000
set_option maxHeartbeats 4000000
namespace K51
open PySem PySem.Spec L2 TC
theorem all_mk {l : PySem.W.OpenLaw} {w : World} {K : PySem.W.Frag} {h : Heap} {mg : Str → Option Value} {fa f1 f2 f3 f4 f5 f6 f7 f8 f9 f10 f11 f12 f13 f14 f15 f16 f17 : Addr} (X : K.In h) (G : h.Ns mainGlobals mg) (hfa : mg "law" = some (.ref fa))
    {od1 an1 od2 an2 od3 an3 od4 an4 od5 an5 od6 an6 od7 an7 od8 an8 od9 an9 od10 an10 od11 an11 od12 an12 od13 an13 od14 an14 od15 an15 od16 an16 od17 an17 : Option Addr} {sl1 sl2 sl3 sl4 sl5 sl6 sl7 sl8 sl9 sl10 sl11 sl12 sl13 sl14 sl15 sl16 sl17 : Array (Option Value)} {oc1 kV1 dc1 pm1 cd1 ct1 oc2 kV2 dc2 pm2 cd2 ct2 oc3 kV3 dc3 pm3 cd3 ct3 oc4 kV4 dc4 pm4 cd4 ct4 oc5 kV5 dc5 pm5 cd5 ct5 oc6 kV6 dc6 pm6 cd6 ct6 oc7 kV7 dc7 pm7 cd7 ct7 oc8 kV8 dc8 pm8 cd8 ct8 oc9 kV9 dc9 pm9 cd9 ct9 oc10 kV10 dc10 pm10 cd10 ct10 oc11 kV11 dc11 pm11 cd11 ct11 oc12 kV12 dc12 pm12 cd12 ct12 oc13 kV13 dc13 pm13 cd13 ct13 oc14 kV14 dc14 pm14 cd14 ct14 oc15 kV15 dc15 pm15 cd15 ct15 oc16 kV16 dc16 pm16 cd16 ct16 oc17 kV17 dc17 pm17 cd17 ct17 : Value}
    (a1 : PySem.W.nsIn K mainGlobals "is_whole" = some (some (.ref f1))) (l1 : K.lookup f1 = some ⟨oc1, od1, .func (PySem.W.fnOf "is_whole" "is_whole" (defArgs sIsWhole) (defBody sIsWhole) (defScope sIsWhole) .none kV1 dc1 pm1 an1 cd1 ct1), sl1⟩)
    (c1 : PySem.W.codeIn K cd1 "is_whole" = true) (k1 : PySem.W.keepIn K (.ref f1) = true)
    (a2 : PySem.W.nsIn K mainGlobals "independent" = some (some (.ref f2))) (l2 : K.lookup f2 = some ⟨oc2, od2, .func (PySem.W.fnOf "independent" "independent" (defArgs sIndependent) (defBody sIndependent) (defScope sIndependent) .none kV2 dc2 pm2 an2 cd2 ct2), sl2⟩)
    (c2 : PySem.W.codeIn K cd2 "independent" = true) (k2 : PySem.W.keepIn K (.ref f2) = true)
    (a3 : PySem.W.nsIn K mainGlobals "depends" = some (some (.ref f3))) (l3 : K.lookup f3 = some ⟨oc3, od3, .func (PySem.W.fnOf "depends" "depends" (defArgs sDepends) (defBody sDepends) (defScope sDepends) .none kV3 dc3 pm3 an3 cd3 ct3), sl3⟩)
    (c3 : PySem.W.codeIn K cd3 "depends" = true) (k3 : PySem.W.keepIn K (.ref f3) = true)
    (a4 : PySem.W.nsIn K mainGlobals "judge_exchanges" = some (some (.ref f4))) (l4 : K.lookup f4 = some ⟨oc4, od4, .func (PySem.W.fnOf "judge_exchanges" "judge_exchanges" (defArgs sJudgeExchanges) (defBody sJudgeExchanges) (defScope sJudgeExchanges) .none kV4 dc4 pm4 an4 cd4 ct4), sl4⟩)
    (c4 : PySem.W.codeIn K cd4 "judge_exchanges" = true) (k4 : PySem.W.keepIn K (.ref f4) = true)
    (a5 : PySem.W.nsIn K mainGlobals "exchanges" = some (some (.ref f5))) (l5 : K.lookup f5 = some ⟨oc5, od5, .func (PySem.W.fnOf "exchanges" "exchanges" (defArgs sExchanges) (defBody sExchanges) (defScope sExchanges) .none kV5 dc5 pm5 an5 cd5 ct5), sl5⟩)
    (c5 : PySem.W.codeIn K cd5 "exchanges" = true) (k5 : PySem.W.keepIn K (.ref f5) = true)
    (a6 : PySem.W.nsIn K mainGlobals "_law_cell" = some (some (.ref f6))) (l6 : K.lookup f6 = some ⟨oc6, od6, .func (PySem.W.fnOf "_law_cell" "_law_cell" (defArgs sCellL) (defBody sCellL) (defScope sCellL) .none kV6 dc6 pm6 an6 cd6 ct6), sl6⟩)
    (c6 : PySem.W.codeIn K cd6 "_law_cell" = true) (k6 : PySem.W.keepIn K (.ref f6) = true)
    (a7 : PySem.W.nsIn K mainGlobals "_law_draws" = some (some (.ref f7))) (l7 : K.lookup f7 = some ⟨oc7, od7, .func (PySem.W.fnOf "_law_draws" "_law_draws" (defArgs sDrawsL) (defBody sDrawsL) (defScope sDrawsL) .none kV7 dc7 pm7 an7 cd7 ct7), sl7⟩)
    (c7 : PySem.W.codeIn K cd7 "_law_draws" = true) (k7 : PySem.W.keepIn K (.ref f7) = true)
    (a8 : PySem.W.nsIn K mainGlobals "_law_is_number" = some (some (.ref f8))) (l8 : K.lookup f8 = some ⟨oc8, od8, .func (PySem.W.fnOf "_law_is_number" "_law_is_number" (defArgs sIsNumberL) (defBody sIsNumberL) (defScope sIsNumberL) .none kV8 dc8 pm8 an8 cd8 ct8), sl8⟩)
    (c8 : PySem.W.codeIn K cd8 "_law_is_number" = true) (k8 : PySem.W.keepIn K (.ref f8) = true)
    (a9 : PySem.W.nsIn K mainGlobals "_law_deed" = some (some (.ref f9))) (l9 : K.lookup f9 = some ⟨oc9, od9, .func (PySem.W.fnOf "_law_deed" "_law_deed" (defArgs sDeedL) (defBody sDeedL) (defScope sDeedL) .none kV9 dc9 pm9 an9 cd9 ct9), sl9⟩)
    (c9 : PySem.W.codeIn K cd9 "_law_deed" = true) (k9 : PySem.W.keepIn K (.ref f9) = true)
    (a10 : PySem.W.nsIn K mainGlobals "_law_deeds" = some (some (.ref f10))) (l10 : K.lookup f10 = some ⟨oc10, od10, .func (PySem.W.fnOf "_law_deeds" "_law_deeds" (defArgs sDeedsL) (defBody sDeedsL) (defScope sDeedsL) .none kV10 dc10 pm10 an10 cd10 ct10), sl10⟩)
    (c10 : PySem.W.codeIn K cd10 "_law_deeds" = true) (k10 : PySem.W.keepIn K (.ref f10) = true)
    (a11 : PySem.W.nsIn K mainGlobals "_law_copies" = some (some (.ref f11))) (l11 : K.lookup f11 = some ⟨oc11, od11, .func (PySem.W.fnOf "_law_copies" "_law_copies" (defArgs sCopiesL) (defBody sCopiesL) (defScope sCopiesL) .none kV11 dc11 pm11 an11 cd11 ct11), sl11⟩)
    (c11 : PySem.W.codeIn K cd11 "_law_copies" = true) (k11 : PySem.W.keepIn K (.ref f11) = true)
    (a12 : PySem.W.nsIn K mainGlobals "_law_free" = some (some (.ref f12))) (l12 : K.lookup f12 = some ⟨oc12, od12, .func (PySem.W.fnOf "_law_free" "_law_free" (defArgs sFreeL) (defBody sFreeL) (defScope sFreeL) .none kV12 dc12 pm12 an12 cd12 ct12), sl12⟩)
    (c12 : PySem.W.codeIn K cd12 "_law_free" = true) (k12 : PySem.W.keepIn K (.ref f12) = true)
    (a13 : PySem.W.nsIn K mainGlobals "_law_mixed" = some (some (.ref f13))) (l13 : K.lookup f13 = some ⟨oc13, od13, .func (PySem.W.fnOf "_law_mixed" "_law_mixed" (defArgs sMixedL) (defBody sMixedL) (defScope sMixedL) .none kV13 dc13 pm13 an13 cd13 ct13), sl13⟩)
    (c13 : PySem.W.codeIn K cd13 "_law_mixed" = true) (k13 : PySem.W.keepIn K (.ref f13) = true)
    (a14 : PySem.W.nsIn K mainGlobals "_law_led" = some (some (.ref f14))) (l14 : K.lookup f14 = some ⟨oc14, od14, .func (PySem.W.fnOf "_law_led" "_law_led" (defArgs sLedL) (defBody sLedL) (defScope sLedL) .none kV14 dc14 pm14 an14 cd14 ct14), sl14⟩)
    (c14 : PySem.W.codeIn K cd14 "_law_led" = true) (k14 : PySem.W.keepIn K (.ref f14) = true)
    (a15 : PySem.W.nsIn K mainGlobals "_law_fewest" = some (some (.ref f15))) (l15 : K.lookup f15 = some ⟨oc15, od15, .func (PySem.W.fnOf "_law_fewest" "_law_fewest" (defArgs sFewestL) (defBody sFewestL) (defScope sFewestL) .none kV15 dc15 pm15 an15 cd15 ct15), sl15⟩)
    (c15 : PySem.W.codeIn K cd15 "_law_fewest" = true) (k15 : PySem.W.keepIn K (.ref f15) = true)
    (a16 : PySem.W.nsIn K mainGlobals "_law_fixed" = some (some (.ref f16))) (l16 : K.lookup f16 = some ⟨oc16, od16, .func (PySem.W.fnOf "_law_fixed" "_law_fixed" (defArgs sFixedL) (defBody sFixedL) (defScope sFixedL) .none kV16 dc16 pm16 an16 cd16 ct16), sl16⟩)
    (c16 : PySem.W.codeIn K cd16 "_law_fixed" = true) (k16 : PySem.W.keepIn K (.ref f16) = true)
    (a17 : PySem.W.nsIn K mainGlobals "law" = some (some (.ref f17))) (l17 : K.lookup f17 = some ⟨oc17, od17, .func (PySem.W.fnOf "law" "law" (defArgs sLaw) (defBody sLaw) (defScope sLaw) .none kV17 dc17 pm17 an17 cd17 ct17), sl17⟩)
    (c17 : PySem.W.codeIn K cd17 "law" = true) (k17 : PySem.W.keepIn K (.ref f17) = true)
    (z1 : PySem.W.nsIn K mainGlobals "list" = some none)
    (z2 : PySem.W.nsIn K mainGlobals "range" = some none)
    (z3 : PySem.W.nsIn K mainGlobals "tuple" = some none)
    (z4 : PySem.W.nsIn K mainGlobals "len" = some none)
    (z5 : PySem.W.nsIn K mainGlobals "int" = some none)
    (z6 : PySem.W.nsIn K mainGlobals "str" = some none)
    (z7 : PySem.W.nsIn K mainGlobals "bool" = some none)
    (z8 : PySem.W.nsIn K mainGlobals "isinstance" = some none)
    (z9 : PySem.W.nsIn K mainGlobals "sorted" = some none)
    (z10 : PySem.W.nsIn K mainGlobals "sum" = some none)
    (z11 : PySem.W.nsIn K mainGlobals "min" = some none)
    (z12 : PySem.W.nsIn K mainGlobals "max" = some none)
    (z13 : PySem.W.nsIn K mainGlobals "abs" = some none)
    (z14 : PySem.W.nsIn K mainGlobals "zip" = some none)
    (z15 : PySem.W.nsIn K mainGlobals "type" = some none)
    (z16 : PySem.W.nsIn K mainGlobals "set" = some none)
    (z17 : PySem.W.nsIn K mainGlobals "enumerate" = some none)
    (z18 : PySem.W.nsIn K mainGlobals "repr" = some none)
    : ∃ fd : FuncData, (∀ (s : Shared) (v : Value), BindsTo s fd ⟨[v], []⟩ [("script", v)]) ∧ ∀ base : Heap, K.In base → base.Ns mainGlobals mg → FnG l.prog w K mg base 6 fa fd ["script"] (spP K RlLaw) := by
  have e := hfa.symm.trans (PySem.W.mg_of X G a17)
  cases e
  have F1 := fun_mk (st := sIsWhole) l1 c1 k1
  have b1 := F1.binds (ps := ["value", "least", "most"]) fun _ _ _ _ _ _ us hl => match us, hl with | [_, _, _], _ => rfl
  have m1 := PySem.W.mg_of X G a1
  have F2 := fun_mk (st := sIndependent) l2 c2 k2
  have b2 := F2.binds (ps := ["one", "other"]) fun _ _ _ _ _ _ us hl => match us, hl with | [_, _], _ => rfl
  have m2 := PySem.W.mg_of X G a2
  have F3 := fun_mk (st := sDepends) l3 c3 k3
  have b3 := F3.binds (ps := ["one", "other"]) fun _ _ _ _ _ _ us hl => match us, hl with | [_, _], _ => rfl
  have m3 := PySem.W.mg_of X G a3
  have F4 := fun_mk (st := sJudgeExchanges) l4 c4 k4
  have b4 := F4.binds (ps := ["deeds", "others", "places"]) fun _ _ _ _ _ _ us hl => match us, hl with | [_, _, _], _ => rfl
  have m4 := PySem.W.mg_of X G a4
  have F5 := fun_mk (st := sExchanges) l5 c5 k5
  have b5 := F5.binds (ps := ["deeds", "others"]) fun _ _ _ _ _ _ us hl => match us, hl with | [_, _], _ => rfl
  have m5 := PySem.W.mg_of X G a5
  have F6 := fun_mk (st := sCellL) l6 c6 k6
  have b6 := F6.binds (ps := ["script", "k"]) fun _ _ _ _ _ _ us hl => match us, hl with | [_, _], _ => rfl
  have m6 := PySem.W.mg_of X G a6
  have F7 := fun_mk (st := sDrawsL) l7 c7 k7
  have b7 := F7.binds (ps := ["cell", "count"]) fun _ _ _ _ _ _ us hl => match us, hl with | [_, _], _ => rfl
  have m7 := PySem.W.mg_of X G a7
  have F8 := fun_mk (st := sIsNumberL) l8 c8 k8
  have b8 := F8.binds (ps := ["value", "least", "most"]) fun _ _ _ _ _ _ us hl => match us, hl with | [_, _, _], _ => rfl
  have m8 := PySem.W.mg_of X G a8
  have F9 := fun_mk (st := sDeedL) l9 c9 k9
  have b9 := F9.binds (ps := ["n", "at"]) fun _ _ _ _ _ _ us hl => match us, hl with | [_, _], _ => rfl
  have m9 := PySem.W.mg_of X G a9
  have F10 := fun_mk (st := sDeedsL) l10 c10 k10
  have b10 := F10.binds (ps := ["cell", "most"]) fun _ _ _ _ _ _ us hl => match us, hl with | [_, _], _ => rfl
  have m10 := PySem.W.mg_of X G a10
  have F11 := fun_mk (st := sCopiesL) l11 c11 k11
  have b11 := F11.binds (ps := ["deed", "other"]) fun _ _ _ _ _ _ us hl => match us, hl with | [_, _], _ => rfl
  have m11 := PySem.W.mg_of X G a11
  have F12 := fun_mk (st := sFreeL) l12 c12 k12
  have b12 := F12.binds (ps := ["one", "other"]) fun _ _ _ _ _ _ us hl => match us, hl with | [_, _], _ => rfl
  have m12 := PySem.W.mg_of X G a12
  have F13 := fun_mk (st := sMixedL) l13 c13 k13
  have b13 := F13.binds (ps := ["deeds", "cell", "many"]) fun _ _ _ _ _ _ us hl => match us, hl with | [_, _, _], _ => rfl
  have m13 := PySem.W.mg_of X G a13
  have F14 := fun_mk (st := sLedL) l14 c14 k14
  have b14 := F14.binds (ps := ["deeds", "places"]) fun _ _ _ _ _ _ us hl => match us, hl with | [_, _], _ => rfl
  have m14 := PySem.W.mg_of X G a14
  have F15 := fun_mk (st := sFewestL) l15 c15 k15
  have b15 := F15.binds (ps := ["deeds", "others"]) fun _ _ _ _ _ _ us hl => match us, hl with | [_, _], _ => rfl
  have m15 := PySem.W.mg_of X G a15
  have F16 := fun_mk (st := sFixedL) l16 c16 k16
  have b16 := F16.binds (ps := []) fun _ _ _ _ _ _ us hl => match us, hl with | [], _ => rfl
  have m16 := PySem.W.mg_of X G a16
  have F17 := fun_mk (st := sLaw) l17 c17 k17
  have b17 := F17.binds (ps := ["script"]) fun _ _ _ _ _ _ us hl => match us, hl with | [_], _ => rfl
  have m17 := PySem.W.mg_of X G a17
  have Gz : Gs mg := ⟨PySem.W.mg_none_of X G z1, PySem.W.mg_none_of X G z2, PySem.W.mg_none_of X G z3, PySem.W.mg_none_of X G z4, PySem.W.mg_none_of X G z5, PySem.W.mg_none_of X G z6, PySem.W.mg_none_of X G z7, PySem.W.mg_none_of X G z8, PySem.W.mg_none_of X G z9, PySem.W.mg_none_of X G z10, PySem.W.mg_none_of X G z11, PySem.W.mg_none_of X G z12, PySem.W.mg_none_of X G z13, PySem.W.mg_none_of X G z14, PySem.W.mg_none_of X G z15, PySem.W.mg_none_of X G z16⟩
  have n_enumerate := PySem.W.mg_none_of X G z17
  have n_repr := PySem.W.mg_none_of X G z18
  refine ⟨PySem.W.fnOf "law" "law" (defArgs sLaw) (defBody sLaw) (defScope sLaw) .none kV17 dc17 pm17 an17 cd17 ct17, fun s v => .of_eq rfl, fun base _ _ => ?_⟩
  have okW := ok_whole (P := l.prog) (w := w) (base := base) F1 Gz
  have okDp := ok_depends (P := l.prog) (w := w) (mg := mg) (base := base) F3
  have okI := ok_independent (P := l.prog) (w := w) (base := base) F2 (cal_of okDp (show _ ≤ 1 by decide) m3 k3 b3)
  have okJ := ok_judge (P := l.prog) (w := w) (base := base) F4 Gz (cal_of okW (show _ ≤ 2 by decide) m1 k1 b1) (cal_of okI (show _ ≤ 2 by decide) m2 k2 b2)
  have okE := ok_exchanges (P := l.prog) (w := w) (base := base) F5 Gz Gz.sorted n_enumerate (cal_of okI (show _ ≤ 2 by decide) m2 k2 b2)
  have okC := ok_cell (P := l.prog) (w := w) (base := base) F6 Gz
  have okR := ok_draws (P := l.prog) (w := w) (base := base) F7 Gz
  have okNu := ok_number (P := l.prog) (w := w) (base := base) F8 Gz
  have okD := ok_deed (P := l.prog) (w := w) (base := base) F9 Gz
  have okDs := ok_deeds (P := l.prog) (w := w) (base := base) F10 Gz (cal_of okR (show _ ≤ 1 by decide) m7 k7 b7) (cal_of okD (show _ ≤ 1 by decide) m9 k9 b9)
  have okCo := ok_copies (P := l.prog) (w := w) (mg := mg) (base := base) F11
  have okF := ok_free (P := l.prog) (w := w) (base := base) F12 (cal_of okCo (show _ ≤ 1 by decide) m11 k11 b11)
  have okM := ok_mixed (P := l.prog) (w := w) (base := base) F13 Gz (cal_of okR (show _ ≤ 2 by decide) m7 k7 b7) (cal_of okF (show _ ≤ 2 by decide) m12 k12 b12)
  have okL := ok_led (P := l.prog) (w := w) (base := base) F14 Gz (cal_of okNu (show _ ≤ 2 by decide) m8 k8 b8) (cal_of okF (show _ ≤ 2 by decide) m12 k12 b12)
  have okFe := ok_fewest (P := l.prog) (w := w) (base := base) F15 Gz Gz.sorted n_repr (cal_of okF (show _ ≤ 2 by decide) m12 k12 b12)
  have okX := ok_fixed (P := l.prog) (w := w) (base := base) F16 Gz (cal_of okI (show _ ≤ 3 by decide) m2 k2 b2) (cal_of okE (show _ ≤ 3 by decide) m5 k5 b5)
  exact ok_law F17 ⟨Gz, cal_of okC (show _ ≤ 5 by decide) m6 k6 b6, cal_of okX (show _ ≤ 5 by decide) m16 k16 b16, cal_of okDs (show _ ≤ 5 by decide) m10 k10 b10, cal_of okM (show _ ≤ 5 by decide) m13 k13 b13,
    ⟨⟨_, _, _, _, okFe, show _ ≤ 5 by decide, m15, k15, b15⟩, rfl, rfl⟩, cal_of okE (show _ ≤ 5 by decide) m5 k5 b5, cal_of okL (show _ ≤ 5 by decide) m14 k14 b14, cal_of okJ (show _ ≤ 5 by decide) m4 k4 b4⟩
end K51
open PySem PySem.W PyProof.Rows
set_option maxHeartbeats 0 in
theorem PySem.Challenge.cw_trialcopies_k51_fewest_exchanges_holds : PySem.Challenge.rw_trialcopies_k51_fewest_exchanges.Holds := by
  w_on; o_law; k_head; (case hw => w_witness2)
  k_fill
  refine TC.walk_G (l := PySem.Challenge.rw_trialcopies_k51_fewest_exchanges) (n := 63) (k := 6) (x := "script") (sp := fun w => TC.spP _ TC.RlLaw) rfl (by decide) rfl ⟨rfl, by decide, by decide⟩ (fun w h Y => PySem.W.kIn_of Y) ?F (fun _ _ a ns hl hS => TC.law_sp hl hS)
  case F =>
    intro w mg fa h KX G hmg
    refine' K51.all_mk KX G hmg ?a1 ?l1 ?c1 ?k1 ?a2 ?l2 ?c2 ?k2 ?a3 ?l3 ?c3 ?k3 ?a4 ?l4 ?c4 ?k4 ?a5 ?l5 ?c5 ?k5 ?a6 ?l6 ?c6 ?k6 ?a7 ?l7 ?c7 ?k7 ?a8 ?l8 ?c8 ?k8 ?a9 ?l9 ?c9 ?k9 ?a10 ?l10 ?c10 ?k10 ?a11 ?l11 ?c11 ?k11 ?a12 ?l12 ?c12 ?k12 ?a13 ?l13 ?c13 ?k13 ?a14 ?l14 ?c14 ?k14 ?a15 ?l15 ?c15 ?k15 ?a16 ?l16 ?c16 ?k16 ?a17 ?l17 ?c17 ?k17 ?z1 ?z2 ?z3 ?z4 ?z5 ?z6 ?z7 ?z8 ?z9 ?z10 ?z11 ?z12 ?z13 ?z14 ?z15 ?z16 ?z17 ?z18
    (case a1 => k_is)
    (case l1 => k_is)
    (case c1 => k_is)
    (case k1 => k_is)
    (case a2 => k_is)
    (case l2 => k_is)
    (case c2 => k_is)
    (case k2 => k_is)
    (case a3 => k_is)
    (case l3 => k_is)
    (case c3 => k_is)
    (case k3 => k_is)
    (case a4 => k_is)
    (case l4 => k_is)
    (case c4 => k_is)
    (case k4 => k_is)
    (case a5 => k_is)
    (case l5 => k_is)
    (case c5 => k_is)
    (case k5 => k_is)
    (case a6 => k_is)
    (case l6 => k_is)
    (case c6 => k_is)
    (case k6 => k_is)
    (case a7 => k_is)
    (case l7 => k_is)
    (case c7 => k_is)
    (case k7 => k_is)
    (case a8 => k_is)
    (case l8 => k_is)
    (case c8 => k_is)
    (case k8 => k_is)
    (case a9 => k_is)
    (case l9 => k_is)
    (case c9 => k_is)
    (case k9 => k_is)
    (case a10 => k_is)
    (case l10 => k_is)
    (case c10 => k_is)
    (case k10 => k_is)
    (case a11 => k_is)
    (case l11 => k_is)
    (case c11 => k_is)
    (case k11 => k_is)
    (case a12 => k_is)
    (case l12 => k_is)
    (case c12 => k_is)
    (case k12 => k_is)
    (case a13 => k_is)
    (case l13 => k_is)
    (case c13 => k_is)
    (case k13 => k_is)
    (case a14 => k_is)
    (case l14 => k_is)
    (case c14 => k_is)
    (case k14 => k_is)
    (case a15 => k_is)
    (case l15 => k_is)
    (case c15 => k_is)
    (case k15 => k_is)
    (case a16 => k_is)
    (case l16 => k_is)
    (case c16 => k_is)
    (case k16 => k_is)
    (case a17 => k_is)
    (case l17 => k_is)
    (case c17 => k_is)
    (case k17 => k_is)
    (case z1 => k_is)
    (case z2 => k_is)
    (case z3 => k_is)
    (case z4 => k_is)
    (case z5 => k_is)
    (case z6 => k_is)
    (case z7 => k_is)
    (case z8 => k_is)
    (case z9 => k_is)
    (case z10 => k_is)
    (case z11 => k_is)
    (case z12 => k_is)
    (case z13 => k_is)
    (case z14 => k_is)
    (case z15 => k_is)
    (case z16 => k_is)
    (case z17 => k_is)
    (case z18 => k_is)

